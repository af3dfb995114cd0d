import PyProof.Rows.All
import Wide.All
import OpenK.AllK
import Wide.FinOn
import HandS.ForMost
import HandS.ForExc
import HandS.ExcIs
import HandS.IsInst
import HandS.Evl
import HandS.Walk
import HandS.More
import HandS.Wide
import HandS.TupLen
import HandS.Star
import HandS.Replace
import HandS.ReplaceLit
import HandS.Text
import HandS.Iter
import HandS.Rev
import HandS.Conv
import HandS.TryOnly
import HandS.Style
import HandS.Zip
import KE.GoesEnumKw
import HandS.SortKw
import KE.DataMinMax
import KE.SortData
import PyProof.StrBlock2
import PySem.Challenge.RW_paritypool_k36_names_and_paths
set_option Elab.async false
set_option linter.all false
set_option maxRecDepth 100000
set_option maxHeartbeats 2000000
namespace L2
open PySem PySem.Spec PyProof.Rows
def isS : V → Bool
  | .non => true
  | .bl _ => true
  | .int _ => true
  | .str _ => true
  | _ => false
/-- x is True, x is False: of None, bools, ints, texts -/
def rIsTF : R2 := fun x y H Q => ∃ b : Bool, y = .bl b ∧ isS x = true ∧ Q (.bl (decide (x = .bl b))) H
theorem op_isTF {X : Cx} : OpR X (compareOp .Is) rIsTF := by
  intro pins s σ H x y v u Q I rx ry h
  obtain ⟨b, rfl, nr, q⟩ := h
  cases (show u = Value.bool b from ry)
  cases x with
  | non =>
    cases (show v = Value.none from rx)
    exact wpAny_is_other rfl (fun z => nomatch z) ⟨.bl false, H, I, rfl, q⟩
  | bl a =>
    cases (show v = Value.bool a from rx)
    by_cases e : a = b
    · subst e
      exact wpAny_is_self rfl ⟨.bl true, H, I, rfl, by simpa using q⟩
    · exact wpAny_is_other rfl (fun z => e (Value.bool.inj z)) ⟨.bl false, H, I, rfl, by simpa [e] using q⟩
  | int i =>
    obtain ⟨t, rfl⟩ := (show ∃ t, v = Value.int i t from rx)
    exact wpAny_is_other rfl (fun z => nomatch z) ⟨.bl false, H, I, rfl, q⟩
  | str z =>
    obtain ⟨t, rfl⟩ := (show ∃ t, v = Value.str z t from rx)
    exact wpAny_is_other rfl (fun z => nomatch z) ⟨.bl false, H, I, rfl, q⟩
  | ref a => cases nr
  | byt b => cases nr
  | flt b => cases nr
  | ty n => cases nr
end L2
/-! a text times a number -/
namespace L2
open PySem PySem.Spec PyProof.Rows
def rMulS : R2 := fun x y H Q => ∃ (z : Str) (n : Int), x = .str z ∧ y = .int n ∧ 2 ≤ n ∧ n ≤ 1000 ∧ 1 ≤ z.length ∧ z.length ≤ 1000 ∧ Q (.str (Txt.mul z n)) H
section
variable {X : Cx}
theorem op_mul_str : OpR X (binaryOp .Mult) rMulS := by
  intro pins s σ H x y v u Q I rx ry h
  obtain ⟨z, n, rfl, rfl, n2, n1, z1, z2, q⟩ := h
  obtain ⟨t, rfl⟩ := rx
  obtain ⟨t', rfl⟩ := ry
  refine PySem.SB.mul ⟨?_, fun _ _ => ?_, fun _ _ => ?_⟩ fun t2 k => ⟨.str _, H, I.tok k, ⟨t2, rfl⟩, q⟩
  · rw [decide_eq_false (by omega), decide_eq_false (by omega)]
    rfl
  · have h1 : (1000 : Int) * n ≤ 2 ^ 63 - 1 := by omega
    have := Int.le_ediv_of_mul_le (by omega) h1
    omega
  · unfold Builtin.Str.tooLong
    refine decide_eq_false ?_
    rw [sizeLine_eq]
    have : z.length * n.toNat ≤ 1000 * 1000 := Nat.mul_le_mul z2 (by omega)
    omega
end
/-- what a join asks, by the written part alone -/
def rJoinT (K : PySem.W.Frag) : V → List V → Hp → VK → Prop := fun x xs H Q => ∃ (b : Str) (p : Addr) (zs : List Str), x = .str b ∧ xs = [.ref p] ∧ (SqL K H p (zs.map V.str) ∨ SqT K H p (zs.map V.str)) ∧
  (zs.map (·.length)).sum + zs.length * b.length ≤ 16777216 ∧ Q (.str (Txt.join b zs)) H
end L2
/-! a def that writes a text first: behind its call a token is out -/
namespace L2
open PySem PySem.Spec PyProof.Rows
section
variable {P : Program} {w : World} {K : PySem.W.Frag} {mg : Str → Option Value}
/-- as FnOk, and a token is out -/
structure FnTok (P : Program) (w : World) (K : PySem.W.Frag) (mg : Str → Option Value) (base : Heap) (k : Nat) (f : Addr) (fd : FuncData) (ps : List Str) (sp : Sp) : Prop where
  many : ∀ vs G W E, sp vs G W E → vs.length = ps.length
  goes : ∀ (A : Around) (outer : List Env) (st : Shared) (G : Hp) (args : Args) (us : List Value) (vs : List V) (W : VK) (E : XK), Room k A → Env0 P w K mg base A outer st G → BindsTo st fd args (ps.zip us) → Vals vs us → sp vs G W E →
    codeAny (model P w) A (.call (.ref f) args) (fun r z => 1 ≤ z.toks ∧ CR CX0 outer P w G st W E r z) st
theorem fn_tok {base : Heap} {nm qn : Str} {d : Stmt} {f : Addr} {fd : FuncData} {N ps : List Str} {k i j : Nat} {sp : Sp} {x c : Str} {cpos xpos pos : Pos} {rest : List Stmt}
    (F : Fun K nm qn d f fd) (S : FnScope N ps (defScope d)) (many : ∀ vs G W E, sp vs G W E → vs.length = ps.length)
    (first : defBody d = .Assign [.Name x xpos] (.Constant (.str c) j cpos) pos :: rest) (slot : N[i]? = some x) (loc : Loc (defScope d) x)
    (sw : ∀ (e : Env), swapsWith (.Constant (.str c) j cpos) (some (.Name x xpos)) pos.line e = pure false)
    (read : ∀ (cdv : Value) (A : Around) (outer : List Env) (st : Shared) (G : Hp) (vs : List V) (W : VK) (E : XK), Room k (A.deeper (envOfC qn (defScope d) st.heap.objs.size f cdv)) → sp vs G W E →
      ∃ t, PSs (cxOf CX0 P w K mg base N qn (defScope d) f cdv A outer st G E).nox rest t ∧ t { nx := fun _ G' => W .non G', rt := W } ((start N vs).set i (some (V.str c))) G)
    : FnTok P w K mg base (k + 1) f fd ps sp := by
  refine ⟨many, fun A outer st G args us vs W E room env bnd rel prom => ?_⟩
  obtain ⟨c1, c2, c3, c4, c5, c6, cdv, c7, c8, same, found, code⟩ := F.ex
  subst same
  have size := many _ _ _ _ prom
  have inHeap : K.In st.heap := (env.mod.kin).keeps fun z u hz => (env.bs z u hz).1
  have free : st.heap.NoLimit := (env.mod.nolimit).keeps fun z u hz => (env.bs z u hz).1
  have kinds : ∀ z ∈ ps.zip us, (defScope d).names.lookup z.1 = some .local ∨ ((defScope d).names.lookup z.1 = some .cell ∧ ((cellsFrom (st.heap.objs.size + 1) (defScope d).names []).lookup z.1).isSome = true) := by
    rintro ⟨z, u⟩ hz
    rcases S.par z (List.of_mem_zip hz).1 with o | o
    · exact Or.inl o
    · exact Or.inr ⟨o, PySem.W.cellsFrom_some _ _ _ (Or.inl o)⟩
  refine codeAny_call_function room.depth (inHeap _ _ found) rfl S.co S.gen rfl (PySem.W.codeRec_of inHeap code) (bnd _ _ _ _ ?_)
  refine wpAny_newFunctionEnv_cells S.kind kinds fun fr hfr s9 laid => ?_
  subst hfr
  refine ⟨free.keeps laid.toInCall.keep, codeAny_func ?_⟩
  obtain ⟨t, rule, reading⟩ := read cdv A outer st G vs W E (room.deeper _) prom
  have start0 : Inv (cxOf CX0 P w K mg base N qn (defScope d) f cdv A outer st G E) [] (start N vs) G s9 := inv_start S room.hd env size rel laid
  rw [first]
  refine wpAny_execs_cons (wpAny_Assign_Name (Calls.Constant_str ?_) (sw _))
  refine wpAny_mono (PySem.wpAny_toks (store_ok (v := V.str c) (u := Value.str c s9.toks) (Q := fun _ s2 => Inv (cxOf CX0 P w K mg base N qn (defScope d) f cdv A outer st G E) [] ((start N vs).set i (some (V.str c))) G s2) (start0.tok (s9.toks + 1)) S.nd slot loc ⟨s9.toks, rfl⟩ (fun _ J => J) (Or.inl rfl))) (fun _ s2 got => ?_) fun _ _ got => wpAny_mono got.2 (fun _ _ no => (show False from no).elim) fun _ _ no => (show False from no).elim
  have out : 1 ≤ s2.toks := by
    have h : s9.toks + 1 ≤ s2.toks := got.1
    omega
  refine wpAny_mono (PySem.wpAny_toks_of out (rule.nox.run [] s2 _ G _ got.2 reading)) (fun way s8 got => ?_) fun _ _ got => wpAny_mono got.2 (fun _ _ no => (show False from no).elim) fun _ _ no => (show False from no).elim
  obtain ⟨tok, got⟩ := got
  have done : ∀ {σ9 : St} {G9 : Hp} {x : V} {u : Value}, Inv (cxOf CX0 P w K mg base N qn (defScope d) f cdv A outer st G E) [] σ9 G9 s8 → RelV x u → W x G9 → CE outer P w G st W u s8 := by
    intro σ9 G9 x u J rx hx
    exact ⟨x, G9, J.os, J.bare, J.base, J.hok, rx, hx⟩
  cases way with
  | brk => obtain ⟨_, _, _, no⟩ := got; exact no.elim
  | cont => obtain ⟨_, _, _, no⟩ := got; exact no.elim
  | next => obtain ⟨σ9, G9, J, hx⟩ := got; exact ⟨tok, done (x := .non) (u := .none) J rfl hx⟩
  | ret u => obtain ⟨x, σ9, G9, J, rx, hx⟩ := got; exact ⟨tok, done J rx hx⟩
end
section
variable {X : Cx} {k : Nat} {f : Addr} {fd : FuncData} {ps : List Str} {sp : Sp} {fx : Str} {e : Expr} {es : List Expr} {ta : TA} {y z : Str} {j j2 : Nat} {c0 c1 fpos p0 apos pos : Pos}
/-- f(e, ..).replace(y, z) of written texts, f a def that leaves a token behind -/
theorem pe_replTok (F : FnTok X.prog X.w X.K X.mg X.base k f fd ps sp) (hr : Room k X.A) (hg : Gl X fx) (hm : X.mg fx = some (.ref f)) (hk : PySem.W.keepIn X.K (.ref f) = true) (hb : Binds X.K fd ps []) (ha : PA X (e :: es) ta)
    (hyz : (y == z) = false) (hdb : (fx == ("__debug__" : Str)) = false := by decide) (he : starEach (e :: es) X.env = (false, eval e X.env) :: starEach es X.env := by rfl) (hpl : (backTo fpos (starEach es X.env)).any (·.1) = false := by rfl)
    (hst : starEach [.Constant (.str y) j c0, .Constant (.str z) j2 c1] X.env = [(false, eval (.Constant (.str y) j c0) X.env), (false, eval (.Constant (.str z) j2 c1) X.env)] := by rfl)
    (hbase : attributeBase (.Call (.Name fx p0) (e :: es) [] fpos) "replace" X.env (eval (.Call (.Name fx p0) (e :: es) [] fpos) X.env) = eval (.Call (.Name fx p0) (e :: es) [] fpos) X.env := by rfl) (hline : (apos.endLine == pos.line) = true := by rfl) :
    PE X (.Call (.Attribute (.Call (.Name fx p0) (e :: es) [] fpos) "replace" apos) [.Constant (.str y) j c0, .Constant (.str z) j2 c1] [] pos) (CwR.tReplC (tCall sp [] E0 ta) y z) := by
  refine ⟨fun pins s σ H Q I h => ?_⟩
  refine PySem.Call_method2 hbase hst hline ?_
  refine wpAny_Call_Name_kw (ld_glob I hg hm ?_ hdb)
  refine PySem.W.callWith_K (h₀ := X.base) I.ok.mod.kin hk (thn (ha.run fpos pins s σ H _ I h) fun us s1 ⟨vs, H1, I1, r, prom⟩ => ⟨I1.kIn, ?_⟩) he hpl
  have rel : Vals (vs ++ []) (us ++ []) := r.append .nil
  have size : (us ++ []).length = ps.length := by rw [← rel.length]; exact F.many _ _ _ _ prom
  refine wpAny_call (codeAny_mono (F.goes X.A X.stack s1 H1 ⟨us, []⟩ (us ++ []) (vs ++ []) _ E0 hr I1.env0 (hb s1 us I1.kIn size) rel prom) fun way s2 got => ?_)
  obtain ⟨tok, got⟩ := got
  match way, got with
  | .error _, got => exact got.elim
  | .ok .next, got => exact (show False from got).elim
  | .ok .brk, got => exact (show False from got).elim
  | .ok .cont, got => exact (show False from got).elim
  | .ok (.ret u), got =>
    obtain ⟨v, H2, I2, rv, x, ex, len, q⟩ := I1.after got
    subst ex
    obtain ⟨tx, eu⟩ := rv
    subst eu
    refine ⟨"str", _, PySem.F.plainAttrs_str, PySem.F.slot_str_replace, PySem.F.type_str_replace, typeIs_str _ _ _, (fun _ e => nomatch e), Calls.callWith_builtin rfl (Calls.evalArgs_plain (Calls.spliced_cons ?_))⟩
    refine Calls.Constant_str (Calls.spliced_cons (Calls.Constant_str (Calls.spliced_nil ?_)))
    exact PySem.SC.replace (by show s2.toks ≠ 0; omega) (by show s2.toks + 1 ≠ 0; omega) (by show s2.toks ≠ s2.toks + 1; omega) hyz len fun t' k => ⟨.str (Txt.replace x y z), H2, I2.tok k, ⟨t', rfl⟩, q⟩
end
end L2
namespace PP
open PySem L2
def top (i : Nat) : Stmt := (PySem.Challenge.pw_paritypool_k36_names_and_paths).main.body.getD i (.Pass ⟨0, 0, 0, 0⟩)
abbrev s_is_name : Stmt := top 4
abbrev s_is_path : Stmt := top 5
abbrev s_ways : Stmt := top 6
abbrev s_moved_path : Stmt := top 7
abbrev s_law_pot : Stmt := top 9
abbrev s_law_next : Stmt := top 10
abbrev s_law_name_due : Stmt := top 11
abbrev s_law_text : Stmt := top 12
abbrev s_law : Stmt := top 13
/-! small rules of one's own -/
section
variable {X : Cx}
theorem pe_const {x : Str} {v : V} {pos : Pos} (h : ∃ u, X.mg x = some u ∧ RelV v u) (hg : Gl X x := by rfl) (hd : (x == ("__debug__" : Str)) = false := by decide) : PE X (.Name x pos) (tC v) := by
  obtain ⟨u, h1, h2⟩ := h
  exact pe_glob hg h1 h2 hd
/-- isinstance of a caught error, whatever class the clause has caught -/
theorem call_isE' {a : Addr} {cls : Value} {d : Option Addr} {oe : Obj} {pn : List (Addr × Obj)} (hz : Zc cls d oe) (hf : ∃ vs, oe.data = .fields vs) :
    CallR (X.suite a ((a, oe) :: pn)) (.builtin "isinstance") (fun xs H Q => ∃ D, cls = .ref D ∧ d = none ∧ ExcC X.K D ∧ rIsE X.K D a xs H Q) := by
  intro pins s σ H xs us Q I r h
  obtain ⟨D, rfl, rfl, C, h⟩ := h
  exact call_isE C hz hf pins s σ H xs us Q I r h
end
/-- all but p is as it was, what is free too -/
def Only (p : Addr) (H H' : Hp) : Prop := ∀ b, b ≠ p → H' b = H b
theorem Only.upd {p : Addr} {H : Hp} {o : HO} : Only p H (upd H p o) := fun _ h => upd_ne h
theorem Only.refl {p : Addr} {H : Hp} : Only p H H := fun _ _ => rfl
theorem Only.trans {p : Addr} {H H1 H2 : Hp} (x : Only p H H1) (y : Only p H1 H2) : Only p H H2 := fun b h => (y b h).trans (x b h)
/-! which class is asked of a caught error -/
theorem kit_self {K : PySem.W.Frag} {c : Value} : PySem.W.kitOne K c c = some true := by
  unfold PySem.W.kitOne
  rw [if_pos (by simp)]
theorem kit_type {K : PySem.W.Frag} {D : Addr} {n : String} {b : Bool} (m : PySem.W.kitMeta n = true) (h : PySem.W.subIn K (.ref D) (.type n) = some b) : PySem.W.kitOne K (.ref D) (.type n) = some b := by
  unfold PySem.W.kitOne
  rw [if_neg (by intro z; cases (beq_iff_eq.mp z))]
  show (if PySem.W.kitMeta n = true then PySem.W.subIn K (.ref D) (.type n) else none) = some b
  rw [if_pos m]
  exact h
theorem kit_cls_of {K : PySem.W.Frag} {C : Addr} {t : Value} {b : Bool} (hd : PySem.W.hasDictIn K C = true) (ht : PySem.W.typeIn K (.ref C) = some (.type "type")) (h : PySem.W.subIn K t (.ref C) = some b) : PySem.W.kitCls K t (.ref C) = some b := by
  obtain ⟨cd, hc, _⟩ := PySem.W.any_some hd
  show (if ((PySem.W.clsIn K C).isSome && PySem.W.typeIn K (.ref C) == some (.type "type")) = true then PySem.W.subIn K t (.ref C) else none) = some b
  rw [if_pos (by rw [hc, ht]; rfl)]
  exact h
theorem kit_yes {K : PySem.W.Frag} {C D : Addr} (hd : PySem.W.hasDictIn K C = true) (ht : PySem.W.typeIn K (.ref C) = some (.type "type")) (h : PySem.W.subIn K (.ref D) (.ref C) = some true) : PySem.W.kitOne K (.ref D) (.ref C) = some true := by
  unfold PySem.W.kitOne
  split
  · rfl
  · exact kit_cls_of hd ht h
theorem kit_no {K : PySem.W.Frag} {C D : Addr} (hd : PySem.W.hasDictIn K C = true) (ht : PySem.W.typeIn K (.ref C) = some (.type "type")) (h : PySem.W.subIn K (.ref D) (.ref C) = some false) (hs : PySem.W.subIn K (.ref D) (.ref D) = some true) : PySem.W.kitOne K (.ref D) (.ref C) = some false := by
  unfold PySem.W.kitOne
  split
  · rename_i z
    have e : D = C := by
      have := beq_iff_eq.mp z
      injection this
    rw [← e] at h
    rw [h] at hs
    cases hs
  · exact kit_cls_of hd ht h
/-- len of a list or tuple; list of one -/
abbrev rLenS (K : PySem.W.Frag) := Evl.rLenS K
abbrev rListOf (K : PySem.W.Frag) := Evl.rListS K
/-! the prime, the inverse -/
theorem no_div (d : Nat) (h1 : 2 ≤ d) (h2 : d ≤ 255) : ¬ d ∣ 65521 := by
  intro h
  have e : 65521 % d = 0 := Nat.mod_eq_zero_of_dvd h
  have key : ∀ d : Fin 256, 2 ≤ d.val → ¬ 65521 % d.val = 0 := by decide +kernel
  exact key ⟨d, by omega⟩ h1 e
theorem prime_q (d : Nat) (h : d ∣ 65521) : d = 1 ∨ d = 65521 := by
  obtain ⟨e, he⟩ := h
  by_cases a : d ≤ 255
  · by_cases b : 2 ≤ d
    · exact absurd ⟨e, he⟩ (no_div d b a)
    · have : d ≠ 0 := by rintro rfl; omega
      omega
  · by_cases b : 2 ≤ e
    · by_cases c : e ≤ 255
      · exact absurd ⟨d, by rw [Nat.mul_comm]; exact he⟩ (no_div e b c)
      · have h1 : 256 * 256 ≤ d * e := Nat.mul_le_mul (by omega) (by omega)
        omega
    · have : e ≠ 0 := by rintro rfl; omega
      have e1 : e = 1 := by omega
      subst e1
      omega
theorem gcd_q (x : Int) (h : x % 65521 ≠ 0) : Int.gcd 65521 (x % 65521) = 1 := by
  have d1 : (Int.gcd 65521 (x % 65521) : Nat) ∣ 65521 := by
    have := Int.gcd_dvd_left (65521 : Int) (x % 65521)
    have h2 : ((Int.gcd 65521 (x % 65521) : Nat) : Int) ∣ ((65521 : Nat) : Int) := this
    exact Int.natCast_dvd_natCast.mp h2
  rcases prime_q _ d1 with e | e
  · exact e
  · exfalso
    have d2 := Int.gcd_dvd_right (65521 : Int) (x % 65521)
    rw [e] at d2
    obtain ⟨c, hc⟩ := d2
    have e2 : ((65521 : Nat) : Int) = 65521 := rfl
    rw [e2] at hc
    have p1 := Int.emod_nonneg x (show (65521 : Int) ≠ 0 by decide)
    have p2 := Int.emod_lt_of_pos x (show (0 : Int) < 65521 by decide)
    omega
theorem gcd_turn {n m : Int} (h : Int.gcd n m = 1) : Int.gcd m (n - n / m * m) = 1 := by
  rw [Int.gcd_sub_mul_right_right, Int.gcd_comm]
  exact h
/-- the inverse of a word, by what it is -/
noncomputable def invP (x : Int) : Int := open Classical in if h : ∃ b : Int, 0 ≤ b ∧ b < 65521 ∧ x * b % 65521 = 1 then h.choose else 0
theorem inv_unique {x b c : Int} (hb : 0 ≤ b ∧ b < 65521 ∧ x * b % 65521 = 1) (hc : 0 ≤ c ∧ c < 65521 ∧ x * c % 65521 = 1) : b = c := by
  have e1 : b * (x * c) % 65521 = b := by
    rw [Int.mul_emod, hc.2.2, Int.mul_one, Int.emod_emod_of_dvd _ (Int.dvd_refl _), Int.emod_eq_of_lt hb.1 hb.2.1]
  have e2 : c * (x * b) % 65521 = c := by
    rw [Int.mul_emod, hb.2.2, Int.mul_one, Int.emod_emod_of_dvd _ (Int.dvd_refl _), Int.emod_eq_of_lt hc.1 hc.2.1]
  have e3 : b * (x * c) = c * (x * b) := by grind
  rw [← e1, e3, e2]
theorem invP_eq {x b : Int} (h : 0 ≤ b ∧ b < 65521 ∧ x * b % 65521 = 1) : invP x = b := by
  have hx : ∃ b : Int, 0 ≤ b ∧ b < 65521 ∧ x * b % 65521 = 1 := ⟨b, h⟩
  unfold invP
  rw [dif_pos hx]
  exact inv_unique hx.choose_spec h
/-- one turn of Euclid's algorithm -/
theorem euclid_turn {x n m f g : Int} (h1 : (x * f - n) % 65521 = 0) (h2 : (x * g - m) % 65521 = 0) : (x * (f - n / m * g) - (n - n / m * m)) % 65521 = 0 := by
  have e : x * (f - n / m * g) - (n - n / m * m) = (x * f - n) - n / m * (x * g - m) := by grind
  rw [e, Int.sub_emod, h1, Int.mul_emod, h2, Int.mul_zero]
  rfl
theorem euclid_end {x f : Int} (h : (x * f - 1) % 65521 = 0) : 0 ≤ f % 65521 ∧ f % 65521 < 65521 ∧ x * (f % 65521) % 65521 = 1 := by
  refine ⟨Int.emod_nonneg _ (by decide), Int.emod_lt_of_pos _ (by decide), ?_⟩
  have e : x * (f % 65521) % 65521 = x * f % 65521 := by rw [Int.mul_emod, Int.emod_emod_of_dvd _ (Int.dvd_refl _), ← Int.mul_emod]
  rw [e]
  omega
/-- the inverse exists (Euclid, run in the mathematics) -/
theorem inv_ex : ∀ (k : Nat) (x n m f g : Int), m.toNat ≤ k → 0 ≤ m → 0 < n → (x * f - n) % 65521 = 0 → (x * g - m) % 65521 = 0 → Int.gcd n m = 1 → ∃ b : Int, 0 ≤ b ∧ b < 65521 ∧ x * b % 65521 = 1
  | k, x, n, m, f, g, hk, hm, hn, h1, h2, hg => by
    by_cases e : m = 0
    · subst e
      have : n = 1 := by
        rw [Int.gcd_zero_right] at hg
        omega
      subst this
      exact ⟨_, euclid_end h1⟩
    · have hm' : 0 < m := by omega
      match k, hk with
      | 0, hk => omega
      | k + 1, hk =>
        have r : n - n / m * m = n % m := by
          have := Int.mul_ediv_add_emod n m
          rw [Int.mul_comm] at this
          omega
        have r1 := Int.emod_nonneg n (show m ≠ 0 by omega)
        have r2 := Int.emod_lt_of_pos n hm'
        exact inv_ex k x m (n - n / m * m) g (f - n / m * g) (by omega) (by omega) hm' h2 (euclid_turn h1 h2) (gcd_turn hg)
theorem invP_spec {x : Int} (h : x % 65521 ≠ 0) : 0 ≤ invP x ∧ invP x < 65521 ∧ x * invP x % 65521 = 1 := by
  have p1 := Int.emod_nonneg x (show (65521 : Int) ≠ 0 by decide)
  obtain ⟨b, hb⟩ := inv_ex (x % 65521).toNat x 65521 (x % 65521) 0 1 (Nat.le_refl _) p1 (by decide) (by omega) (by omega) (gcd_q x h)
  rw [invP_eq hb]
  exact hb
/-! the field of words -/
def Zp : Type := Fin 65521
instance : Lean.Grind.CommRing Zp := inferInstanceAs (Lean.Grind.CommRing (Fin 65521))
instance : Lean.Grind.IsCharP Zp 65521 := inferInstanceAs (Lean.Grind.IsCharP (Fin 65521) 65521)
instance : DecidableEq Zp := inferInstanceAs (DecidableEq (Fin 65521))
def z (n : Int) : Zp := Lean.Grind.Ring.intCast.intCast n
theorem z_eq {a b : Int} : z a = z b ↔ a % 65521 = b % 65521 := Lean.Grind.IsCharP.intCast_ext_iff (α := Zp) 65521
theorem z_mod (a : Int) : z (a % 65521) = z a := z_eq.mpr (Int.emod_emod_of_dvd _ (Int.dvd_refl _))
theorem z_add (a b : Int) : z (a + b) = z a + z b := Lean.Grind.Ring.intCast_add a b
theorem z_sub (a b : Int) : z (a - b) = z a - z b := Lean.Grind.Ring.intCast_sub a b
theorem z_mul (a b : Int) : z (a * b) = z a * z b := Lean.Grind.Ring.intCast_mul a b
theorem z_neg (a : Int) : z (-a) = -z a := Lean.Grind.Ring.intCast_neg a
theorem z_zero : z 0 = 0 := Lean.Grind.Ring.intCast_zero
theorem z_one : z 1 = 1 := Lean.Grind.Ring.intCast_one
theorem z_z (a : Int) : z a = 0 ↔ a % 65521 = 0 := by
  rw [← z_zero, z_eq]
  rfl
theorem z_inj {a b : Int} (ha : 0 ≤ a) (ha' : a < 65521) (hb : 0 ≤ b) (hb' : b < 65521) (h : z a = z b) : a = b := by
  have := z_eq.mp h
  rw [Int.emod_eq_of_lt ha ha', Int.emod_eq_of_lt hb hb'] at this
  exact this
theorem z_mod_eq {a b : Int} (h : z a = z b) : a % 65521 = b % 65521 := z_eq.mp h
theorem z_surj (x : Zp) : ∃ n : Int, 0 ≤ n ∧ n < 65521 ∧ z n = x := by
  refine ⟨((show Fin 65521 from x).val : Int), by omega, by omega, ?_⟩
  show (Fin.intCast ((show Fin 65521 from x).val : Int) : Fin 65521) = x
  unfold Fin.intCast
  rw [if_pos (by omega), Int.natAbs_natCast]
  exact Fin.ofNat_val_eq_self _
theorem z_invP {n : Int} (h : z n ≠ 0) : z n * z (invP n) = 1 := by
  have h' : n % 65521 ≠ 0 := fun e => h ((z_z n).mpr e)
  obtain ⟨b0, b1, b2⟩ := invP_spec h'
  rw [← z_mul, ← z_one, z_eq]
  exact b2
theorem zp_inv {a : Zp} (h : a ≠ 0) : ∃ b : Zp, a * b = 1 := by
  obtain ⟨n, _, _, rfl⟩ := z_surj a
  exact ⟨_, z_invP h⟩
theorem zp_div {a b : Zp} (h : a * b = 0) : a = 0 ∨ b = 0 := by
  by_cases ha : a = 0
  · exact .inl ha
  · obtain ⟨c, hc⟩ := zp_inv ha
    right
    have : b = c * (a * b) := by grind
    rw [this, h]
    grind
theorem zp_01 : (1 : Zp) ≠ 0 := by
  rw [← z_one, ← z_zero]
  intro h
  have := z_eq.mp h
  omega
theorem zp_mul_ne {a b : Zp} (ha : a ≠ 0) (hb : b ≠ 0) : a * b ≠ 0 := fun h => (zp_div h).elim ha hb
/-! ### functions that are polynomials with n coefficients -/
def Pol : Nat → (Zp → Zp) → Prop
  | 0, f => ∀ x, f x = 0
  | n + 1, f => ∃ (c : Zp) (g : Zp → Zp), Pol n g ∧ ∀ x, f x = c + x * g x
theorem Pol.ext : ∀ {n : Nat} {f g : Zp → Zp}, Pol n f → (∀ x, g x = f x) → Pol n g
  | 0, _, _, h, e => fun x => (e x).trans (h x)
  | _ + 1, _, _, ⟨c, g, h, q⟩, e => ⟨c, g, h, fun x => (e x).trans (q x)⟩
theorem pol_nil : ∀ n : Nat, Pol n fun _ => 0
  | 0 => fun _ => rfl
  | n + 1 => ⟨0, fun _ => 0, pol_nil n, fun x => by grind⟩
theorem Pol.up : ∀ {n : Nat} {f : Zp → Zp}, Pol n f → Pol (n + 1) f
  | 0, f, h => ⟨0, fun _ => 0, fun _ => rfl, fun x => by rw [h x]; grind⟩
  | n + 1, _, ⟨c, g, h, q⟩ => ⟨c, g, h.up, q⟩
theorem Pol.mono {n m : Nat} {f : Zp → Zp} (h : Pol n f) (l : n ≤ m) : Pol m f := by
  induction l with
  | refl => exact h
  | step _ ih => exact ih.up
theorem Pol.add : ∀ {n : Nat} {f g : Zp → Zp}, Pol n f → Pol n g → Pol n fun x => f x + g x
  | 0, f, g, h, k => fun x => by show f x + g x = 0; rw [h x, k x]; grind
  | n + 1, f, g, ⟨c, u, h, p⟩, ⟨d, v, k, q⟩ => ⟨c + d, fun x => u x + v x, Pol.add h k, fun x => by show f x + g x = _; rw [p x, q x]; grind⟩
theorem Pol.smul : ∀ {n : Nat} {f : Zp → Zp} (a : Zp), Pol n f → Pol n fun x => f x * a
  | 0, f, a, h => fun x => by show f x * a = 0; rw [h x]; grind
  | n + 1, f, a, ⟨c, u, h, p⟩ => ⟨c * a, fun x => u x * a, Pol.smul a h, fun x => by show f x * a = _; rw [p x]; grind⟩
theorem Pol.const (c : Zp) : Pol 1 fun _ => c := ⟨c, fun _ => 0, fun _ => rfl, fun x => by grind⟩
theorem Pol.xmul {n : Nat} {f : Zp → Zp} (h : Pol n f) : Pol (n + 1) fun x => x * f x := ⟨0, f, h, fun x => by grind⟩
theorem Pol.lin {n : Nat} {f : Zp → Zp} (a : Zp) (h : Pol n f) : Pol (n + 1) fun x => (x - a) * f x :=
  (h.xmul.add (h.up.smul (-a))).ext fun x => by grind
theorem Pol.sub {n : Nat} {f g : Zp → Zp} (h : Pol n f) (k : Pol n g) : Pol n fun x => f x - g x :=
  (h.add (k.smul (-1))).ext fun x => by grind
/-- a polynomial less its value at a is a multiple of x - a -/
theorem Pol.at : ∀ {n : Nat} {f : Zp → Zp} (a : Zp), Pol (n + 1) f → ∃ g, Pol n g ∧ ∀ x, f x = f a + (x - a) * g x
  | 0, f, a, ⟨c, g, h, q⟩ => ⟨fun _ => 0, fun _ => rfl, fun x => by rw [q x, q a, h x, h a]; grind⟩
  | n + 1, f, a, ⟨c, g, h, q⟩ => by
    obtain ⟨k, hk, e⟩ := Pol.at a h
    refine ⟨fun x => g a + x * k x, ⟨g a, k, hk, fun _ => rfl⟩, fun x => ?_⟩
    have e1 := e x
    rw [q x, q a]
    grind
/-- as many zeros as coefficients: it is zero -/
theorem Pol.roots : ∀ {n : Nat} {f : Zp → Zp} (xs : List Zp), Pol n f → xs.Nodup → n ≤ xs.length → (∀ a ∈ xs, f a = 0) → ∀ x, f x = 0
  | 0, _, _, h, _, _, _ => h
  | n + 1, f, [], _, _, hl, _ => absurd hl (by simp)
  | n + 1, f, a :: r, h, hn, hl, hz => by
    obtain ⟨g, hg, e⟩ := Pol.at a h
    have ha : f a = 0 := hz a (by simp)
    have hn' := List.nodup_cons.mp hn
    have g0 : ∀ x, g x = 0 := Pol.roots r hg hn'.2 (by simpa using hl) fun b hb => by
      have hb0 := hz b (List.mem_cons_of_mem _ hb)
      rw [e b, ha] at hb0
      have : (b - a) * g b = 0 := by grind
      rcases zp_div this with q | q
      · exfalso
        have : b = a := by grind
        exact hn'.1 (this ▸ hb)
      · exact q
    intro x
    rw [e x, ha, g0 x]
    grind
/-! ### products of differences -/
def prodZ : List Int → Zp → Zp
  | [], _ => 1
  | o :: os, x => (x - z o) * prodZ os x
theorem prodZ_pol : ∀ os : List Int, Pol (os.length + 1) (prodZ os)
  | [] => (Pol.const 1).ext fun _ => rfl
  | o :: os => (Pol.lin (z o) (prodZ_pol os)).ext fun _ => rfl
theorem prodZ_root {o : Int} {x : Zp} : ∀ {os : List Int}, o ∈ os → x = z o → prodZ os x = 0
  | [], h, _ => by simp at h
  | p :: os, h, e => by
    show (x - z p) * prodZ os x = 0
    rcases List.mem_cons.mp h with q | q
    · rw [e, q]
      grind
    · rw [prodZ_root q e]
      grind
theorem prodZ_ne {x : Zp} : ∀ {os : List Int}, (∀ o ∈ os, x ≠ z o) → prodZ os x ≠ 0
  | [], _ => zp_01
  | p :: os, h => by
    refine zp_mul_ne (fun e => h p (by simp) ?_) (prodZ_ne fun o ho => h o (List.mem_cons_of_mem _ ho))
    grind
/-- as the program multiplies -/
def prodM (os : List Int) (x acc : Int) : Int := os.foldl (fun acc o => acc * (x - o) % 65521) acc
theorem prodM_z : ∀ (os : List Int) (x acc : Int), z (prodM os x acc) = z acc * prodZ os (z x)
  | [], x, acc => by
    show z acc = z acc * 1
    grind
  | o :: os, x, acc => by
    show z (prodM os x (acc * (x - o) % 65521)) = z acc * ((z x - z o) * prodZ os (z x))
    rw [prodM_z os x, z_mod, z_mul, z_sub]
    grind
theorem prodM_word : ∀ (os : List Int) (x acc : Int), 0 ≤ acc → acc < 65521 → 0 ≤ prodM os x acc ∧ prodM os x acc < 65521
  | [], _, _, h0, h1 => ⟨h0, h1⟩
  | o :: os, x, acc, _, _ => prodM_word os x _ (Int.emod_nonneg _ (by decide)) (Int.emod_lt_of_pos _ (by decide))
theorem prodM_snoc (os : List Int) (o x acc : Int) : prodM (os ++ [o]) x acc = prodM os x acc * (x - o) % 65521 := by
  unfold prodM
  rw [List.foldl_append]
  rfl
/-- a place's factor -/
noncomputable def wgt (p : Int) (os : List Int) (x : Int) : Int := prodM os x 1 * invP (prodM os p 1) % 65521
theorem wgt_word (p : Int) (os : List Int) (x : Int) : 0 ≤ wgt p os x ∧ wgt p os x < 65521 := ⟨Int.emod_nonneg _ (by decide), Int.emod_lt_of_pos _ (by decide)⟩
theorem wgt_z (p : Int) (os : List Int) (x : Int) : z (wgt p os x) = prodZ os (z x) * z (invP (prodM os p 1)) := by
  unfold wgt
  rw [z_mod, z_mul, prodM_z, z_one]
  grind
theorem wgt_ok {p : Int} {os : List Int} (h : ∀ o ∈ os, z p ≠ z o) : prodM os p 1 % 65521 ≠ 0 := fun e => by
  have := (z_z _).mpr e
  rw [prodM_z, z_one] at this
  refine prodZ_ne h ?_
  grind
/-- all places but the i-th -/
def others (ws : List Int) (i : Nat) : List Int := ws.take i ++ ws.drop (i + 1)
noncomputable def weightsM (ws : List Int) (x : Int) : List Int := (List.range ws.length).map fun i => wgt (ws.getD i 0) (others ws i) x
theorem weightsM_length (ws : List Int) (x : Int) : (weightsM ws x).length = ws.length := by simp [weightsM]
theorem weightsM_get {ws : List Int} {x : Int} {i : Nat} (h : i < ws.length) : (weightsM ws x)[i]? = some (wgt (ws.getD i 0) (others ws i) x) := by
  unfold weightsM
  rw [List.getElem?_map, List.getElem?_range h]
  rfl
/-- no two places are equal modulo the prime -/
def Apart (ws : List Int) : Prop := (ws.map z).Nodup
theorem apart_ne {ws : List Int} (h : Apart ws) {i j : Nat} (hi : i < ws.length) (hj : j < ws.length) (n : i ≠ j) : z (ws.getD i 0) ≠ z (ws.getD j 0) := fun e => by
  refine n ((List.getElem_inj (xs := ws.map z) (h₀ := by simpa using hi) (h₁ := by simpa using hj) h).mp ?_)
  rw [List.getElem_map, List.getElem_map]
  simpa [List.getD_eq_getElem?_getD, hi, hj] using e
theorem mem_others {ws : List Int} {i : Nat} {o : Int} : o ∈ others ws i ↔ ∃ j, j < ws.length ∧ j ≠ i ∧ o = ws.getD j 0 := by
  unfold others
  rw [List.mem_append, List.mem_iff_getElem?, List.mem_iff_getElem?]
  constructor
  · rintro (⟨j, h⟩ | ⟨j, h⟩)
    · rw [List.getElem?_take] at h
      by_cases c : j < i
      · rw [if_pos c] at h
        obtain ⟨hl, e⟩ := List.getElem?_eq_some_iff.mp h
        exact ⟨j, hl, by omega, by simp [List.getD_eq_getElem?_getD, hl, e]⟩
      · rw [if_neg c] at h
        cases h
    · rw [List.getElem?_drop] at h
      obtain ⟨hl, e⟩ := List.getElem?_eq_some_iff.mp h
      exact ⟨_, hl, by omega, by simp [List.getD_eq_getElem?_getD, hl, e]⟩
  · rintro ⟨j, hl, n, rfl⟩
    by_cases c : j < i
    · exact .inl ⟨j, by rw [List.getElem?_take, if_pos c, List.getElem?_eq_getElem hl]; simp [List.getD_eq_getElem?_getD, hl]⟩
    · refine .inr ⟨j - (i + 1), ?_⟩
      rw [List.getElem?_drop, show i + 1 + (j - (i + 1)) = j by omega, List.getElem?_eq_getElem hl]
      simp [List.getD_eq_getElem?_getD, hl]
theorem others_length {ws : List Int} {i : Nat} (h : i < ws.length) : (others ws i).length + 1 = ws.length := by
  unfold others
  rw [List.length_append, List.length_take, List.length_drop]
  omega
theorem others_apart {ws : List Int} (h : Apart ws) {i : Nat} (hi : i < ws.length) : ∀ o ∈ others ws i, z (ws.getD i 0) ≠ z o := fun o ho => by
  obtain ⟨j, hl, n, rfl⟩ := mem_others.mp ho
  exact apart_ne h hi hl (Ne.symm n)
/-! ### sums -/
def sumR : Nat → (Nat → Zp) → Zp
  | 0, _ => 0
  | n + 1, g => sumR n g + g n
theorem sumR_ext : ∀ {n : Nat} {f g : Nat → Zp}, (∀ i, i < n → f i = g i) → sumR n f = sumR n g
  | 0, _, _, _ => rfl
  | n + 1, f, g, h => by
    show sumR n f + f n = sumR n g + g n
    rw [sumR_ext fun i hi => h i (by omega), h n (by omega)]
theorem sumR_zero : ∀ {n : Nat} {f : Nat → Zp}, (∀ i, i < n → f i = 0) → sumR n f = 0
  | 0, _, _ => rfl
  | n + 1, f, h => by
    show sumR n f + f n = 0
    rw [sumR_zero fun i hi => h i (by omega), h n (by omega)]
    grind
theorem sumR_one : ∀ {n : Nat} {f : Nat → Zp} {j : Nat}, j < n → (∀ i, i < n → i ≠ j → f i = 0) → sumR n f = f j
  | n + 1, f, j, hj, h => by
    show sumR n f + f n = f j
    by_cases c : j = n
    · subst c
      rw [sumR_zero fun i hi => h i (by omega) (by omega)]
      grind
    · rw [sumR_one (j := j) (by omega) fun i hi n' => h i (by omega) n', h n (by omega) (by omega)]
      grind
theorem sumR_pol {m : Nat} : ∀ {n : Nat} {F : Nat → Zp → Zp}, (∀ i, i < n → Pol m (F i)) → Pol m fun x => sumR n fun i => F i x
  | 0, _, _ => (pol_nil m).ext fun _ => rfl
  | n + 1, F, h => (Pol.add (sumR_pol (n := n) fun i hi => h i (by omega)) (h n (by omega))).ext fun _ => rfl
/-- the sum of factors times values -/
def dotR (us vs : List Int) : Int := ((List.range us.length).map fun i => us.getD i 0 * vs.getD i 0).sum
theorem sum_range_z : ∀ (n : Nat) (f : Nat → Int), z ((List.range n).map f).sum = sumR n fun i => z (f i)
  | 0, _ => z_zero
  | n + 1, f => by
    rw [List.range_succ, List.map_append, List.sum_append, z_add, sum_range_z n f]
    show _ + z ((f n) + 0) = _
    rw [Int.add_zero]
    rfl
theorem dotR_z (us vs : List Int) : z (dotR us vs) = sumR us.length fun i => z (us.getD i 0) * z (vs.getD i 0) := by
  unfold dotR
  rw [sum_range_z]
  exact sumR_ext fun i _ => z_mul _ _
/-- the value at x, as the program reckons it -/
noncomputable def valM (ws ys : List Int) (x : Int) : Int := dotR (weightsM ws x) ys % 65521
theorem valM_word (ws ys : List Int) (x : Int) : 0 ≤ valM ws ys x ∧ valM ws ys x < 65521 := ⟨Int.emod_nonneg _ (by decide), Int.emod_lt_of_pos _ (by decide)⟩
theorem valM_z (ws ys : List Int) (x : Int) : z (valM ws ys x) = sumR ws.length fun i => prodZ (others ws i) (z x) * (z (invP (prodM (others ws i) (ws.getD i 0) 1)) * z (ys.getD i 0)) := by
  unfold valM
  rw [z_mod, dotR_z, weightsM_length]
  refine sumR_ext fun i hi => ?_
  have e : (weightsM ws x).getD i 0 = wgt (ws.getD i 0) (others ws i) x := by rw [List.getD_eq_getElem?_getD, weightsM_get hi]; rfl
  rw [e, wgt_z]
  grind
/-- at a place it is the point's own value -/
theorem valM_node {ws ys : List Int} (h : Apart ws) {x : Int} {j : Nat} (hj : j < ws.length) (e : z x = z (ws.getD j 0)) : z (valM ws ys x) = z (ys.getD j 0) := by
  rw [valM_z, sumR_one hj fun i hi n => ?_]
  · have p := others_apart h hj
    have q := wgt_ok p
    have r : z (prodM (others ws j) (ws.getD j 0) 1) * z (invP (prodM (others ws j) (ws.getD j 0) 1)) = 1 := z_invP fun e => q ((z_z _).mp e)
    rw [prodM_z, z_one] at r
    rw [e]
    grind
  · rw [prodZ_root (mem_others.mpr ⟨j, hj, Ne.symm n, rfl⟩) e]
    grind
/-- the values of a polynomial at the places give its value anywhere -/
theorem valM_pol {ws ys : List Int} (h : Apart ws) {f : Zp → Zp} (hf : Pol ws.length f) (hy : ∀ i, i < ws.length → z (ys.getD i 0) = f (z (ws.getD i 0))) (x : Int) : z (valM ws ys x) = f (z x) := by
  have P : Pol ws.length fun x => (sumR ws.length fun i => prodZ (others ws i) x * (z (invP (prodM (others ws i) (ws.getD i 0) 1)) * z (ys.getD i 0))) - f x := by
    refine Pol.sub (sumR_pol fun i hi => Pol.smul _ ?_) hf
    have := prodZ_pol (others ws i)
    rw [others_length hi] at this
    exact this
  have R := Pol.roots (ws.map z) P h (by simp) (fun a ha => ?_) (z x)
  · rw [valM_z]
    have R' : (sumR ws.length fun i => prodZ (others ws i) (z x) * (z (invP (prodM (others ws i) (ws.getD i 0) 1)) * z (ys.getD i 0))) - f (z x) = 0 := R
    grind
  · obtain ⟨p, hp, rfl⟩ := List.mem_map.mp ha
    obtain ⟨j, hj⟩ := List.mem_iff_getElem?.mp hp
    obtain ⟨hl, e⟩ := List.getElem?_eq_some_iff.mp hj
    have ep : ws.getD j 0 = p := by simp [List.getD_eq_getElem?_getD, hl, e]
    have v := valM_node (ys := ys) h (x := p) hl (by rw [ep])
    rw [valM_z, hy j hl, ep] at v
    show (sumR ws.length fun i => prodZ (others ws i) (z p) * (z (invP (prodM (others ws i) (ws.getD i 0) 1)) * z (ys.getD i 0))) - f (z p) = 0
    rw [v]
    grind
theorem z_small {n : Int} (h0 : 0 < n) (h1 : n < 65521) : z n ≠ 0 := fun e => by
  have := (z_z n).mp e
  omega
/-! a polynomial's value -/
def pev : List Int → Zp → Zp
  | [], _ => 0
  | c :: r, x => z c + x * pev r x
theorem pev_pol : ∀ ns : List Int, Pol ns.length (pev ns)
  | [] => fun _ => rfl
  | c :: r => ⟨z c, pev r, pev_pol r, fun _ => rfl⟩
/-- as it is reckoned: from the highest coefficient down -/
def horn : List Int → Int → Int
  | [], _ => 0
  | c :: r, x => (horn r x * x + c) % 65521
theorem horn_z : ∀ (ns : List Int) (x : Int), z (horn ns x) = pev ns (z x)
  | [], _ => z_zero
  | c :: r, x => by
    show z ((horn r x * x + c) % 65521) = z c + z x * pev r (z x)
    rw [z_mod, z_add, z_mul, horn_z r x]
    grind
theorem horn_word : ∀ (ns : List Int) (x : Int), 0 ≤ horn ns x ∧ horn ns x < 65521
  | [], _ => by show (0 : Int) ≤ 0 ∧ (0 : Int) < 65521; omega
  | _ :: _, _ => ⟨Int.emod_nonneg _ (by decide), Int.emod_lt_of_pos _ (by decide)⟩
theorem horn_drop {ns : List Int} {x c : Int} {i : Nat} (h : ns[i]? = some c) : horn (ns.drop i) x = (horn (ns.drop (i + 1)) x * x + c) % 65521 := by
  obtain ⟨hl, e⟩ := List.getElem?_eq_some_iff.mp h
  rw [List.drop_eq_getElem_cons hl, e]
  rfl
/-! polynomials by their values: degree, normal forms -/
def Wd (w : Int) : Prop := 0 ≤ w ∧ w < 65521
/-- a list of words whose last one is not 0 -/
def Norm (r : List Int) : Prop := (∀ w ∈ r, Wd w) ∧ (r = [] ∨ r.getD (r.length - 1) 0 ≠ 0)
def pw (x : Zp) : Nat → Zp
  | 0 => 1
  | n + 1 => x * pw x n
theorem pev_append : ∀ (a b : List Int) (x : Zp), pev (a ++ b) x = pev a x + pw x a.length * pev b x
  | [], b, x => by
    show pev b x = 0 + 1 * pev b x
    grind
  | c :: a, b, x => by
    show z c + x * pev (a ++ b) x = (z c + x * pev a x) + (x * pw x a.length) * pev b x
    rw [pev_append a b x]
    grind
theorem pev_zeros : ∀ {a : List Int}, (∀ w ∈ a, z w = 0) → ∀ x, pev a x = 0
  | [], _, _ => rfl
  | c :: a, h, x => by
    show z c + x * pev a x = 0
    rw [h c (by simp), pev_zeros (fun w m => h w (List.mem_cons_of_mem _ m))]
    grind
theorem pev_mod : ∀ (a : List Int) (x : Zp), pev (a.map (· % 65521)) x = pev a x
  | [], _ => rfl
  | c :: a, x => by
    show z (c % 65521) + x * pev (a.map (· % 65521)) x = z c + x * pev a x
    rw [z_mod, pev_mod a x]
/-- one place of the list gets another number -/
theorem pev_set : ∀ {a : List Int} {i : Nat} {c d : Int} (x : Zp), a[i]? = some c → pev (a.set i d) x = pev a x + pw x i * (z d - z c)
  | [], _, _, _, _, h => by simp at h
  | b :: a, 0, c, d, x, h => by
    have e : b = c := Option.some.inj h
    subst e
    show z d + x * pev a x = (z b + x * pev a x) + 1 * (z d - z b)
    grind
  | b :: a, i + 1, c, d, x, h => by
    show z b + x * pev (a.set i d) x = (z b + x * pev a x) + (x * pw x i) * (z d - z c)
    rw [pev_set (i := i) (c := c) x h]
    grind
theorem pw_add (x : Zp) : ∀ n m : Nat, pw x (n + m) = pw x n * pw x m
  | 0, m => by
    rw [Nat.zero_add]
    show pw x m = 1 * pw x m
    grind
  | n + 1, m => by
    rw [Nat.succ_add]
    show x * pw x (n + m) = (x * pw x n) * pw x m
    rw [pw_add x n m]
    grind
theorem pev_snoc (a : List Int) (c : Int) (x : Zp) : pev (a ++ [c]) x = pev a x + pw x a.length * z c := by
  rw [pev_append]
  show _ + _ * (z c + x * 0) = _
  grind
/-! all words as places -/
def allZ (n : Nat) : List Zp := (List.range n).map fun (k : Nat) => z ((k : Int) + 1)
theorem allZ_nodup {n : Nat} (h : n ≤ 65520) : (allZ n).Nodup := by
  unfold allZ List.Nodup
  rw [List.pairwise_map]
  refine (List.nodup_range (n := n)).imp_of_mem fun {a b} ha hb ne e => ?_
  have h1 := List.mem_range.mp ha
  have h2 := List.mem_range.mp hb
  have := z_eq.mp e
  omega
theorem allZ_ne {n : Nat} (h : n ≤ 65520) : ∀ a ∈ allZ n, a ≠ 0 := fun a ha e => by
  obtain ⟨k, hk, rfl⟩ := List.mem_map.mp ha
  have h1 := List.mem_range.mp hk
  have := (z_z _).mp e
  omega
/-- zero but perhaps at 0: zero -/
theorem Pol.punct {n : Nat} {f : Zp → Zp} (h : Pol n f) (hn : n ≤ 65520) (hz : ∀ x, x ≠ 0 → f x = 0) : ∀ x, f x = 0 :=
  Pol.roots (allZ n) h (allZ_nodup hn) (by simp [allZ]) fun a ha => hz a (allZ_ne hn a ha)
theorem Pol.pw : ∀ (n : Nat) (c : Zp), Pol (n + 1) fun x => c * PP.pw x n
  | 0, c => (Pol.const c).ext fun x => by show c * 1 = c; grind
  | n + 1, c => ((Pol.pw n c).xmul).ext fun x => by show c * (x * PP.pw x n) = x * (c * PP.pw x n); grind
/-- a power beyond the coefficients has the factor 0 -/
theorem lead_zero : ∀ (n : Nat) {c : Zp} {h : Zp → Zp}, n ≤ 60000 → Pol n h → (∀ x, c * pw x n = h x) → c = 0
  | 0, c, h, _, hp, e => by
    have := e 0
    rw [hp 0] at this
    have : c * 1 = 0 := this
    grind
  | n + 1, c, h, hn, ⟨d, g, hg, q⟩, e => by
    have e0 : d = 0 := by
      have h0 := e 0
      rw [q 0] at h0
      have : c * (0 * pw 0 n) = d + 0 * g 0 := h0
      grind
    have F : ∀ x, c * pw x n - g x = 0 := Pol.punct (n := n + 1) (Pol.sub (Pol.pw n c) hg.up) (by omega) fun x hx => by
      have h1 := e x
      rw [q x, e0] at h1
      have h2 : c * (x * pw x n) = 0 + x * g x := h1
      have h3 : x * (c * pw x n - g x) = 0 := by grind
      exact (zp_div h3).resolve_left hx
    exact lead_zero n (by omega) hg fun x => by
      have := F x
      grind
/-- a normal list has no more words than its values need -/
theorem norm_le {r : List Int} {n : Nat} (h : Norm r) (hn : n ≤ 60000) (hp : Pol n (pev r)) (hr : r.length ≤ 60000) : r.length ≤ n := by
  refine Classical.byContradiction fun c => ?_
  obtain ⟨hw, hl⟩ := h
  have rne : r ≠ [] := fun e => by rw [e] at c; simp at c
  have hl := hl.resolve_left rne
  have e : r = r.take (r.length - 1) ++ [r.getD (r.length - 1) 0] := by
    have hlt : r.length - 1 < r.length := by
      have := List.length_pos_iff.mpr rne
      omega
    conv => lhs; rw [← List.take_append_drop (r.length - 1) r]
    rw [List.drop_eq_getElem_cons hlt, show r.length - 1 + 1 = r.length by omega, List.drop_length]
    simp [List.getD_eq_getElem?_getD, hlt]
  have P1 : Pol (r.length - 1) (pev (r.take (r.length - 1))) := (pev_pol _).mono (by rw [List.length_take]; omega)
  have P2 : Pol (r.length - 1) (pev r) := hp.mono (by omega)
  have z0 := lead_zero (r.length - 1) (c := z (r.getD (r.length - 1) 0)) (by omega) (Pol.sub P2 P1) fun x => by
    have := pev_snoc (r.take (r.length - 1)) (r.getD (r.length - 1) 0) x
    rw [← e, List.length_take, Nat.min_eq_left (by omega)] at this
    show _ = pev r x - pev (r.take (r.length - 1)) x
    grind
  have w := hw (r.getD (r.length - 1) 0) (by
    have hlt : r.length - 1 < r.length := by
      have := List.length_pos_iff.mpr rne
      omega
    rw [List.getD_eq_getElem?_getD, List.getElem?_eq_getElem hlt]
    exact List.getElem_mem hlt)
  have := (z_z _).mp z0
  obtain ⟨w0, w1⟩ := w
  omega
/-- the same values everywhere: the same words -/
theorem pev_inj : ∀ {a b : List Int}, a.length = b.length → a.length ≤ 60000 → (∀ w ∈ a, Wd w) → (∀ w ∈ b, Wd w) → (∀ x, pev a x = pev b x) → a = b
  | [], [], _, _, _, _, _ => rfl
  | [], _ :: _, h, _, _, _, _ => by simp at h
  | _ :: _, [], h, _, _, _, _ => by simp at h
  | c :: a, d :: b, hl, hz, ha, hb, e => by
    have e0 : z c = z d := by
      have : z c + 0 * pev a 0 = z d + 0 * pev b 0 := e 0
      grind
    have wc := ha c (by simp)
    have wd := hb d (by simp)
    have ecd : c = d := z_inj wc.1 wc.2 wd.1 wd.2 e0
    have hl' : a.length = b.length := by simpa using hl
    have hz' : a.length + 1 ≤ 60000 := by simpa using hz
    have F : ∀ x, pev a x - pev b x = 0 := Pol.punct (n := a.length) (Pol.sub (pev_pol a) ((pev_pol b).mono (by omega))) (by omega) fun x hx => by
      have h1 : z c + x * pev a x = z d + x * pev b x := e x
      have h3 : x * (pev a x - pev b x) = 0 := by grind
      exact (zp_div h3).resolve_left hx
    rw [ecd, pev_inj hl' (by omega) (fun w m => ha w (List.mem_cons_of_mem _ m)) (fun w m => hb w (List.mem_cons_of_mem _ m)) fun x => by have := F x; grind]
theorem norm_inj {a b : List Int} (ha : Norm a) (hb : Norm b) (la : a.length ≤ 60000) (lb : b.length ≤ 60000) (e : ∀ x, pev a x = pev b x) : a = b := by
  have h1 := norm_le ha lb ((pev_pol b).ext e) la
  have h2 := norm_le hb la ((pev_pol a).ext fun x => (e x).symm) lb
  exact pev_inj (by omega) la ha.1 hb.1 e
/-! products -/
theorem Pol.mul : ∀ {n m : Nat} {f g : Zp → Zp}, Pol n f → Pol m g → Pol (n + m) fun x => f x * g x
  | 0, m, f, g, h, _ => (pol_nil (0 + m)).ext fun x => by show f x * g x = 0; rw [h x]; grind
  | n + 1, m, f, g, ⟨c, u, h, q⟩, k => by
    have A := (Pol.mul h k).xmul
    have B := (k.smul c).mono (show m ≤ n + m + 1 by omega)
    rw [show n + 1 + m = n + m + 1 by omega]
    exact (B.add A).ext fun x => by show f x * g x = g x * c + x * (u x * g x); rw [q x]; grind
/-- the highest coefficient -/
theorem norm_lead {a : List Int} (h : Norm a) (ne : a ≠ []) : ∃ (c : Zp) (g : Zp → Zp), c ≠ 0 ∧ Pol (a.length - 1) g ∧ ∀ x, pev a x = g x + c * pw x (a.length - 1) := by
  have hlt : a.length - 1 < a.length := by
    have := List.length_pos_iff.mpr ne
    omega
  refine ⟨z (a.getD (a.length - 1) 0), pev (a.take (a.length - 1)), fun e => ?_, (pev_pol _).mono (by rw [List.length_take]; omega), fun x => ?_⟩
  · have w : Wd (a.getD (a.length - 1) 0) := h.1 _ (by rw [List.getD_eq_getElem?_getD, List.getElem?_eq_getElem hlt]; exact List.getElem_mem hlt)
    have := (z_z _).mp e
    have ne0 := h.2.resolve_left ne
    obtain ⟨w0, w1⟩ := w
    omega
  · have e : a = a.take (a.length - 1) ++ [a.getD (a.length - 1) 0] := by
      conv => lhs; rw [← List.take_append_drop (a.length - 1) a]
      rw [List.drop_eq_getElem_cons hlt, show a.length - 1 + 1 = a.length by omega, List.drop_length]
      simp [List.getD_eq_getElem?_getD, hlt]
    have := pev_snoc (a.take (a.length - 1)) (a.getD (a.length - 1) 0) x
    rw [← e, List.length_take, Nat.min_eq_left (by omega)] at this
    rw [this]
    grind
theorem norm_mul {a b r : List Int} (ha : Norm a) (hb : Norm b) (hr : Norm r) (na : a ≠ []) (nb : b ≠ []) (la : a.length ≤ 1000) (lb : b.length ≤ 1000) (lr : r.length ≤ 60000) (e : ∀ x, pev r x = pev a x * pev b x) : r.length = a.length + b.length - 1 := by
  obtain ⟨c, g, hc, hg, eg⟩ := norm_lead ha na
  obtain ⟨d, k, hd, hk, ek⟩ := norm_lead hb nb
  have pa := List.length_pos_iff.mpr na
  have pb := List.length_pos_iff.mpr nb
  -- what is below the highest power
  have low : Pol (a.length - 1 + (b.length - 1)) fun x => pev r x - (c * d) * pw x (a.length - 1 + (b.length - 1)) := by
    have A := (hg.mul ((Pol.pw (b.length - 1) d).add hk.up)).mono (show a.length - 1 + (b.length - 1 + 1) ≤ a.length - 1 + (b.length - 1) + 1 by omega)
    have B : ∀ n m : Nat, ∀ u : Zp → Zp, Pol m u → Pol (n + m) fun x => pw x n * u x := by
      intro n
      induction n with
      | zero => exact fun m u hu => by rw [Nat.zero_add]; exact hu.ext fun x => by show 1 * u x = u x; grind
      | succ n ih => exact fun m u hu => by rw [Nat.succ_add]; exact ((ih m u hu).xmul).ext fun x => by show (x * pw x n) * u x = x * (pw x n * u x); grind
    have C := (B (a.length - 1) (b.length - 1) k hk).smul c
    have D := (B (b.length - 1) (a.length - 1) g hg).smul d
    have G : Pol (a.length - 1 + (b.length - 1)) fun x => g x * k x := hg.mul hk
    rw [Nat.add_comm (b.length - 1)] at D
    refine ((C.add D).add G).ext fun x => ?_
    show pev r x - (c * d) * pw x (a.length - 1 + (b.length - 1)) = (pw x (a.length - 1) * k x * c + pw x (b.length - 1) * g x * d) + g x * k x
    rw [e x, eg x, ek x, pw_add]
    grind
  have up : Pol (a.length - 1 + (b.length - 1) + 1) (pev r) := (low.up.add (Pol.pw _ (c * d))).ext fun x => by
    show pev r x = (pev r x - (c * d) * pw x _) + (c * d) * pw x _
    grind
  have h1 := norm_le hr (by omega) up lr
  by_cases q : r.length ≤ a.length - 1 + (b.length - 1)
  · exfalso
    have P := (pev_pol r).mono q
    have := lead_zero (a.length - 1 + (b.length - 1)) (c := c * d) (by omega) (P.sub low) fun x => by
      show _ = pev r x - (pev r x - (c * d) * pw x _)
      grind
    exact zp_mul_ne hc hd this
  · omega
theorem norm_snoc {a : List Int} {c : Int} (h : ∀ w ∈ a, Wd w) (hc : Wd c) (n : c ≠ 0) : Norm (a ++ [c]) := by
  refine ⟨fun w m => ?_, .inr ?_⟩
  · rcases List.mem_append.mp m with m | m
    · exact h w m
    · have : w = c := by simpa using m
      rw [this]
      exact hc
  · rw [List.length_append, List.length_singleton, Nat.add_sub_cancel, List.getD_eq_getElem?_getD]
    simpa using n
theorem norm_nil : Norm [] := ⟨fun _ m => (nomatch m), .inl rfl⟩
theorem pev_smul (fa : Int) : ∀ (b : List Int) (x : Zp), pev (b.map fun c => fa * c) x = z fa * pev b x
  | [], x => by show (0 : Zp) = _ * 0; grind
  | c :: r, x => by
    show z (fa * c) + x * pev (r.map fun c => fa * c) x = z fa * (z c + x * pev r x)
    rw [pev_smul fa r x, z_mul]
    grind
/-! heaps, slices, points -/
theorem _root_.L2.Same.tup {K : PySem.W.Frag} {H H' : Hp} {a : Addr} {xs : List V} (e : Same H H') (h : SqT K H a xs) : SqT K H' a xs := by
  rcases h with (h | ⟨o, h⟩) | h
  · exact .inl (.inl (e _ _ h))
  · exact .inl (.inr ⟨o, e _ _ h⟩)
  · exact .inr h
theorem _root_.L2.Same.new {H : Hp} {p : Addr} {o : HO} (h : H p = none) : Same H (upd H p o) := fun _ _ e => by
  rw [upd_ne (ne_of_none e h)]
  exact e
/-- what was tracked is as it was, but for p -/
def But (p : Addr) (H H' : Hp) : Prop := ∀ b o, H b = some o → b ≠ p → H' b = some o
theorem Only.but {p : Addr} {H H' : Hp} (h : Only p H H') : But p H H' := fun b _ e n => (h b n).trans e
theorem _root_.L2.Same.but {p : Addr} {H H' : Hp} (h : Same H H') : But p H H' := fun b o e _ => h b o e
theorem But.trans {p : Addr} {H H1 H2 : Hp} (x : But p H H1) (y : But p H1 H2) : But p H H2 := fun b o e n => y b o (x b o e n) n
theorem But.same {p : Addr} {H0 H H' : Hp} (y : But p H H') (x : Same H0 H) (h : H0 p = none) : Same H0 H' := fun b o e => y b o (x b o e) (ne_of_none e h)
theorem But.new {p q : Addr} {H H' : Hp} {o : HO} (x : But p H H') (h : H' q = none) : But p H (upd H' q o) := x.trans (Same.new h).but
theorem _root_.L2.Same.at {H H' : Hp} {b : Addr} {o : HO} (s : Same H H') (e : H b = some o) : H' b = some o := s b o e
theorem cut_take (xs : List V) (i : Nat) : cutV xs none (some (i : Int)) = xs.take i := by
  unfold cutV
  rw [HT.sIx_none, HT.sIx_nat, List.drop_zero, Nat.sub_zero]
  by_cases h : i ≤ xs.length
  · rw [Nat.min_eq_left h]
  · rw [Nat.min_eq_right (by omega), List.take_of_length_le (by omega), List.take_of_length_le (by omega)]
theorem cut_drop (xs : List V) (i : Nat) : cutV xs (some (i : Int)) none = xs.drop i := by
  unfold cutV
  rw [HT.sIx_none, HT.sIx_nat]
  by_cases h : i ≤ xs.length
  · rw [Nat.min_eq_left h, List.take_of_length_le (by rw [List.length_drop]; omega)]
  · rw [Nat.min_eq_right (by omega), List.drop_of_length_le (by omega), List.drop_of_length_le (by omega), List.take_nil]
theorem take_snoc {α : Type} {l : List α} {i : Nat} {x : α} (h : l[i]? = some x) : l.take (i + 1) = l.take i ++ [x] := by
  rw [List.take_add_one, h]
  rfl
theorem item_lt {α : Type} {l : List α} {i : Nat} {x : α} (h : l[i]? = some x) : i < l.length := (List.getElem?_eq_some_iff.mp h).1
theorem small (n : Nat) (h : n ≤ 60000) : n < sizeLine := Nat.lt_of_le_of_lt h (by decide)
theorem getD_item {α : Type} {l : List α} {i : Nat} {x d : α} (h : l[i]? = some x) : l.getD i d = x := by rw [List.getD_eq_getElem?_getD, h]; rfl
theorem seq_off {K : PySem.W.Frag} {H : Hp} {a b : Addr} {xs : List V} {o : HO} (h : SqL K H a xs) (n : a ≠ b) : SqL K (upd H b o) a xs := by
  rcases h with (h | ⟨u, h⟩) | h
  · exact .inl (.inl (by rw [upd_ne n]; exact h))
  · exact .inl (.inr ⟨u, by rw [upd_ne n]; exact h⟩)
  · exact .inr h
/-- one more thing at a place that was free at the entry -/
theorem same_put {H H' : Hp} {p : Addr} {o : HO} (s : Same H H') (n : H p = none) : Same H (upd H' p o) := fun b u e => by
  rw [upd_ne (ne_of_none e n)]
  exact s b u e
theorem item_set {α : Type} {l : List α} {i j : Nat} {x y : α} (h : (l.set i x)[j]? = some y) : (i = j ∧ y = x ∧ j < l.length) ∨ (i ≠ j ∧ l[j]? = some y) := by
  rw [List.getElem?_set] at h
  by_cases e : i = j
  · subst e
    rw [if_pos rfl] at h
    split at h
    · exact .inl ⟨rfl, (Option.some.inj h).symm, by assumption⟩
    · cases h
  · rw [if_neg e] at h
    exact .inr ⟨e, h⟩
theorem same_none {H H' : Hp} {b : Addr} (s : Same H H') (n : H' b = none) : H b = none := by
  cases q : H b with
  | none => rfl
  | some o => rw [s _ _ q] at n; cases n
theorem getD_set {w : List Int} {i k : Nat} {v : Int} (h : k < w.length) : (w.set i v).getD k 0 = if i = k then v else w.getD k 0 := by
  rw [List.getD_eq_getElem?_getD, List.getElem?_set]
  split
  · next e =>
    subst e
    rw [if_pos h]
    rfl
  · rw [List.getD_eq_getElem?_getD]
/-! data: == of lists of ints, of pairs -/
theorem eqvAll_ints : ∀ xs ys : List Int, PyData.eqvAll (xs.map .int) (ys.map .int) = decide (xs = ys)
  | [], [] => by simp [PyData.eqvAll]
  | [], _ :: _ => by simp [PyData.eqvAll]
  | _ :: _, [] => by simp [PyData.eqvAll]
  | x :: xs, y :: ys => by
    simp only [List.map_cons, PyData.eqvAll, PyData.eqv, eqvAll_ints xs ys]
    by_cases h : x = y <;> by_cases k : xs = ys <;> simp [h, k]
theorem canLayAll_ints : ∀ xs : List Int, PyData.canLayAll0 (xs.map .int) = true
  | [] => rfl
  | x :: xs => by simp [PyData.canLayAll0, PyData.canLay0, canLayAll_ints xs]
theorem depthAll_ints : ∀ xs : List Int, PyData.depthAll (xs.map .int) = 0
  | [] => rfl
  | x :: xs => by simp [PyData.depthAll, PyData.depth, depthAll_ints xs]
theorem shaped_ints (xs : List Int) : SeqAt.shaped (.list (xs.map .int)) = true := by
  simp [SeqAt.shaped, PyData.canLay0, canLayAll_ints, PyData.depth, depthAll_ints]
theorem dpAll_ints {K : PySem.W.Frag} {H : Hp} : ∀ xs : List Int, DpAll K H (xs.map V.int) (xs.map .int)
  | [] => .nil
  | x :: xs => .cons (.int x) (dpAll_ints xs)
theorem dp_ints {K : PySem.W.Frag} {H : Hp} {a : Addr} {xs : List Int} (h : SqL K H a (xs.map V.int)) : Dp K H (.ref a) (.list (xs.map .int)) := .lst h (dpAll_ints xs)
theorem eqv_ints (xs ys : List Int) : PyData.eqv (.list (xs.map .int)) (.list (ys.map .int)) = decide (xs = ys) := by
  simp only [PyData.eqv]
  exact eqvAll_ints xs ys
/-- rows of ints -/
def rowD (xs : List Int) : PyData := .list (xs.map .int)
theorem rows_data : ∀ xss : List (List Int), PyData.canLayAll0 (xss.map rowD) = true ∧ PyData.depthAll (xss.map rowD) ≤ 1
  | [] => ⟨rfl, Nat.zero_le _⟩
  | xs :: xss => by
    obtain ⟨h1, h2⟩ := rows_data xss
    refine ⟨by simp [PyData.canLayAll0, PyData.canLay0, rowD, canLayAll_ints, h1], ?_⟩
    simp only [List.map_cons, PyData.depthAll, rowD, PyData.depth, depthAll_ints]
    omega
theorem rows_shaped (xss : List (List Int)) : SeqAt.shaped (.list (xss.map rowD)) = true := by
  obtain ⟨h1, h2⟩ := rows_data xss
  have e : PyData.depth (.list (xss.map rowD)) = PyData.depthAll (xss.map rowD) + 1 := by simp only [PyData.depth]
  unfold SeqAt.shaped
  rw [Bool.and_eq_true]
  exact ⟨by simp only [PyData.canLay0]; exact h1, decide_eq_true (by rw [e]; omega)⟩
theorem eqvAll_rows : ∀ xss yss : List (List Int), PyData.eqvAll (xss.map rowD) (yss.map rowD) = decide (xss = yss)
  | [], [] => by simp [PyData.eqvAll]
  | [], _ :: _ => by simp [PyData.eqvAll]
  | _ :: _, [] => by simp [PyData.eqvAll]
  | x :: xs, y :: ys => by
    have h := eqv_ints x y
    simp only [List.map_cons, PyData.eqvAll, rowD, eqvAll_rows xs ys, h]
    by_cases h : x = y <;> by_cases k : xs = ys <;> simp [h, k]
theorem eqv_rows (xss yss : List (List Int)) : PyData.eqv (.list (xss.map rowD)) (.list (yss.map rowD)) = decide (xss = yss) := by
  simp only [PyData.eqv]
  exact eqvAll_rows xss yss
theorem dp_two {K : PySem.W.Frag} {H : Hp} {a b c : Addr} {xs ys : List Int} (h : SqL K H a [V.ref b, V.ref c]) (hb : SqL K H b (xs.map V.int)) (hc : SqL K H c (ys.map V.int)) : Dp K H (.ref a) (.list ([xs, ys].map rowD)) :=
  .lst h (.cons (dp_ints hb) (.cons (dp_ints hc) .nil))
/-! xs[i] op= e, i not below 0 -/
def rGetL (K : PySem.W.Frag) : V → V → Hp → VK → Prop := fun x y H Q => ∃ (p : Addr) (xs : List V) (i : Int) (j : Nat) (v : V), x = .ref p ∧ y = .int i ∧ i = (j : Int) ∧ SqL K H p xs ∧ xs[j]? = some v ∧ Q v H
theorem pget_list {X : Cx} : PGet X (rGetL X.K) := by
  intro pins s σ H o i ov iv Q I ro ri h
  obtain ⟨p, xs, _, j, v, rfl, rfl, rfl, hS, hv, q⟩ := h
  cases ro
  obtain ⟨t, rfl⟩ := ri
  obtain ⟨its, r, pl, hz⟩ := I.list hS
  obtain ⟨u, hu, ru⟩ := r.get hv
  have hl : j < xs.length := (List.getElem?_eq_some_iff.mp hv).1
  have hn := line63
  exact PySem.wpAny_getItem_list pl.isList (by omega) (by omega) (by rw [Int.toNat_natCast]; simpa using hu) ⟨v, H, I, ru, q⟩
theorem rep_zero (n : Nat) : (List.replicate n [V.int 0]).flatten = (List.replicate n (0 : Int)).map V.int := by
  induction n with
  | zero => rfl
  | succ n ih => rw [List.replicate_succ, List.flatten_cons, ih, List.replicate_succ]; rfl
theorem pev_rep (n : Nat) (x : Zp) : pev (List.replicate n (0 : Int)) x = 0 := pev_zeros (fun w m => by rw [(List.mem_replicate.mp m).2]; exact z_zero) x
theorem ixN_nat {n j : Nat} (h : j < n) : ixN n (j : Int) = some j := by
  unfold ixN
  rw [if_pos (by omega), if_pos (by omega), Int.toNat_natCast]
/-- where things stand -/
structure Ad where
  f_is_name : Addr
  d_is_name : FuncData
  f_is_path : Addr
  d_is_path : FuncData
  f_ways : Addr
  d_ways : FuncData
  f_moved_path : Addr
  d_moved_path : FuncData
  f_law_pot : Addr
  d_law_pot : FuncData
  f_law_next : Addr
  d_law_next : FuncData
  f_law_name_due : Addr
  d_law_name_due : FuncData
  f_law_text : Addr
  d_law_text : FuncData
  f_law : Addr
  d_law : FuncData
/-- what the top has written -/
structure Txt (K : PySem.W.Frag) (mg : Str → Option Value) (a : Ad) : Prop where
  F_is_name : Fun K "is_name" "is_name" s_is_name a.f_is_name a.d_is_name
  g_is_name : mg "is_name" = some (.ref a.f_is_name)
  d_is_name : Binds K a.d_is_name ["text"] []
  F_is_path : Fun K "is_path" "is_path" s_is_path a.f_is_path a.d_is_path
  g_is_path : mg "is_path" = some (.ref a.f_is_path)
  d_is_path : Binds K a.d_is_path ["text"] []
  F_ways : Fun K "ways" "ways" s_ways a.f_ways a.d_ways
  g_ways : mg "ways" = some (.ref a.f_ways)
  d_ways : Binds K a.d_ways ["path"] []
  F_moved_path : Fun K "moved_path" "moved_path" s_moved_path a.f_moved_path a.d_moved_path
  g_moved_path : mg "moved_path" = some (.ref a.f_moved_path)
  d_moved_path : Binds K a.d_moved_path ["path", "old", "new"] []
  F_law_pot : Fun K "_law_pot" "_law_pot" s_law_pot a.f_law_pot a.d_law_pot
  g_law_pot : mg "_law_pot" = some (.ref a.f_law_pot)
  d_law_pot : Binds K a.d_law_pot ["script"] []
  F_law_next : Fun K "_law_next" "_law_next" s_law_next a.f_law_next a.d_law_next
  g_law_next : mg "_law_next" = some (.ref a.f_law_next)
  d_law_next : Binds K a.d_law_next ["pot", "limit"] []
  F_law_name_due : Fun K "_law_name_due" "_law_name_due" s_law_name_due a.f_law_name_due a.d_law_name_due
  g_law_name_due : mg "_law_name_due" = some (.ref a.f_law_name_due)
  d_law_name_due : Binds K a.d_law_name_due ["text"] []
  F_law_text : Fun K "_law_text" "_law_text" s_law_text a.f_law_text a.d_law_text
  g_law_text : mg "_law_text" = some (.ref a.f_law_text)
  d_law_text : Binds K a.d_law_text ["pot", "size"] []
  F_law : Fun K "law" "law" s_law a.f_law a.d_law
  g_law : mg "law" = some (.ref a.f_law)
  d_law : Binds K a.d_law ["script"] []
  g_MAX_NAME : ∃ u, mg "MAX_NAME" = some u ∧ RelV (.int 12) u
  g_MAX_PATH : ∃ u, mg "MAX_PATH" = some u ∧ RelV (.int 60) u
  g_NAME_CHARACTERS : ∃ u, mg "NAME_CHARACTERS" = some u ∧ RelV (.str "abcdefghijklmnopqrstuvwxyz0123456789-") u
  n_all : mg "all" = none
  n_isinstance : mg "isinstance" = none
  n_str : mg "str" = none
  n_len : mg "len" = none
  n_range : mg "range" = none
  n_list : mg "list" = none
  n_int : mg "int" = none
  n_abs : mg "abs" = none
  n_min : mg "min" = none
  n_max : mg "max" = none
/-! the promises -/
/-! the draws: a list of the script, a place in it, a rest, a seed -/
/-- at p stands a pot, its script's list at l -/
def Pot (H : Hp) (p l : Addr) : Prop := ∃ (ns : List Int) (i acc seed : Int), H p = some (.lst [.ref l, .int i, .int acc, .int seed]) ∧ H l = some (.lst (ns.map V.int)) ∧ 0 ≤ i ∧ 0 ≤ acc ∧ 0 ≤ seed ∧ seed < 2147483647
theorem Pot.ne {H : Hp} {p l : Addr} (h : Pot H p l) : l ≠ p := by
  obtain ⟨ns, i, acc, seed, h1, h2, _⟩ := h
  refine ne_of h2 h1 fun e => ?_
  have e1 := HO.lst.inj e
  cases ns with
  | nil => cases e1
  | cons a r => rw [List.map_cons] at e1; injection e1 with e2 _; cases e2
theorem Pot.same {H H' : Hp} {p l : Addr} (h : Pot H p l) (s : Same H H') : Pot H' p l := by
  obtain ⟨ns, i, acc, seed, h1, h2, h3⟩ := h
  exact ⟨ns, i, acc, seed, s _ _ h1, s _ _ h2, h3⟩
theorem Pot.only {H H' : Hp} {p l q : Addr} (h : Pot H p l) (s : Only q H H') (n1 : p ≠ q) (n2 : l ≠ q) : Pot H' p l := by
  obtain ⟨ns, i, acc, seed, h1, h2, h3⟩ := h
  exact ⟨ns, i, acc, seed, by rw [s _ n1]; exact h1, by rw [s _ n2]; exact h2, h3⟩
/-- a draw's answer below the limit -/
def sp_law_next (K : PySem.W.Frag) (a : Ad) : Sp := fun vs H Q _ => ∃ (p l : Addr) (m : Int), vs = [.ref p, .int m] ∧ Pot H p l ∧ 0 < m ∧ m.natAbs < 2 ^ 400 ∧
  ∀ (v : Int) (H' : Hp), 0 ≤ v → v < m → Pot H' p l → Only p H H' → Q (.int v) H'
theorem sp_law_next_len {K : PySem.W.Frag} {a : Ad} {vs : List V} {H : Hp} {Q : VK} {E : XK} (h : sp_law_next K a vs H Q E) : vs.length = 2 := by
  obtain ⟨p, l, m, rfl, _⟩ := h
  rfl
def sp_law_pot (K : PySem.W.Frag) (a : Ad) : Sp := fun vs H Q _ => ∃ (s : Addr) (ns : List Int), vs = [.ref s] ∧ SqL K H s (ns.map V.int) ∧ ns.length ≤ 1000 ∧
  ∀ (p l : Addr) (H' : Hp), H p = none → H l = none → Same H H' → Pot H' p l → Q (.ref p) H'
theorem sp_law_pot_len {K : PySem.W.Frag} {a : Ad} {vs : List V} {H : Hp} {Q : VK} {E : XK} (h : sp_law_pot K a vs H Q E) : vs.length = 1 := by
  obtain ⟨s, ns, rfl, _⟩ := h
  rfl
/-- the law itself: True at every script -/
def sp_law0 (K : PySem.W.Frag) : Sp := fun vs H Q _ => ∃ (s : Addr) (ns : List Int), vs = [.ref s] ∧ SqL K H s (ns.map V.int) ∧ ns.length ≤ 63 ∧ ∀ H', Q (.bl true) H'
def sp_law (K : PySem.W.Frag) (a : Ad) : Sp := sp_law0 K
theorem sp_law_len {K : PySem.W.Frag} {a : Ad} {vs : List V} {H : Hp} {Q : VK} {E : XK} (h : sp_law K a vs H Q E) : vs.length = 1 := by
  obtain ⟨s, ns, rfl, _⟩ := h
  rfl
theorem int_item {ns : List Int} {i : Nat} {y : V} (h : (ns.map V.int)[i]? = some y) : ∃ z, ns[i]? = some z ∧ y = V.int z := by
  rw [List.getElem?_map] at h
  cases e : ns[i]? with
  | none => rw [e] at h; cases h
  | some z => rw [e] at h; exact ⟨z, rfl, (Option.some.inj h).symm⟩
/-- the pot's own object is no list of refs alone, no tuple -/
theorem Pot.list {H : Hp} {p l : Addr} (h : Pot H p l) : ∃ i acc seed : Int, H p = some (.lst [.ref l, .int i, .int acc, .int seed]) := by
  obtain ⟨ns, i, acc, seed, h1, _⟩ := h
  exact ⟨i, acc, seed, h1⟩
theorem But.seq {K : PySem.W.Frag} {H H' : Hp} {p a : Addr} {xs : List V} (b : But p H H') (n : a ≠ p) (h : SqL K H a xs) : SqL K H' a xs := by
  rcases h with (h | ⟨o, h⟩) | h
  · exact .inl (.inl (b _ _ h n))
  · exact .inl (.inr ⟨o, b _ _ h n⟩)
  · exact .inr h
theorem But.tup {K : PySem.W.Frag} {H H' : Hp} {p l a : Addr} {xs : List V} (P : Pot H p l) (b : But p H H') (h : SqT K H a xs) : SqT K H' a xs := by
  obtain ⟨i, acc, seed, hp⟩ := P.list
  rcases h with (h | ⟨o, h⟩) | h
  · exact .inl (.inl (b _ _ h (ne_of h hp (by intro q; cases q))))
  · exact .inl (.inr ⟨o, b _ _ h (ne_of h hp (by intro q; cases q))⟩)
  · exact .inr h
theorem Pot.noList {H : Hp} {p l a : Addr} (P : Pot H p l) {xs : List V} (h : H a = some (.lst xs)) (hx : ∀ i acc seed : Int, xs ≠ [.ref l, .int i, .int acc, .int seed]) : a ≠ p := by
  obtain ⟨i, acc, seed, hp⟩ := P.list
  exact ne_of h hp fun q => hx i acc seed (HO.lst.inj q)
theorem Pot.off {H : Hp} {p l q : Addr} (P : Pot H p l) (h : H q = none) : p ≠ q ∧ l ≠ q := by
  obtain ⟨_, _, _, _, g1, g2, _⟩ := P
  exact ⟨ne_of_none g1 h, ne_of_none g2 h⟩
theorem Pot.new {H : Hp} {p l q : Addr} {o : HO} (P : Pot H p l) (h : H q = none) : Pot (upd H q o) p l := P.same (Same.new h)
/-! expressions that make new lists, with draws among them -/
theorem Pot.nn {H : Hp} {p l q : Addr} (P : Pot H p l) (h : H q = none) : q ≠ p := fun z => (P.off h).1 z.symm
theorem but_none {p l q : Addr} {H H' : Hp} (b : But p H H') (P : Pot H' p l) (n : H' q = none) : H q = none := by
  cases e : H q with
  | none => rfl
  | some o =>
    by_cases z : q = p
    · obtain ⟨_, _, _, hp⟩ := P.list
      rw [z, hp] at n
      cases n
    · rw [b _ _ e z] at n
      cases n
section
variable {K : PySem.W.Frag} {p l : Addr} {G : Hp → Prop} {σ : St}
/-- what holds of the heap while only the pot changes and things are added -/
def Stay (p l : Addr) (G : Hp → Prop) : Prop := ∀ H H', But p H H' → Pot H p l → G H → G H'
def Mk (p l : Addr) (G : Hp → Prop) (te : TE) (σ : St) (U : List V → Prop) : Prop := ∀ (H : Hp) (Q : VK), Pot H p l → G H → (∀ (D : Addr) (us : List V) (H' : Hp), U us → But p H H' → Pot H' p l → G H' → H D = none → H' D = some (.lst us) → Q (.ref D) H') → te σ H Q
/-- values, which may be drawn -/
def Ev (p l : Addr) (G : Hp → Prop) (te : TE) (σ : St) (U : V → Prop) : Prop := ∀ (H : Hp) (Q : VK), Pot H p l → G H → (∀ (v : V) (H' : Hp), U v → But p H H' → Pot H' p l → G H' → Q v H') → te σ H Q
def Px (to : TO) (σ : St) (o : Option Int) : Prop := ∀ (H : Hp) (Q : Option Int → Hp → Prop), Q o H → to σ H Q
theorem But.refl {p : Addr} {H : Hp} : But p H H := fun _ _ e _ => e
theorem Mk.cat {ta tb : TE} {U W : List V → Prop} (hs : Stay p l G) (ha : Mk p l G ta σ U) (hb : Mk p l G tb σ W) (hz : ∀ us vs, U us → W vs → us.length + vs.length ≤ 60000) : Mk p l G (tOp rCat ta tb) σ (fun zs => ∃ us vs, U us ∧ W vs ∧ zs = us ++ vs) := by
  intro H Q P g k
  refine ha H _ P g fun D1 us H1 u1 b1 P1 g1 n1 d1 => hb H1 _ P1 g1 fun D2 vs H2 v2 b2 P2 g2 n2 d2 => ?_
  refine ⟨D1, D2, us, vs, rfl, rfl, b2 _ _ d1 (P.nn n1), d2, Nat.le_of_lt (small _ (hz us vs u1 v2)), fun q nq => ?_⟩
  have b3 : But p H2 (upd H2 q (.lst (us ++ vs))) := (Same.new nq).but
  exact k q _ _ ⟨us, vs, u1, v2, rfl⟩ ((b1.trans b2).trans b3) (P2.new nq) (hs _ _ b3 P2 g2) (but_none (b1.trans b2) P2 nq) upd_same
theorem Mk.slice {W : Addr} {i : Nat} {xs : List V} {tl th : TO} {lo hi : Option Int} (hs : Stay p l G) (hi' : σ[i]? = some (some (.ref W))) (hW : ∀ H, G H → SqL K H W xs) (hl : Px tl σ lo) (hh : Px th σ hi) : Mk p l G (tSl (rSlL K) (tVar i) tl th) σ (fun us => us = cutV xs lo hi) := by
  intro H Q P g k
  refine ⟨_, hi', hl _ _ (hh _ _ ⟨W, xs, rfl, hW _ g, fun q nq => ?_⟩)⟩
  have b3 : But p H (upd H q (.lst (cutV xs lo hi))) := (Same.new nq).but
  exact k q _ _ rfl b3 (P.new nq) (hs _ _ b3 P g) nq upd_same
theorem Mk.one {te : TE} {U : V → Prop} (hs : Stay p l G) (h : Ev p l G te σ U) : Mk p l G (tLst (tCons te tNil)) σ (fun us => ∃ v, U v ∧ us = [v]) := by
  intro H Q P g k
  refine h H _ P g fun v H1 u1 b1 P1 g1 => ⟨by show 1 ≤ sizeLine; decide, fun q nq => ?_⟩
  have b3 : But p H1 (upd H1 q (.lst [v])) := (Same.new nq).but
  exact k q _ _ ⟨v, u1, rfl⟩ (b1.trans b3) (P1.new nq) (hs _ _ b3 P1 g1) (but_none b1 P1 nq) upd_same
theorem Px.none : Px tNoPart σ none := fun _ _ q => q
theorem Px.var {i : Nat} {n : Int} (h : σ[i]? = some (some (.int n))) : Px (tPart (tVar i)) σ (some n) := fun _ _ q => ⟨_, h, _, rfl, q⟩
theorem Px.add {i : Nat} {n m : Int} (h : σ[i]? = some (some (.int n))) : Px (tPart (tOp (rI0 fun i j => .int (i + j)) (tVar i) (tC (.int m)))) σ (some (n + m)) := fun _ _ q => ⟨_, h, _, _, rfl, rfl, _, rfl, q⟩
end
/-- a list of whole numbers stays -/
theorem stay_ints {p l W : Addr} {ws : List Int} : Stay p l (fun H => H W = some (.lst (ws.map V.int))) := fun H H' b P g => b _ _ g (P.noList g fun i acc seed z => by
  cases ws with
  | nil => cases z
  | cons a r => rw [List.map_cons] at z; injection z with z _; cases z)
def cutI (ws : List Int) (lo hi : Option Int) : List Int := (ws.drop (HT.sIx ws.length 0 lo)).take (HT.sIx ws.length ws.length hi - HT.sIx ws.length 0 lo)
theorem cut_ints (ws : List Int) (lo hi : Option Int) : cutV (ws.map V.int) lo hi = (cutI ws lo hi).map V.int := by
  unfold cutV cutI
  rw [List.length_map, List.map_take, List.map_drop]
theorem cutI_to (ws : List Int) (i : Nat) : (cutI ws none (some (i : Int))).length ≤ i := by
  unfold cutI
  rw [HT.sIx_none, HT.sIx_nat, List.length_take]
  omega
theorem cutI_from (ws : List Int) (i : Nat) : (cutI ws (some (i : Int)) none).length ≤ ws.length - i := by
  unfold cutI
  rw [HT.sIx_none, HT.sIx_nat, List.length_take]
  omega
theorem cutI_mid (ws : List Int) (i j : Nat) : (cutI ws (some (i : Int)) (some (j : Int))).length ≤ j - i := by
  unfold cutI
  rw [HT.sIx_nat, HT.sIx_nat, List.length_take]
  omega
theorem ret_mk {p l : Addr} {G : Hp → Prop} {σ : St} {te : TE} {U : List V → Prop} {D : Ends} {H : Hp} (m : Mk p l G te σ U) (P : Pot H p l) (g : G H) (k : ∀ (A : Addr) (us : List V) (H' : Hp), U us → But p H H' → Pot H' p l → G H' → H A = none → H' A = some (.lst us) → D.rt (.ref A) H') : tRet te D σ H := m H _ P g k
theorem Ev.draw {K : PySem.W.Frag} {a : Ad} {p l : Addr} {G : Hp → Prop} {σ : St} {i : Nat} {m : Int} {E : XK} (hs : Stay p l G) (hi : σ[i]? = some (some (.ref p))) (m0 : 0 < m) (m1 : m.natAbs < 2 ^ 400) :
    Ev p l G (tCall (sp_law_next K a) [] E (tCons (tVar i) (tCons (tC (.int m)) tNil))) σ (fun v => ∃ n : Int, v = .int n ∧ 0 ≤ n ∧ n < m) := by
  intro H Q P g k
  exact ⟨_, hi, p, l, m, rfl, P, m0, m1, fun n H' n0 n1 P' o => k _ _ ⟨n, rfl, n0, n1⟩ o.but P' (hs _ _ o.but P g)⟩
theorem Ev.item {K : PySem.W.Frag} {p l W : Addr} {G : Hp → Prop} {σ : St} {i j : Nat} {xs : List V} {n : Nat} {y : V} (hi : σ[i]? = some (some (.ref W))) (hj : σ[j]? = some (some (.int (n : Int)))) (hW : ∀ H, G H → SqL K H W xs) (hy : xs[n]? = some y) :
    Ev p l G (tOp (rIxL K) (tVar i) (tVar j)) σ (fun v => v = y) := by
  intro H Q P g k
  exact ⟨_, hi, _, hj, W, _, _, _, rfl, rfl, hW _ g, at_of (j := n) rfl hy, k _ _ rfl But.refl P g⟩
theorem Ev.op {p l : Addr} {G : Hp → Prop} {σ : St} {ta tb : TE} {f : Int → Int → Int} {U W : Int → Prop} (hs : Stay p l G) (ha : Ev p l G ta σ (fun v => ∃ n, v = .int n ∧ U n)) (hb : Ev p l G tb σ (fun v => ∃ n, v = .int n ∧ W n)) :
    Ev p l G (tOp (rI0 fun i j => .int (f i j)) ta tb) σ (fun v => ∃ n m, v = .int (f n m) ∧ U n ∧ W m) := by
  intro H Q P g k
  refine ha H _ P g fun v H1 u1 b1 P1 g1 => hb H1 _ P1 g1 fun w H2 u2 b2 P2 g2 => ?_
  obtain ⟨n, rfl, hn⟩ := u1
  obtain ⟨m, rfl, hm⟩ := u2
  exact ⟨_, _, rfl, rfl, k _ _ ⟨n, m, rfl, hn, hm⟩ (b1.trans b2) P2 g2⟩
theorem Ev.int {p l : Addr} {G : Hp → Prop} {σ : St} {n : Int} : Ev p l G (tC (.int n)) σ (fun v => v = .int n) := fun H Q P g k => k _ _ rfl But.refl P g
theorem Ev.imp {p l : Addr} {G : Hp → Prop} {σ : St} {te : TE} {U W : V → Prop} (h : Ev p l G te σ U) (i : ∀ v, U v → W v) : Ev p l G te σ W := fun H Q P g k => h H Q P g fun v H' u b P' g' => k v H' (i v u) b P' g'
theorem Mk.imp {p l : Addr} {G : Hp → Prop} {σ : St} {te : TE} {U W : List V → Prop} (h : Mk p l G te σ U) (i : ∀ v, U v → W v) : Mk p l G te σ W := fun H Q P g k => h H Q P g fun A v H' u b P' g' => k A v H' (i v u) b P' g'
theorem Ev.var {p l : Addr} {G : Hp → Prop} {σ : St} {i : Nat} {v : V} (h : σ[i]? = some (some v)) : Ev p l G (tVar i) σ (fun x => x = v) := fun H Q P g k => ⟨_, h, k _ _ rfl But.refl P g⟩
theorem op_l {r : R2} {ta tb : TE} {σ : St} {H : Hp} {Q : VK} (h : ta σ H fun x H1 => tb σ H1 fun y H2 => r x y H2 Q) : tOp r ta tb σ H Q := h
theorem call_1 {sp : Sp} {dvs : List V} {E : XK} {te : TE} {σ : St} {H : Hp} {Q : VK} (h : te σ H fun x H1 => sp ([x] ++ dvs) H1 Q E) : tCall sp dvs E (tCons te tNil) σ H Q := h
/-- a list of the entry stays through the draws of a pot made since -/
theorem seq_stay {K : PySem.W.Frag} {H H1 H2 : Hp} {s p : Addr} {xs : List V} (h : SqL K H s xs) (np : H p = none) (s1 : Same H H1) (b : But p H1 H2) : SqL K H2 s xs := by
  rcases h with (h | ⟨o, h⟩) | h
  · exact .inl (.inl (b _ _ (s1 _ _ h) (ne_of_none h np)))
  · exact .inl (.inr ⟨o, b _ _ (s1 _ _ h) (ne_of_none h np)⟩)
  · exact .inr h
theorem asg_l {te : TE} {g : TG} {D : Ends} {σ : St} {H : Hp} (h : te σ H fun x H1 => g x σ H1 D.nx) : tAsg te g D σ H := h
theorem set_cut (ws : List Int) (i : Nat) (v : Int) (h : i < ws.length) : cutV (ws.map V.int) none (some (i : Int)) ++ [V.int v] ++ cutV (ws.map V.int) (some ((i : Int) + 1)) none = (ws.set i v).map V.int := by
  rw [cut_take, show ((i : Int) + 1) = ((i + 1 : Nat) : Int) from rfl, cut_drop, List.set_eq_take_append_cons_drop, if_pos h, List.map_append, List.map_cons, List.map_take, List.map_drop, List.append_assoc]
  rfl
/-! names and paths -/
def chs36 : Str := "abcdefghijklmnopqrstuvwxyz0123456789-"
def nameM (z : Str) : Bool := decide (1 ≤ z.length ∧ z.length ≤ 12) && z.cps.toList.all fun c => decide (c ∈ chs36.cps.toList)
def nameV : V → Bool
  | .str z => nameM z
  | _ => false
def slash : Str := "/"
def pathM (z : Str) : Bool := decide (z.length ≤ 60) && (decide (V.str z = V.str "") || (Txt.split z slash).all nameM)
def pathV : V → Bool
  | .str z => pathM z
  | _ => false
/-- a text that is not too long, or None -/
def TxtV (x : V) : Prop := x = .non ∨ ∃ z : Str, x = .str z ∧ z.length ≤ 60000
def sp_is_name (K : PySem.W.Frag) (a : Ad) : Sp := fun vs H Q _ => ∃ x, vs = [x] ∧ TxtV x ∧ ∀ H', Same H H' → Q (.bl (nameV x)) H'
theorem sp_is_name_len {K : PySem.W.Frag} {a : Ad} {vs : List V} {H : Hp} {Q : VK} {E : XK} (h : sp_is_name K a vs H Q E) : vs.length = 1 := by
  obtain ⟨x, rfl, _⟩ := h
  rfl
def sp_is_path (K : PySem.W.Frag) (a : Ad) : Sp := fun vs H Q _ => ∃ x, vs = [x] ∧ TxtV x ∧ ∀ H', Same H H' → Q (.bl (pathV x)) H'
theorem sp_is_path_len {K : PySem.W.Frag} {a : Ad} {vs : List V} {H : Hp} {Q : VK} {E : XK} (h : sp_is_path K a vs H Q E) : vs.length = 1 := by
  obtain ⟨x, rfl, _⟩ := h
  rfl
theorem txt_len {z : Str} (h : z.length ≤ 60000) : z.length ≤ sizeLine := Nat.le_of_lt (small _ h)
/-- the parts of a split text are no longer than the text -/
theorem spl_len {S : List Nat} : ∀ (xs : List Nat) (k : Nat) (acc : List Nat), ∀ p ∈ TL.spl S k acc xs, p.length ≤ acc.length + xs.length
  | [], k, acc, p, m => by
    rw [TL.spl_nil] at m
    rw [List.mem_singleton.mp m]
    exact Nat.le_add_right _ _
  | c :: r, 0, acc, p, m => by
    cases h : TL.pre S (c :: r) with
    | true =>
      rw [TL.spl_hit h] at m
      rcases List.mem_cons.mp m with m | m
      · rw [m]
        exact Nat.le_add_right _ _
      · have := spl_len r _ _ p m
        rw [List.length_cons]
        simp only [List.length_nil] at this
        omega
    | false =>
      rw [TL.spl_miss h] at m
      have := spl_len r _ _ p m
      rw [List.length_append, List.length_singleton] at this
      rw [List.length_cons]
      omega
  | c :: r, k + 1, acc, p, m => by
    have := spl_len r k acc p m
    rw [List.length_cons]
    omega
theorem split_len {z y : Str} (hy : TL.tl y ≠ []) (hk : y.cps.all (· < 256) = true) : ∀ w ∈ Txt.split z y, w.length ≤ z.length := fun w m => by
  have e := TL.split_spl z y hy (TL.kind_ok hk)
  have m2 : TL.tl w ∈ (Txt.split z y).map TL.tl := List.mem_map.mpr ⟨w, m, rfl⟩
  rw [e] at m2
  have := spl_len _ _ _ _ m2
  rw [TL.len_tl, TL.len_tl z]
  simpa using this
theorem slash_ok : TL.tl slash ≠ [] ∧ slash.cps.all (· < 256) = true ∧ TL.tl slash = [47] ∧ (slash.length == 0) = false := by decide +kernel
theorem all_bl {α : Type} (f : α → Bool) (xs : List α) : (xs.map f).all id = xs.all f := by rw [List.all_map]; rfl
/-! the law's own -/
def sp_law_name_due (K : PySem.W.Frag) (a : Ad) : Sp := fun vs H Q _ => ∃ z : Str, vs = [.str z] ∧ z.length ≤ 60000 ∧ ∀ H', Same H H' → Q (.bl (nameM z)) H'
theorem sp_law_name_due_len {K : PySem.W.Frag} {a : Ad} {vs : List V} {H : Hp} {Q : VK} {E : XK} (h : sp_law_name_due K a vs H Q E) : vs.length = 1 := by
  obtain ⟨z, rfl, _⟩ := h
  rfl
def sgs36 : Str := "abcz09-/aA_.@ ~"
def sp_law_text (K : PySem.W.Frag) (a : Ad) : Sp := fun vs H Q _ => ∃ (p l : Addr) (n : Int), vs = [.ref p, .int n] ∧ Pot H p l ∧ 0 ≤ n ∧ n ≤ 100 ∧
  ∀ (z : Str) (H' : Hp), z.length ≤ n.toNat → Pot H' p l → But p H H' → Q (.str z) H'
theorem sp_law_text_len {K : PySem.W.Frag} {a : Ad} {vs : List V} {H : Hp} {Q : VK} {E : XK} (h : sp_law_text K a vs H Q E) : vs.length = 2 := by
  obtain ⟨p, l, n, rfl, _⟩ := h
  rfl
def waysM (ns : List Str) : List Str := (List.range (ns.length - 1)).map fun i => Txt.join slash (ns.take (1 + i))
def sp_ways (K : PySem.W.Frag) (a : Ad) : Sp := fun vs H Q _ => ∃ (z : Str), vs = [.str z] ∧ z.length ≤ 1000 ∧
  ∀ (D : Addr) (H' : Hp), Same H H' → H' D = some (.lst ((waysM (Txt.split z slash)).map V.str)) → Q (.ref D) H'
theorem sp_ways_len {K : PySem.W.Frag} {a : Ad} {vs : List V} {H : Hp} {Q : VK} {E : XK} (h : sp_ways K a vs H Q E) : vs.length = 1 := by
  obtain ⟨z, rfl, _⟩ := h
  rfl
def sp_moved_path (K : PySem.W.Frag) (a : Ad) : Sp := fun vs H Q _ => ∃ (x y z : Str), vs = [.str x, .str y, .str z] ∧ x.length ≤ 60000 ∧ y.length ≤ 60000 ∧ z.length ≤ 60000 ∧
  Q (.str (z ++ cutS x (some (y.length : Int)) none)) H
theorem sp_moved_path_len {K : PySem.W.Frag} {a : Ad} {vs : List V} {H : Hp} {Q : VK} {E : XK} (h : sp_moved_path K a vs H Q E) : vs.length = 3 := by
  obtain ⟨x, y, z, rfl, _⟩ := h
  rfl
theorem join_len (y : Str) (ys : List Str) (m : Nat) (h : ∀ w ∈ ys, w.length ≤ m) : (ys.map (·.length)).sum ≤ ys.length * m ∧ (Txt.join y ys).length ≤ ys.length * m + ys.length * y.length := by
  have h1 : (ys.map (·.length)).sum ≤ ys.length * m := by
    induction ys with
    | nil => simp
    | cons w ws ih =>
      have a := h w (by simp)
      have b := ih fun x mx => h x (List.mem_cons_of_mem _ mx)
      rw [List.map_cons, List.sum_cons, List.length_cons, Nat.succ_mul]
      omega
  refine ⟨h1, ?_⟩
  have h2 := PySem.StrLaws.join_length_le y ys
  rw [TL.join_eq]
  omega
theorem one_len (c : Nat) : (⟨#[c]⟩ : Str).length = 1 := rfl
/-- signs joined -/
abbrev sgn (c : Nat) : Str := ⟨#[c]⟩
theorem join_signs (cs : List Nat) : TL.tl (Txt.join "" (cs.map sgn)) = cs := by
  rw [TL.join_eq, TL.tl_join]
  have e : TL.tl ("" : Str) = [] := rfl
  rw [e]
  have h : ∀ ps : List (List Nat), TL.joinL [] ps = ps.flatten := by
    intro ps
    induction ps with
    | nil => rfl
    | cons p ps ih =>
      cases ps with
      | nil => simp [TL.joinL]
      | cons q r =>
        show p ++ ([] ++ TL.joinL [] (q :: r)) = _
        rw [ih]
        simp
  rw [h, List.map_map]
  induction cs with
  | nil => rfl
  | cons c cs ih =>
    rw [List.map_cons, List.flatten_cons, ih]
    rfl
theorem joinL_app (S : List Nat) : ∀ (a b : List (List Nat)), a ≠ [] → TL.joinL S (a ++ b) = TL.joinL S a ++ (if b = [] then [] else S ++ TL.joinL S b)
  | [], _, h => absurd rfl h
  | [x], b, _ => by
    cases b with
    | nil => show x = x ++ _; rw [if_pos rfl, List.append_nil]
    | cons y r =>
      rw [if_neg (by simp)]
      rfl
  | x :: y :: r, b, _ => by
    have ih := joinL_app S (y :: r) b (by simp)
    show x ++ (S ++ TL.joinL S (y :: r ++ b)) = x ++ (S ++ TL.joinL S (y :: r)) ++ _
    rw [ih]
    simp [List.append_assoc]
theorem tl_slash : TL.tl slash = [47] := slash_ok.2.2.1
theorem tl_str_join (ns : List Str) : TL.tl (Txt.join slash ns) = TL.joinL [47] (ns.map TL.tl) := by rw [TL.join_eq, TL.tl_join, tl_slash]
theorem str_ext {x y : Str} (h : TL.tl x = TL.tl y) : x = y := TL.map_tl_inj (l := [x]) (m := [y]) (by rw [List.map_singleton, List.map_singleton, h]) |> fun e => (List.cons.inj e).1
theorem moved_eq (ns : List Str) (w : Str) (at_ : Nat) (h1 : 1 ≤ at_) (h2 : at_ ≤ ns.length) :
    w ++ cutS (Txt.join slash ns) (some ((Txt.join slash (ns.take at_)).length : Int)) none = Txt.join slash (w :: ns.drop at_) := by
  refine str_ext ?_
  have e1 : ns.take at_ ≠ [] := fun z => by
    have := congrArg List.length z
    rw [List.length_take, List.length_nil] at this
    omega
  have e2 : TL.tl (Txt.join slash ns) = TL.tl (Txt.join slash (ns.take at_)) ++ (if (ns.drop at_).map TL.tl = [] then [] else [47] ++ TL.joinL [47] ((ns.drop at_).map TL.tl)) := by
    rw [tl_str_join, tl_str_join, ← joinL_app [47] _ _ (by simpa using e1), ← List.map_append, List.take_append_drop]
  have e3 : TL.tl (cutS (Txt.join slash ns) (some ((Txt.join slash (ns.take at_)).length : Int)) none) = (TL.tl (Txt.join slash ns)).drop (Txt.join slash (ns.take at_)).length := by
    have le : (Txt.join slash (ns.take at_)).length ≤ (Txt.join slash ns).length := by
      rw [TL.len_tl, TL.len_tl (Txt.join slash ns), e2, List.length_append]
      omega
    unfold cutS
    show List.take _ (List.drop _ (TL.tl (Txt.join slash ns))) = _
    rw [HT.sIx_none, HT.sIx_nat, Nat.min_eq_left le]
    refine List.take_of_length_le ?_
    rw [List.length_drop, ← TL.len_tl]
    exact Nat.le_refl _
  rw [TL.tl_append, e3, TL.len_tl (Txt.join slash (ns.take at_)), e2, List.drop_left, tl_str_join, List.map_cons]
  have := joinL_app [47] [TL.tl w] ((ns.drop at_).map TL.tl) (by simp)
  exact this.symm
/-- codes below 256, and no slash in a name -/
theorem joinL_mem (S : List Nat) : ∀ (ps : List (List Nat)) (c : Nat), c ∈ TL.joinL S ps → c ∈ S ∨ ∃ p ∈ ps, c ∈ p
  | [], c, m => by cases m
  | [p], c, m => .inr ⟨p, by simp, m⟩
  | p :: q :: r, c, m => by
    have m : c ∈ p ++ (S ++ TL.joinL S (q :: r)) := m
    rcases List.mem_append.mp m with m | m
    · exact .inr ⟨p, by simp, m⟩
    · rcases List.mem_append.mp m with m | m
      · exact .inl m
      · rcases joinL_mem S (q :: r) c m with m | ⟨x, mx, m⟩
        · exact .inl m
        · exact .inr ⟨x, List.mem_cons_of_mem _ mx, m⟩
def NmOk (z : Str) : Prop := ∀ c ∈ TL.tl z, c < 256 ∧ c ≠ 47
theorem join_ok {ns : List Str} (h : ∀ w ∈ ns, NmOk w) : PyData.strOk (Txt.join slash ns) = true := by
  unfold PyData.strOk
  rw [Array.all_eq_true']
  intro c m
  have m : c ∈ TL.tl (Txt.join slash ns) := by simpa [TL.tl] using m
  rw [tl_str_join] at m
  refine decide_eq_true ?_
  rcases joinL_mem _ _ _ m with m | ⟨p, mp, m⟩
  · have := List.mem_singleton.mp m
    omega
  · obtain ⟨w, mw, rfl⟩ := List.mem_map.mp mp
    have := (h w mw c m).1
    omega
def strsD (ws : List Str) : PyData := .list (ws.map .str)
theorem dp_strs {K : PySem.W.Frag} {H : Hp} {a : Addr} {ws : List Str} (h : SqL K H a (ws.map V.str)) : Dp K H (.ref a) (strsD ws) := .lst h (by
  induction ws with
  | nil => exact .nil
  | cons w ws ih => exact .cons (.str w) (go ws))
where
  go : ∀ ws : List Str, DpAll K H (ws.map V.str) (ws.map .str)
    | [] => .nil
    | w :: ws => .cons (.str w) (go ws)
theorem strs_lay : ∀ {ws : List Str}, (∀ w ∈ ws, PyData.strOk w = true) → PyData.canLayAll0 (ws.map .str) = true
  | [], _ => rfl
  | w :: ws, h => by
    simp [PyData.canLayAll0, PyData.canLay0, h w (by simp), strs_lay fun x m => h x (List.mem_cons_of_mem _ m)]
theorem strs_depth : ∀ ws : List Str, PyData.depthAll (ws.map .str) = 0
  | [] => by simp [PyData.depthAll]
  | w :: ws => by simp [PyData.depthAll, PyData.depth, strs_depth ws]
theorem strs_shaped {ws : List Str} (h : ∀ w ∈ ws, PyData.strOk w = true) : SeqAt.shaped (strsD ws) = true := by
  unfold SeqAt.shaped
  rw [Bool.and_eq_true]
  refine ⟨by simp only [strsD, PyData.canLay0]; exact strs_lay h, decide_eq_true ?_⟩
  simp [strsD, PyData.depth, strs_depth]
theorem strs_refl {ws : List Str} (h : ∀ w ∈ ws, PyData.strOk w = true) : PyData.eqv (strsD ws) (strsD ws) = true := SeqAt.eqv_refl _ (by simp only [strsD, PyData.canLay0]; exact strs_lay h)
theorem ways_join {ns : List Str} (h : ∀ w ∈ ns, NmOk w) (h1 : 1 ≤ ns.length) : waysM (Txt.split (Txt.join slash ns) slash) = (List.range (ns.length - 1)).map fun i => Txt.join slash (ns.take (1 + i)) := by
  rw [TL.split_join tl_slash slash_ok.2.1 (fun z => by rw [z] at h1; cases h1) (fun w m c => (h w m 47 c).2 rfl)]
  rfl
theorem ways_empty : waysM (Txt.split "" slash) = [] := by
  have e : Txt.split "" slash = [("" : Str)] := TL.split_join (y := slash) (parts := [("" : Str)]) tl_slash slash_ok.2.1 (by simp) (fun p m c => by
    rw [List.mem_singleton.mp m] at c
    cases c)
  rw [e]
  rfl
section
variable {P : Program} {w : World} {K : PySem.W.Frag} {mg : Str → Option Value} {base : Heap} {a : Ad}
theorem sc_is_name : FnScope ["text", "character"] ["text"] (defScope s_is_name) := ⟨rfl, rfl, rfl, by decide +kernel, rfl, by decide +kernel, by decide +kernel⟩
theorem ok_is_name (T : Txt K mg a) : FnOk P w K mg base CX0 1 a.f_is_name a.d_is_name ["text"] (sp_is_name K a) := by
  refine T.F_is_name.ok sc_is_name (fun vs H Q E h => ?len) (fun cdv A outer s H vs Q E hr h => ?body)
  case len =>
    exact sp_is_name_len h
  case body =>
    obtain ⟨x, rfl, hx, k⟩ := h
    refine ⟨_, (pss_cons (ps_if (PW.pt (pw_or (pt_not (pt_val (pe_callB call_isi (by rfl) T.n_isinstance (by decide +kernel) (pa_cons (pv 0) (pa_cons (pe_bltn (v := .ty "str") (by rfl) T.n_str (by decide +kernel) rfl) pa_nil))))) (pw_or1 (pt_not (pt_chain op_le op_le pe_int (pe_callB call_len_str (by rfl) T.n_len PySem.boot_len (pa_cons (pv 0) pa_nil)) (pe_const T.g_MAX_NAME))))))
      (pss_one (ps_ret pe_bl))
      pss_nil)
      (pss_one (ps_ret (pe_callB (cr_all rfl) (by rfl) T.n_all (by decide +kernel) (pa_cons (pe_lc (own := [("character", 1)]) (g := (gName 1)) (by rfl) sc_is_name.nd (pi_str (pv 0)) (blkOk_by (own := [("character", 1)]) (N := ["text", "character"]) (sc := defScope s_is_name) (by decide +kernel))
      (fun _ _ _ _ _ => (pg_name (i := 1) sc_is_name.nd rfl (Or.inl rfl))) (fun _ _ _ _ _ => pts_nil) (fun _ _ _ _ _ => (pe_cmpR op_in_sign (pv 1) (pe_const T.g_NAME_CHARACTERS) (by rfl)))) pa_nil))))), ?_⟩
    rcases hx with rfl | ⟨z, rfl, hz⟩
    · exact ⟨_, rfl, _, _, _, _, false, rfl, .ty "str", .base .non, kit_ty (by decide +kernel), _, rfl, iteT (iteT (k _ (Same.refl _)))⟩
    refine ⟨_, rfl, _, _, _, _, true, rfl, .ty "str", .base (.str z), kit_ty (by decide +kernel), _, rfl, iteF ?_⟩
    refine ⟨_, rfl, _, rfl, txt_len hz, _, _, rfl, rfl, _, rfl, ?_⟩
    have no : ¬ (1 ≤ z.length ∧ z.length ≤ 12) → Q (.bl false) H := fun c => by
      have : Q (.bl (nameM z)) H := k H (Same.refl _)
      unfold nameM at this
      rw [decide_eq_false c] at this
      exact this
    refine ite2 (fun c1 => ?_) (fun c1 => ?_)
    rotate_left
    · exact ⟨_, rfl, iteT (no fun q => c1 (decide_eq_true (by omega)))⟩
    refine ⟨_, _, rfl, rfl, _, rfl, ?_⟩
    refine ite2 (fun c2 => ?_) (fun c2 => ?_)
    · exact no fun q => by
        rw [decide_eq_true (show (z.length : Int) ≤ 12 by omega)] at c2
        cases c2
    have c1 := of_decide_eq_true c1
    have c2 : z.length ≤ 12 := Classical.byContradiction fun q => c2 (by rw [decide_eq_false (show ¬ (z.length : Int) ≤ 12 by omega)]; rfl)
    refine ⟨_, rfl, z, rfl, fun D nD => ?_⟩
    refine lc_it (walk_str (z := z)) (fun i H' => Same H H' ∧ H' D = some (.lst (((z.cps.toList.take i).map fun c => decide (c ∈ chs36.cps.toList)).map V.bl))) ⟨Same.new nD, upd_same⟩ (fun _ _ _ _ => True.intro) ?_ ?_
    · rintro i y H1 H2 hi ⟨s1, d1⟩ ⟨rfl, c, hc, rfl⟩
      have il : z.cps.size ≤ 12 := by
        have : z.length = z.cps.size := rfl
        omega
      have hc' : z.cps.toList[i]? = some c := by rw [Array.getElem?_toList]; exact hc
      refine ⟨rfl, _, rfl, c, _, rfl, rfl, _, d1, small _ (by rw [List.length_map, List.length_map, List.length_take]; omega), same_put s1 nD, ?_⟩
      rw [upd_same, take_snoc hc', List.map_append, List.map_append]
      rfl
    rintro H1 ⟨s1, d1⟩
    refine ⟨D, _, rfl, SqL.of d1, ?_⟩
    rw [all_bl]
    have e : z.cps.toList.take z.cps.size = z.cps.toList := List.take_of_length_le (by rw [Array.length_toList]; exact Nat.le_refl _)
    rw [e]
    have : Q (.bl (nameM z)) H1 := k H1 s1
    unfold nameM at this
    rw [decide_eq_true (show 1 ≤ z.length ∧ z.length ≤ 12 by omega), Bool.true_and] at this
    exact this
theorem sc_ways : FnScope ["path", "names", "many"] ["path"] (defScope s_ways) := ⟨rfl, rfl, rfl, by decide +kernel, rfl, by decide +kernel, by decide +kernel⟩
theorem ok_ways (T : Txt K mg a) : FnOk P w K mg base CX0 1 a.f_ways a.d_ways ["path"] (sp_ways K a) := by
  refine T.F_ways.ok sc_ways (fun vs H Q E h => ?len) (fun cdv A outer s H vs Q E hr h => ?body)
  case len =>
    exact sp_ways_len h
  case body =>
    obtain ⟨z, rfl, hz, k⟩ := h
    refine ⟨_, (pss_cons (ps_set (i := 1) sc_ways.nd rfl (Or.inr rfl) (pe_split (pv 0) pe_str))
      (pss_one (ps_ret (pe_lc (own := [("many", 2)]) (g := (gName 2)) (by rfl) sc_ways.nd (pi_range2 (by rfl) T.n_range (pa_cons pe_int (pa_cons (pe_callB call_len_seq (by rfl) T.n_len PySem.boot_len (pa_cons (pv 1) pa_nil)) pa_nil))) (blkOk_by (own := [("many", 2)]) (N := ["path", "names", "many"]) (sc := defScope s_ways) (by decide +kernel))
      (fun _ _ _ _ _ => (pg_name (i := 2) sc_ways.nd rfl (Or.inl rfl))) (fun _ _ _ _ _ => pts_nil) (fun _ _ _ _ _ => (by exact (pe_join pe_str (pe_slice (by exact sl_list : SlR _ (rSlL K)) (pv 1) po_none (po_some (pv 2)))) : PE _ _ (tM1 (rJoinT K) _ _))))))), ?_⟩
    have lp : (Txt.split z slash).length ≤ z.length + 2 := PyProof.Rows.split_le z slash
    have ln := split_len (z := z) slash_ok.1 slash_ok.2.1
    obtain ⟨ps, hps⟩ : ∃ ps, Txt.split z slash = ps := ⟨_, rfl⟩
    have hp1 : 1 ≤ ps.length := by rw [← hps]; exact (PyProof.Rows.fact_split z slash).1
    rw [hps] at k lp ln
    refine ⟨_, rfl, ⟨_, rfl⟩, z, slash, rfl, rfl, slash_ok.2.2.2, Nat.le_trans (by omega : _ ≤ 60002) (by decide), fun p np => ?_⟩
    have s1 := Same.new (o := .lst ((Txt.split z slash).map V.str)) np
    have d1 : upd H p (.lst ((Txt.split z slash).map V.str)) p = some (.lst ((Txt.split z slash).map V.str)) := upd_same
    generalize upd H p (.lst ((Txt.split z slash).map V.str)) = H1 at s1 d1 ⊢
    rw [hps] at d1
    refine ⟨_, rfl, p, _, rfl, .inl (SqL.of d1), 1, _, rfl, ⟨by decide, by decide, by rw [List.length_map]; omega, by rw [List.length_map]; omega⟩, fun D nD => ?_⟩
    have e1 : (((ps.map V.str).length : Nat) - (1 : Int)).toNat = ps.length - 1 := by rw [List.length_map]; omega
    rw [e1]
    refine lc_it (walk_range (lo := 1) (n := ps.length - 1)) (fun i H' => Same H1 H' ∧ H' D = some (.lst ((((List.range i).map fun i => Txt.join slash (ps.take (1 + i)))).map V.str))) ⟨Same.new nD, upd_same⟩ (fun _ _ _ _ => True.intro) ?_ ?_
    · rintro i y H2 H3 hi ⟨s2, d2⟩ ⟨rfl, rfl⟩
      refine ⟨rfl, ⟨_, rfl⟩, _, rfl, _, rfl, _, rfl, p, _, rfl, SqL.of (s2 _ _ d1), fun q nq => ?_⟩
      rw [show (1 : Int) + (i : Int) = ((1 + i : Nat) : Int) by omega, cut_take, ← List.map_take]
      have s3 := Same.new (o := .lst ((ps.take (1 + i)).map V.str)) nq
      have jl := join_len slash (ps.take (1 + i)) 1000 fun w m => Nat.le_trans (ln w (List.mem_of_mem_take m)) hz
      have tl : (ps.take (1 + i)).length ≤ 1002 := by rw [List.length_take]; omega
      have sl1 : slash.length = 1 := rfl
      refine ⟨slash, q, _, rfl, rfl, .inl (SqL.of upd_same), ?_, ?_⟩
      · rw [sl1]
        have := Nat.mul_le_mul_right 1000 tl
        omega
      refine ⟨_, s3 _ _ d2, small _ (by rw [List.length_map, List.length_map, List.length_range]; omega), same_put (s2.trans s3) nD, ?_⟩
      rw [upd_same, List.range_succ, List.map_append, List.map_append]
      rfl
    rintro H2 ⟨s2, d2⟩
    exact k D H2 (s1.trans s2) d2
theorem sc_moved_path : FnScope ["path", "old", "new"] ["path", "old", "new"] (defScope s_moved_path) := ⟨rfl, rfl, rfl, by decide +kernel, rfl, by decide +kernel, by decide +kernel⟩
theorem ok_moved_path (T : Txt K mg a) : FnOk P w K mg base CX0 1 a.f_moved_path a.d_moved_path ["path", "old", "new"] (sp_moved_path K a) := by
  refine T.F_moved_path.ok sc_moved_path (fun vs H Q E h => ?len) (fun cdv A outer s H vs Q E hr h => ?body)
  case len =>
    exact sp_moved_path_len h
  case body =>
    obtain ⟨x, y, z, rfl, hx, hy, hz, k⟩ := h
    refine ⟨_, (pss_one (ps_ret (pe_op op_add_str (pv 2) (pe_slice sl_str (pv 0) (po_some (pe_callB call_len_str (by rfl) T.n_len PySem.boot_len (pa_cons (pv 1) pa_nil))) po_none)))), ?_⟩
    refine ⟨_, rfl, _, rfl, _, rfl, y, rfl, txt_len hy, _, rfl, ?_⟩
    refine ⟨x, rfl, txt_len hx, z, _, rfl, rfl, ?_, k⟩
    have : (cutS x (some (y.length : Int)) none).length ≤ x.length := by
      unfold cutS
      show (List.toArray _).size ≤ _
      rw [List.size_toArray, List.length_take, List.length_drop]
      have : x.cps.toList.length = x.length := rfl
      omega
    exact Nat.le_trans (by omega : _ ≤ 120000) (by decide)
theorem sc_law_pot : FnScope ["script", "seed", "cell"] ["script"] (defScope s_law_pot) := ⟨rfl, rfl, rfl, by decide +kernel, rfl, by decide +kernel, by decide +kernel⟩
theorem ok_law_pot (T : Txt K mg a) : FnOk P w K mg base CX0 1 a.f_law_pot a.d_law_pot ["script"] (sp_law_pot K a) := by
  refine T.F_law_pot.ok sc_law_pot (fun vs H Q E h => ?len) (fun cdv A outer s H vs Q E hr h => ?body)
  case len =>
    exact sp_law_pot_len h
  case body =>
    obtain ⟨s, ns, rfl, hS, hlen, k⟩ := h
    refine ⟨_, (pss_cons (ps_set (i := 1) sc_law_pot.nd rfl (Or.inl rfl) pe_int)
      (pss_cons (ps_for PassesOwn.never rfl (pi_list (pv 0)) (pg_name (i := 2) sc_law_pot.nd rfl (Or.inl rfl))
      (pss_one (ps_set (i := 1) sc_law_pot.nd rfl (Or.inl rfl) (pe_op op_mod (pe_callTy call_int1 (by rfl) T.n_int (by decide +kernel) (pa_cons (pe_op op_add (pe_op op_mul (pv 1) pe_int) (pv 2)) pa_nil)) pe_int))))
      (pss_one (ps_ret (pe_lst (pa_cons (pe_callTy call_list_of (by rfl) T.n_list (by decide +kernel) (pa_cons (pv 0) pa_nil)) (pa_cons pe_int (pa_cons pe_int (pa_cons (pv 1) pa_nil))))))))), ?_⟩
    refine ⟨_, rfl, s, rfl, ⟨_, hS⟩, for_list (K := K) (a := s) (xs := ns.map V.int) (fun i σ H' => ∃ (z : Int) (v : Option V), σ = [some (.ref s), some (.int z), v] ∧ 0 ≤ z ∧ z < 2147483647 ∧ H' = H)
      ⟨1, none, rfl, by decide, by decide, rfl⟩ (fun i σ H' _ ⟨_, _, _, _, _, e⟩ => by rw [e]; exact hS) ?_ ?_⟩
    · rintro i y σ H' hi ⟨z, v, rfl, z0, z1, rfl⟩
      obtain ⟨c, hc, rfl⟩ := int_item hi
      refine ⟨_, rfl, _, _, rfl, rfl, .inl ⟨by omega, by omega⟩, _, rfl, _, _, rfl, rfl, .inl ⟨_, rfl, _, _, rfl, rfl, (by show (0 : Int) < 2147483647; decide), ?_⟩⟩
      exact ⟨_, _, rfl, Int.emod_nonneg _ (by decide), Int.emod_lt_of_pos _ (by decide), rfl⟩
    · rintro σ H' ⟨z, v, rfl, z0, z1, rfl⟩
      refine ⟨_, rfl, s, _, rfl, .inl hS, fun l hl => ?_⟩
      refine ⟨_, rfl, (by show 4 ≤ sizeLine; decide), fun p hp => ?_⟩
      have npl : l ≠ p := fun e => by subst e; rw [upd_same] at hp; cases hp
      have hp0 : H' p = none := by rw [upd_ne npl.symm] at hp; exact hp
      refine k p l _ hp0 hl (fun b o e => ?_) ⟨ns, 0, 0, z, upd_same, by rw [upd_ne npl, upd_same], by decide, by decide, z0, z1⟩
      rw [upd_ne (ne_of_none e hp0), upd_ne (ne_of_none e hl)]
      exact e
theorem sc_law_next : FnScope ["pot", "limit", "cell", "found", "mixed"] ["pot", "limit"] (defScope s_law_next) := ⟨rfl, rfl, rfl, by decide +kernel, rfl, by decide +kernel, by decide +kernel⟩
theorem ok_law_next (T : Txt K mg a) : FnOk P w K mg base CX0 1 a.f_law_next a.d_law_next ["pot", "limit"] (sp_law_next K a) := by
  refine T.F_law_next.ok sc_law_next (fun vs H Q E h => ?len) (fun cdv A outer s H vs Q E hr h => ?body)
  case len =>
    exact sp_law_next_len h
  case body =>
    obtain ⟨p, l, m, rfl, hP, m0, m1, k⟩ := h
    obtain ⟨ns, i, acc, seed, h1, h2, i0, acc0, s0, s1⟩ := id hP
    have nlp := hP.ne
    have mod0 : ∀ x : Int, 0 ≤ x % m := fun x => Int.emod_nonneg _ (by omega)
    have mod1 : ∀ x : Int, x % m < m := fun x => Int.emod_lt_of_pos _ m0
    have mW : m.natAbs < 2 ^ 400 := m1
    refine ⟨_, (Evl.pss_cut (ps_if (PW.pt (pw_and (pt_cmpR op_eq (pe_ix ix_list (pv 0) pe_int (fun _ _ => rfl)) pe_int (nomark _)) (pw_and1 (pt_cmpR op_lt (pe_ix ix_list (pv 0) pe_int (fun _ _ => rfl)) (pe_callB call_len_seq (by rfl) T.n_len PySem.boot_len (pa_cons (pe_ix ix_list (pv 0) pe_int (fun _ _ => rfl)) pa_nil)) (nomark _)))))
      (pss_cons (ps_set (i := 2) sc_law_next.nd rfl (Or.inl rfl) (pe_callB call_abs (by rfl) T.n_abs (by decide +kernel) (pa_cons (pe_callTy call_int1 (by rfl) T.n_int (by decide +kernel) (pa_cons (pe_ix ix_list (pe_ix ix_list (pv 0) pe_int (fun _ _ => rfl)) (pe_ix ix_list (pv 0) pe_int (fun _ _ => rfl)) (fun _ _ => rfl)) pa_nil)) pa_nil)))
      (pss_cons (ps_asg (pe_op op_add (pe_ix ix_list (pv 0) pe_int (fun _ _ => rfl)) pe_int) (pg_sub (pv 0) pe_int set_list))
      (pss_cons (ps_if (pt_cmpR op_lt (pv 2) (pe_op op_pow pe_int pe_int) (nomark _))
      (pss_one (ps_ret (pe_op op_mod (pe_callTy call_int1 (by rfl) T.n_int (by decide +kernel) (pa_cons (pv 2) pa_nil)) (pv 1))))
      pss_nil)
      (pss_one (ps_asg (pv 2) (pg_sub (pv 0) pe_int set_list))))))
      pss_nil)
      (pss_cons (ps_if (pt_cmpR op_gt (pe_ix ix_list (pv 0) pe_int (fun _ _ => rfl)) pe_int (nomark _))
      (pss_cons (ps_set (i := 3) sc_law_next.nd rfl (Or.inl rfl) (pe_op op_mod (pe_callTy call_int1 (by rfl) T.n_int (by decide +kernel) (pa_cons (pe_ix ix_list (pv 0) pe_int (fun _ _ => rfl)) pa_nil)) (pv 1)))
      (pss_cons (ps_asg (pe_op op_fdivW (pe_ix ix_list (pv 0) pe_int (fun _ _ => rfl)) (pv 1)) (pg_sub (pv 0) pe_int set_list))
      (pss_one (ps_ret (pv 3)))))
      pss_nil)
      (pss_cons (ps_asg (pe_op op_mod (pe_callTy call_int1 (by rfl) T.n_int (by decide +kernel) (pa_cons (pe_op op_add (pe_op op_mul (pe_ix ix_list (pv 0) pe_int (fun _ _ => rfl)) pe_int) pe_int) pa_nil)) pe_int) (pg_sub (pv 0) pe_int set_list))
      (pss_cons (ps_set (i := 4) sc_law_next.nd rfl (Or.inl rfl) (pe_op op_mod (pe_callTy call_int1 (by rfl) T.n_int (by decide +kernel) (pa_cons (pe_op op_add (pe_op op_mul (pe_ix ix_list (pv 0) pe_int (fun _ _ => rfl)) pe_int) (pe_op op_fdiv (pe_ix ix_list (pv 0) pe_int (fun _ _ => rfl)) pe_int)) pa_nil)) pe_int))
      (pss_one (ps_ret (pe_op op_mod (pe_callTy call_int1 (by rfl) T.n_int (by decide +kernel) (pa_cons (pv 4) pa_nil)) (pv 1)))))))), ?_⟩
    refine ⟨fun σ H' => ∃ (u : Option V) (i' acc' : Int), σ = [some (.ref p), some (.int m), u, none, none] ∧ H' p = some (.lst [.ref l, .int i', .int acc', .int seed]) ∧ 0 ≤ i' ∧ 0 ≤ acc' ∧ Only p H H', ?_, ?_⟩
    · -- if pot[2] == 0 and pot[1] < len(pot[0])
      refine ⟨_, rfl, p, _, _, _, rfl, rfl, SqL.of h1, at_of (j := 2) rfl rfl, rfl, _, rfl, ?_⟩
      refine ite2 (fun e2 => ?_) (fun e2 => iteF ⟨none, i, acc, rfl, h1, i0, acc0, Only.refl⟩)
      refine ⟨_, rfl, p, _, _, _, rfl, rfl, SqL.of h1, at_of (j := 1) rfl rfl, _, rfl, p, _, _, _, rfl, rfl, SqL.of h1, at_of (j := 0) rfl rfl, l, _, rfl, .inl (SqL.of h2), _, _, rfl, rfl, _, rfl, ?_⟩
      refine ite2 (fun e3 => ?_) (fun e3 => ⟨none, i, acc, rfl, h1, i0, acc0, Only.refl⟩)
      have i1 : i < (ns.length : Int) := by
        have := of_decide_eq_true e3
        rw [List.length_map] at this
        exact this
      obtain ⟨j, rfl⟩ : ∃ j : Nat, i = (j : Int) := ⟨i.toNat, by omega⟩
      have hj : j < ns.length := by omega
      have hit : (ns.map V.int)[j]? = some (V.int ns[j]) := by rw [List.getElem?_map, List.getElem?_eq_getElem hj]; rfl
      -- cell = abs(int(pot[0][pot[1]])); pot[1] = pot[1] + 1
      refine ⟨_, rfl, p, _, _, _, rfl, rfl, SqL.of h1, at_of (j := 0) rfl rfl, _, rfl, p, _, _, _, rfl, rfl, SqL.of h1, at_of (j := 1) rfl rfl, l, _, _, _, rfl, rfl, SqL.of h2, at_of (j := j) rfl hit, .inl ⟨_, rfl, _, rfl, ?_⟩⟩
      have abs0 : 0 ≤ (if ns[j] < 0 then -ns[j] else ns[j]) := by split <;> omega
      generalize (if ns[j] < 0 then -ns[j] else ns[j]) = c at abs0 ⊢
      refine ⟨_, rfl, p, _, _, _, rfl, rfl, SqL.of h1, at_of (j := 1) rfl rfl, _, _, rfl, rfl, _, rfl, p, _, _, 1, rfl, rfl, h1, rfl, ?_⟩
      have g1 : upd H p (.lst (List.set [V.ref l, V.int (j : Int), V.int acc, V.int seed] 1 (V.int ((j : Int) + 1)))) p = some (.lst [.ref l, .int ((j : Int) + 1), .int acc, .int seed]) := upd_same
      -- if cell < 10 ** 18: return int(cell) % limit
      refine ⟨_, rfl, _, _, rfl, rfl, ⟨by decide, by decide, by decide⟩, _, _, rfl, rfl, _, rfl, ?_⟩
      refine ite2 (fun e4 => ?_) (fun e4 => ?_)
      · refine ⟨_, rfl, .inl ⟨_, rfl, _, rfl, _, _, rfl, rfl, m0, ?_⟩⟩
        exact k _ _ (mod0 _) (mod1 _) ⟨ns, _, _, _, g1, by rw [upd_ne nlp]; exact h2, by omega, acc0, s0, s1⟩ Only.upd
      · -- pot[2] = cell
        refine ⟨_, rfl, _, rfl, p, _, _, 2, rfl, rfl, g1, rfl, ?_⟩
        exact ⟨_, (j : Int) + 1, c, rfl, upd_same, by omega, abs0, Only.upd.trans Only.upd⟩
    · rintro σ H' ⟨u, i', acc', rfl, g1, i0', acc0', oH⟩
      have g2 : H' l = some (.lst (ns.map V.int)) := by rw [oH _ nlp]; exact h2
      -- if pot[2] > 0
      refine ⟨_, rfl, p, _, _, _, rfl, rfl, SqL.of g1, at_of (j := 2) rfl rfl, _, _, rfl, rfl, _, rfl, ?_⟩
      refine ite2 (fun e2 => ?_) (fun e2 => ?_)
      · refine ⟨_, rfl, p, _, _, _, rfl, rfl, SqL.of g1, at_of (j := 2) rfl rfl, .inl ⟨_, rfl, _, rfl, _, _, rfl, rfl, m0, ?_⟩⟩
        refine ⟨_, rfl, p, _, _, _, rfl, rfl, SqL.of g1, at_of (j := 2) rfl rfl, _, rfl, _, _, rfl, rfl, wide_div m0 mW (by decide) (by decide), _, rfl, p, _, _, 2, rfl, rfl, g1, rfl, ?_⟩
        refine ⟨_, rfl, ?_⟩
        exact k _ _ (mod0 _) (mod1 _) ⟨ns, i', acc' / m, seed, upd_same, by rw [upd_ne nlp]; exact g2, i0', Int.ediv_nonneg acc0' (by omega), s0, s1⟩ (oH.trans Only.upd)
      · -- pot[3] = int(pot[3] * 48271 + 12345) % 2147483647
        refine ⟨_, rfl, p, _, _, _, rfl, rfl, SqL.of g1, at_of (j := 3) rfl rfl, _, _, rfl, rfl, .inl ⟨by omega, by omega⟩, _, _, rfl, rfl, .inl ⟨_, rfl, _, _, rfl, rfl, (by show (0 : Int) < 2147483647; decide), ?_⟩⟩
        have t0 := Int.emod_nonneg (seed * 48271 + 12345) (show (2147483647 : Int) ≠ 0 by decide)
        have t1 := Int.emod_lt_of_pos (seed * 48271 + 12345) (show (0 : Int) < 2147483647 by decide)
        refine ⟨_, rfl, p, _, _, 3, rfl, rfl, g1, rfl, ?_⟩
        have g3 : upd H' p (.lst (List.set [V.ref l, V.int i', V.int acc', V.int seed] 3 (V.int ((seed * 48271 + 12345) % 2147483647)))) p = some (.lst [.ref l, .int i', .int acc', .int ((seed * 48271 + 12345) % 2147483647)]) := upd_same
        refine ⟨_, rfl, p, _, _, _, rfl, rfl, SqL.of g3, at_of (j := 3) rfl rfl, _, _, rfl, rfl, .inl ⟨by omega, by omega⟩, _, rfl, p, _, _, _, rfl, rfl, SqL.of g3, at_of (j := 3) rfl rfl, _, _, rfl, rfl, ⟨by decide, by decide⟩, _, _, rfl, rfl, .inl ⟨_, rfl, _, _, rfl, rfl, (by show (0 : Int) < 2147483629; decide), ?_⟩⟩
        refine ⟨_, rfl, .inl ⟨_, rfl, _, rfl, _, _, rfl, rfl, m0, ?_⟩⟩
        exact k _ _ (mod0 _) (mod1 _) ⟨ns, _, _, _, g3, by rw [upd_ne nlp]; exact g2, i0', acc0', t0, t1⟩ (oH.trans Only.upd)
theorem sc_law_name_due : FnScope ["text", "good", "sign"] ["text"] (defScope s_law_name_due) := ⟨rfl, rfl, rfl, by decide +kernel, rfl, by decide +kernel, by decide +kernel⟩
theorem ok_law_name_due (T : Txt K mg a) : FnOk P w K mg base CX0 1 a.f_law_name_due a.d_law_name_due ["text"] (sp_law_name_due K a) := by
  refine T.F_law_name_due.ok sc_law_name_due (fun vs H Q E h => ?len) (fun cdv A outer s H vs Q E hr h => ?body)
  case len =>
    exact sp_law_name_due_len h
  case body =>
    obtain ⟨z, rfl, hz, k⟩ := h
    refine ⟨_, (pss_cons (ps_set (i := 1) sc_law_name_due.nd rfl (Or.inr rfl) pe_str)
      (pss_one (ps_ret (pe_and (pe_chain op_le op_le pe_int (pe_callB call_len_str (by rfl) T.n_len PySem.boot_len (pa_cons (pv 0) pa_nil)) pe_int) (pe_one (pe_callB (cr_all rfl) (by rfl) T.n_all (by decide +kernel) (pa_cons (pe_lc (own := [("sign", 2)]) (g := (gName 2)) (by rfl) sc_law_name_due.nd (pi_str (pv 0)) (blkOk_by (own := [("sign", 2)]) (N := ["text", "good", "sign"]) (sc := defScope s_law_name_due) (by decide +kernel))
      (fun _ _ _ _ _ => (pg_name (i := 2) sc_law_name_due.nd rfl (Or.inl rfl))) (fun _ _ _ _ _ => pts_nil) (fun _ _ _ _ _ => (pe_cmpR op_in_sign (pv 2) (pv 1) (by rfl)))) pa_nil))))))), ?_⟩
    refine ⟨_, rfl, _, rfl, txt_len hz, _, _, rfl, rfl, ?_⟩
    have no : ¬ (1 ≤ z.length ∧ z.length ≤ 12) → Q (.bl false) H := fun c => by
      have : Q (.bl (nameM z)) H := k H (Same.refl _)
      unfold nameM at this
      rw [decide_eq_false c] at this
      exact this
    refine ⟨_, rfl, ite2 (fun c1 => ?_) (fun c1 => ⟨_, rfl, iteF (no fun q => c1 (decide_eq_true (by omega)))⟩)⟩
    refine ⟨_, _, rfl, rfl, _, rfl, ite2 (fun c2 => ?_) (fun c2 => no fun q => c2 (decide_eq_true (by omega)))⟩
    have c1 := of_decide_eq_true c1
    have c2 := of_decide_eq_true c2
    refine ⟨_, rfl, z, rfl, fun D nD => ?_⟩
    refine lc_it (walk_str (z := z)) (fun i H' => Same H H' ∧ H' D = some (.lst (((z.cps.toList.take i).map fun c => decide (c ∈ chs36.cps.toList)).map V.bl))) ⟨Same.new nD, upd_same⟩ (fun _ _ _ _ => True.intro) ?_ ?_
    · rintro i y H1 H2 hi ⟨s1, d1⟩ ⟨rfl, c, hc, rfl⟩
      have hc' : z.cps.toList[i]? = some c := by rw [Array.getElem?_toList]; exact hc
      have il : z.cps.size ≤ 12 := by
        have : z.length = z.cps.size := rfl
        omega
      refine ⟨rfl, _, rfl, _, rfl, c, _, rfl, rfl, _, d1, small _ (by rw [List.length_map, List.length_map, List.length_take]; omega), same_put s1 nD, ?_⟩
      rw [upd_same, take_snoc hc', List.map_append, List.map_append]
      rfl
    rintro H1 ⟨s1, d1⟩
    refine ⟨D, _, rfl, SqL.of d1, ?_⟩
    rw [all_bl]
    have e : z.cps.toList.take z.cps.size = z.cps.toList := List.take_of_length_le (by rw [Array.length_toList]; exact Nat.le_refl _)
    rw [e]
    have : Q (.bl (nameM z)) H1 := k H1 s1
    unfold nameM at this
    rw [decide_eq_true (show 1 ≤ z.length ∧ z.length ≤ 12 by omega), Bool.true_and] at this
    exact this
theorem sc_is_path : FnScope ["text", "name"] ["text"] (defScope s_is_path) := ⟨rfl, rfl, rfl, by decide +kernel, rfl, by decide +kernel, by decide +kernel⟩
theorem ok_is_path (T : Txt K mg a) : FnOk P w K mg base CX0 2 a.f_is_path a.d_is_path ["text"] (sp_is_path K a) := by
  refine T.F_is_path.ok sc_is_path (fun vs H Q E h => ?len) (fun cdv A outer s H vs Q E hr h => ?body)
  case len =>
    exact sp_is_path_len h
  case body =>
    obtain ⟨x, rfl, hx, k⟩ := h
    refine ⟨_, (pss_cons (ps_if (PW.pt (pw_or (pt_not (pt_val (pe_callB call_isi (by rfl) T.n_isinstance (by decide +kernel) (pa_cons (pv 0) (pa_cons (pe_bltn (v := .ty "str") (by rfl) T.n_str (by decide +kernel) rfl) pa_nil))))) (pw_or1 (pt_cmpR op_gt (pe_callB call_len_str (by rfl) T.n_len PySem.boot_len (pa_cons (pv 0) pa_nil)) (pe_const T.g_MAX_PATH) (nomark _)))))
      (pss_one (ps_ret pe_bl))
      pss_nil)
      (pss_one (ps_ret (pe_or (pe_cmpR op_eq (pv 0) pe_str (nomark _)) (pe_one (pe_callB (cr_all rfl) (by rfl) T.n_all (by decide +kernel) (pa_cons (pe_lc (own := [("name", 1)]) (g := (gName 1)) (by rfl) sc_is_path.nd (pi_list (pe_split (pv 0) pe_str)) (blkOk_by (own := [("name", 1)]) (N := ["text", "name"]) (sc := defScope s_is_path) (by decide +kernel))
      (fun _ _ _ _ _ => (pg_name (i := 1) sc_is_path.nd rfl (Or.inl rfl))) (fun _ _ _ _ _ => pts_nil) (fun _ _ _ _ _ => (pe_call (ok_is_name T) (hr.mono (by decide)) rfl T.g_is_name T.F_is_name.kp T.d_is_name .nil pass0 (pa_cons (pv 1) pa_nil)))) pa_nil))))))), ?_⟩
    rcases hx with rfl | ⟨z, rfl, hz⟩
    · exact ⟨_, rfl, _, _, _, _, false, rfl, .ty "str", .base .non, kit_ty (by decide +kernel), _, rfl, iteT (iteT (k _ (Same.refl _)))⟩
    refine ⟨_, rfl, _, _, _, _, true, rfl, .ty "str", .base (.str z), kit_ty (by decide +kernel), _, rfl, iteF ?_⟩
    refine ⟨_, rfl, _, rfl, txt_len hz, _, _, rfl, rfl, _, rfl, ?_⟩
    refine ite2 (fun c => ?_) (fun c => ?_)
    · have c := of_decide_eq_true c
      have : Q (.bl (pathM z)) H := k H (Same.refl _)
      unfold pathM at this
      rw [decide_eq_false (by omega)] at this
      exact this
    have c : z.length ≤ 60 := by
      have := of_decide_eq_false (show decide ((60 : Int) < z.length) = false by simpa using c)
      omega
    have goal : ∀ H', Same H H' → Q (.bl (decide (V.str z = V.str "") || (Txt.split z slash).all nameM)) H' := fun H' s => by
      have : Q (.bl (pathM z)) H' := k H' s
      unfold pathM at this
      rw [decide_eq_true c, Bool.true_and] at this
      exact this
    refine ⟨_, rfl, rfl, _, rfl, ?_⟩
    cases e : decide (V.str z = V.str "") with
    | true =>
      refine iteT ?_
      have := goal H (Same.refl _)
      rw [e] at this
      exact this
    | false =>
      refine iteF ⟨_, rfl, ⟨_, rfl⟩, z, slash, rfl, rfl, slash_ok.2.2.2, Nat.le_of_lt (small _ (by omega)), fun p np => ?_⟩
      have s1 := Same.new (o := .lst ((Txt.split z slash).map V.str)) np
      have d1 : upd H p (.lst ((Txt.split z slash).map V.str)) p = some (.lst ((Txt.split z slash).map V.str)) := upd_same
      generalize upd H p (.lst ((Txt.split z slash).map V.str)) = H1 at s1 d1 ⊢
      have lp : (Txt.split z slash).length ≤ 62 := Nat.le_trans (PyProof.Rows.split_le z slash) (by omega)
      have ln := split_len (z := z) slash_ok.1 slash_ok.2.1
      refine ⟨p, rfl, ⟨_, SqL.of d1⟩, fun D nD => ?_⟩
      refine lc_list (xs := (Txt.split z slash).map V.str) (fun i H' => Same H1 H' ∧ H' D = some (.lst ((((Txt.split z slash).take i).map nameM).map V.bl))) ⟨Same.new nD, upd_same⟩ (fun i H' _ q => SqL.of (q.1 _ _ d1)) ?_ ?_
      · rintro i y H2 hy ⟨s2, d2⟩
        obtain ⟨w, hw, rfl⟩ : ∃ w, (Txt.split z slash)[i]? = some w ∧ y = V.str w := by
          rw [List.getElem?_map] at hy
          cases q : (Txt.split z slash)[i]? with
          | none => rw [q] at hy; cases hy
          | some w => rw [q] at hy; exact ⟨w, rfl, (Option.some.inj hy).symm⟩
        have lw := ln w (List.mem_of_getElem? hw)
        refine ⟨rfl, _, rfl, .str w, rfl, .inr ⟨w, rfl, by omega⟩, fun H3 s3 => ⟨_, s3 _ _ d2, small _ (by rw [List.length_map, List.length_map, List.length_take]; omega), same_put (s2.trans s3) nD, ?_⟩⟩
        rw [upd_same, take_snoc hw, List.map_append, List.map_append]
        rfl
      rintro H2 ⟨s2, d2⟩
      refine ⟨D, _, rfl, SqL.of d2, ?_⟩
      rw [all_bl, List.length_map, List.take_length]
      have := goal H2 (s1.trans s2)
      rw [e] at this
      exact this
theorem sc_law_text : FnScope ["pot", "size", "signs", "limit", "k"] ["pot", "size"] (defScope s_law_text) := ⟨rfl, rfl, rfl, by decide +kernel, rfl, by decide +kernel, by decide +kernel⟩
theorem ok_law_text (T : Txt K mg a) : FnOk P w K mg base CX0 2 a.f_law_text a.d_law_text ["pot", "size"] (sp_law_text K a) := by
  refine T.F_law_text.ok sc_law_text (fun vs H Q E h => ?len) (fun cdv A outer s H vs Q E hr h => ?body)
  case len =>
    exact sp_law_text_len h
  case body =>
    obtain ⟨p, l, n, rfl, hP, n0, n1, k⟩ := h
    refine ⟨_, (pss_cons (ps_set (i := 2) sc_law_text.nd rfl (Or.inr rfl) pe_str)
      (pss_cons (ps_set (i := 3) sc_law_text.nd rfl (Or.inr rfl) (pe_ix ix_list (pe_lst (pa_cons pe_int (pa_cons pe_int (pa_cons pe_int pa_nil)))) (pe_call (ok_law_next T) (hr.mono (by decide)) rfl T.g_law_next T.F_law_next.kp T.d_law_next .nil pass0 (pa_cons (pv 0) (pa_cons pe_int pa_nil))) (fun _ _ => rfl)))
      (pss_one (ps_ret (pe_join pe_str (pe_lc (own := [("k", 4)]) (g := (gName 4)) (by rfl) sc_law_text.nd (pi_range1 (by rfl) T.n_range (pa_cons (pv 1) pa_nil)) (blkOk_by (own := [("k", 4)]) (N := ["pot", "size", "signs", "limit", "k"]) (sc := defScope s_law_text) (by decide +kernel))
      (fun _ _ _ _ _ => (pg_name (i := 4) sc_law_text.nd rfl (Or.inl rfl))) (fun _ _ _ _ _ => pts_nil) (fun _ _ _ _ _ => (pe_ix ix_str (pv 2) (pe_call (ok_law_next T) (hr.mono (by decide)) rfl T.g_law_next T.F_law_next.kp T.d_law_next .nil pass0 (pa_cons (pv 0) (pa_cons (pv 3) pa_nil))) (fun _ _ => rfl))))))))), ?_⟩
    refine ⟨by show 3 ≤ sizeLine; decide, fun q1 nq1 => ?_⟩
    have s1 := Same.new (o := .lst [V.int 7, .int 8, .int 15]) nq1
    have P1 := hP.same s1
    have dq : upd H q1 (.lst [V.int 7, .int 8, .int 15]) q1 = some (.lst [V.int 7, .int 8, .int 15]) := upd_same
    have oq := (hP.off nq1).1.symm
    generalize upd H q1 (.lst [V.int 7, .int 8, .int 15]) = H1 at s1 P1 dq ⊢
    refine ⟨_, rfl, p, l, 3, rfl, P1, by decide, by decide, fun v H2 v0 v3 P2 o2 => ?_⟩
    have hlim : ∃ lim : Int, ([V.int 7, .int 8, .int 15] : List V)[v.toNat]? = some (.int lim) ∧ 1 ≤ lim ∧ lim ≤ 15 := by
      have : v = 0 ∨ v = 1 ∨ v = 2 := by omega
      rcases this with rfl | rfl | rfl
      · exact ⟨7, rfl, by decide, by decide⟩
      · exact ⟨8, rfl, by decide, by decide⟩
      · exact ⟨15, rfl, by decide, by decide⟩
    obtain ⟨lim, hlv, lim1, lim15⟩ := hlim
    refine ⟨q1, _, _, _, rfl, rfl, SqL.of (o2.but _ _ dq oq), at_of (j := v.toNat) (by omega) hlv, ?_⟩
    have P3 := P2
    obtain ⟨m, rfl⟩ : ∃ m : Nat, n = (m : Int) := ⟨n.toNat, by omega⟩
    refine ⟨⟨_, rfl⟩, _, rfl, (m : Int), rfl, by omega, by omega, fun D nD => ?_⟩
    rw [Int.toNat_natCast] at k ⊢
    have offD := P3.off nD
    refine lc_it (walk_range (n := m)) (fun i H' => ∃ cs : List Nat, But p H2 H' ∧ Pot H' p l ∧ H' D = some (.lst ((cs.map sgn).map V.str)) ∧ cs.length = i) ⟨[], (Same.new nD).but, P3.new nD, upd_same, rfl⟩ (fun _ _ _ _ => True.intro) ?_ ?_
    · rintro i y H3 H4 hi ⟨cs, b3, P3, d3, l3⟩ ⟨rfl, rfl⟩
      refine ⟨rfl, _, rfl, _, rfl, _, rfl, p, l, lim, rfl, P3, by omega, by omega, fun u H5 u0 u1 P5 o5 => ?_⟩
      have lv : u.toNat < sgs36.cps.toList.length := by
        have : sgs36.cps.toList.length = 15 := by decide +kernel
        omega
      have ha := atI_nat (xs := sgs36.cps.toList) (j := u.toNat) (v := sgs36.cps.toList[u.toNat]) (List.getElem?_eq_getElem lv)
      rw [show ((u.toNat : Nat) : Int) = u by omega] at ha
      refine ⟨sgs36, u, _, rfl, rfl, by decide +kernel, ha, _, o5.but _ _ d3 offD.1.symm, small _ (by rw [List.length_map, List.length_map]; omega), cs ++ [sgs36.cps.toList[u.toNat]], ?_, P5.only Only.upd offD.1 offD.2, ?_, by rw [List.length_append, l3]; rfl⟩
      · intro b o e nb
        rw [upd_ne (ne_of_none e nD)]
        exact o5.but _ _ (b3 b o e nb) nb
      · rw [upd_same, List.map_append, List.map_append]
        rfl
    rintro H3 ⟨cs, b3, P3, d3, l3⟩
    have jl := join_len "" (cs.map sgn) 1 fun w mw => by
      obtain ⟨c, _, rfl⟩ := List.mem_map.mp mw
      exact Nat.le_refl _
    have e0 : ("" : Str).length = 0 := rfl
    rw [List.length_map, e0, l3] at jl
    refine ⟨"", D, _, rfl, rfl, .inl (SqL.of d3), ?_, ?_⟩
    · rw [e0]
      omega
    exact k _ H3 (by omega) P3 (((s1.but).trans o2.but).trans b3)
theorem sc_law : FnScope ["script", "pot", "texts", "size", "parts", "while_left", "k", "take", "text", "tried", "due", "names", "path", "at", "new", "part", "j"] ["script"] (defScope s_law) := ⟨rfl, rfl, rfl, by decide +kernel, rfl, by decide +kernel, by decide +kernel⟩
theorem ok_law (T : Txt K mg a) : FnOk P w K mg base CX0 3 a.f_law a.d_law ["script"] (sp_law K a) := by
  refine T.F_law.ok sc_law (fun vs H Q E h => ?len) (fun cdv A outer s H vs Q E hr h => ?body)
  case len =>
    exact sp_law_len h
  case body =>
    obtain ⟨s, ns, rfl, hS, short, k⟩ := h
    have okT : FnTok P w K mg base 2 a.f_law_text a.d_law_text ["pot", "size"] (sp_law_text K a) := by
      refine fn_tok (i := 2) T.F_law_text sc_law_text (fun vs H Q E h => sp_law_text_len h) rfl rfl (Or.inr rfl) (fun _ => rfl) (fun cdv A outer s H vs Q E hr h => ?_)
      obtain ⟨p, l, n, rfl, hP, n0, n1, k⟩ := h
      refine ⟨_, (pss_cons (ps_set (i := 3) sc_law_text.nd rfl (Or.inr rfl) (pe_ix ix_list (pe_lst (pa_cons pe_int (pa_cons pe_int (pa_cons pe_int pa_nil)))) (pe_call (ok_law_next T) (hr.mono (by decide)) rfl T.g_law_next T.F_law_next.kp T.d_law_next .nil pass0 (pa_cons (pv 0) (pa_cons pe_int pa_nil))) (fun _ _ => rfl)))
        (pss_one (ps_ret (pe_join pe_str (pe_lc (own := [("k", 4)]) (g := (gName 4)) (by rfl) sc_law_text.nd (pi_range1 (by rfl) T.n_range (pa_cons (pv 1) pa_nil)) (blkOk_by (own := [("k", 4)]) (N := ["pot", "size", "signs", "limit", "k"]) (sc := defScope s_law_text) (by decide +kernel))
          (fun _ _ _ _ _ => (pg_name (i := 4) sc_law_text.nd rfl (Or.inl rfl))) (fun _ _ _ _ _ => pts_nil) (fun _ _ _ _ _ => (pe_ix ix_str (pv 2) (pe_call (ok_law_next T) (hr.mono (by decide)) rfl T.g_law_next T.F_law_next.kp T.d_law_next .nil pass0 (pa_cons (pv 0) (pa_cons (pv 3) pa_nil))) (fun _ _ => rfl)))))))), ?_⟩
      refine ⟨by show 3 ≤ sizeLine; decide, fun q1 nq1 => ?_⟩
      have s1 := Same.new (o := .lst [V.int 7, .int 8, .int 15]) nq1
      have P1 := hP.same s1
      have dq : upd H q1 (.lst [V.int 7, .int 8, .int 15]) q1 = some (.lst [V.int 7, .int 8, .int 15]) := upd_same
      have oq := (hP.off nq1).1.symm
      generalize upd H q1 (.lst [V.int 7, .int 8, .int 15]) = H1 at s1 P1 dq ⊢
      refine ⟨_, rfl, p, l, 3, rfl, P1, by decide, by decide, fun v H2 v0 v3 P2 o2 => ?_⟩
      have hlim : ∃ lim : Int, ([V.int 7, .int 8, .int 15] : List V)[v.toNat]? = some (.int lim) ∧ 1 ≤ lim ∧ lim ≤ 15 := by
        have : v = 0 ∨ v = 1 ∨ v = 2 := by omega
        rcases this with rfl | rfl | rfl
        · exact ⟨7, rfl, by decide, by decide⟩
        · exact ⟨8, rfl, by decide, by decide⟩
        · exact ⟨15, rfl, by decide, by decide⟩
      obtain ⟨lim, hlv, lim1, lim15⟩ := hlim
      refine ⟨q1, _, _, _, rfl, rfl, SqL.of (o2.but _ _ dq oq), at_of (j := v.toNat) (by omega) hlv, ?_⟩
      have P3 := P2
      obtain ⟨m, rfl⟩ : ∃ m : Nat, n = (m : Int) := ⟨n.toNat, by omega⟩
      refine ⟨⟨_, rfl⟩, _, rfl, (m : Int), rfl, by omega, by omega, fun D nD => ?_⟩
      rw [Int.toNat_natCast] at k ⊢
      have offD := P3.off nD
      refine lc_it (walk_range (n := m)) (fun i H' => ∃ cs : List Nat, But p H2 H' ∧ Pot H' p l ∧ H' D = some (.lst ((cs.map sgn).map V.str)) ∧ cs.length = i) ⟨[], (Same.new nD).but, P3.new nD, upd_same, rfl⟩ (fun _ _ _ _ => True.intro) ?_ ?_
      · rintro i y H3 H4 hi ⟨cs, b3, P3, d3, l3⟩ ⟨rfl, rfl⟩
        refine ⟨rfl, _, rfl, _, rfl, _, rfl, p, l, lim, rfl, P3, by omega, by omega, fun u H5 u0 u1 P5 o5 => ?_⟩
        have lv : u.toNat < sgs36.cps.toList.length := by
          have : sgs36.cps.toList.length = 15 := by decide +kernel
          omega
        have ha := atI_nat (xs := sgs36.cps.toList) (j := u.toNat) (v := sgs36.cps.toList[u.toNat]) (List.getElem?_eq_getElem lv)
        rw [show ((u.toNat : Nat) : Int) = u by omega] at ha
        refine ⟨sgs36, u, _, rfl, rfl, by decide +kernel, ha, _, o5.but _ _ d3 offD.1.symm, small _ (by rw [List.length_map, List.length_map]; omega), cs ++ [sgs36.cps.toList[u.toNat]], ?_, P5.only Only.upd offD.1 offD.2, ?_, by rw [List.length_append, l3]; rfl⟩
        · intro b o e nb
          rw [upd_ne (ne_of_none e nD)]
          exact o5.but _ _ (b3 b o e nb) nb
        · rw [upd_same, List.map_append, List.map_append]
          rfl
      rintro H3 ⟨cs, b3, P3, d3, l3⟩
      have jl := join_len "" (cs.map sgn) 1 fun w mw => by
        obtain ⟨c, _, rfl⟩ := List.mem_map.mp mw
        exact Nat.le_refl _
      have e0 : ("" : Str).length = 0 := rfl
      rw [List.length_map, e0, l3] at jl
      refine ⟨"", D, _, rfl, rfl, .inl (SqL.of d3), ?_, ?_⟩
      · rw [e0]
        omega
      exact k _ H3 (by omega) P3 (((s1.but).trans o2.but).trans b3)
    refine ⟨_, (pss_cons (ps_set (i := 1) sc_law.nd rfl (Or.inr rfl) (pe_call (ok_law_pot T) (hr.mono (by decide)) rfl T.g_law_pot T.F_law_pot.kp T.d_law_pot .nil pass0 (pa_cons (pv 0) pa_nil)))
      (pss_cons (ps_setLc (i := 2) (own := [("k", 6)]) (g := (gName 6)) (by rfl) sc_law.nd rfl rfl (sw_true rfl rfl rfl (by decide +kernel)) (pi_range1 (by rfl) T.n_range (pa_cons pe_int pa_nil)) (blkOk_by (own := [("k", 6)]) (N := ["script", "pot", "texts", "size", "parts", "while_left", "k", "take", "text", "tried", "due", "names", "path", "at", "new", "part", "j"]) (sc := defScope s_law) (by decide +kernel))
      (fun _ _ _ _ _ => (pg_name (i := 6) sc_law.nd rfl (Or.inl rfl))) (fun _ _ _ _ _ => pts_nil) (fun _ _ _ _ _ => (pe_call (ok_law_text T) (hr.mono (by decide)) rfl T.g_law_text T.F_law_text.kp T.d_law_text .nil pass0 (pa_cons (pv 1) (pa_cons (pe_call (ok_law_next T) (hr.mono (by decide)) rfl T.g_law_next T.F_law_next.kp T.d_law_next .nil pass0 (pa_cons (pv 1) (pa_cons pe_int pa_nil))) pa_nil)))))
      (pss_cons (ps_for PassesOwn.never rfl (pi_list (pe_lst (pa_cons pe_int (pa_cons pe_int (pa_cons pe_int (pa_cons (pe_call (ok_law_next T) (hr.mono (by decide)) rfl T.g_law_next T.F_law_next.kp T.d_law_next .nil pass0 (pa_cons (pv 1) (pa_cons pe_int pa_nil))) pa_nil)))))) (pg_name (i := 3) sc_law.nd rfl (Or.inl rfl))
      (pss_cons (ps_set (i := 4) sc_law.nd rfl (Or.inl rfl) (pe_lst pa_nil))
      (pss_cons (ps_set (i := 5) sc_law.nd rfl (Or.inl rfl) (pv 3))
      (pss_cons (ps_for PassesOwn.never rfl (pi_range1 (by rfl) T.n_range (pa_cons pe_int pa_nil)) (pg_name (i := 6) sc_law.nd rfl (Or.inl rfl))
      (pss_cons (ps_set (i := 7) sc_law.nd rfl (Or.inl rfl) (pe_callB (call_min2 rfl) (by rfl) T.n_min (by decide +kernel) (pa_cons (pv 5) (pa_cons (pe_op op_add pe_int (pe_call (ok_law_next T) (hr.mono (by decide)) rfl T.g_law_next T.F_law_next.kp T.d_law_next .nil pass0 (pa_cons (pv 1) (pa_cons pe_int pa_nil)))) pa_nil))))
      (Evl.pss_cut (ps_if (pt_cmpR op_gt (pv 7) pe_int (nomark _))
      (pss_one (ps_expr (pe_bm PySem.F.plainAttrs_list PySem.F.slot_list_append PySem.F.type_list_append mt_append (pv 4) (pa_cons (pe_replTok okT (hr.mono (by decide)) rfl T.g_law_text T.F_law_text.kp T.d_law_text (pa_cons (pv 1) (pa_cons (pv 7) pa_nil)) (by decide +kernel)) pa_nil))))
      pss_nil)
      (pss_one (ps_set (i := 5) sc_law.nd rfl (Or.inl rfl) (pe_callB (call_max2 rfl) (by rfl) T.n_max (by decide +kernel) (pa_cons pe_int (pa_cons (pe_op op_sub (pe_op op_sub (pv 5) (pv 7)) pe_int) pa_nil))))))))
      (pss_one (ps_expr (pe_bm PySem.F.plainAttrs_list PySem.F.slot_list_append PySem.F.type_list_append mt_append (pv 2) (pa_cons (pe_join pe_str (pv 4)) pa_nil))))))))
      (pss_cons (ps_for PassesOwn.never rfl (pi_list (pv 2)) (pg_name (i := 8) sc_law.nd rfl (Or.inl rfl))
      (pss_one (ps_for PassesOwn.never rfl (pi_list (pe_lst (pa_cons (pv 8) (pa_cons (pe_op op_add_str (pv 8) pe_str) (pa_cons (pe_op op_add_str pe_str (pv 8)) pa_nil))))) (pg_name (i := 9) sc_law.nd rfl (Or.inl rfl))
      (Evl.pss_cut (ps_set (i := 10) sc_law.nd rfl (Or.inl rfl) (pe_or (pe_cmpR op_eq (pv 9) pe_str (nomark _)) (pe_one (pe_and (pe_cmpR op_le (pe_callB call_len_str (by rfl) T.n_len PySem.boot_len (pa_cons (pv 9) pa_nil)) pe_int (nomark _)) (pe_one (pe_callB (cr_all rfl) (by rfl) T.n_all (by decide +kernel) (pa_cons (pe_lc (own := [("part", 15)]) (g := (gName 15)) (by rfl) sc_law.nd (pi_list (pe_split (pv 9) pe_str)) (blkOk_by (own := [("part", 15)]) (N := ["script", "pot", "texts", "size", "parts", "while_left", "k", "take", "text", "tried", "due", "names", "path", "at", "new", "part", "j"]) (sc := defScope s_law) (by decide +kernel))
      (fun _ _ _ _ _ => (pg_name (i := 15) sc_law.nd rfl (Or.inl rfl))) (fun _ _ _ _ _ => pts_nil) (fun _ _ _ _ _ => (pe_call (ok_law_name_due T) (hr.mono (by decide)) rfl T.g_law_name_due T.F_law_name_due.kp T.d_law_name_due .nil pass0 (pa_cons (pv 15) pa_nil)))) pa_nil)))))))
      (Evl.pss_cut (ps_if (PW.pt (pw_or (PW.pt (pw_and (pt_cmpR op_notBl (pe_call (ok_is_path T) (hr.mono (by decide)) rfl T.g_is_path T.F_is_path.kp T.d_is_path .nil pass0 (pa_cons (pv 9) pa_nil)) pe_bl (nomark _)) (pw_and1 (pt_cmpR op_notBl (pe_call (ok_is_path T) (hr.mono (by decide)) rfl T.g_is_path T.F_is_path.kp T.d_is_path .nil pass0 (pa_cons (pv 9) pa_nil)) pe_bl (nomark _))))) (pw_or1 (pt_cmpR op_ne (pe_call (ok_is_path T) (hr.mono (by decide)) rfl T.g_is_path T.F_is_path.kp T.d_is_path .nil pass0 (pa_cons (pv 9) pa_nil)) (pv 10) (nomark _)))))
      (pss_one (ps_ret pe_bl))
      pss_nil)
      (pss_one (ps_if (PW.pt (pw_or (PW.pt (pw_and (pt_cmpR op_notBl (pe_call (ok_is_name T) (hr.mono (by decide)) rfl T.g_is_name T.F_is_name.kp T.d_is_name .nil pass0 (pa_cons (pv 9) pa_nil)) pe_bl (nomark _)) (pw_and1 (pt_cmpR op_notBl (pe_call (ok_is_name T) (hr.mono (by decide)) rfl T.g_is_name T.F_is_name.kp T.d_is_name .nil pass0 (pa_cons (pv 9) pa_nil)) pe_bl (nomark _))))) (pw_or1 (pt_cmpR op_ne (pe_call (ok_is_name T) (hr.mono (by decide)) rfl T.g_is_name T.F_is_name.kp T.d_is_name .nil pass0 (pa_cons (pv 9) pa_nil)) (pe_call (ok_law_name_due T) (hr.mono (by decide)) rfl T.g_law_name_due T.F_law_name_due.kp T.d_law_name_due .nil pass0 (pa_cons (pv 9) pa_nil)) (nomark _)))))
      (pss_one (ps_ret pe_bl))
      pss_nil)))))))
      (pss_cons (ps_set (i := 11) sc_law.nd rfl (Or.inr rfl) (pe_lc (own := [("k", 6)]) (g := (gName 6)) (by rfl) sc_law.nd (pi_range1 (by rfl) T.n_range (pa_cons (pe_op op_add pe_int (pe_call (ok_law_next T) (hr.mono (by decide)) rfl T.g_law_next T.F_law_next.kp T.d_law_next .nil pass0 (pa_cons (pv 1) (pa_cons pe_int pa_nil)))) pa_nil)) (blkOk_by (own := [("k", 6)]) (N := ["script", "pot", "texts", "size", "parts", "while_left", "k", "take", "text", "tried", "due", "names", "path", "at", "new", "part", "j"]) (sc := defScope s_law) (by decide +kernel))
      (fun _ _ _ _ _ => (pg_name (i := 6) sc_law.nd rfl (Or.inl rfl))) (fun _ _ _ _ _ => pts_nil) (fun _ _ _ _ _ => (by exact (pe_join pe_str (pe_lc (own := [("j", 16)]) (g := (gName 16)) (by rfl) sc_law.nd (pi_range1 (by rfl) T.n_range (pa_cons (pe_op op_add pe_int (pe_call (ok_law_next T) (hr.mono (by decide)) rfl T.g_law_next T.F_law_next.kp T.d_law_next .nil pass0 (pa_cons (pv 1) (pa_cons pe_int pa_nil)))) pa_nil)) (blkOk_by (own := [("j", 16)]) (N := ["script", "pot", "texts", "size", "parts", "while_left", "k", "take", "text", "tried", "due", "names", "path", "at", "new", "part", "j"]) (by kernel_rfl))
      (fun _ _ _ _ _ => (pg_name (i := 16) sc_law.nd rfl (Or.inl rfl))) (fun _ _ _ _ _ => pts_nil) (fun _ _ _ _ _ => (pe_ix ix_str pe_str (pe_call (ok_law_next T) (hr.mono (by decide)) rfl T.g_law_next T.F_law_next.kp T.d_law_next .nil pass0 (pa_cons (pv 1) (pa_cons pe_int pa_nil))) (fun _ _ => rfl))))) : PE _ _ (tM1 (rJoinT K) _ _)))))
      (pss_cons (ps_set (i := 12) sc_law.nd rfl (Or.inl rfl) (pe_join pe_str (pv 11)))
      (pss_cons (ps_if (PW.pt (pw_or (pt_cmpR (op_neD hr.units) (pe_call (ok_ways T) (hr.mono (by decide)) rfl T.g_ways T.F_ways.kp T.d_ways .nil pass0 (pa_cons (pv 12) pa_nil)) (pe_lc (own := [("k", 6)]) (g := (gName 6)) (by rfl) sc_law.nd (pi_range2 (by rfl) T.n_range (pa_cons pe_int (pa_cons (pe_callB call_len_seq (by rfl) T.n_len PySem.boot_len (pa_cons (pv 11) pa_nil)) pa_nil))) (blkOk_by (own := [("k", 6)]) (N := ["script", "pot", "texts", "size", "parts", "while_left", "k", "take", "text", "tried", "due", "names", "path", "at", "new", "part", "j"]) (sc := defScope s_law) (by decide +kernel))
      (fun _ _ _ _ _ => (pg_name (i := 6) sc_law.nd rfl (Or.inl rfl))) (fun _ _ _ _ _ => pts_nil) (fun _ _ _ _ _ => (by exact (pe_join pe_str (pe_slice (by exact sl_list : SlR _ (rSlL K)) (pv 11) po_none (po_some (pv 6)))) : PE _ _ (tM1 (rJoinT K) _ _)))) (nomark _)) (pw_or1 (pt_cmpR (op_neD hr.units) (pe_call (ok_ways T) (hr.mono (by decide)) rfl T.g_ways T.F_ways.kp T.d_ways .nil pass0 (pa_cons pe_str pa_nil)) (pe_lst pa_nil) (nomark _)))))
      (pss_one (ps_ret pe_bl))
      pss_nil)
      (pss_cons (ps_set (i := 13) sc_law.nd rfl (Or.inl rfl) (pe_op op_add pe_int (pe_call (ok_law_next T) (hr.mono (by decide)) rfl T.g_law_next T.F_law_next.kp T.d_law_next .nil pass0 (pa_cons (pv 1) (pa_cons (pe_callB call_len_seq (by rfl) T.n_len PySem.boot_len (pa_cons (pv 11) pa_nil)) pa_nil)))))
      (pss_cons (ps_set (i := 14) sc_law.nd rfl (Or.inl rfl) (pe_join pe_str (pe_op op_cat (pe_op op_rep (pe_lst (pa_cons (pe_op (op_mul_str) pe_str pe_int) pa_nil)) (pe_call (ok_law_next T) (hr.mono (by decide)) rfl T.g_law_next T.F_law_next.kp T.d_law_next .nil pass0 (pa_cons (pv 1) (pa_cons pe_int pa_nil)))) (pe_lst (pa_cons pe_str pa_nil)))))
      (pss_one (ps_ret (pe_cmpR op_eq (pe_call (ok_moved_path T) (hr.mono (by decide)) rfl T.g_moved_path T.F_moved_path.kp T.d_moved_path .nil pass0 (pa_cons (pv 12) (pa_cons (pe_join pe_str (pe_slice sl_list (pv 11) po_none (po_some (pv 13)))) (pa_cons (pv 14) pa_nil)))) (pe_join pe_str (pe_op op_cat (pe_lst (pa_cons (pv 14) pa_nil)) (pe_slice sl_list (pv 11) (po_some (pv 13)) po_none))) (nomark _))))))))))))), ?_⟩
    have lim : ∀ {m : Int}, m.natAbs < 2 ^ 40 → m.natAbs < 2 ^ 400 := fun h => Nat.lt_of_lt_of_le h (Nat.pow_le_pow_right (by decide) (by decide))
    refine ⟨_, rfl, s, ns, rfl, hS, by omega, fun p l H1 np nl s1 P1 => ?_⟩
    clear hS short np nl s1
    -- texts
    refine ⟨4, rfl, by decide, by decide, fun Tx nT => ?_⟩
    have offT := P1.off nT
    refine lc_it (walk_range (n := 4)) (fun i H' => ∃ ts : List Str, But p H1 H' ∧ Pot H' p l ∧ H' Tx = some (.lst (ts.map V.str)) ∧ ts.length = i ∧ ∀ t ∈ ts, t.length ≤ 1000) ⟨[], (Same.new nT).but, P1.new nT, upd_same, rfl, fun _ m => (nomatch m)⟩ (fun _ _ _ _ => True.intro) ?_ ?_
    · rintro i y H2 H3 hi ⟨ts, b2, P2, d2, l2, h2⟩ ⟨rfl, rfl⟩
      refine ⟨rfl, _, rfl, _, rfl, p, l, 15, rfl, P2, by decide, lim (by decide), fun v H4 v0 v1 P4 o4 => ⟨p, l, v, rfl, P4, v0, by omega, fun z H5 lz P5 b5 => ?_⟩⟩
      refine ⟨_, b5 _ _ (o4.but _ _ d2 offT.1.symm) offT.1.symm, small _ (by rw [List.length_map]; omega), ts ++ [z], ?_, P5.only Only.upd offT.1 offT.2, by rw [upd_same, List.map_append]; rfl, by rw [List.length_append, l2]; rfl, fun t m => ?_⟩
      · intro b o e nb
        rw [upd_ne (ne_of_none e nT)]
        exact b5 _ _ (o4.but _ _ (b2 b o e nb) nb) nb
      · rcases List.mem_append.mp m with m | m
        · exact h2 t m
        · rw [List.mem_singleton.mp m]
          omega
    rintro H2 ⟨ts, b2, P2, d2, l2, h2⟩
    clear b2 P1
    -- sizes
    refine ⟨_, rfl, p, l, 65, rfl, P2, by decide, lim (by decide), fun sz H3 z0 z1 P3 o3 => ⟨by show 4 ≤ sizeLine; decide, fun Sz nS => ?_⟩⟩
    have d3 := o3.but _ _ d2 offT.1.symm
    have s4 := Same.new (o := .lst [V.int 59, .int 60, .int 61, .int sz]) nS
    have dS : upd H3 Sz (.lst [V.int 59, .int 60, .int 61, .int sz]) Sz = some (.lst (([59, 60, 61, sz] : List Int).map V.int)) := upd_same
    have P4 := P3.same s4
    have d4 := s4 _ _ d3
    have offS := P3.off nS
    have ST : Sz ≠ Tx := (ne_of_none d3 nS).symm
    generalize upd H3 Sz (.lst [V.int 59, .int 60, .int 61, .int sz]) = H4 at s4 dS P4 d4 ⊢
    refine ⟨Sz, rfl, ⟨_, SqL.of dS⟩, for_list (xs := ([59, 60, 61, sz] : List Int).map V.int) (fun i σ H' => ∃ (v3 v4 v5 v6 v7 : Option V) (ts : List Str), σ = [some (.ref s), some (.ref p), some (.ref Tx), v3, v4, v5, v6, v7, none, none, none, none, none, none, none, none, none] ∧ Pot H' p l ∧ H' Tx = some (.lst (ts.map V.str)) ∧ H' Sz = some (.lst (([59, 60, 61, sz] : List Int).map V.int)) ∧ ts.length ≤ 4 + i ∧ ∀ t ∈ ts, t.length ≤ 1000)
      ⟨none, none, none, none, none, ts, rfl, P4, d4, dS, by omega, h2⟩ ?_ ?_ ?_⟩
    · rintro i σ H' _ ⟨v3, v4, v5, v6, v7, ts, rfl, _, _, dS, _⟩
      exact SqL.of dS
    · clear d2 l2 h2 P2 P3 o3 d3 s4 dS P4 d4 ts
      rintro i y σ H5 hy ⟨v3, v4, v5, v6, v7, ts, rfl, P5, d5, dS5, l5, h5⟩
      obtain ⟨size, hsz, rfl⟩ := int_item hy
      have il : i < 4 := item_lt hsz
      -- parts
      refine ⟨Nat.zero_le _, fun Pa nP => ?_⟩
      have offP := P5.off nP
      have sP := Same.new (o := .lst []) nP
      have dP : upd H5 Pa (.lst []) Pa = some (.lst (([] : List Str).map V.str)) := upd_same
      have P6 := P5.same sP
      have d6 := sP _ _ d5
      have dS6 := sP _ _ dS5
      have PT : Pa ≠ Tx := (ne_of_none d5 nP).symm
      have PS : Pa ≠ Sz := (ne_of_none dS5 nP).symm
      generalize upd H5 Pa (.lst []) = H6 at sP dP P6 d6 dS6 ⊢
      refine ⟨_, rfl, 30, rfl, by decide, by decide, ?_⟩
      refine for_range (lo := 0) (n := 30) (fun j σ H' => ∃ (v6 v7 : Option V) (left : Int) (ps : List Str), σ = [some (.ref s), some (.ref p), some (.ref Tx), some (.int size), some (.ref Pa), some (.int left), v6, v7, none, none, none, none, none, none, none, none, none] ∧ Pot H' p l ∧ H' Tx = some (.lst (ts.map V.str)) ∧ H' Sz = some (.lst (([59, 60, 61, sz] : List Int).map V.int)) ∧ H' Pa = some (.lst (ps.map V.str)) ∧ ps.length ≤ j ∧ ∀ t ∈ ps, t.length ≤ 25)
        ⟨v6, v7, size, [], rfl, P6, d6, dS6, dP, Nat.le_refl _, fun _ m => (nomatch m)⟩ ?_ ?_
      · clear P6 d6 dS6 dP sP
        rintro j σ H7 hj ⟨v6, v7, left, ps, rfl, P7, d7, dS7, dP7, l7, h7⟩
        refine ⟨_, rfl, _, rfl, p, l, 12, rfl, P7, by decide, lim (by decide), fun v H8 v0 v1 P8 o8 => ⟨_, _, rfl, rfl, _, _, rfl, ?_⟩⟩
        obtain ⟨tk, htk⟩ : ∃ tk : Int, tk = if 1 + v < left then 1 + v else left := ⟨_, rfl⟩
        have tk12 : tk ≤ 12 := by rw [htk]; split <;> omega
        rw [← htk]
        have d8 := o8.but _ _ d7 offT.1.symm
        have dS8 := o8.but _ _ dS7 offS.1.symm
        have dP8 := o8.but _ _ dP7 offP.1.symm
        -- one part
        refine ⟨fun σ H' => ∃ ps : List Str, σ = [some (.ref s), some (.ref p), some (.ref Tx), some (.int size), some (.ref Pa), some (.int left), some (.int (0 + (j : Int))), some (.int tk), none, none, none, none, none, none, none, none, none] ∧ Pot H' p l ∧ H' Tx = some (.lst (ts.map V.str)) ∧ H' Sz = some (.lst (([59, 60, 61, sz] : List Int).map V.int)) ∧ H' Pa = some (.lst (ps.map V.str)) ∧ ps.length ≤ j + 1 ∧ ∀ t ∈ ps, t.length ≤ 25, ?_, ?_⟩
        · refine ⟨_, rfl, _, _, rfl, rfl, _, rfl, ite2 (fun c => ?_) (fun c => ⟨ps, rfl, P8, d8, dS8, dP8, by omega, h7⟩)⟩
          have c : 0 < tk := of_decide_eq_true c
          refine ⟨_, rfl, .inl ⟨rfl, _, SqL.of dP8⟩, _, rfl, _, rfl, p, l, tk, rfl, P8, by omega, by omega, fun z H9 lz P9 b9 => ⟨z, rfl, ?_, ?_⟩⟩
          · have e1 : ("a" : Str).length = 1 := rfl
            rw [e1]
            omega
          have rl := TK.replace_len z "/" "a"
          have e1 : ("a" : Str).length = 1 := rfl
          rw [e1] at rl
          have dP9 := b9 _ _ dP8 offP.1.symm
          refine ⟨Pa, _, _, rfl, rfl, dP9, small _ (by rw [List.length_map]; omega), ps ++ [Txt.replace z "/" "a"], rfl, P9.only Only.upd offP.1 offP.2, by rw [upd_ne PT.symm]; exact b9 _ _ d8 offT.1.symm, by rw [upd_ne PS.symm]; exact b9 _ _ dS8 offS.1.symm, by rw [upd_same, List.map_append]; rfl, by rw [List.length_append, List.length_singleton]; omega, fun t m => ?_⟩
          rcases List.mem_append.mp m with m | m
          · exact h7 t m
          · rw [List.mem_singleton.mp m]
            omega
        rintro σ H9 ⟨ps, rfl, P9, d9, dS9, dP9, l9, h9⟩
        refine ⟨_, rfl, _, rfl, _, _, rfl, rfl, _, _, rfl, rfl, _, _, rfl, ?_⟩
        exact ⟨_, _, _, ps, rfl, P9, d9, dS9, dP9, l9, h9⟩
      clear P6 d6 dS6 dP sP
      rintro σ H7 ⟨v6', v7', left, ps, rfl, P7, d7, dS7, dP7, l7, h7⟩
      have jl := join_len slash ps 25 h7
      have sl1 : slash.length = 1 := rfl
      rw [sl1] at jl
      refine ⟨_, rfl, .inl ⟨rfl, _, SqL.of d7⟩, ⟨_, rfl⟩, _, rfl, slash, Pa, ps, rfl, rfl, .inl (SqL.of dP7), by rw [sl1]; omega, ?_⟩
      refine ⟨Tx, _, _, rfl, rfl, d7, small _ (by rw [List.length_map]; omega), ?_⟩
      refine ⟨_, _, _, _, _, ts ++ [Txt.join slash ps], rfl, P7.only Only.upd offT.1 offT.2, by rw [upd_same, List.map_append]; rfl, by rw [upd_ne ST]; exact dS7, by rw [List.length_append, List.length_singleton]; omega, fun t m => ?_⟩
      rcases List.mem_append.mp m with m | m
      · exact h5 t m
      · rw [List.mem_singleton.mp m]
        omega
    clear d2 l2 h2 P2 P3 o3 d3 s4 dS P4 d4 ts z0 z1
    rintro σ H5 ⟨v3, v4, v5, v6, v7, ts, rfl, P5, d5, dSx, l5, h5⟩
    clear ST nS offS dSx
    -- is_path, is_name
    refine ⟨_, rfl, Tx, rfl, ⟨_, SqL.of d5⟩, for_list (xs := ts.map V.str) (fun i σ H' => ∃ (v8 v9 v10 : Option V), σ = [some (.ref s), some (.ref p), some (.ref Tx), v3, v4, v5, v6, v7, v8, v9, v10, none, none, none, none, none, none] ∧ Same H5 H') ⟨none, none, none, rfl, Same.refl _⟩ ?_ ?_ ?_⟩
    · rintro i σ H' _ ⟨v8, v9, v10, rfl, s6⟩
      exact SqL.of (s6 _ _ d5)
    · rintro i y σ H6 hy ⟨v8, v9, v10, rfl, s6⟩
      obtain ⟨text, ht, rfl⟩ : ∃ w, ts[i]? = some w ∧ y = V.str w := by
        rw [List.getElem?_map] at hy
        cases q : ts[i]? with
        | none => rw [q] at hy; cases hy
        | some w => rw [q] at hy; exact ⟨w, rfl, (Option.some.inj hy).symm⟩
      have lt := h5 text (List.mem_of_getElem? ht)
      have sl1 : slash.length = 1 := rfl
      refine ⟨_, rfl, _, rfl, text, slash, rfl, rfl, by rw [sl1]; exact Nat.le_of_lt (small _ (by omega)), _, rfl, slash, text, rfl, rfl, by rw [sl1]; exact Nat.le_of_lt (small _ (by omega)), by show 3 ≤ sizeLine; decide, fun Tr nTr => ?_⟩
      have s7 := Same.new (o := .lst [V.str text, .str (text ++ slash), .str (slash ++ text)]) nTr
      have dT : upd H6 Tr (.lst [V.str text, .str (text ++ slash), .str (slash ++ text)]) Tr = some (.lst (([text, text ++ slash, slash ++ text] : List Str).map V.str)) := upd_same
      generalize upd H6 Tr (.lst [V.str text, .str (text ++ slash), .str (slash ++ text)]) = H7 at s7 dT ⊢
      have lT : ∀ t ∈ ([text, text ++ slash, slash ++ text] : List Str), t.length ≤ 1001 := fun t m => by
        simp only [List.mem_cons, List.not_mem_nil, or_false] at m
        rcases m with rfl | rfl | rfl
        · omega
        · rw [Str.length_append, sl1]; omega
        · rw [Str.length_append, sl1]; omega
      generalize ([text, text ++ slash, slash ++ text] : List Str) = tr at dT lT
      refine ⟨Tr, rfl, ⟨_, SqL.of dT⟩, for_list (xs := tr.map V.str) (fun j σ H' => ∃ (v9 v10 : Option V), σ = [some (.ref s), some (.ref p), some (.ref Tx), v3, v4, v5, v6, v7, some (.str text), v9, v10, none, none, none, none, none, none] ∧ Same H7 H') ⟨v9, v10, rfl, Same.refl _⟩ ?_ ?_ ?_⟩
      · rintro j σ H' _ ⟨v9, v10, rfl, s8⟩
        exact SqL.of (s8 _ _ dT)
      · rintro j y σ H8 hy ⟨v9, v10, rfl, s8⟩
        obtain ⟨z, hz, rfl⟩ : ∃ w, tr[j]? = some w ∧ y = V.str w := by
          rw [List.getElem?_map] at hy
          cases q : tr[j]? with
          | none => rw [q] at hy; cases hy
          | some w => rw [q] at hy; exact ⟨w, rfl, (Option.some.inj hy).symm⟩
        have lz := lT z (List.mem_of_getElem? hz)
        -- due
        refine ⟨fun σ H' => σ = [some (.ref s), some (.ref p), some (.ref Tx), v3, v4, v5, v6, v7, some (.str text), some (.str z), some (.bl (pathM z)), none, none, none, none, none, none] ∧ Same H7 H', ?_, ?_⟩
        · refine ⟨_, rfl, rfl, _, rfl, ?_⟩
          cases e : decide (V.str z = V.str "") with
          | true =>
            refine iteT ⟨?_, s8⟩
            have pm : pathM z = true := by
              unfold pathM
              have ez : z = "" := V.str.inj (of_decide_eq_true e)
              rw [e, Bool.true_or, Bool.and_true]
              exact decide_eq_true (by rw [ez]; decide)
            rw [pm]
            rfl
          | false =>
            refine iteF ⟨_, rfl, z, rfl, txt_len (by omega), _, _, rfl, rfl, _, rfl, ite2 (fun c => ?_) (fun c => ⟨?_, s8⟩)⟩
            · have c : z.length ≤ 60 := by
                have := of_decide_eq_true c
                omega
              refine ⟨_, rfl, ⟨_, rfl⟩, z, slash, rfl, rfl, slash_ok.2.2.2, Nat.le_of_lt (small _ (by omega)), fun Sp nSp => ?_⟩
              have s9 := Same.new (o := .lst ((Txt.split z slash).map V.str)) nSp
              have dSp : upd H8 Sp (.lst ((Txt.split z slash).map V.str)) Sp = some (.lst ((Txt.split z slash).map V.str)) := upd_same
              generalize upd H8 Sp (.lst ((Txt.split z slash).map V.str)) = H9 at s9 dSp ⊢
              have lp : (Txt.split z slash).length ≤ 62 := Nat.le_trans (PyProof.Rows.split_le z slash) (by omega)
              have ln := split_len (z := z) slash_ok.1 slash_ok.2.1
              refine ⟨Sp, rfl, ⟨_, SqL.of dSp⟩, fun D nD => ?_⟩
              refine lc_list (xs := (Txt.split z slash).map V.str) (fun i H' => Same H9 H' ∧ H' D = some (.lst ((((Txt.split z slash).take i).map nameM).map V.bl))) ⟨Same.new nD, upd_same⟩ (fun i H' _ q => SqL.of (q.1 _ _ dSp)) ?_ ?_
              · rintro i y H2 hy ⟨s2, d2⟩
                obtain ⟨w, hw, rfl⟩ : ∃ w, (Txt.split z slash)[i]? = some w ∧ y = V.str w := by
                  rw [List.getElem?_map] at hy
                  cases q : (Txt.split z slash)[i]? with
                  | none => rw [q] at hy; cases hy
                  | some w => rw [q] at hy; exact ⟨w, rfl, (Option.some.inj hy).symm⟩
                have lw := ln w (List.mem_of_getElem? hw)
                refine ⟨rfl, _, rfl, w, rfl, by omega, fun H3 s3 => ⟨_, s3 _ _ d2, small _ (by rw [List.length_map, List.length_map, List.length_take]; omega), same_put (s2.trans s3) nD, ?_⟩⟩
                rw [upd_same, take_snoc hw, List.map_append, List.map_append]
                rfl
              rintro H2 ⟨s2, d2⟩
              refine ⟨D, _, rfl, SqL.of d2, ?_⟩
              rw [all_bl, List.length_map, List.take_length]
              refine ⟨?_, (s8.trans s9).trans s2⟩
              have pm : pathM z = (Txt.split z slash).all nameM := by
                unfold pathM
                rw [e, Bool.false_or, decide_eq_true c, Bool.true_and]
              rw [pm]
              rfl
            · have pm : pathM z = false := by
                unfold pathM
                rw [decide_eq_false (fun q => c (decide_eq_true (by omega))), Bool.false_and]
              rw [pm]
              rfl
        rintro σ H9 ⟨rfl, s9⟩
        -- is_path
        refine ⟨fun σ H' => σ = [some (.ref s), some (.ref p), some (.ref Tx), v3, v4, v5, v6, v7, some (.str text), some (.str z), some (.bl (pathM z)), none, none, none, none, none, none] ∧ Same H7 H', ?_, ?_⟩
        · have tv : TxtV (.str z) := .inr ⟨z, rfl, by omega⟩
          cases hb : pathM z with
          | true =>
            have e : pathV (.str z) = true := hb
            refine ⟨_, rfl, .str z, rfl, tv, fun Ha sa => ?_⟩
            rw [e]
            refine ⟨_, _, rfl, rfl, _, rfl, iteF ⟨_, rfl, .str z, rfl, tv, fun Hb sb => ?_⟩⟩
            rw [e]
            exact ⟨_, rfl, rfl, _, rfl, iteNS rfl ⟨rfl, (s9.trans sa).trans sb⟩⟩
          | false =>
            have e : pathV (.str z) = false := hb
            refine ⟨_, rfl, .str z, rfl, tv, fun Ha sa => ?_⟩
            rw [e]
            refine ⟨_, _, rfl, rfl, _, rfl, iteT ⟨_, rfl, .str z, rfl, tv, fun Hb sb => ?_⟩⟩
            rw [e]
            refine ⟨_, _, rfl, rfl, _, rfl, iteF ⟨_, rfl, .str z, rfl, tv, fun Hc sc => ?_⟩⟩
            rw [e]
            exact ⟨_, rfl, rfl, _, rfl, iteNS rfl ⟨rfl, ((s9.trans sa).trans sb).trans sc⟩⟩
        clear s9 H9
        rintro σ H9 ⟨rfl, s9⟩
        -- is_name
        have tv : TxtV (.str z) := .inr ⟨z, rfl, by omega⟩
        cases hb : nameM z with
        | true =>
          have e : nameV (.str z) = true := hb
          refine ⟨_, rfl, .str z, rfl, tv, fun Ha sa => ?_⟩
          rw [e]
          refine ⟨_, _, rfl, rfl, _, rfl, iteF ⟨_, rfl, .str z, rfl, tv, fun Hb sb => ?_⟩⟩
          rw [e]
          refine ⟨_, rfl, z, rfl, by omega, fun Hc sc => ?_⟩
          rw [hb]
          exact ⟨rfl, _, rfl, iteNS rfl ⟨_, _, rfl, ((s9.trans sa).trans sb).trans sc⟩⟩
        | false =>
          have e : nameV (.str z) = false := hb
          refine ⟨_, rfl, .str z, rfl, tv, fun Ha sa => ?_⟩
          rw [e]
          refine ⟨_, _, rfl, rfl, _, rfl, iteT ⟨_, rfl, .str z, rfl, tv, fun Hb sb => ?_⟩⟩
          rw [e]
          refine ⟨_, _, rfl, rfl, _, rfl, iteF ⟨_, rfl, .str z, rfl, tv, fun Hc sc => ?_⟩⟩
          rw [e]
          refine ⟨_, rfl, z, rfl, by omega, fun Hd sd => ?_⟩
          rw [hb]
          exact ⟨rfl, _, rfl, iteNS rfl ⟨_, _, rfl, (((s9.trans sa).trans sb).trans sc).trans sd⟩⟩
      rintro σ H8 ⟨v9, v10, rfl, s8⟩
      exact ⟨_, _, _, rfl, (s6.trans s7).trans s8⟩
    rintro σ H6 ⟨v8, v9, v10, rfl, s6⟩
    have P6 := P5.same s6
    clear P5 d5 l5 h5 s6 H5 ts
    -- names
    refine ⟨_, rfl, p, l, 8, rfl, P6, by decide, lim (by decide), fun c H7 c0 c1 P7 o7 => ⟨_, _, rfl, rfl, 1 + c, rfl, by omega, by omega, fun Nm nN => ?_⟩⟩
    obtain ⟨n, hn, n1, n8⟩ : ∃ n : Nat, (1 + c).toNat = n ∧ 1 ≤ n ∧ n ≤ 8 := ⟨_, rfl, by omega, by omega⟩
    rw [hn]
    have offN := P7.off nN
    have sg5 : ∀ c ∈ ("abz9-" : Str).cps.toList, c < 256 ∧ c ≠ 47 := by decide +kernel
    have sl5 : ("abz9-" : Str).cps.toList.length = 5 := by decide +kernel
    refine lc_it (walk_range (n := n)) (fun i H' => ∃ nms : List Str, Pot H' p l ∧ H' Nm = some (.lst (nms.map V.str)) ∧ nms.length = i ∧ ∀ w ∈ nms, NmOk w ∧ w.length ≤ 4) ⟨[], P7.new nN, upd_same, rfl, fun _ m => (nomatch m)⟩ (fun _ _ _ _ => True.intro) ?_ ?_
    · rintro i y H8 H9 hi ⟨nms, P8, d8, l8, h8⟩ ⟨rfl, rfl⟩
      refine ⟨rfl, ⟨_, rfl⟩, _, rfl, p, l, 4, rfl, P8, by decide, lim (by decide), fun u H10 u0 u1 P10 o10 => ⟨_, _, rfl, rfl, 1 + u, rfl, by omega, by omega, fun D nD => ?_⟩⟩
      obtain ⟨m, hm, m4⟩ : ∃ m : Nat, (1 + u).toNat = m ∧ m ≤ 4 := ⟨_, rfl, by omega⟩
      rw [hm]
      have offD := P10.off nD
      have d10 := o10.but _ _ d8 offN.1.symm
      have DN : D ≠ Nm := (ne_of_none d10 nD).symm
      refine lc_it (walk_range (n := m)) (fun j H' => ∃ cs : List Nat, Pot H' p l ∧ H' Nm = some (.lst (nms.map V.str)) ∧ H' D = some (.lst ((cs.map sgn).map V.str)) ∧ cs.length = j ∧ ∀ c ∈ cs, c < 256 ∧ c ≠ 47) ⟨[], P10.new nD, by rw [upd_ne DN.symm]; exact d10, upd_same, rfl, fun _ m => (nomatch m)⟩ (fun _ _ _ _ => True.intro) ?_ ?_
      · rintro j y H11 H12 hj ⟨cs, P11, dN11, d11, l11, h11⟩ ⟨rfl, rfl⟩
        refine ⟨rfl, _, rfl, p, l, 5, rfl, P11, by decide, lim (by decide), fun v H13 v0 v1 P13 o13 => ?_⟩
        have lv : v.toNat < ("abz9-" : Str).cps.toList.length := by omega
        have ha := atI_nat (xs := ("abz9-" : Str).cps.toList) (j := v.toNat) (v := ("abz9-" : Str).cps.toList[v.toNat]) (List.getElem?_eq_getElem lv)
        rw [show ((v.toNat : Nat) : Int) = v by omega] at ha
        refine ⟨_, v, _, rfl, rfl, by decide +kernel, ha, _, o13.but _ _ d11 offD.1.symm, small _ (by rw [List.length_map, List.length_map]; omega), cs ++ [("abz9-" : Str).cps.toList[v.toNat]], P13.only Only.upd offD.1 offD.2, by rw [upd_ne DN.symm]; exact o13.but _ _ dN11 offN.1.symm, ?_, by rw [List.length_append, l11]; rfl, fun c m => ?_⟩
        · rw [upd_same, List.map_append, List.map_append]
          rfl
        · rcases List.mem_append.mp m with m | m
          · exact h11 c m
          · rw [List.mem_singleton.mp m]
            exact sg5 _ (List.getElem_mem lv)
      rintro H11 ⟨cs, P11, dN11, d11, l11, h11⟩
      have jl := join_len "" (cs.map sgn) 1 fun w mw => by
        obtain ⟨c, _, rfl⟩ := List.mem_map.mp mw
        exact Nat.le_refl _
      have e0 : ("" : Str).length = 0 := rfl
      rw [List.length_map, e0, l11] at jl
      refine ⟨_, D, _, rfl, rfl, .inl (SqL.of d11), by rw [e0]; omega, _, dN11, small _ (by rw [List.length_map]; omega), nms ++ [Txt.join "" (cs.map sgn)], P11.only Only.upd offN.1 offN.2, by rw [upd_same, List.map_append]; rfl, by rw [List.length_append, l8]; rfl, fun w m => ?_⟩
      rcases List.mem_append.mp m with m | m
      · exact h8 w m
      · rw [List.mem_singleton.mp m]
        refine ⟨fun c mc => ?_, by omega⟩
        rw [join_signs] at mc
        exact h11 c mc
    rintro H8 ⟨nms, P8, d8, l8, h8⟩
    clear P7 o7 nN
    have ok8 : ∀ w ∈ nms, NmOk w := fun w m => (h8 w m).1
    have sl1 : slash.length = 1 := rfl
    have jn : ∀ ws : List Str, ws.length ≤ 9 → (∀ w ∈ ws, w.length ≤ 60) → (ws.map (·.length)).sum + ws.length * slash.length ≤ 16777216 ∧ (Txt.join slash ws).length ≤ 1000 := fun ws h1 h2 => by
      have jl := join_len slash ws 60 h2
      rw [sl1] at jl ⊢
      omega
    have jn8 := jn nms (by omega) fun w m => by have := (h8 w m).2; omega
    -- path
    refine ⟨⟨_, rfl⟩, _, rfl, slash, Nm, nms, rfl, rfl, .inl (SqL.of d8), jn8.1, ?_⟩
    -- ways
    refine ⟨_, rfl, Txt.join slash nms, rfl, jn8.2, fun D1 H9 s9 d9 => ?_⟩
    have d8_9 := s9 _ _ d8
    refine ⟨_, rfl, Nm, _, rfl, .inl (SqL.of d8_9), 1, _, rfl, ⟨by decide, by decide, by rw [List.length_map]; omega, by rw [List.length_map]; omega⟩, fun D nD => ?_⟩
    have e1 : (((nms.map V.str).length : Nat) - (1 : Int)).toNat = nms.length - 1 := by rw [List.length_map]; omega
    rw [e1]
    refine lc_it (walk_range (lo := 1) (n := nms.length - 1)) (fun i H' => Same H9 H' ∧ H' D = some (.lst ((((List.range i).map fun i => Txt.join slash (nms.take (1 + i)))).map V.str))) ⟨Same.new nD, upd_same⟩ (fun _ _ _ _ => True.intro) ?_ ?_
    · rintro i y H2 H3 hi ⟨s2, d2⟩ ⟨rfl, rfl⟩
      refine ⟨rfl, ⟨_, rfl⟩, _, rfl, _, rfl, _, rfl, Nm, _, rfl, SqL.of (s2 _ _ d8_9), fun q nq => ?_⟩
      rw [show (1 : Int) + (i : Int) = ((1 + i : Nat) : Int) by omega, cut_take, ← List.map_take]
      have s3 := Same.new (o := .lst ((nms.take (1 + i)).map V.str)) nq
      have j3 := jn (nms.take (1 + i)) (by rw [List.length_take]; omega) fun w m => by have := (h8 w (List.mem_of_mem_take m)).2; omega
      refine ⟨slash, q, _, rfl, rfl, .inl (SqL.of upd_same), j3.1, ?_⟩
      refine ⟨_, s3 _ _ d2, small _ (by rw [List.length_map, List.length_map, List.length_range]; omega), same_put (s2.trans s3) nD, ?_⟩
      rw [upd_same, List.range_succ, List.map_append, List.map_append]
      rfl
    rintro H10 ⟨s10, d10⟩
    have d9_10 := s10 _ _ d9
    rw [ways_join ok8 (by omega)] at d9_10
    have okw : ∀ w ∈ ((List.range (nms.length - 1)).map fun i => Txt.join slash (nms.take (1 + i))), PyData.strOk w = true := fun w m => by
      obtain ⟨i, _, rfl⟩ := List.mem_map.mp m
      exact join_ok fun x mx => ok8 x (List.mem_of_mem_take mx)
    refine ⟨_, _, dp_strs (SqL.of d9_10), dp_strs (SqL.of d10), strs_shaped okw, strs_shaped okw, _, rfl, ?_⟩
    rw [strs_refl okw]
    refine iteF ⟨"", rfl, by decide, fun D2 H11 s11 d11 => ⟨Nat.zero_le _, fun D3 nD3 => ?_⟩⟩
    rw [ways_empty] at d11
    have s12 := Same.new (o := .lst []) nD3
    have e2 : ∀ w ∈ ([] : List Str), PyData.strOk w = true := fun _ m => (nomatch m)
    refine ⟨_, _, dp_strs (ws := []) (SqL.of (s12 _ _ d11)), dp_strs (ws := []) (SqL.of upd_same), strs_shaped e2, strs_shaped e2, _, rfl, ?_⟩
    rw [strs_refl e2]
    have sA := ((s9.trans s10).trans s11).trans s12
    have P12 := P8.same sA
    have d12 := sA _ _ d8
    generalize upd H11 D3 (.lst []) = H12 at P12 d12 ⊢
    clear sA s9 s10 s11 s12 d9 d8_9 d10 d9_10 d11 okw e2 P8 d8 nD nD3
    refine iteF ?_
    -- at
    refine ⟨_, rfl, _, rfl, Nm, _, rfl, .inl (SqL.of d12), p, l, _, rfl, P12, by rw [List.length_map]; omega, lim (by rw [List.length_map]; omega), fun v H13 v0 v1 P13 o13 => ⟨_, _, rfl, rfl, ?_⟩⟩
    rw [List.length_map] at v1
    obtain ⟨at_, hat, at1, at2⟩ : ∃ m : Nat, (1 : Int) + v = (m : Int) ∧ 1 ≤ m ∧ m ≤ nms.length := ⟨(1 + v).toNat, by omega, by omega, by omega⟩
    dsimp only
    rw [hat]
    have d13 := o13.but _ _ d12 offN.1.symm
    -- new
    refine ⟨⟨_, rfl⟩, _, _, rfl, rfl, by decide, by decide, by decide, by decide, by show 1 ≤ sizeLine; decide, fun q1 nq1 => ?_⟩
    obtain ⟨nn, hnn⟩ : ∃ nn, nn = Txt.mul "n" 12 := ⟨_, rfl⟩
    have lnn : nn.length = 12 := by rw [hnn]; decide +kernel
    rw [← hnn]
    have sq1 := Same.new (o := .lst [V.str nn]) nq1
    have dq1 : upd H13 q1 (.lst [V.str nn]) q1 = some (.lst [V.str nn]) := upd_same
    have P14 := P13.same sq1
    have d14 := sq1 _ _ d13
    have oq1 := P13.off nq1
    generalize upd H13 q1 (.lst [V.str nn]) = H14 at sq1 dq1 P14 d14 ⊢
    refine ⟨_, rfl, p, l, 4, rfl, P14, by decide, lim (by decide), fun w H15 w0 w1 P15 o15 => ?_⟩
    have dq15 := o15.but _ _ dq1 oq1.1.symm
    have d15 := o15.but _ _ d14 offN.1.symm
    obtain ⟨wn, rfl⟩ : ∃ m : Nat, w = (m : Int) := ⟨w.toNat, by omega⟩
    refine ⟨q1, (wn : Int), _, rfl, rfl, dq15, by omega, by omega, by rw [Int.toNat_natCast]; exact Nat.le_of_lt (small _ (by show 1 * wn ≤ 60000; omega)), fun q2 nq2 => ?_⟩
    have er : (List.replicate ((wn : Int)).toNat [V.str nn]).flatten = (List.replicate wn nn).map V.str := by
      rw [Int.toNat_natCast]
      clear w0 w1 o15 dq15
      induction wn with
      | zero => rfl
      | succ m ih => rw [List.replicate_succ, List.replicate_succ, List.flatten_cons, ih]; rfl
    rw [er]
    have s16 := Same.new (o := .lst ((List.replicate wn nn).map V.str)) nq2
    have dq2 : upd H15 q2 (.lst ((List.replicate wn nn).map V.str)) q2 = some (.lst ((List.replicate wn nn).map V.str)) := upd_same
    have d16 := s16 _ _ d15
    generalize upd H15 q2 (.lst ((List.replicate wn nn).map V.str)) = H16 at s16 dq2 d16 ⊢
    refine ⟨by show 1 ≤ sizeLine; decide, fun q3 nq3 => ?_⟩
    have s17 := Same.new (o := .lst [V.str "x"]) nq3
    have dq3 : upd H16 q3 (.lst [V.str "x"]) q3 = some (.lst [V.str "x"]) := upd_same
    have dq2' := s17 _ _ dq2
    have d17 := s17 _ _ d16
    generalize upd H16 q3 (.lst [V.str "x"]) = H17 at s17 dq3 dq2' d17 ⊢
    refine ⟨q2, q3, _, _, rfl, rfl, dq2', dq3, Nat.le_of_lt (small _ (by rw [List.length_map, List.length_replicate]; show wn + 1 ≤ 60000; omega)), fun q4 nq4 => ?_⟩
    have ec : (List.replicate wn nn).map V.str ++ [V.str "x"] = (List.replicate wn nn ++ [("x" : Str)]).map V.str := by rw [List.map_append]; rfl
    rw [ec]
    have s18 := Same.new (o := .lst ((List.replicate wn nn ++ [("x" : Str)]).map V.str)) nq4
    have jnw := jn (List.replicate wn nn ++ [("x" : Str)]) (by rw [List.length_append, List.length_replicate]; show wn + 1 ≤ 9; omega) fun w m => by
      rcases List.mem_append.mp m with m | m
      · rw [List.eq_of_mem_replicate m]; omega
      · rw [List.mem_singleton.mp m]; decide
    refine ⟨slash, q4, _, rfl, rfl, .inl (SqL.of upd_same), jnw.1, ?_⟩
    have d18 := s18 _ _ d17
    obtain ⟨nw, hnw⟩ : ∃ nw, nw = Txt.join slash (List.replicate wn nn ++ [("x" : Str)]) := ⟨_, rfl⟩
    have lnw : nw.length ≤ 60 := by
      rw [hnw]
      have jl := join_len slash (List.replicate wn nn ++ [("x" : Str)]) 12 fun w m => by
        rcases List.mem_append.mp m with m | m
        · rw [List.eq_of_mem_replicate m]; omega
        · rw [List.mem_singleton.mp m]; decide
      rw [List.length_append, List.length_replicate, sl1] at jl
      have : ([("x" : Str)] : List Str).length = 1 := rfl
      omega
    rw [← hnw]
    generalize upd H17 q4 (.lst ((List.replicate wn nn ++ [("x" : Str)]).map V.str)) = H18 at s18 d18 ⊢
    -- moved_path
    refine ⟨_, rfl, ⟨_, rfl⟩, _, rfl, _, rfl, _, rfl, Nm, _, rfl, SqL.of d18, fun q5 nq5 => ?_⟩
    rw [cut_take, ← List.map_take]
    have s19 := Same.new (o := .lst ((nms.take at_).map V.str)) nq5
    have j5 := jn (nms.take at_) (by rw [List.length_take]; omega) fun w m => by have := (h8 w (List.mem_of_mem_take m)).2; omega
    refine ⟨slash, q5, _, rfl, rfl, .inl (SqL.of upd_same), j5.1, _, rfl, _, _, _, rfl, by have := jn8.2; omega, by have := j5.2; omega, by omega, ?_⟩
    have d19 := s19 _ _ d18
    generalize upd H18 q5 (.lst ((nms.take at_).map V.str)) = H19 at s19 d19 ⊢
    refine ⟨⟨_, rfl⟩, _, rfl, by show 1 ≤ sizeLine; decide, fun q6 nq6 => ?_⟩
    have s20 := Same.new (o := .lst [V.str nw]) nq6
    have d20 := s20 _ _ d19
    have dq6 : upd H19 q6 (.lst [V.str nw]) q6 = some (.lst [V.str nw]) := upd_same
    generalize upd H19 q6 (.lst [V.str nw]) = H20 at s20 d20 dq6 ⊢
    refine ⟨_, rfl, _, rfl, _, rfl, Nm, _, rfl, SqL.of d20, fun q7 nq7 => ?_⟩
    rw [cut_drop, ← List.map_drop]
    have s21 := Same.new (o := .lst ((nms.drop at_).map V.str)) nq7
    have dq7 : upd H20 q7 (.lst ((nms.drop at_).map V.str)) q7 = some (.lst ((nms.drop at_).map V.str)) := upd_same
    have dq6' := s21 _ _ dq6
    generalize upd H20 q7 (.lst ((nms.drop at_).map V.str)) = H21 at s21 dq7 dq6' ⊢
    refine ⟨q6, q7, _, _, rfl, rfl, dq6', dq7, Nat.le_of_lt (small _ (by rw [List.length_map, List.length_drop]; show 1 + _ ≤ 60000; omega)), fun q8 nq8 => ?_⟩
    have e8 : [V.str nw] ++ (nms.drop at_).map V.str = (nw :: nms.drop at_).map V.str := rfl
    rw [e8]
    have j8 := jn (nw :: nms.drop at_) (by rw [List.length_cons, List.length_drop]; omega) fun w m => by
      rcases List.mem_cons.mp m with m | m
      · rw [m]; exact lnw
      · have := (h8 w (List.mem_of_mem_drop m)).2; omega
    refine ⟨slash, q8, _, rfl, rfl, .inl (SqL.of upd_same), j8.1, rfl, ?_⟩
    rw [moved_eq nms nw at_ at1 at2, decide_eq_true rfl]
    exact k _
end
theorem all_mk {l : PySem.W.OpenLaw} {w : World} {K : PySem.W.Frag} {h : Heap} {mg : Str → Option Value} {fa : Addr} (X : K.In h) (G : h.Ns mainGlobals mg) (hfa : mg "law" = some (.ref fa))
    {f_is_name : Addr} {oc_is_name kV_is_name dc_is_name pm_is_name cd_is_name ct_is_name : Value} {od_is_name an_is_name : Option Addr} {sl_is_name : Array (Option Value)}
    {f_is_path : Addr} {oc_is_path kV_is_path dc_is_path pm_is_path cd_is_path ct_is_path : Value} {od_is_path an_is_path : Option Addr} {sl_is_path : Array (Option Value)}
    {f_ways : Addr} {oc_ways kV_ways dc_ways pm_ways cd_ways ct_ways : Value} {od_ways an_ways : Option Addr} {sl_ways : Array (Option Value)}
    {f_moved_path : Addr} {oc_moved_path kV_moved_path dc_moved_path pm_moved_path cd_moved_path ct_moved_path : Value} {od_moved_path an_moved_path : Option Addr} {sl_moved_path : Array (Option Value)}
    {f_law_pot : Addr} {oc_law_pot kV_law_pot dc_law_pot pm_law_pot cd_law_pot ct_law_pot : Value} {od_law_pot an_law_pot : Option Addr} {sl_law_pot : Array (Option Value)}
    {f_law_next : Addr} {oc_law_next kV_law_next dc_law_next pm_law_next cd_law_next ct_law_next : Value} {od_law_next an_law_next : Option Addr} {sl_law_next : Array (Option Value)}
    {f_law_name_due : Addr} {oc_law_name_due kV_law_name_due dc_law_name_due pm_law_name_due cd_law_name_due ct_law_name_due : Value} {od_law_name_due an_law_name_due : Option Addr} {sl_law_name_due : Array (Option Value)}
    {f_law_text : Addr} {oc_law_text kV_law_text dc_law_text pm_law_text cd_law_text ct_law_text : Value} {od_law_text an_law_text : Option Addr} {sl_law_text : Array (Option Value)}
    {f_law : Addr} {oc_law kV_law dc_law pm_law cd_law ct_law : Value} {od_law an_law : Option Addr} {sl_law : Array (Option Value)}
    {tk_MAX_NAME : Tok}
    {tk_MAX_PATH : Tok}
    {tk_NAME_CHARACTERS : Tok}
    (a_is_name : PySem.W.nsIn K mainGlobals "is_name" = some (some (.ref f_is_name)))
    (l_is_name : K.lookup f_is_name = some ⟨oc_is_name, od_is_name, .func (PySem.W.fnOf "is_name" "is_name" (defArgs s_is_name) (defBody s_is_name) (defScope s_is_name) .none kV_is_name dc_is_name pm_is_name an_is_name cd_is_name ct_is_name), sl_is_name⟩)
    (q_is_name : PySem.W.codeIn K cd_is_name "is_name" = true)
    (k_is_name : PySem.W.keepIn K (.ref f_is_name) = true)
    (a_is_path : PySem.W.nsIn K mainGlobals "is_path" = some (some (.ref f_is_path)))
    (l_is_path : K.lookup f_is_path = some ⟨oc_is_path, od_is_path, .func (PySem.W.fnOf "is_path" "is_path" (defArgs s_is_path) (defBody s_is_path) (defScope s_is_path) .none kV_is_path dc_is_path pm_is_path an_is_path cd_is_path ct_is_path), sl_is_path⟩)
    (q_is_path : PySem.W.codeIn K cd_is_path "is_path" = true)
    (k_is_path : PySem.W.keepIn K (.ref f_is_path) = true)
    (a_ways : PySem.W.nsIn K mainGlobals "ways" = some (some (.ref f_ways)))
    (l_ways : K.lookup f_ways = some ⟨oc_ways, od_ways, .func (PySem.W.fnOf "ways" "ways" (defArgs s_ways) (defBody s_ways) (defScope s_ways) .none kV_ways dc_ways pm_ways an_ways cd_ways ct_ways), sl_ways⟩)
    (q_ways : PySem.W.codeIn K cd_ways "ways" = true)
    (k_ways : PySem.W.keepIn K (.ref f_ways) = true)
    (a_moved_path : PySem.W.nsIn K mainGlobals "moved_path" = some (some (.ref f_moved_path)))
    (l_moved_path : K.lookup f_moved_path = some ⟨oc_moved_path, od_moved_path, .func (PySem.W.fnOf "moved_path" "moved_path" (defArgs s_moved_path) (defBody s_moved_path) (defScope s_moved_path) .none kV_moved_path dc_moved_path pm_moved_path an_moved_path cd_moved_path ct_moved_path), sl_moved_path⟩)
    (q_moved_path : PySem.W.codeIn K cd_moved_path "moved_path" = true)
    (k_moved_path : PySem.W.keepIn K (.ref f_moved_path) = true)
    (a_law_pot : PySem.W.nsIn K mainGlobals "_law_pot" = some (some (.ref f_law_pot)))
    (l_law_pot : K.lookup f_law_pot = some ⟨oc_law_pot, od_law_pot, .func (PySem.W.fnOf "_law_pot" "_law_pot" (defArgs s_law_pot) (defBody s_law_pot) (defScope s_law_pot) .none kV_law_pot dc_law_pot pm_law_pot an_law_pot cd_law_pot ct_law_pot), sl_law_pot⟩)
    (q_law_pot : PySem.W.codeIn K cd_law_pot "_law_pot" = true)
    (k_law_pot : PySem.W.keepIn K (.ref f_law_pot) = true)
    (a_law_next : PySem.W.nsIn K mainGlobals "_law_next" = some (some (.ref f_law_next)))
    (l_law_next : K.lookup f_law_next = some ⟨oc_law_next, od_law_next, .func (PySem.W.fnOf "_law_next" "_law_next" (defArgs s_law_next) (defBody s_law_next) (defScope s_law_next) .none kV_law_next dc_law_next pm_law_next an_law_next cd_law_next ct_law_next), sl_law_next⟩)
    (q_law_next : PySem.W.codeIn K cd_law_next "_law_next" = true)
    (k_law_next : PySem.W.keepIn K (.ref f_law_next) = true)
    (a_law_name_due : PySem.W.nsIn K mainGlobals "_law_name_due" = some (some (.ref f_law_name_due)))
    (l_law_name_due : K.lookup f_law_name_due = some ⟨oc_law_name_due, od_law_name_due, .func (PySem.W.fnOf "_law_name_due" "_law_name_due" (defArgs s_law_name_due) (defBody s_law_name_due) (defScope s_law_name_due) .none kV_law_name_due dc_law_name_due pm_law_name_due an_law_name_due cd_law_name_due ct_law_name_due), sl_law_name_due⟩)
    (q_law_name_due : PySem.W.codeIn K cd_law_name_due "_law_name_due" = true)
    (k_law_name_due : PySem.W.keepIn K (.ref f_law_name_due) = true)
    (a_law_text : PySem.W.nsIn K mainGlobals "_law_text" = some (some (.ref f_law_text)))
    (l_law_text : K.lookup f_law_text = some ⟨oc_law_text, od_law_text, .func (PySem.W.fnOf "_law_text" "_law_text" (defArgs s_law_text) (defBody s_law_text) (defScope s_law_text) .none kV_law_text dc_law_text pm_law_text an_law_text cd_law_text ct_law_text), sl_law_text⟩)
    (q_law_text : PySem.W.codeIn K cd_law_text "_law_text" = true)
    (k_law_text : PySem.W.keepIn K (.ref f_law_text) = true)
    (a_law : PySem.W.nsIn K mainGlobals "law" = some (some (.ref f_law)))
    (l_law : K.lookup f_law = some ⟨oc_law, od_law, .func (PySem.W.fnOf "law" "law" (defArgs s_law) (defBody s_law) (defScope s_law) .none kV_law dc_law pm_law an_law cd_law ct_law), sl_law⟩)
    (q_law : PySem.W.codeIn K cd_law "law" = true)
    (k_law : PySem.W.keepIn K (.ref f_law) = true)
    (a_MAX_NAME : PySem.W.nsIn K mainGlobals "MAX_NAME" = some (some (.int 12 tk_MAX_NAME)))
    (a_MAX_PATH : PySem.W.nsIn K mainGlobals "MAX_PATH" = some (some (.int 60 tk_MAX_PATH)))
    (a_NAME_CHARACTERS : PySem.W.nsIn K mainGlobals "NAME_CHARACTERS" = some (some (.str "abcdefghijklmnopqrstuvwxyz0123456789-" tk_NAME_CHARACTERS)))
    (n_all : PySem.W.nsIn K mainGlobals "all" = some none)
    (n_isinstance : PySem.W.nsIn K mainGlobals "isinstance" = some none)
    (n_str : PySem.W.nsIn K mainGlobals "str" = some none)
    (n_len : PySem.W.nsIn K mainGlobals "len" = some none)
    (n_range : PySem.W.nsIn K mainGlobals "range" = some none)
    (n_list : PySem.W.nsIn K mainGlobals "list" = some none)
    (n_int : PySem.W.nsIn K mainGlobals "int" = some none)
    (n_abs : PySem.W.nsIn K mainGlobals "abs" = some none)
    (n_min : PySem.W.nsIn K mainGlobals "min" = some none)
    (n_max : PySem.W.nsIn K mainGlobals "max" = some none) :
    ∃ fd : FuncData, (∀ (s : Shared) (v : Value), BindsTo s fd ⟨[v], []⟩ [("script", v)]) ∧ ∀ base : Heap, K.In base → base.Ns mainGlobals mg → FnOk l.prog w K mg base CX0 3 fa fd ["script"] (sp_law0 K) := by
  have e := hfa.symm.trans (PySem.W.mg_of X G a_law)
  cases e
  have F_is_name := fun_mk (st := s_is_name) l_is_name q_is_name k_is_name
  have d_is_name := F_is_name.binds (ps := ["text"]) fun _ _ _ _ _ _ us hl => match us, hl with | [_], _ => rfl
  have F_is_path := fun_mk (st := s_is_path) l_is_path q_is_path k_is_path
  have d_is_path := F_is_path.binds (ps := ["text"]) fun _ _ _ _ _ _ us hl => match us, hl with | [_], _ => rfl
  have F_ways := fun_mk (st := s_ways) l_ways q_ways k_ways
  have d_ways := F_ways.binds (ps := ["path"]) fun _ _ _ _ _ _ us hl => match us, hl with | [_], _ => rfl
  have F_moved_path := fun_mk (st := s_moved_path) l_moved_path q_moved_path k_moved_path
  have d_moved_path := F_moved_path.binds (ps := ["path", "old", "new"]) fun _ _ _ _ _ _ us hl => match us, hl with | [_, _, _], _ => rfl
  have F_law_pot := fun_mk (st := s_law_pot) l_law_pot q_law_pot k_law_pot
  have d_law_pot := F_law_pot.binds (ps := ["script"]) fun _ _ _ _ _ _ us hl => match us, hl with | [_], _ => rfl
  have F_law_next := fun_mk (st := s_law_next) l_law_next q_law_next k_law_next
  have d_law_next := F_law_next.binds (ps := ["pot", "limit"]) fun _ _ _ _ _ _ us hl => match us, hl with | [_, _], _ => rfl
  have F_law_name_due := fun_mk (st := s_law_name_due) l_law_name_due q_law_name_due k_law_name_due
  have d_law_name_due := F_law_name_due.binds (ps := ["text"]) fun _ _ _ _ _ _ us hl => match us, hl with | [_], _ => rfl
  have F_law_text := fun_mk (st := s_law_text) l_law_text q_law_text k_law_text
  have d_law_text := F_law_text.binds (ps := ["pot", "size"]) fun _ _ _ _ _ _ us hl => match us, hl with | [_, _], _ => rfl
  have F_law := fun_mk (st := s_law) l_law q_law k_law
  have d_law := F_law.binds (ps := ["script"]) fun _ _ _ _ _ _ us hl => match us, hl with | [_], _ => rfl
  have T : Txt K mg ⟨f_is_name, _, f_is_path, _, f_ways, _, f_moved_path, _, f_law_pot, _, f_law_next, _, f_law_name_due, _, f_law_text, _, fa, _⟩ := {
    F_is_name := F_is_name, g_is_name := PySem.W.mg_of X G a_is_name, d_is_name := d_is_name,
    F_is_path := F_is_path, g_is_path := PySem.W.mg_of X G a_is_path, d_is_path := d_is_path,
    F_ways := F_ways, g_ways := PySem.W.mg_of X G a_ways, d_ways := d_ways,
    F_moved_path := F_moved_path, g_moved_path := PySem.W.mg_of X G a_moved_path, d_moved_path := d_moved_path,
    F_law_pot := F_law_pot, g_law_pot := PySem.W.mg_of X G a_law_pot, d_law_pot := d_law_pot,
    F_law_next := F_law_next, g_law_next := PySem.W.mg_of X G a_law_next, d_law_next := d_law_next,
    F_law_name_due := F_law_name_due, g_law_name_due := PySem.W.mg_of X G a_law_name_due, d_law_name_due := d_law_name_due,
    F_law_text := F_law_text, g_law_text := PySem.W.mg_of X G a_law_text, d_law_text := d_law_text,
    F_law := F_law, g_law := PySem.W.mg_of X G a_law, d_law := d_law,
    g_MAX_NAME := ⟨_, PySem.W.mg_of X G a_MAX_NAME, ⟨_, rfl⟩⟩,
    g_MAX_PATH := ⟨_, PySem.W.mg_of X G a_MAX_PATH, ⟨_, rfl⟩⟩,
    g_NAME_CHARACTERS := ⟨_, PySem.W.mg_of X G a_NAME_CHARACTERS, ⟨_, rfl⟩⟩,
    n_all := PySem.W.mg_none_of X G n_all,
    n_isinstance := PySem.W.mg_none_of X G n_isinstance,
    n_str := PySem.W.mg_none_of X G n_str,
    n_len := PySem.W.mg_none_of X G n_len,
    n_range := PySem.W.mg_none_of X G n_range,
    n_list := PySem.W.mg_none_of X G n_list,
    n_int := PySem.W.mg_none_of X G n_int,
    n_abs := PySem.W.mg_none_of X G n_abs,
    n_min := PySem.W.mg_none_of X G n_min,
    n_max := PySem.W.mg_none_of X G n_max }
  exact ⟨PySem.W.fnOf "law" "law" (defArgs s_law) (defBody s_law) (defScope s_law) .none kV_law dc_law pm_law an_law cd_law ct_law, fun s v => .of_eq rfl, fun base _ _ => (ok_law T).imp fun vs H Q E h => h⟩
theorem walk {l : PySem.W.OpenLaw} {q : Program} {loose : List Str} {XP : (Str → Option Value) → Heap → Prop} {YP : World → Heap → Prop} {d : DefRec} {K : Params → PySem.W.Frag} (hn : l.most = some 63) (hdf : d.params.defaults = [])
    (hY : ∀ (w : World) (h : Heap), YP w h → (K w.params).In h)
    (F : ∀ (w : World) (mg : Str → Option Value) (fa : Addr) (h : Heap), (K w.params).In h → h.Ns mainGlobals mg → mg d.name = some (.ref fa) →
      ∃ fd : FuncData, (∀ (s : Shared) (u : Value), BindsTo s fd ⟨[u], []⟩ [("script", u)]) ∧ ∀ base : Heap, (K w.params).In base → base.Ns mainGlobals mg → FnOk l.prog w (K w.params) mg base CX0 3 fa fd ["script"] (sp_law0 (K w.params))) :
    PySem.W.WalkO q loose XP YP l.row.toRowW d [] (fun f vs => PySem.call f vs) :=
  L2.walk_of (n := 63) (k := 3) (x := "script") (CX := fun _ => CX0) (sp := fun w => sp_law0 (K w.params)) hn (by decide) hdf ⟨rfl, by decide, by decide⟩ hY F (fun _ _ a ns hl _ hS => ⟨a, ns, rfl, hS, hl, fun _ => rfl⟩) fun _ _ _ _ _ z => z
end PP
open PySem PySem.W PyProof.Rows
set_option maxRecDepth 100000 in
set_option maxHeartbeats 0 in
theorem PySem.Challenge.cw_paritypool_k36_names_and_paths_holds : PySem.Challenge.rw_paritypool_k36_names_and_paths.Holds := by
  w_on; o_law; k_head; (case hw => w_witness2)
  k_fill
  refine PP.walk (l := PySem.Challenge.rw_paritypool_k36_names_and_paths) rfl rfl (fun w h Y => PySem.W.kIn_of Y) ?F
  case F =>
    intro w mg fa h KX G hmg
    refine' PP.all_mk KX G hmg ?a_is_name ?l_is_name ?q_is_name ?k_is_name ?a_is_path ?l_is_path ?q_is_path ?k_is_path ?a_ways ?l_ways ?q_ways ?k_ways ?a_moved_path ?l_moved_path ?q_moved_path ?k_moved_path ?a_law_pot ?l_law_pot ?q_law_pot ?k_law_pot ?a_law_next ?l_law_next ?q_law_next ?k_law_next ?a_law_name_due ?l_law_name_due ?q_law_name_due ?k_law_name_due ?a_law_text ?l_law_text ?q_law_text ?k_law_text ?a_law ?l_law ?q_law ?k_law ?a_MAX_NAME ?a_MAX_PATH ?a_NAME_CHARACTERS ?n_all ?n_isinstance ?n_str ?n_len ?n_range ?n_list ?n_int ?n_abs ?n_min ?n_max
    (case a_is_name => k_is)
    (case l_is_name => k_is)
    (case q_is_name => k_is)
    (case k_is_name => k_is)
    (case a_is_path => k_is)
    (case l_is_path => k_is)
    (case q_is_path => k_is)
    (case k_is_path => k_is)
    (case a_ways => k_is)
    (case l_ways => k_is)
    (case q_ways => k_is)
    (case k_ways => k_is)
    (case a_moved_path => k_is)
    (case l_moved_path => k_is)
    (case q_moved_path => k_is)
    (case k_moved_path => k_is)
    (case a_law_pot => k_is)
    (case l_law_pot => k_is)
    (case q_law_pot => k_is)
    (case k_law_pot => k_is)
    (case a_law_next => k_is)
    (case l_law_next => k_is)
    (case q_law_next => k_is)
    (case k_law_next => k_is)
    (case a_law_name_due => k_is)
    (case l_law_name_due => k_is)
    (case q_law_name_due => k_is)
    (case k_law_name_due => k_is)
    (case a_law_text => k_is)
    (case l_law_text => k_is)
    (case q_law_text => k_is)
    (case k_law_text => k_is)
    (case a_law => k_is)
    (case l_law => k_is)
    (case q_law => k_is)
    (case k_law => k_is)
    (case a_MAX_NAME => k_is)
    (case a_MAX_PATH => k_is)
    (case a_NAME_CHARACTERS => k_is)
    (case n_all => k_is)
    (case n_isinstance => k_is)
    (case n_str => k_is)
    (case n_len => k_is)
    (case n_range => k_is)
    (case n_list => k_is)
    (case n_int => k_is)
    (case n_abs => k_is)
    (case n_min => k_is)
    (case n_max => k_is)
