import PyProof.Rows.All
import Wide.All
import OpenK.AllK
import Wide.FinOn
import HandS.ForMost
import HandS.ForExc
import HandS.ExcIs
import HandS.IsInst
import HandS.Evl
import HandS.Walk
import HandS.More
import HandS.Wide
import HandS.TupLen
import HandS.Star
import HandS.Text
import HandS.Iter
import HandS.Rev
import HandS.Conv
import HandS.TryOnly
import HandS.Style
import HandS.Zip
import KE.GoesEnumKw
import HandS.SortKw
import KE.DataMinMax
import KE.SortData
import PyProof.ReprBulk
import PySem.Challenge.RW_paritypool_k24_whole_notes_and_cuts
set_option Elab.async false
set_option linter.all false
set_option maxRecDepth 100000
set_option maxHeartbeats 2000000
namespace L2
open PySem PySem.Spec PyProof.Rows
def isS : V → Bool
  | .non => true
  | .bl _ => true
  | .int _ => true
  | .str _ => true
  | _ => false
/-- x is True, x is False: of None, bools, ints, texts -/
def rIsTF : R2 := fun x y H Q => ∃ b : Bool, y = .bl b ∧ isS x = true ∧ Q (.bl (decide (x = .bl b))) H
theorem op_isTF {X : Cx} : OpR X (compareOp .Is) rIsTF := by
  intro pins s σ H x y v u Q I rx ry h
  obtain ⟨b, rfl, nr, q⟩ := h
  cases (show u = Value.bool b from ry)
  cases x with
  | non =>
    cases (show v = Value.none from rx)
    exact wpAny_is_other rfl (fun z => nomatch z) ⟨.bl false, H, I, rfl, q⟩
  | bl a =>
    cases (show v = Value.bool a from rx)
    by_cases e : a = b
    · subst e
      exact wpAny_is_self rfl ⟨.bl true, H, I, rfl, by simpa using q⟩
    · exact wpAny_is_other rfl (fun z => e (Value.bool.inj z)) ⟨.bl false, H, I, rfl, by simpa [e] using q⟩
  | int i =>
    obtain ⟨t, rfl⟩ := (show ∃ t, v = Value.int i t from rx)
    exact wpAny_is_other rfl (fun z => nomatch z) ⟨.bl false, H, I, rfl, q⟩
  | str z =>
    obtain ⟨t, rfl⟩ := (show ∃ t, v = Value.str z t from rx)
    exact wpAny_is_other rfl (fun z => nomatch z) ⟨.bl false, H, I, rfl, q⟩
  | ref a => cases nr
  | byt b => cases nr
  | flt b => cases nr
  | ty n => cases nr
end L2
namespace PyProof.Rows
open PySem
theorem callWith_typeKw {M : Model} {A : Around} {E : Value → Shared → Prop} {s : Shared} {env : Env} {pos : Pos} {T : String} {e : Expr} {rest : List Expr} {kws : List Keyword} {Q : Value → Shared → Prop}
    (h : wpAny M A (spliced (backTo pos (starEach (e :: rest) env))) (fun vs s₁ => wpAny M A (evalAll ((backToKw pos (keywordEach kws env)).map (·.2)))
      (fun kvs s₂ => wpAny M A (call (.type T) vs (((backToKw pos (keywordEach kws env)).filterMap (·.1)).zip kvs)) Q E s₂) E s₁) E s)
    (he : backTo pos (starEach (e :: rest) env) = (false, eval e env) :: backTo pos (starEach rest env) := by rfl)
    (hplain : (backTo pos (starEach (e :: rest) env)).any (·.1) = false := by rfl)
    (hall : (backToKw pos (keywordEach kws env)).all (·.1.isSome) = true := by rfl)
    (hkw : (backToKw pos (keywordEach kws env)).any (·.1.isNone) = false := by rfl) :
    wpAny M A (callWith pos (.type T) [] (backTo pos (starEach (e :: rest) env)) (backToKw pos (keywordEach kws env))) Q E s := by
  unfold callWith
  rw [he] at h hplain ⊢
  refine wpAny_bind (wpAny_holding (wpAny_mono (evalArgs_kwB (Q := fun a s₁ => wpAny M A (call (.type T) ([] ++ a.pos) a.kw) Q E s₁) hall h) (fun a s₁ h₁ => wpAny_bind (wpAny_standAt ?_)) fun _ _ x => x))
  simp only [hplain, hkw, Bool.or_false]
  refine wpAny_bind (wpAny_pure ?_)
  exact wpAny_bind (wpAny_mono h₁ (fun r s₂ hr => wpAny_bind (wpAny_holding (wpAny_point (wpAny_pure hr)))) fun _ _ x => x)
end PyProof.Rows
namespace L2
open PySem PySem.Spec PyProof.Rows
theorem item_ltV {l : List V} {i : Nat} {x : V} (h : l[i]? = some x) : i < l.length := (List.getElem?_eq_some_iff.mp h).1
theorem enumS_end {prog : Program} {w : World} {A : Around} {E : Value → Shared → Prop} {s : Shared} {e it l : Addr} {i : Nat} {c : Int} {items : Array Value} {old : Value} {Q : Option Value → Shared → Prop}
    (hh : A.handled = none) (he : IsEnum s.heap e it c old) (hit : s.heap.IsListIter it l i) (hl : s.heap.IsList l items) (hx : items.size = i)
    (hQ : ∀ h', Heap.ExtBut it s.heap h' → Q none { s with heap := h' }) : wpAny (model prog w) A (pyNext (.ref e)) Q E s := by
  have hail : l ≠ it := fun z => by
    obtain ⟨o, q, c, d⟩ := hit
    obtain ⟨o2, q2, c2, n2, d2⟩ := hl
    rw [← z, q2] at q
    have := Option.some.inj q
    rw [← this, d2] at d
    cases d
  subst hx
  exact wpAny_pyNext_enum_endD (Draws.list (prog := prog) (w := w) (A := A.in1) hh it l hail items) he ⟨hit, hl⟩ hQ
/-- the list at a as it stands at each turn, each item in a new pair, counted from k -/
def IteS (K : PySem.W.Frag) (a : Addr) (k : Int) : It :=
  ⟨fun i H => ∃ (xs : List V) (x : V), SqL K H a xs ∧ xs[i]? = some x, fun i H v H' => ∃ T x, v = .ref T ∧ H T = none ∧ H' = upd H T (.tup [.int (k + (i : Nat)), x]) ∧ ∀ xs, SqL K H a xs → xs[i]? = some x, fun i H => ∃ xs : List V, SqL K H a xs ∧ xs.length = i⟩
theorem turn_enumS {P : Program} {w : World} {K : PySem.W.Frag} {elts : List Expr} {kk : Nat} {tpos : Pos} {k : Int} (a e it : Addr) :
    Turn P w K (.Tuple elts kk tpos) (IteS K a k) [e, it] e (fun i h => (∃ old, IsEnum h e it (k + ((i : Nat) : Int)) old) ∧ h.IsListIter it a i ∧ e ≠ it) where
  mem := by simp
  obj := fun i h st b hb => by
    obtain ⟨⟨old, he⟩, ⟨o, ho, hc, hd⟩, _⟩ := st
    have e' : b = e ∨ b = it := by simpa using hb
    rcases e' with z | z
    · rw [z]; exact ⟨_, he, fun v q => nomatch q⟩
    · rw [z]; exact ⟨o, ho, fun v q => by rw [hd] at q; cases q⟩
  keep := fun i h h' st k => let ⟨⟨old, he⟩, hi, hne⟩ := st; ⟨⟨old, k e (by simp) _ he⟩, hi.at fun o q => k it (by simp) o q, hne⟩
  item := by
    intro X hP hw hK hc i pins s σ H E I hf st hg
    subst hP hw hK
    obtain ⟨⟨old, he⟩, hit, hne⟩ := st
    obtain ⟨xs, x, hq, hx⟩ := hg
    obtain ⟨its, rv, p, hz⟩ := I.list hq
    obtain ⟨u, hu, ru⟩ := rv.get hx
    have hel : e < s.heap.objs.size := Heap.lt_size he
    have hil : it < s.heap.objs.size := by obtain ⟨_, q, _⟩ := hit; exact Heap.lt_size q
    have hail : a ≠ it := fun z => by
      obtain ⟨o, q, c, d⟩ := hit
      obtain ⟨o2, q2, c2, n2, d2⟩ := p.isList
      rw [← z, q2] at q
      have := Option.some.inj q
      rw [← this, d2] at d
      cases d
    have hae : e ≠ a := fun z => by
      obtain ⟨o2, q2, c2, n2, d2⟩ := p.isList
      have q : s.heap.get? e = _ := he
      rw [z, q2] at q
      have := Option.some.inj q
      rw [this] at d2
      cases d2
    have D := Draws.list (prog := X.prog) (w := X.w) (A := X.A.in1) (I.ok.hd hc) it a hail its.toArray
    refine wpAny_pyNext_enum_itemC D he ⟨hit, p.isList⟩ (by have := item_ltV hx; have := rv.length; simp; omega) hne (by simp [hne, hae]) fun y h' tk hP ho hs' hT hsz hk => ?_
    have ey : y = u := by
      have : its[i]? = some y := by simpa using hP
      rw [hu] at this
      exact (Option.some.inj this).symm
    subst ey
    refine ⟨_, rfl, wpAny_letOwnedTupleGo_enum (s := { s with heap := h', toks := tk + 1 }) ho fun h'' he' sb => ?_⟩
    have hT2 : h''.get? s.heap.objs.size = some { cls := .type "tuple", data := .seq #[.int (k + (i : Nat)) tk, y] } := (sb.2 _ (Nat.ne_of_gt hel)).trans hT
    have new : ObjOk X.prog X.w (upd H s.heap.objs.size (.tup [.int (k + (i : Nat)), x])) h'' s.heap.objs.size (.tup [.int (k + (i : Nat)), x]) :=
      ⟨by show 2 ≤ sizeLine; decide, [.int (k + (i : Nat)) tk, y], .cons ⟨_, rfl⟩ (.cons ru .nil), ⟨_, hT2, rfl, _, rfl⟩⟩
    have I1 : Inv X pins σ (upd H s.heap.objs.size (.tup [.int (k + (i : Nat)), x])) { s with heap := h'', toks := tk + 1 } :=
      I.turnedNew (ch := [e, it]) (fun b ob hb q => (sb.2 b (fun z => hb (by simp [z]))).trans (hk b ob (fun z => hb (by simp [z])) (fun z => hb (by simp [z])) q)) hf (Nat.le_refl _) new
    refine ⟨.ref s.heap.objs.size, _, I1, rfl, ⟨_, x, rfl, I.hok.fresh (Nat.le_refl _), rfl, fun ys hy => by rw [I.list_inj hy hq]; exact hx⟩, ⟨⟨y, ?_⟩, hs'.1.at fun o q => (sb.2 it (Ne.symm hne)).trans q, hne⟩, fun b hb => ?_⟩
    · have e1 : k + ((i + 1 : Nat) : Int) = k + (i : Int) + 1 := by omega
      rw [e1]; exact he'
    · have hb' : b < s.heap.objs.size := by
        have e' : b = e ∨ b = it := by simpa using hb
        rcases e' with z | z
        · rw [z]; exact hel
        · rw [z]; exact hil
      rw [upd_ne (Nat.ne_of_lt hb')]
      exact (hf b hb).1
  done := by
    intro X hP hw hK hc i pins s σ H E I hf st hg
    subst hP hw hK
    obtain ⟨⟨old, he⟩, hit, hne⟩ := st
    obtain ⟨xs, hq, hx⟩ := hg
    obtain ⟨its, rv, p, hz⟩ := I.list hq
    obtain ⟨f0, f1, f2, f3, f4, f5⟩ := hf it (by simp)
    have hl := rv.length
    exact enumS_end (I.ok.hd hc) he hit p.isList (by simp; omega) fun h' eb => ⟨rfl, I.turned (t' := s.toks) (fun b o hb q => eb b o hb q) f0 f1 f3 f4 f5⟩
  self := fun A i s Q E st h => let ⟨⟨_, he⟩, _⟩ := st; wpAny_pyIter_enum he h
def iEnumS (K : PySem.W.Frag) (ta tk : TA) : TI := fun σ H R => ta σ H fun vs H1 => tk σ H1 fun zs H2 => ∃ a xs k, vs = [.ref a] ∧ zs = [.int k] ∧ SqL K H2 a xs ∧ -(2 ^ 63) ≤ k ∧ k < 2 ^ 63 ∧ R (IteS K a k) H2
theorem pi_enumS {X : Cx} {e : Expr} {kws : List Keyword} {ta tk : TA} {p pos tpos : Pos} {elts : List Expr} {kk : Nat} (hg : Gl X "enumerate") (hm : X.mg "enumerate" = none) (ha : PA X [e] ta) (hkw : PK X kws tk)
    (hs : backTo pos (starEach [e] X.env) = (false, eval e X.env) :: backTo pos (starEach [] X.env) := by rfl) (hpl : (backTo pos (starEach [e] X.env)).any (·.1) = false := by rfl)
    (hall : (backToKw pos (keywordEach kws X.env)).all (·.1.isSome) = true := by rfl) (hnone : (backToKw pos (keywordEach kws X.env)).any (·.1.isNone) = false := by rfl) (hks : (backToKw pos (keywordEach kws X.env)).filterMap (·.1) = [("start" : Str)] := by rfl) :
    PI X (.Tuple elts kk tpos) (.Call (.Name "enumerate" p) [e] kws pos) (iEnumS X.K ta tk) := by
  refine ⟨fun pins s σ H R I h => ?_⟩
  refine wpAny_Call_Name_kw (ld_blt I hg hm boot_enumerate ?_)
  refine PyProof.Rows.callWith_typeKw (thn (ha.run pos pins s σ H _ I h) fun us s1 ⟨vs, H1, I1, r1, q1⟩ => thn (hkw.run pos pins s1 σ H1 _ I1 q1) fun ws s2 ⟨zs, H2, I2, r2, q2⟩ => ?_) hs hpl hall hnone
  rw [hks]
  obtain ⟨a, xs, k, ex, ez, hq, k0, k1, q⟩ := q2
  subst ex ez
  cases r1 with
  | cons r rr =>
    cases rr
    cases r
    cases r2 with
    | cons r rr =>
      cases rr
      obtain ⟨t, rfl⟩ := r
      obtain ⟨its, rv, p', hz⟩ := I2.list hq
      have hlt : a < s2.heap.objs.size := by obtain ⟨o, q, _⟩ := p'.isList; exact Heap.lt_size q
      refine enum_begins_start (begins_list a its.toArray) p'.isList k0 k1 fun h' he hit hsz hk => wpAny_pyIter_enum he ?_
      have I3 : Inv X pins σ H2 { s2 with heap := h' } := I2.kept (t' := s2.toks) hk
      refine ⟨s2.heap.objs.size + 1, [s2.heap.objs.size + 1, s2.heap.objs.size], _, _, H2, rfl, I3, turn_enumS a (s2.heap.objs.size + 1) s2.heap.objs.size, ⟨⟨.none, by simpa using he⟩, ⟨_, hit, rfl, rfl⟩, Nat.succ_ne_self _⟩, fun b hb => ?_, q⟩
      have e' : b = s2.heap.objs.size + 1 ∨ b = s2.heap.objs.size := by simpa using hb
      have hle : s2.heap.objs.size ≤ b := by
        rcases e' with z | z
        · rw [z]; exact Nat.le_add_right _ _
        · rw [z]; exact Nat.le_refl _
      exact I2.fpOk hle (I2.hok.fresh hle)
theorem walk_enumS {K : PySem.W.Frag} {a : Addr} {xs : List V} {k : Int} : Walk (IteS K a k) xs.length (fun H => SqL K H a xs) (YPair (fun i => some (.int (k + (i : Nat)))) (fun i => xs[i]?)) := by
  refine ⟨fun i _ hi q => ⟨xs, xs[i], q, by simp [hi]⟩, fun _ q => ⟨xs, q, rfl⟩, fun i H v H' _ q y => ?_⟩
  obtain ⟨T, x, h1, h2, h3, h4⟩ := y
  exact ⟨T, .int (k + (i : Nat)), x, h1, h2, h3, rfl, h4 xs q⟩
end L2
namespace L2
open PySem PySem.Spec PyProof.Rows
section
variable {X : Cx} {tg : Expr}
/-- what is walked is a list or a tuple -/
def iSeqLT (K : PySem.W.Frag) (tl : TE) : TI := fun σ H R => tl σ H fun x H1 => ∃ a, x = .ref a ∧ (((∃ xs, SqL K H1 a xs) ∧ R (Itl K a) H1) ∨ ((∃ xs, SqT K H1 a xs) ∧ R (Itt K a) H1))
theorem pi_seqLT {l : Expr} {tl : TE} (hl : PE X l tl) : PI X tg l (iSeqLT X.K tl) := by
  refine ⟨fun pins s σ H R I h => ?_⟩
  refine thn (hl.run pins s σ H _ I h) fun v s1 ⟨x, H1, I1, r1, q1⟩ => ?_
  obtain ⟨a, e, q1⟩ := q1
  subst e
  cases r1
  rcases q1 with ⟨⟨xs, hq⟩, q⟩ | ⟨⟨xs, hq⟩, q⟩
  · obtain ⟨its, rv, p, hz⟩ := I1.list hq
    refine wpAny_pyIter_list p.isList ?_
    refine ⟨s1.heap.objs.size, [s1.heap.objs.size], _, _, H1, rfl, I1.kept (t' := s1.toks) fun b o e => Heap.get?_push_of_some _ e, turn_list a _, ⟨_, Heap.get?_push_size _ rfl, rfl, rfl⟩, fun b hb => ?_, q⟩
    have e : b = s1.heap.objs.size := by simpa using hb
    subst e
    exact I1.fpOk (Nat.le_refl _) (I1.hok.fresh (Nat.le_refl _))
  · obtain ⟨its, rv, p, hz⟩ := I1.tuple hq
    refine wpAny_pyIter_tuple (show s1.heap.IsTuple a its.toArray from p) ?_
    refine ⟨s1.heap.objs.size, [s1.heap.objs.size], _, _, H1, rfl, I1.kept (t' := s1.toks) fun b o e => Heap.get?_push_of_some _ e, turn_tuple a _, ⟨_, Heap.get?_push_size _ rfl, rfl, rfl⟩, fun b hb => ?_, q⟩
    have e : b = s1.heap.objs.size := by simpa using hb
    subst e
    exact I1.fpOk (Nat.le_refl _) (I1.hok.fresh (Nat.le_refl _))
end
end L2
/-! the law's own entry: no repr is under way there, and the rules may use that -/
namespace L2
open PySem PySem.Spec PyProof.Rows
section
variable {P : Program} {w : World} {K : PySem.W.Frag} {mg : Str → Option Value}
/-- a promise of the def at f, for calls out of the outermost place alone -/
def EntryOk (P : Program) (w : World) (K : PySem.W.Frag) (mg : Str → Option Value) (base : Heap) (f : Addr) (fd : FuncData) (y : Str) (sp : Sp) : Prop :=
  ∀ (st : Shared) (G : Hp) (g : Value) (v : V) (W : VK), Env0 P w K mg base callerA [] st G → BindsTo st fd ⟨[g], []⟩ [(y, g)] → RelV v g → sp [v] G W E0 →
    codeAny (model P w) callerA (.call (.ref f) ⟨[g], []⟩) (CR CX0 [] P w G st W E0) st
theorem EntryOk.imp {base : Heap} {f : Addr} {fd : FuncData} {y : Str} {sp sp' : Sp} (F : EntryOk P w K mg base f fd y sp) (h : ∀ vs G W, sp' vs G W E0 → sp vs G W E0) : EntryOk P w K mg base f fd y sp' := fun st G g v W e b r q => F st G g v W e b r (h _ _ _ q)
theorem room_caller {k : Nat} (h : k ≤ 90) : Room k callerA := by
  have r : Room 90 callerA := ⟨rfl, by decide, by decide⟩
  exact r.mono h
theorem entry_of {base : Heap} {nm q : Str} {d : Stmt} {f : Addr} {fd : FuncData} {N : List Str} {y : Str} {k : Nat} {sp : Sp} (F : Fun K nm q d f fd) (S : FnScope N [y] (defScope d)) (hk : k ≤ 89)
    (read : ∀ (cdv : Value) (A : Around) (outer : List Env) (s : Shared) (H : Hp) (vs : List V) (Q : VK) (E : XK), A.guards = some [] → Room k (A.deeper (envOfC q (defScope d) s.heap.objs.size f cdv)) → sp vs H Q E →
      ∃ t, PSs (cxOf CX0 P w K mg base N q (defScope d) f cdv A outer s H E).nox (defBody d) t ∧ t { nx := fun _ G => Q .non G, rt := Q } (start N vs) H)
    : EntryOk P w K mg base f fd y sp := by
  intro st G g v W env bnd rel prom
  obtain ⟨c1, c2, c3, c4, c5, c6, cdv, c7, c8, same, found, code⟩ := F.ex
  subst same
  have inHeap : K.In st.heap := (env.mod.kin).keeps fun z u hz => (env.bs z u hz).1
  have free : st.heap.NoLimit := (env.mod.nolimit).keeps fun z u hz => (env.bs z u hz).1
  have room : Room (k + 1) callerA := room_caller (by omega)
  have kinds : ∀ z ∈ [y].zip [g], (defScope d).names.lookup z.1 = some .local ∨ ((defScope d).names.lookup z.1 = some .cell ∧ ((cellsFrom (st.heap.objs.size + 1) (defScope d).names []).lookup z.1).isSome = true) := by
    rintro ⟨z, u⟩ hz
    rcases S.par z (List.of_mem_zip hz).1 with o | o
    · exact Or.inl o
    · exact Or.inr ⟨o, PySem.W.cellsFrom_some _ _ _ (Or.inl o)⟩
  refine codeAny_call_function room.depth (inHeap _ _ found) rfl S.co S.gen rfl (PySem.W.codeRec_of inHeap code) (bnd _ _ _ _ ?_)
  refine wpAny_newFunctionEnv_cells S.kind kinds fun fr hfr s9 laid => ?_
  subst hfr
  refine ⟨free.keeps laid.toInCall.keep, codeAny_func ?_⟩
  obtain ⟨t, rule, reading⟩ := read cdv callerA [] st G [v] W E0 rfl (room.deeper _) prom
  have start0 : Inv (cxOf CX0 P w K mg base N q (defScope d) f cdv callerA [] st G E0) [] (start N [v]) G s9 := inv_start S room.hd env rfl (.cons rel .nil) laid
  refine wpAny_mono (rule.nox.run [] s9 (start N [v]) G _ start0 reading) (fun way s8 got => ?_) fun _ _ got => got
  have done : ∀ {σ9 : St} {G9 : Hp} {x : V} {u : Value}, Inv (cxOf CX0 P w K mg base N q (defScope d) f cdv callerA [] st G E0) [] σ9 G9 s8 → RelV x u → W x G9 → CE [] P w G st W u s8 := by
    intro σ9 G9 x u J rx hx
    exact ⟨x, G9, J.os, J.bare, J.base, J.hok, rx, hx⟩
  cases way with
  | brk => obtain ⟨_, _, _, no⟩ := got; exact no.elim
  | cont => obtain ⟨_, _, _, no⟩ := got; exact no.elim
  | next => obtain ⟨σ9, G9, J, hx⟩ := got; exact done (x := .non) (u := .none) J rfl hx
  | ret u => obtain ⟨x, σ9, G9, J, rx, hx⟩ := got; exact done J rx hx
/-- the law, called with its script -/
theorem entry_call {mb : Str → Option Value} {fa a : Addr} {fd : FuncData} {y : Str} {sp : Sp} {st : Shared} {us : List Value} {cells : List Int}
    (kin : K.In st.heap) (main : st.heap.Ns mainGlobals mg) (blt : st.heap.Ns builtinsNs mb) (boot : ∀ z : Str, z ≠ "__name__" → mb z = bootBuiltins z) (free : st.heap.NoLimit) (gens : st.gens = #[])
    (ho : st.heap.get? a = some { cls := .type "list", data := .seq us.toArray }) (nums : IntsAre us cells) (short : cells.length ≤ sizeLine)
    (F : ∀ base : Heap, K.In base → base.Ns mainGlobals mg → EntryOk P w K mg base fa fd y sp) (bnd : ∀ (z : Shared) (u : Value), BindsTo z fd ⟨[u], []⟩ [(y, u)])
    (prom : ∀ G : Hp, Only G → SqL K G a (cells.map V.int) → sp [.ref a] G (fun v _ => v = .bl true) E0) :
    codeAny (model P w) callerA (.call (.ref fa) ⟨[.ref a], []⟩) (fun r z => r = .ok (.ret (.bool true)) ∧ OldK st.heap z.heap ∧ z.os = st.os ∧ AllBare z.gens) st := by
  have vals := vals_ints nums
  have size := nums.length
  have main_part : ∀ G : Hp, Only G → SqL K G a (cells.map V.int) → HOk P w G st.heap → (∀ z, G z ≠ none → z = a ∧ K.lookup a = none) →
      codeAny (model P w) callerA (.call (.ref fa) ⟨[.ref a], []⟩) (fun r z => r = .ok (.ret (.bool true)) ∧ OldK st.heap z.heap ∧ z.os = st.os ∧ AllBare z.gens) st := by
    intro G only sq ok one
    have below : ∀ {z : Addr} {u : Obj}, st.heap.get? z = some u → G z = none → (hidT st.heap G).get? z = some u := fun h1 h2 => hidT_get h1 h2
    have dictOff : ∀ {z : Addr} {u : Obj} {es : Array DictEntry} {n : Nat}, st.heap.get? z = some u → u.data = .dict es n → G z = none := by
      intro z u es n h1 h2
      refine Classical.byContradiction fun no => ?_
      have e := (one z no).1
      rw [e, ho] at h1
      cases h1
      cases (show Data.seq us.toArray _ = Data.dict es n from h2)
    have names : ∀ {z : Addr} {m : Str → Option Value}, st.heap.Ns z m → (hidT st.heap G).Ns z m := by
      rintro z m ⟨u, es, n, h1, h2, h3⟩
      exact ⟨u, es, n, below h1 (dictOff h1 h2), h2, h3⟩
    have kbase : K.In (hidT st.heap G) := by
      intro z u hz
      refine below (kin z u hz) (Classical.byContradiction fun no => ?_)
      obtain ⟨e, k0⟩ := one z no
      rw [e, k0] at hz
      cases hz
    have mod : Mod K mg (hidT st.heap G) := by
      obtain ⟨m9, l1, l2⟩ := free
      exact ⟨kbase, names main, ⟨mb, names blt, boot⟩, ⟨m9, names l1, l2⟩⟩
    have env : Env0 P w K mg (hidT st.heap G) callerA [] st G := ⟨rfl, mod, fun z u hz => of_hidT hz, Nat.le_of_eq (hidT_size _ _), trivial, (fun z hz => absurd (show z ∈ ([] : List Addr) from hz) (by simp)), ok, .of_eq gens⟩
    refine codeAny_mono (F _ kbase (names main) st G (.ref a) (.ref a) _ env (bnd st (.ref a)) rfl (prom G only sq)) fun r z got => ?_
    match r, got with
    | .error _, got => exact got.elim
    | .ok .next, got => exact (show False from got).elim
    | .ok .brk, got => exact (show False from got).elim
    | .ok .cont, got => exact (show False from got).elim
    | .ok (.ret u), got =>
      obtain ⟨x, G9, hos, bare, un, ok9, rx, hx⟩ := got
      have hx : x = .bl true := hx
      subst hx
      obtain rfl : u = Value.bool true := rx
      refine ⟨rfl, OldK.of_keep fun q o hq => ?_, hos, bare⟩
      cases hG : G q with
      | none => exact un.keep q o hq hG (fun no => absurd (show q ∈ ([] : List Addr) from no) (by simp)) (by simp)
      | some u9 =>
        obtain no | ⟨o2, xs, e2⟩ := only q
        · rw [hG] at no
          cases no
        · obtain ⟨b1, _⟩ := ok q _ e2
          obtain ⟨b2, _⟩ := ok9 q _ (un.frzs q o2 _ e2)
          rw [hq] at b1
          cases b1
          exact b2
  cases hK : K.lookup a with
  | none =>
    let fz : HO := .frz { cls := .type "list", data := .seq us.toArray } (.lst (cells.map V.int))
    have at_a : (fun z : Addr => if z = a then some fz else none) a = some fz := if_pos rfl
    have off : ∀ z, z ≠ a → (fun z : Addr => if z = a then some fz else none) z = none := fun z hz => if_neg hz
    refine main_part (fun z => if z = a then some fz else none) (fun z => ?_) (Or.inl (Or.inr ⟨_, at_a⟩)) (fun z u hz => ?_) (fun z hz => ?_)
    · by_cases hz : z = a
      · subst hz
        exact Or.inr ⟨_, _, at_a⟩
      · exact Or.inl (off z hz)
    · by_cases e : z = a
      · subst e
        rw [at_a] at hz
        cases hz
        exact ⟨ho, by rw [List.length_map]; exact short, us, _, vals, ho⟩
      · rw [off z e] at hz
        cases hz
    · by_cases e : z = a
      · exact ⟨e, hK⟩
      · exact absurd (off z e) hz
  | some u =>
    have e := kin a u hK
    rw [ho] at e
    cases e
    exact main_part (fun _ => none) (fun _ => Or.inl rfl) (Or.inr ⟨_, us.toArray, _, hK, rfl, rfl, rfl, by rw [List.size_toArray, size]; exact short, by simpa using vals⟩) (fun z u hz => nomatch (show (none : Option HO) = some u from hz)) (fun z hz => absurd rfl hz)
end
/-- the goal behind the head, by a promise of this kind -/
theorem walk_entry {l : PySem.W.OpenLaw} {n : Nat} {q : Program} {loose : List Str} {XP : (Str → Option Value) → Heap → Prop} {YP : World → Heap → Prop} {d : DefRec} {K : Params → PySem.W.Frag} {sp : World → Sp} {y : Str}
    (most : l.most = some n) (short : n ≤ sizeLine) (plain : d.params.defaults = []) (kin : ∀ (w : World) (h : Heap), YP w h → (K w.params).In h)
    (F : ∀ (w : World) (mg : Str → Option Value) (fa : Addr) (h : Heap), (K w.params).In h → h.Ns mainGlobals mg → mg d.name = some (.ref fa) →
      ∃ fd : FuncData, (∀ (z : Shared) (u : Value), BindsTo z fd ⟨[u], []⟩ [(y, u)]) ∧ ∀ base : Heap, (K w.params).In base → base.Ns mainGlobals mg → EntryOk l.prog w (K w.params) mg base fa fd y (sp w))
    (prom : ∀ (w : World) (G : Hp) (a : Addr) (cells : List Int), cells.length ≤ n → Only G → SqL (K w.params) G a (cells.map V.int) → sp w [.ref a] G (fun v _ => v = .bl true) E0) :
    PySem.W.WalkO q loose XP YP l.row.toRowW d [] (fun f vs => PySem.call f vs) :=
  Att.attach_call most plain fun w s0 s1 mg mb fa o pm cd doc a us cells G Y _ _ _ named script nums len gens =>
    have k := kin w _ Y
    have ⟨_, bnd, prm⟩ := F w mg fa _ k G.T.g named
    entry_call k G.T.g G.T.b G.T.builtins G.T.nolimit gens script nums (Nat.le_trans len short) prm bnd fun H only sq => prom w H a cells len only sq
/-- repr(x), x read as data -/
def rRepr (K : PySem.W.Frag) : List V → Hp → VK → Prop := fun vs H Q => ∃ (a : Addr) (d : PyData), vs = [V.ref a] ∧ Dp K H (.ref a) d ∧ d.showable = true ∧ d.hasDict = false ∧ d.depth ≤ 40 ∧ d.shown.length ≤ sizeLine ∧ Q (.str d.shown) H
section
variable {X : Cx}
theorem cr_repr (hg : X.A.guards = some []) (hu : X.A.units + 64 < cLine) : CallR X (.builtin "repr") (rRepr X.K) := by
  intro pins s σ H vs us Q I r h
  obtain ⟨a, d, rfl, hd, sh, nd, dp, sz, q⟩ := h
  obtain ⟨u, rfl, ru⟩ := vals1 r
  obtain rfl : u = Value.ref a := ru
  obtain ⟨as, rd⟩ := Dp.reads I d (.ref a) (.ref a) hd rfl
  refine repr_of_reads' rd sh (fun z => by rw [nd] at z; cases z) hg (by omega) (fun _ _ e => e) (fun h' t tk hk => ?_) sz
  exact ⟨.str d.shown, H, I.kept hk, ⟨t, rfl⟩, q⟩
end
end L2
namespace PP
open PySem L2
def top (i : Nat) : Stmt := (PySem.Challenge.pw_paritypool_k24_whole_notes_and_cuts).main.body.getD i (.Pass ⟨0, 0, 0, 0⟩)
abbrev s_is_present : Stmt := top 4
abbrev s_sector_at : Stmt := top 5
abbrev s_check_words : Stmt := top 18
abbrev s_is_place : Stmt := top 19
abbrev s_seal : Stmt := top 20
abbrev s_unseal : Stmt := top 21
abbrev s_is_whole : Stmt := top 22
abbrev s_note_places : Stmt := top 25
abbrev s_place_payloads : Stmt := top 26
abbrev s_note_requests : Stmt := top 27
abbrev s_read_place : Stmt := top 28
abbrev s_read_notes : Stmt := top 29
abbrev s_law_pot : Stmt := top 31
abbrev s_law_next : Stmt := top 32
abbrev s_law_word : Stmt := top 33
abbrev s_law_words : Stmt := top 34
abbrev s_law_seal : Stmt := top 35
abbrev s_law_refused : Stmt := top 36
abbrev s_law_note : Stmt := top 37
abbrev s_law_fate : Stmt := top 38
abbrev s_law_write_all : Stmt := top 39
abbrev s_law : Stmt := top 40
/-! small rules of one's own -/
section
variable {X : Cx}
theorem pe_const {x : Str} {v : V} {pos : Pos} (h : ∃ u, X.mg x = some u ∧ RelV v u) (hg : Gl X x := by rfl) (hd : (x == ("__debug__" : Str)) = false := by decide) : PE X (.Name x pos) (tC v) := by
  obtain ⟨u, h1, h2⟩ := h
  exact pe_glob hg h1 h2 hd
/-- isinstance of a caught error, whatever class the clause has caught -/
theorem call_isE' {a : Addr} {cls : Value} {d : Option Addr} {oe : Obj} {pn : List (Addr × Obj)} (hz : Zc cls d oe) (hf : ∃ vs, oe.data = .fields vs) :
    CallR (X.suite a ((a, oe) :: pn)) (.builtin "isinstance") (fun xs H Q => ∃ D, cls = .ref D ∧ d = none ∧ ExcC X.K D ∧ rIsE X.K D a xs H Q) := by
  intro pins s σ H xs us Q I r h
  obtain ⟨D, rfl, rfl, C, h⟩ := h
  exact call_isE C hz hf pins s σ H xs us Q I r h
end
/-- all but p is as it was, what is free too -/
def Only (p : Addr) (H H' : Hp) : Prop := ∀ b, b ≠ p → H' b = H b
theorem Only.upd {p : Addr} {H : Hp} {o : HO} : Only p H (upd H p o) := fun _ h => upd_ne h
theorem Only.refl {p : Addr} {H : Hp} : Only p H H := fun _ _ => rfl
theorem Only.trans {p : Addr} {H H1 H2 : Hp} (x : Only p H H1) (y : Only p H1 H2) : Only p H H2 := fun b h => (y b h).trans (x b h)
/-! which class is asked of a caught error -/
theorem kit_self {K : PySem.W.Frag} {c : Value} : PySem.W.kitOne K c c = some true := by
  unfold PySem.W.kitOne
  rw [if_pos (by simp)]
theorem kit_type {K : PySem.W.Frag} {D : Addr} {n : String} {b : Bool} (m : PySem.W.kitMeta n = true) (h : PySem.W.subIn K (.ref D) (.type n) = some b) : PySem.W.kitOne K (.ref D) (.type n) = some b := by
  unfold PySem.W.kitOne
  rw [if_neg (by intro z; cases (beq_iff_eq.mp z))]
  show (if PySem.W.kitMeta n = true then PySem.W.subIn K (.ref D) (.type n) else none) = some b
  rw [if_pos m]
  exact h
theorem kit_cls_of {K : PySem.W.Frag} {C : Addr} {t : Value} {b : Bool} (hd : PySem.W.hasDictIn K C = true) (ht : PySem.W.typeIn K (.ref C) = some (.type "type")) (h : PySem.W.subIn K t (.ref C) = some b) : PySem.W.kitCls K t (.ref C) = some b := by
  obtain ⟨cd, hc, _⟩ := PySem.W.any_some hd
  show (if ((PySem.W.clsIn K C).isSome && PySem.W.typeIn K (.ref C) == some (.type "type")) = true then PySem.W.subIn K t (.ref C) else none) = some b
  rw [if_pos (by rw [hc, ht]; rfl)]
  exact h
theorem kit_yes {K : PySem.W.Frag} {C D : Addr} (hd : PySem.W.hasDictIn K C = true) (ht : PySem.W.typeIn K (.ref C) = some (.type "type")) (h : PySem.W.subIn K (.ref D) (.ref C) = some true) : PySem.W.kitOne K (.ref D) (.ref C) = some true := by
  unfold PySem.W.kitOne
  split
  · rfl
  · exact kit_cls_of hd ht h
theorem kit_no {K : PySem.W.Frag} {C D : Addr} (hd : PySem.W.hasDictIn K C = true) (ht : PySem.W.typeIn K (.ref C) = some (.type "type")) (h : PySem.W.subIn K (.ref D) (.ref C) = some false) (hs : PySem.W.subIn K (.ref D) (.ref D) = some true) : PySem.W.kitOne K (.ref D) (.ref C) = some false := by
  unfold PySem.W.kitOne
  split
  · rename_i z
    have e : D = C := by
      have := beq_iff_eq.mp z
      injection this
    rw [← e] at h
    rw [h] at hs
    cases hs
  · exact kit_cls_of hd ht h
/-- len of a list or tuple; list of one -/
abbrev rLenS (K : PySem.W.Frag) := Evl.rLenS K
abbrev rListOf (K : PySem.W.Frag) := Evl.rListS K
/-! the prime, the inverse -/
theorem no_div (d : Nat) (h1 : 2 ≤ d) (h2 : d ≤ 255) : ¬ d ∣ 65521 := by
  intro h
  have e : 65521 % d = 0 := Nat.mod_eq_zero_of_dvd h
  have key : ∀ d : Fin 256, 2 ≤ d.val → ¬ 65521 % d.val = 0 := by decide +kernel
  exact key ⟨d, by omega⟩ h1 e
theorem prime_q (d : Nat) (h : d ∣ 65521) : d = 1 ∨ d = 65521 := by
  obtain ⟨e, he⟩ := h
  by_cases a : d ≤ 255
  · by_cases b : 2 ≤ d
    · exact absurd ⟨e, he⟩ (no_div d b a)
    · have : d ≠ 0 := by rintro rfl; omega
      omega
  · by_cases b : 2 ≤ e
    · by_cases c : e ≤ 255
      · exact absurd ⟨d, by rw [Nat.mul_comm]; exact he⟩ (no_div e b c)
      · have h1 : 256 * 256 ≤ d * e := Nat.mul_le_mul (by omega) (by omega)
        omega
    · have : e ≠ 0 := by rintro rfl; omega
      have e1 : e = 1 := by omega
      subst e1
      omega
theorem gcd_q (x : Int) (h : x % 65521 ≠ 0) : Int.gcd 65521 (x % 65521) = 1 := by
  have d1 : (Int.gcd 65521 (x % 65521) : Nat) ∣ 65521 := by
    have := Int.gcd_dvd_left (65521 : Int) (x % 65521)
    have h2 : ((Int.gcd 65521 (x % 65521) : Nat) : Int) ∣ ((65521 : Nat) : Int) := this
    exact Int.natCast_dvd_natCast.mp h2
  rcases prime_q _ d1 with e | e
  · exact e
  · exfalso
    have d2 := Int.gcd_dvd_right (65521 : Int) (x % 65521)
    rw [e] at d2
    obtain ⟨c, hc⟩ := d2
    have e2 : ((65521 : Nat) : Int) = 65521 := rfl
    rw [e2] at hc
    have p1 := Int.emod_nonneg x (show (65521 : Int) ≠ 0 by decide)
    have p2 := Int.emod_lt_of_pos x (show (0 : Int) < 65521 by decide)
    omega
theorem gcd_turn {n m : Int} (h : Int.gcd n m = 1) : Int.gcd m (n - n / m * m) = 1 := by
  rw [Int.gcd_sub_mul_right_right, Int.gcd_comm]
  exact h
/-- the inverse of a word, by what it is -/
noncomputable def invP (x : Int) : Int := open Classical in if h : ∃ b : Int, 0 ≤ b ∧ b < 65521 ∧ x * b % 65521 = 1 then h.choose else 0
theorem inv_unique {x b c : Int} (hb : 0 ≤ b ∧ b < 65521 ∧ x * b % 65521 = 1) (hc : 0 ≤ c ∧ c < 65521 ∧ x * c % 65521 = 1) : b = c := by
  have e1 : b * (x * c) % 65521 = b := by
    rw [Int.mul_emod, hc.2.2, Int.mul_one, Int.emod_emod_of_dvd _ (Int.dvd_refl _), Int.emod_eq_of_lt hb.1 hb.2.1]
  have e2 : c * (x * b) % 65521 = c := by
    rw [Int.mul_emod, hb.2.2, Int.mul_one, Int.emod_emod_of_dvd _ (Int.dvd_refl _), Int.emod_eq_of_lt hc.1 hc.2.1]
  have e3 : b * (x * c) = c * (x * b) := by grind
  rw [← e1, e3, e2]
theorem invP_eq {x b : Int} (h : 0 ≤ b ∧ b < 65521 ∧ x * b % 65521 = 1) : invP x = b := by
  have hx : ∃ b : Int, 0 ≤ b ∧ b < 65521 ∧ x * b % 65521 = 1 := ⟨b, h⟩
  unfold invP
  rw [dif_pos hx]
  exact inv_unique hx.choose_spec h
/-- one turn of Euclid's algorithm -/
theorem euclid_turn {x n m f g : Int} (h1 : (x * f - n) % 65521 = 0) (h2 : (x * g - m) % 65521 = 0) : (x * (f - n / m * g) - (n - n / m * m)) % 65521 = 0 := by
  have e : x * (f - n / m * g) - (n - n / m * m) = (x * f - n) - n / m * (x * g - m) := by grind
  rw [e, Int.sub_emod, h1, Int.mul_emod, h2, Int.mul_zero]
  rfl
theorem euclid_end {x f : Int} (h : (x * f - 1) % 65521 = 0) : 0 ≤ f % 65521 ∧ f % 65521 < 65521 ∧ x * (f % 65521) % 65521 = 1 := by
  refine ⟨Int.emod_nonneg _ (by decide), Int.emod_lt_of_pos _ (by decide), ?_⟩
  have e : x * (f % 65521) % 65521 = x * f % 65521 := by rw [Int.mul_emod, Int.emod_emod_of_dvd _ (Int.dvd_refl _), ← Int.mul_emod]
  rw [e]
  omega
/-- the inverse exists (Euclid, run in the mathematics) -/
theorem inv_ex : ∀ (k : Nat) (x n m f g : Int), m.toNat ≤ k → 0 ≤ m → 0 < n → (x * f - n) % 65521 = 0 → (x * g - m) % 65521 = 0 → Int.gcd n m = 1 → ∃ b : Int, 0 ≤ b ∧ b < 65521 ∧ x * b % 65521 = 1
  | k, x, n, m, f, g, hk, hm, hn, h1, h2, hg => by
    by_cases e : m = 0
    · subst e
      have : n = 1 := by
        rw [Int.gcd_zero_right] at hg
        omega
      subst this
      exact ⟨_, euclid_end h1⟩
    · have hm' : 0 < m := by omega
      match k, hk with
      | 0, hk => omega
      | k + 1, hk =>
        have r : n - n / m * m = n % m := by
          have := Int.mul_ediv_add_emod n m
          rw [Int.mul_comm] at this
          omega
        have r1 := Int.emod_nonneg n (show m ≠ 0 by omega)
        have r2 := Int.emod_lt_of_pos n hm'
        exact inv_ex k x m (n - n / m * m) g (f - n / m * g) (by omega) (by omega) hm' h2 (euclid_turn h1 h2) (gcd_turn hg)
theorem invP_spec {x : Int} (h : x % 65521 ≠ 0) : 0 ≤ invP x ∧ invP x < 65521 ∧ x * invP x % 65521 = 1 := by
  have p1 := Int.emod_nonneg x (show (65521 : Int) ≠ 0 by decide)
  obtain ⟨b, hb⟩ := inv_ex (x % 65521).toNat x 65521 (x % 65521) 0 1 (Nat.le_refl _) p1 (by decide) (by omega) (by omega) (gcd_q x h)
  rw [invP_eq hb]
  exact hb
/-! the field of words -/
def Zp : Type := Fin 65521
instance : Lean.Grind.CommRing Zp := inferInstanceAs (Lean.Grind.CommRing (Fin 65521))
instance : Lean.Grind.IsCharP Zp 65521 := inferInstanceAs (Lean.Grind.IsCharP (Fin 65521) 65521)
instance : DecidableEq Zp := inferInstanceAs (DecidableEq (Fin 65521))
def z (n : Int) : Zp := Lean.Grind.Ring.intCast.intCast n
theorem z_eq {a b : Int} : z a = z b ↔ a % 65521 = b % 65521 := Lean.Grind.IsCharP.intCast_ext_iff (α := Zp) 65521
theorem z_mod (a : Int) : z (a % 65521) = z a := z_eq.mpr (Int.emod_emod_of_dvd _ (Int.dvd_refl _))
theorem z_add (a b : Int) : z (a + b) = z a + z b := Lean.Grind.Ring.intCast_add a b
theorem z_sub (a b : Int) : z (a - b) = z a - z b := Lean.Grind.Ring.intCast_sub a b
theorem z_mul (a b : Int) : z (a * b) = z a * z b := Lean.Grind.Ring.intCast_mul a b
theorem z_neg (a : Int) : z (-a) = -z a := Lean.Grind.Ring.intCast_neg a
theorem z_zero : z 0 = 0 := Lean.Grind.Ring.intCast_zero
theorem z_one : z 1 = 1 := Lean.Grind.Ring.intCast_one
theorem z_z (a : Int) : z a = 0 ↔ a % 65521 = 0 := by
  rw [← z_zero, z_eq]
  rfl
theorem z_inj {a b : Int} (ha : 0 ≤ a) (ha' : a < 65521) (hb : 0 ≤ b) (hb' : b < 65521) (h : z a = z b) : a = b := by
  have := z_eq.mp h
  rw [Int.emod_eq_of_lt ha ha', Int.emod_eq_of_lt hb hb'] at this
  exact this
theorem z_mod_eq {a b : Int} (h : z a = z b) : a % 65521 = b % 65521 := z_eq.mp h
theorem z_surj (x : Zp) : ∃ n : Int, 0 ≤ n ∧ n < 65521 ∧ z n = x := by
  refine ⟨((show Fin 65521 from x).val : Int), by omega, by omega, ?_⟩
  show (Fin.intCast ((show Fin 65521 from x).val : Int) : Fin 65521) = x
  unfold Fin.intCast
  rw [if_pos (by omega), Int.natAbs_natCast]
  exact Fin.ofNat_val_eq_self _
theorem z_invP {n : Int} (h : z n ≠ 0) : z n * z (invP n) = 1 := by
  have h' : n % 65521 ≠ 0 := fun e => h ((z_z n).mpr e)
  obtain ⟨b0, b1, b2⟩ := invP_spec h'
  rw [← z_mul, ← z_one, z_eq]
  exact b2
theorem zp_inv {a : Zp} (h : a ≠ 0) : ∃ b : Zp, a * b = 1 := by
  obtain ⟨n, _, _, rfl⟩ := z_surj a
  exact ⟨_, z_invP h⟩
theorem zp_div {a b : Zp} (h : a * b = 0) : a = 0 ∨ b = 0 := by
  by_cases ha : a = 0
  · exact .inl ha
  · obtain ⟨c, hc⟩ := zp_inv ha
    right
    have : b = c * (a * b) := by grind
    rw [this, h]
    grind
theorem zp_01 : (1 : Zp) ≠ 0 := by
  rw [← z_one, ← z_zero]
  intro h
  have := z_eq.mp h
  omega
theorem zp_mul_ne {a b : Zp} (ha : a ≠ 0) (hb : b ≠ 0) : a * b ≠ 0 := fun h => (zp_div h).elim ha hb
/-! ### functions that are polynomials with n coefficients -/
def Pol : Nat → (Zp → Zp) → Prop
  | 0, f => ∀ x, f x = 0
  | n + 1, f => ∃ (c : Zp) (g : Zp → Zp), Pol n g ∧ ∀ x, f x = c + x * g x
theorem Pol.ext : ∀ {n : Nat} {f g : Zp → Zp}, Pol n f → (∀ x, g x = f x) → Pol n g
  | 0, _, _, h, e => fun x => (e x).trans (h x)
  | _ + 1, _, _, ⟨c, g, h, q⟩, e => ⟨c, g, h, fun x => (e x).trans (q x)⟩
theorem pol_nil : ∀ n : Nat, Pol n fun _ => 0
  | 0 => fun _ => rfl
  | n + 1 => ⟨0, fun _ => 0, pol_nil n, fun x => by grind⟩
theorem Pol.up : ∀ {n : Nat} {f : Zp → Zp}, Pol n f → Pol (n + 1) f
  | 0, f, h => ⟨0, fun _ => 0, fun _ => rfl, fun x => by rw [h x]; grind⟩
  | n + 1, _, ⟨c, g, h, q⟩ => ⟨c, g, h.up, q⟩
theorem Pol.mono {n m : Nat} {f : Zp → Zp} (h : Pol n f) (l : n ≤ m) : Pol m f := by
  induction l with
  | refl => exact h
  | step _ ih => exact ih.up
theorem Pol.add : ∀ {n : Nat} {f g : Zp → Zp}, Pol n f → Pol n g → Pol n fun x => f x + g x
  | 0, f, g, h, k => fun x => by show f x + g x = 0; rw [h x, k x]; grind
  | n + 1, f, g, ⟨c, u, h, p⟩, ⟨d, v, k, q⟩ => ⟨c + d, fun x => u x + v x, Pol.add h k, fun x => by show f x + g x = _; rw [p x, q x]; grind⟩
theorem Pol.smul : ∀ {n : Nat} {f : Zp → Zp} (a : Zp), Pol n f → Pol n fun x => f x * a
  | 0, f, a, h => fun x => by show f x * a = 0; rw [h x]; grind
  | n + 1, f, a, ⟨c, u, h, p⟩ => ⟨c * a, fun x => u x * a, Pol.smul a h, fun x => by show f x * a = _; rw [p x]; grind⟩
theorem Pol.const (c : Zp) : Pol 1 fun _ => c := ⟨c, fun _ => 0, fun _ => rfl, fun x => by grind⟩
theorem Pol.xmul {n : Nat} {f : Zp → Zp} (h : Pol n f) : Pol (n + 1) fun x => x * f x := ⟨0, f, h, fun x => by grind⟩
theorem Pol.lin {n : Nat} {f : Zp → Zp} (a : Zp) (h : Pol n f) : Pol (n + 1) fun x => (x - a) * f x :=
  (h.xmul.add (h.up.smul (-a))).ext fun x => by grind
theorem Pol.sub {n : Nat} {f g : Zp → Zp} (h : Pol n f) (k : Pol n g) : Pol n fun x => f x - g x :=
  (h.add (k.smul (-1))).ext fun x => by grind
/-- a polynomial less its value at a is a multiple of x - a -/
theorem Pol.at : ∀ {n : Nat} {f : Zp → Zp} (a : Zp), Pol (n + 1) f → ∃ g, Pol n g ∧ ∀ x, f x = f a + (x - a) * g x
  | 0, f, a, ⟨c, g, h, q⟩ => ⟨fun _ => 0, fun _ => rfl, fun x => by rw [q x, q a, h x, h a]; grind⟩
  | n + 1, f, a, ⟨c, g, h, q⟩ => by
    obtain ⟨k, hk, e⟩ := Pol.at a h
    refine ⟨fun x => g a + x * k x, ⟨g a, k, hk, fun _ => rfl⟩, fun x => ?_⟩
    have e1 := e x
    rw [q x, q a]
    grind
/-- as many zeros as coefficients: it is zero -/
theorem Pol.roots : ∀ {n : Nat} {f : Zp → Zp} (xs : List Zp), Pol n f → xs.Nodup → n ≤ xs.length → (∀ a ∈ xs, f a = 0) → ∀ x, f x = 0
  | 0, _, _, h, _, _, _ => h
  | n + 1, f, [], _, _, hl, _ => absurd hl (by simp)
  | n + 1, f, a :: r, h, hn, hl, hz => by
    obtain ⟨g, hg, e⟩ := Pol.at a h
    have ha : f a = 0 := hz a (by simp)
    have hn' := List.nodup_cons.mp hn
    have g0 : ∀ x, g x = 0 := Pol.roots r hg hn'.2 (by simpa using hl) fun b hb => by
      have hb0 := hz b (List.mem_cons_of_mem _ hb)
      rw [e b, ha] at hb0
      have : (b - a) * g b = 0 := by grind
      rcases zp_div this with q | q
      · exfalso
        have : b = a := by grind
        exact hn'.1 (this ▸ hb)
      · exact q
    intro x
    rw [e x, ha, g0 x]
    grind
/-! ### products of differences -/
def prodZ : List Int → Zp → Zp
  | [], _ => 1
  | o :: os, x => (x - z o) * prodZ os x
theorem prodZ_pol : ∀ os : List Int, Pol (os.length + 1) (prodZ os)
  | [] => (Pol.const 1).ext fun _ => rfl
  | o :: os => (Pol.lin (z o) (prodZ_pol os)).ext fun _ => rfl
theorem prodZ_root {o : Int} {x : Zp} : ∀ {os : List Int}, o ∈ os → x = z o → prodZ os x = 0
  | [], h, _ => by simp at h
  | p :: os, h, e => by
    show (x - z p) * prodZ os x = 0
    rcases List.mem_cons.mp h with q | q
    · rw [e, q]
      grind
    · rw [prodZ_root q e]
      grind
theorem prodZ_ne {x : Zp} : ∀ {os : List Int}, (∀ o ∈ os, x ≠ z o) → prodZ os x ≠ 0
  | [], _ => zp_01
  | p :: os, h => by
    refine zp_mul_ne (fun e => h p (by simp) ?_) (prodZ_ne fun o ho => h o (List.mem_cons_of_mem _ ho))
    grind
/-- as the program multiplies -/
def prodM (os : List Int) (x acc : Int) : Int := os.foldl (fun acc o => acc * (x - o) % 65521) acc
theorem prodM_z : ∀ (os : List Int) (x acc : Int), z (prodM os x acc) = z acc * prodZ os (z x)
  | [], x, acc => by
    show z acc = z acc * 1
    grind
  | o :: os, x, acc => by
    show z (prodM os x (acc * (x - o) % 65521)) = z acc * ((z x - z o) * prodZ os (z x))
    rw [prodM_z os x, z_mod, z_mul, z_sub]
    grind
theorem prodM_word : ∀ (os : List Int) (x acc : Int), 0 ≤ acc → acc < 65521 → 0 ≤ prodM os x acc ∧ prodM os x acc < 65521
  | [], _, _, h0, h1 => ⟨h0, h1⟩
  | o :: os, x, acc, _, _ => prodM_word os x _ (Int.emod_nonneg _ (by decide)) (Int.emod_lt_of_pos _ (by decide))
theorem prodM_snoc (os : List Int) (o x acc : Int) : prodM (os ++ [o]) x acc = prodM os x acc * (x - o) % 65521 := by
  unfold prodM
  rw [List.foldl_append]
  rfl
/-- a place's factor -/
noncomputable def wgt (p : Int) (os : List Int) (x : Int) : Int := prodM os x 1 * invP (prodM os p 1) % 65521
theorem wgt_word (p : Int) (os : List Int) (x : Int) : 0 ≤ wgt p os x ∧ wgt p os x < 65521 := ⟨Int.emod_nonneg _ (by decide), Int.emod_lt_of_pos _ (by decide)⟩
theorem wgt_z (p : Int) (os : List Int) (x : Int) : z (wgt p os x) = prodZ os (z x) * z (invP (prodM os p 1)) := by
  unfold wgt
  rw [z_mod, z_mul, prodM_z, z_one]
  grind
theorem wgt_ok {p : Int} {os : List Int} (h : ∀ o ∈ os, z p ≠ z o) : prodM os p 1 % 65521 ≠ 0 := fun e => by
  have := (z_z _).mpr e
  rw [prodM_z, z_one] at this
  refine prodZ_ne h ?_
  grind
/-- all places but the i-th -/
def others (ws : List Int) (i : Nat) : List Int := ws.take i ++ ws.drop (i + 1)
noncomputable def weightsM (ws : List Int) (x : Int) : List Int := (List.range ws.length).map fun i => wgt (ws.getD i 0) (others ws i) x
theorem weightsM_length (ws : List Int) (x : Int) : (weightsM ws x).length = ws.length := by simp [weightsM]
theorem weightsM_get {ws : List Int} {x : Int} {i : Nat} (h : i < ws.length) : (weightsM ws x)[i]? = some (wgt (ws.getD i 0) (others ws i) x) := by
  unfold weightsM
  rw [List.getElem?_map, List.getElem?_range h]
  rfl
/-- no two places are equal modulo the prime -/
def Apart (ws : List Int) : Prop := (ws.map z).Nodup
theorem apart_ne {ws : List Int} (h : Apart ws) {i j : Nat} (hi : i < ws.length) (hj : j < ws.length) (n : i ≠ j) : z (ws.getD i 0) ≠ z (ws.getD j 0) := fun e => by
  refine n ((List.getElem_inj (xs := ws.map z) (h₀ := by simpa using hi) (h₁ := by simpa using hj) h).mp ?_)
  rw [List.getElem_map, List.getElem_map]
  simpa [List.getD_eq_getElem?_getD, hi, hj] using e
theorem mem_others {ws : List Int} {i : Nat} {o : Int} : o ∈ others ws i ↔ ∃ j, j < ws.length ∧ j ≠ i ∧ o = ws.getD j 0 := by
  unfold others
  rw [List.mem_append, List.mem_iff_getElem?, List.mem_iff_getElem?]
  constructor
  · rintro (⟨j, h⟩ | ⟨j, h⟩)
    · rw [List.getElem?_take] at h
      by_cases c : j < i
      · rw [if_pos c] at h
        obtain ⟨hl, e⟩ := List.getElem?_eq_some_iff.mp h
        exact ⟨j, hl, by omega, by simp [List.getD_eq_getElem?_getD, hl, e]⟩
      · rw [if_neg c] at h
        cases h
    · rw [List.getElem?_drop] at h
      obtain ⟨hl, e⟩ := List.getElem?_eq_some_iff.mp h
      exact ⟨_, hl, by omega, by simp [List.getD_eq_getElem?_getD, hl, e]⟩
  · rintro ⟨j, hl, n, rfl⟩
    by_cases c : j < i
    · exact .inl ⟨j, by rw [List.getElem?_take, if_pos c, List.getElem?_eq_getElem hl]; simp [List.getD_eq_getElem?_getD, hl]⟩
    · refine .inr ⟨j - (i + 1), ?_⟩
      rw [List.getElem?_drop, show i + 1 + (j - (i + 1)) = j by omega, List.getElem?_eq_getElem hl]
      simp [List.getD_eq_getElem?_getD, hl]
theorem others_length {ws : List Int} {i : Nat} (h : i < ws.length) : (others ws i).length + 1 = ws.length := by
  unfold others
  rw [List.length_append, List.length_take, List.length_drop]
  omega
theorem others_apart {ws : List Int} (h : Apart ws) {i : Nat} (hi : i < ws.length) : ∀ o ∈ others ws i, z (ws.getD i 0) ≠ z o := fun o ho => by
  obtain ⟨j, hl, n, rfl⟩ := mem_others.mp ho
  exact apart_ne h hi hl (Ne.symm n)
/-! ### sums -/
def sumR : Nat → (Nat → Zp) → Zp
  | 0, _ => 0
  | n + 1, g => sumR n g + g n
theorem sumR_ext : ∀ {n : Nat} {f g : Nat → Zp}, (∀ i, i < n → f i = g i) → sumR n f = sumR n g
  | 0, _, _, _ => rfl
  | n + 1, f, g, h => by
    show sumR n f + f n = sumR n g + g n
    rw [sumR_ext fun i hi => h i (by omega), h n (by omega)]
theorem sumR_zero : ∀ {n : Nat} {f : Nat → Zp}, (∀ i, i < n → f i = 0) → sumR n f = 0
  | 0, _, _ => rfl
  | n + 1, f, h => by
    show sumR n f + f n = 0
    rw [sumR_zero fun i hi => h i (by omega), h n (by omega)]
    grind
theorem sumR_one : ∀ {n : Nat} {f : Nat → Zp} {j : Nat}, j < n → (∀ i, i < n → i ≠ j → f i = 0) → sumR n f = f j
  | n + 1, f, j, hj, h => by
    show sumR n f + f n = f j
    by_cases c : j = n
    · subst c
      rw [sumR_zero fun i hi => h i (by omega) (by omega)]
      grind
    · rw [sumR_one (j := j) (by omega) fun i hi n' => h i (by omega) n', h n (by omega) (by omega)]
      grind
theorem sumR_pol {m : Nat} : ∀ {n : Nat} {F : Nat → Zp → Zp}, (∀ i, i < n → Pol m (F i)) → Pol m fun x => sumR n fun i => F i x
  | 0, _, _ => (pol_nil m).ext fun _ => rfl
  | n + 1, F, h => (Pol.add (sumR_pol (n := n) fun i hi => h i (by omega)) (h n (by omega))).ext fun _ => rfl
/-- the sum of factors times values -/
def dotR (us vs : List Int) : Int := ((List.range us.length).map fun i => us.getD i 0 * vs.getD i 0).sum
theorem sum_range_z : ∀ (n : Nat) (f : Nat → Int), z ((List.range n).map f).sum = sumR n fun i => z (f i)
  | 0, _ => z_zero
  | n + 1, f => by
    rw [List.range_succ, List.map_append, List.sum_append, z_add, sum_range_z n f]
    show _ + z ((f n) + 0) = _
    rw [Int.add_zero]
    rfl
theorem dotR_z (us vs : List Int) : z (dotR us vs) = sumR us.length fun i => z (us.getD i 0) * z (vs.getD i 0) := by
  unfold dotR
  rw [sum_range_z]
  exact sumR_ext fun i _ => z_mul _ _
/-- the value at x, as the program reckons it -/
noncomputable def valM (ws ys : List Int) (x : Int) : Int := dotR (weightsM ws x) ys % 65521
theorem valM_word (ws ys : List Int) (x : Int) : 0 ≤ valM ws ys x ∧ valM ws ys x < 65521 := ⟨Int.emod_nonneg _ (by decide), Int.emod_lt_of_pos _ (by decide)⟩
theorem valM_z (ws ys : List Int) (x : Int) : z (valM ws ys x) = sumR ws.length fun i => prodZ (others ws i) (z x) * (z (invP (prodM (others ws i) (ws.getD i 0) 1)) * z (ys.getD i 0)) := by
  unfold valM
  rw [z_mod, dotR_z, weightsM_length]
  refine sumR_ext fun i hi => ?_
  have e : (weightsM ws x).getD i 0 = wgt (ws.getD i 0) (others ws i) x := by rw [List.getD_eq_getElem?_getD, weightsM_get hi]; rfl
  rw [e, wgt_z]
  grind
/-- at a place it is the point's own value -/
theorem valM_node {ws ys : List Int} (h : Apart ws) {x : Int} {j : Nat} (hj : j < ws.length) (e : z x = z (ws.getD j 0)) : z (valM ws ys x) = z (ys.getD j 0) := by
  rw [valM_z, sumR_one hj fun i hi n => ?_]
  · have p := others_apart h hj
    have q := wgt_ok p
    have r : z (prodM (others ws j) (ws.getD j 0) 1) * z (invP (prodM (others ws j) (ws.getD j 0) 1)) = 1 := z_invP fun e => q ((z_z _).mp e)
    rw [prodM_z, z_one] at r
    rw [e]
    grind
  · rw [prodZ_root (mem_others.mpr ⟨j, hj, Ne.symm n, rfl⟩) e]
    grind
/-- the values of a polynomial at the places give its value anywhere -/
theorem valM_pol {ws ys : List Int} (h : Apart ws) {f : Zp → Zp} (hf : Pol ws.length f) (hy : ∀ i, i < ws.length → z (ys.getD i 0) = f (z (ws.getD i 0))) (x : Int) : z (valM ws ys x) = f (z x) := by
  have P : Pol ws.length fun x => (sumR ws.length fun i => prodZ (others ws i) x * (z (invP (prodM (others ws i) (ws.getD i 0) 1)) * z (ys.getD i 0))) - f x := by
    refine Pol.sub (sumR_pol fun i hi => Pol.smul _ ?_) hf
    have := prodZ_pol (others ws i)
    rw [others_length hi] at this
    exact this
  have R := Pol.roots (ws.map z) P h (by simp) (fun a ha => ?_) (z x)
  · rw [valM_z]
    have R' : (sumR ws.length fun i => prodZ (others ws i) (z x) * (z (invP (prodM (others ws i) (ws.getD i 0) 1)) * z (ys.getD i 0))) - f (z x) = 0 := R
    grind
  · obtain ⟨p, hp, rfl⟩ := List.mem_map.mp ha
    obtain ⟨j, hj⟩ := List.mem_iff_getElem?.mp hp
    obtain ⟨hl, e⟩ := List.getElem?_eq_some_iff.mp hj
    have ep : ws.getD j 0 = p := by simp [List.getD_eq_getElem?_getD, hl, e]
    have v := valM_node (ys := ys) h (x := p) hl (by rw [ep])
    rw [valM_z, hy j hl, ep] at v
    show (sumR ws.length fun i => prodZ (others ws i) (z p) * (z (invP (prodM (others ws i) (ws.getD i 0) 1)) * z (ys.getD i 0))) - f (z p) = 0
    rw [v]
    grind
theorem z_small {n : Int} (h0 : 0 < n) (h1 : n < 65521) : z n ≠ 0 := fun e => by
  have := (z_z n).mp e
  omega
/-! a polynomial's value -/
def pev : List Int → Zp → Zp
  | [], _ => 0
  | c :: r, x => z c + x * pev r x
theorem pev_pol : ∀ ns : List Int, Pol ns.length (pev ns)
  | [] => fun _ => rfl
  | c :: r => ⟨z c, pev r, pev_pol r, fun _ => rfl⟩
/-- as it is reckoned: from the highest coefficient down -/
def horn : List Int → Int → Int
  | [], _ => 0
  | c :: r, x => (horn r x * x + c) % 65521
theorem horn_z : ∀ (ns : List Int) (x : Int), z (horn ns x) = pev ns (z x)
  | [], _ => z_zero
  | c :: r, x => by
    show z ((horn r x * x + c) % 65521) = z c + z x * pev r (z x)
    rw [z_mod, z_add, z_mul, horn_z r x]
    grind
theorem horn_word : ∀ (ns : List Int) (x : Int), 0 ≤ horn ns x ∧ horn ns x < 65521
  | [], _ => by show (0 : Int) ≤ 0 ∧ (0 : Int) < 65521; omega
  | _ :: _, _ => ⟨Int.emod_nonneg _ (by decide), Int.emod_lt_of_pos _ (by decide)⟩
theorem horn_drop {ns : List Int} {x c : Int} {i : Nat} (h : ns[i]? = some c) : horn (ns.drop i) x = (horn (ns.drop (i + 1)) x * x + c) % 65521 := by
  obtain ⟨hl, e⟩ := List.getElem?_eq_some_iff.mp h
  rw [List.drop_eq_getElem_cons hl, e]
  rfl
/-! polynomials by their values: degree, normal forms -/
def Wd (w : Int) : Prop := 0 ≤ w ∧ w < 65521
/-- a list of words whose last one is not 0 -/
def Norm (r : List Int) : Prop := (∀ w ∈ r, Wd w) ∧ (r = [] ∨ r.getD (r.length - 1) 0 ≠ 0)
def pw (x : Zp) : Nat → Zp
  | 0 => 1
  | n + 1 => x * pw x n
theorem pev_append : ∀ (a b : List Int) (x : Zp), pev (a ++ b) x = pev a x + pw x a.length * pev b x
  | [], b, x => by
    show pev b x = 0 + 1 * pev b x
    grind
  | c :: a, b, x => by
    show z c + x * pev (a ++ b) x = (z c + x * pev a x) + (x * pw x a.length) * pev b x
    rw [pev_append a b x]
    grind
theorem pev_zeros : ∀ {a : List Int}, (∀ w ∈ a, z w = 0) → ∀ x, pev a x = 0
  | [], _, _ => rfl
  | c :: a, h, x => by
    show z c + x * pev a x = 0
    rw [h c (by simp), pev_zeros (fun w m => h w (List.mem_cons_of_mem _ m))]
    grind
theorem pev_mod : ∀ (a : List Int) (x : Zp), pev (a.map (· % 65521)) x = pev a x
  | [], _ => rfl
  | c :: a, x => by
    show z (c % 65521) + x * pev (a.map (· % 65521)) x = z c + x * pev a x
    rw [z_mod, pev_mod a x]
/-- one place of the list gets another number -/
theorem pev_set : ∀ {a : List Int} {i : Nat} {c d : Int} (x : Zp), a[i]? = some c → pev (a.set i d) x = pev a x + pw x i * (z d - z c)
  | [], _, _, _, _, h => by simp at h
  | b :: a, 0, c, d, x, h => by
    have e : b = c := Option.some.inj h
    subst e
    show z d + x * pev a x = (z b + x * pev a x) + 1 * (z d - z b)
    grind
  | b :: a, i + 1, c, d, x, h => by
    show z b + x * pev (a.set i d) x = (z b + x * pev a x) + (x * pw x i) * (z d - z c)
    rw [pev_set (i := i) (c := c) x h]
    grind
theorem pw_add (x : Zp) : ∀ n m : Nat, pw x (n + m) = pw x n * pw x m
  | 0, m => by
    rw [Nat.zero_add]
    show pw x m = 1 * pw x m
    grind
  | n + 1, m => by
    rw [Nat.succ_add]
    show x * pw x (n + m) = (x * pw x n) * pw x m
    rw [pw_add x n m]
    grind
theorem pev_snoc (a : List Int) (c : Int) (x : Zp) : pev (a ++ [c]) x = pev a x + pw x a.length * z c := by
  rw [pev_append]
  show _ + _ * (z c + x * 0) = _
  grind
/-! all words as places -/
def allZ (n : Nat) : List Zp := (List.range n).map fun (k : Nat) => z ((k : Int) + 1)
theorem allZ_nodup {n : Nat} (h : n ≤ 65520) : (allZ n).Nodup := by
  unfold allZ List.Nodup
  rw [List.pairwise_map]
  refine (List.nodup_range (n := n)).imp_of_mem fun {a b} ha hb ne e => ?_
  have h1 := List.mem_range.mp ha
  have h2 := List.mem_range.mp hb
  have := z_eq.mp e
  omega
theorem allZ_ne {n : Nat} (h : n ≤ 65520) : ∀ a ∈ allZ n, a ≠ 0 := fun a ha e => by
  obtain ⟨k, hk, rfl⟩ := List.mem_map.mp ha
  have h1 := List.mem_range.mp hk
  have := (z_z _).mp e
  omega
/-- zero but perhaps at 0: zero -/
theorem Pol.punct {n : Nat} {f : Zp → Zp} (h : Pol n f) (hn : n ≤ 65520) (hz : ∀ x, x ≠ 0 → f x = 0) : ∀ x, f x = 0 :=
  Pol.roots (allZ n) h (allZ_nodup hn) (by simp [allZ]) fun a ha => hz a (allZ_ne hn a ha)
theorem Pol.pw : ∀ (n : Nat) (c : Zp), Pol (n + 1) fun x => c * PP.pw x n
  | 0, c => (Pol.const c).ext fun x => by show c * 1 = c; grind
  | n + 1, c => ((Pol.pw n c).xmul).ext fun x => by show c * (x * PP.pw x n) = x * (c * PP.pw x n); grind
/-- a power beyond the coefficients has the factor 0 -/
theorem lead_zero : ∀ (n : Nat) {c : Zp} {h : Zp → Zp}, n ≤ 60000 → Pol n h → (∀ x, c * pw x n = h x) → c = 0
  | 0, c, h, _, hp, e => by
    have := e 0
    rw [hp 0] at this
    have : c * 1 = 0 := this
    grind
  | n + 1, c, h, hn, ⟨d, g, hg, q⟩, e => by
    have e0 : d = 0 := by
      have h0 := e 0
      rw [q 0] at h0
      have : c * (0 * pw 0 n) = d + 0 * g 0 := h0
      grind
    have F : ∀ x, c * pw x n - g x = 0 := Pol.punct (n := n + 1) (Pol.sub (Pol.pw n c) hg.up) (by omega) fun x hx => by
      have h1 := e x
      rw [q x, e0] at h1
      have h2 : c * (x * pw x n) = 0 + x * g x := h1
      have h3 : x * (c * pw x n - g x) = 0 := by grind
      exact (zp_div h3).resolve_left hx
    exact lead_zero n (by omega) hg fun x => by
      have := F x
      grind
/-- a normal list has no more words than its values need -/
theorem norm_le {r : List Int} {n : Nat} (h : Norm r) (hn : n ≤ 60000) (hp : Pol n (pev r)) (hr : r.length ≤ 60000) : r.length ≤ n := by
  refine Classical.byContradiction fun c => ?_
  obtain ⟨hw, hl⟩ := h
  have rne : r ≠ [] := fun e => by rw [e] at c; simp at c
  have hl := hl.resolve_left rne
  have e : r = r.take (r.length - 1) ++ [r.getD (r.length - 1) 0] := by
    have hlt : r.length - 1 < r.length := by
      have := List.length_pos_iff.mpr rne
      omega
    conv => lhs; rw [← List.take_append_drop (r.length - 1) r]
    rw [List.drop_eq_getElem_cons hlt, show r.length - 1 + 1 = r.length by omega, List.drop_length]
    simp [List.getD_eq_getElem?_getD, hlt]
  have P1 : Pol (r.length - 1) (pev (r.take (r.length - 1))) := (pev_pol _).mono (by rw [List.length_take]; omega)
  have P2 : Pol (r.length - 1) (pev r) := hp.mono (by omega)
  have z0 := lead_zero (r.length - 1) (c := z (r.getD (r.length - 1) 0)) (by omega) (Pol.sub P2 P1) fun x => by
    have := pev_snoc (r.take (r.length - 1)) (r.getD (r.length - 1) 0) x
    rw [← e, List.length_take, Nat.min_eq_left (by omega)] at this
    show _ = pev r x - pev (r.take (r.length - 1)) x
    grind
  have w := hw (r.getD (r.length - 1) 0) (by
    have hlt : r.length - 1 < r.length := by
      have := List.length_pos_iff.mpr rne
      omega
    rw [List.getD_eq_getElem?_getD, List.getElem?_eq_getElem hlt]
    exact List.getElem_mem hlt)
  have := (z_z _).mp z0
  obtain ⟨w0, w1⟩ := w
  omega
/-- the same values everywhere: the same words -/
theorem pev_inj : ∀ {a b : List Int}, a.length = b.length → a.length ≤ 60000 → (∀ w ∈ a, Wd w) → (∀ w ∈ b, Wd w) → (∀ x, pev a x = pev b x) → a = b
  | [], [], _, _, _, _, _ => rfl
  | [], _ :: _, h, _, _, _, _ => by simp at h
  | _ :: _, [], h, _, _, _, _ => by simp at h
  | c :: a, d :: b, hl, hz, ha, hb, e => by
    have e0 : z c = z d := by
      have : z c + 0 * pev a 0 = z d + 0 * pev b 0 := e 0
      grind
    have wc := ha c (by simp)
    have wd := hb d (by simp)
    have ecd : c = d := z_inj wc.1 wc.2 wd.1 wd.2 e0
    have hl' : a.length = b.length := by simpa using hl
    have hz' : a.length + 1 ≤ 60000 := by simpa using hz
    have F : ∀ x, pev a x - pev b x = 0 := Pol.punct (n := a.length) (Pol.sub (pev_pol a) ((pev_pol b).mono (by omega))) (by omega) fun x hx => by
      have h1 : z c + x * pev a x = z d + x * pev b x := e x
      have h3 : x * (pev a x - pev b x) = 0 := by grind
      exact (zp_div h3).resolve_left hx
    rw [ecd, pev_inj hl' (by omega) (fun w m => ha w (List.mem_cons_of_mem _ m)) (fun w m => hb w (List.mem_cons_of_mem _ m)) fun x => by have := F x; grind]
theorem norm_inj {a b : List Int} (ha : Norm a) (hb : Norm b) (la : a.length ≤ 60000) (lb : b.length ≤ 60000) (e : ∀ x, pev a x = pev b x) : a = b := by
  have h1 := norm_le ha lb ((pev_pol b).ext e) la
  have h2 := norm_le hb la ((pev_pol a).ext fun x => (e x).symm) lb
  exact pev_inj (by omega) la ha.1 hb.1 e
/-! products -/
theorem Pol.mul : ∀ {n m : Nat} {f g : Zp → Zp}, Pol n f → Pol m g → Pol (n + m) fun x => f x * g x
  | 0, m, f, g, h, _ => (pol_nil (0 + m)).ext fun x => by show f x * g x = 0; rw [h x]; grind
  | n + 1, m, f, g, ⟨c, u, h, q⟩, k => by
    have A := (Pol.mul h k).xmul
    have B := (k.smul c).mono (show m ≤ n + m + 1 by omega)
    rw [show n + 1 + m = n + m + 1 by omega]
    exact (B.add A).ext fun x => by show f x * g x = g x * c + x * (u x * g x); rw [q x]; grind
/-- the highest coefficient -/
theorem norm_lead {a : List Int} (h : Norm a) (ne : a ≠ []) : ∃ (c : Zp) (g : Zp → Zp), c ≠ 0 ∧ Pol (a.length - 1) g ∧ ∀ x, pev a x = g x + c * pw x (a.length - 1) := by
  have hlt : a.length - 1 < a.length := by
    have := List.length_pos_iff.mpr ne
    omega
  refine ⟨z (a.getD (a.length - 1) 0), pev (a.take (a.length - 1)), fun e => ?_, (pev_pol _).mono (by rw [List.length_take]; omega), fun x => ?_⟩
  · have w : Wd (a.getD (a.length - 1) 0) := h.1 _ (by rw [List.getD_eq_getElem?_getD, List.getElem?_eq_getElem hlt]; exact List.getElem_mem hlt)
    have := (z_z _).mp e
    have ne0 := h.2.resolve_left ne
    obtain ⟨w0, w1⟩ := w
    omega
  · have e : a = a.take (a.length - 1) ++ [a.getD (a.length - 1) 0] := by
      conv => lhs; rw [← List.take_append_drop (a.length - 1) a]
      rw [List.drop_eq_getElem_cons hlt, show a.length - 1 + 1 = a.length by omega, List.drop_length]
      simp [List.getD_eq_getElem?_getD, hlt]
    have := pev_snoc (a.take (a.length - 1)) (a.getD (a.length - 1) 0) x
    rw [← e, List.length_take, Nat.min_eq_left (by omega)] at this
    rw [this]
    grind
theorem norm_mul {a b r : List Int} (ha : Norm a) (hb : Norm b) (hr : Norm r) (na : a ≠ []) (nb : b ≠ []) (la : a.length ≤ 1000) (lb : b.length ≤ 1000) (lr : r.length ≤ 60000) (e : ∀ x, pev r x = pev a x * pev b x) : r.length = a.length + b.length - 1 := by
  obtain ⟨c, g, hc, hg, eg⟩ := norm_lead ha na
  obtain ⟨d, k, hd, hk, ek⟩ := norm_lead hb nb
  have pa := List.length_pos_iff.mpr na
  have pb := List.length_pos_iff.mpr nb
  -- what is below the highest power
  have low : Pol (a.length - 1 + (b.length - 1)) fun x => pev r x - (c * d) * pw x (a.length - 1 + (b.length - 1)) := by
    have A := (hg.mul ((Pol.pw (b.length - 1) d).add hk.up)).mono (show a.length - 1 + (b.length - 1 + 1) ≤ a.length - 1 + (b.length - 1) + 1 by omega)
    have B : ∀ n m : Nat, ∀ u : Zp → Zp, Pol m u → Pol (n + m) fun x => pw x n * u x := by
      intro n
      induction n with
      | zero => exact fun m u hu => by rw [Nat.zero_add]; exact hu.ext fun x => by show 1 * u x = u x; grind
      | succ n ih => exact fun m u hu => by rw [Nat.succ_add]; exact ((ih m u hu).xmul).ext fun x => by show (x * pw x n) * u x = x * (pw x n * u x); grind
    have C := (B (a.length - 1) (b.length - 1) k hk).smul c
    have D := (B (b.length - 1) (a.length - 1) g hg).smul d
    have G : Pol (a.length - 1 + (b.length - 1)) fun x => g x * k x := hg.mul hk
    rw [Nat.add_comm (b.length - 1)] at D
    refine ((C.add D).add G).ext fun x => ?_
    show pev r x - (c * d) * pw x (a.length - 1 + (b.length - 1)) = (pw x (a.length - 1) * k x * c + pw x (b.length - 1) * g x * d) + g x * k x
    rw [e x, eg x, ek x, pw_add]
    grind
  have up : Pol (a.length - 1 + (b.length - 1) + 1) (pev r) := (low.up.add (Pol.pw _ (c * d))).ext fun x => by
    show pev r x = (pev r x - (c * d) * pw x _) + (c * d) * pw x _
    grind
  have h1 := norm_le hr (by omega) up lr
  by_cases q : r.length ≤ a.length - 1 + (b.length - 1)
  · exfalso
    have P := (pev_pol r).mono q
    have := lead_zero (a.length - 1 + (b.length - 1)) (c := c * d) (by omega) (P.sub low) fun x => by
      show _ = pev r x - (pev r x - (c * d) * pw x _)
      grind
    exact zp_mul_ne hc hd this
  · omega
theorem norm_snoc {a : List Int} {c : Int} (h : ∀ w ∈ a, Wd w) (hc : Wd c) (n : c ≠ 0) : Norm (a ++ [c]) := by
  refine ⟨fun w m => ?_, .inr ?_⟩
  · rcases List.mem_append.mp m with m | m
    · exact h w m
    · have : w = c := by simpa using m
      rw [this]
      exact hc
  · rw [List.length_append, List.length_singleton, Nat.add_sub_cancel, List.getD_eq_getElem?_getD]
    simpa using n
theorem norm_nil : Norm [] := ⟨fun _ m => (nomatch m), .inl rfl⟩
theorem pev_smul (fa : Int) : ∀ (b : List Int) (x : Zp), pev (b.map fun c => fa * c) x = z fa * pev b x
  | [], x => by show (0 : Zp) = _ * 0; grind
  | c :: r, x => by
    show z (fa * c) + x * pev (r.map fun c => fa * c) x = z fa * (z c + x * pev r x)
    rw [pev_smul fa r x, z_mul]
    grind
/-! heaps, slices, points -/
theorem _root_.L2.Same.tup {K : PySem.W.Frag} {H H' : Hp} {a : Addr} {xs : List V} (e : Same H H') (h : SqT K H a xs) : SqT K H' a xs := by
  rcases h with (h | ⟨o, h⟩) | h
  · exact .inl (.inl (e _ _ h))
  · exact .inl (.inr ⟨o, e _ _ h⟩)
  · exact .inr h
theorem _root_.L2.Same.new {H : Hp} {p : Addr} {o : HO} (h : H p = none) : Same H (upd H p o) := fun _ _ e => by
  rw [upd_ne (ne_of_none e h)]
  exact e
/-- what was tracked is as it was, but for p -/
def But (p : Addr) (H H' : Hp) : Prop := ∀ b o, H b = some o → b ≠ p → H' b = some o
theorem Only.but {p : Addr} {H H' : Hp} (h : Only p H H') : But p H H' := fun b _ e n => (h b n).trans e
theorem _root_.L2.Same.but {p : Addr} {H H' : Hp} (h : Same H H') : But p H H' := fun b o e _ => h b o e
theorem But.trans {p : Addr} {H H1 H2 : Hp} (x : But p H H1) (y : But p H1 H2) : But p H H2 := fun b o e n => y b o (x b o e n) n
theorem But.same {p : Addr} {H0 H H' : Hp} (y : But p H H') (x : Same H0 H) (h : H0 p = none) : Same H0 H' := fun b o e => y b o (x b o e) (ne_of_none e h)
theorem But.new {p q : Addr} {H H' : Hp} {o : HO} (x : But p H H') (h : H' q = none) : But p H (upd H' q o) := x.trans (Same.new h).but
theorem _root_.L2.Same.at {H H' : Hp} {b : Addr} {o : HO} (s : Same H H') (e : H b = some o) : H' b = some o := s b o e
theorem cut_take (xs : List V) (i : Nat) : cutV xs none (some (i : Int)) = xs.take i := by
  unfold cutV
  rw [HT.sIx_none, HT.sIx_nat, List.drop_zero, Nat.sub_zero]
  by_cases h : i ≤ xs.length
  · rw [Nat.min_eq_left h]
  · rw [Nat.min_eq_right (by omega), List.take_of_length_le (by omega), List.take_of_length_le (by omega)]
theorem cut_drop (xs : List V) (i : Nat) : cutV xs (some (i : Int)) none = xs.drop i := by
  unfold cutV
  rw [HT.sIx_none, HT.sIx_nat]
  by_cases h : i ≤ xs.length
  · rw [Nat.min_eq_left h, List.take_of_length_le (by rw [List.length_drop]; omega)]
  · rw [Nat.min_eq_right (by omega), List.drop_of_length_le (by omega), List.drop_of_length_le (by omega), List.take_nil]
theorem take_snoc {α : Type} {l : List α} {i : Nat} {x : α} (h : l[i]? = some x) : l.take (i + 1) = l.take i ++ [x] := by
  rw [List.take_add_one, h]
  rfl
theorem item_lt {α : Type} {l : List α} {i : Nat} {x : α} (h : l[i]? = some x) : i < l.length := (List.getElem?_eq_some_iff.mp h).1
theorem small (n : Nat) (h : n ≤ 60000) : n < sizeLine := Nat.lt_of_le_of_lt h (by decide)
theorem getD_item {α : Type} {l : List α} {i : Nat} {x d : α} (h : l[i]? = some x) : l.getD i d = x := by rw [List.getD_eq_getElem?_getD, h]; rfl
theorem seq_off {K : PySem.W.Frag} {H : Hp} {a b : Addr} {xs : List V} {o : HO} (h : SqL K H a xs) (n : a ≠ b) : SqL K (upd H b o) a xs := by
  rcases h with (h | ⟨u, h⟩) | h
  · exact .inl (.inl (by rw [upd_ne n]; exact h))
  · exact .inl (.inr ⟨u, by rw [upd_ne n]; exact h⟩)
  · exact .inr h
/-- one more thing at a place that was free at the entry -/
theorem same_put {H H' : Hp} {p : Addr} {o : HO} (s : Same H H') (n : H p = none) : Same H (upd H' p o) := fun b u e => by
  rw [upd_ne (ne_of_none e n)]
  exact s b u e
theorem item_set {α : Type} {l : List α} {i j : Nat} {x y : α} (h : (l.set i x)[j]? = some y) : (i = j ∧ y = x ∧ j < l.length) ∨ (i ≠ j ∧ l[j]? = some y) := by
  rw [List.getElem?_set] at h
  by_cases e : i = j
  · subst e
    rw [if_pos rfl] at h
    split at h
    · exact .inl ⟨rfl, (Option.some.inj h).symm, by assumption⟩
    · cases h
  · rw [if_neg e] at h
    exact .inr ⟨e, h⟩
theorem same_none {H H' : Hp} {b : Addr} (s : Same H H') (n : H' b = none) : H b = none := by
  cases q : H b with
  | none => rfl
  | some o => rw [s _ _ q] at n; cases n
theorem getD_set {w : List Int} {i k : Nat} {v : Int} (h : k < w.length) : (w.set i v).getD k 0 = if i = k then v else w.getD k 0 := by
  rw [List.getD_eq_getElem?_getD, List.getElem?_set]
  split
  · next e =>
    subst e
    rw [if_pos h]
    rfl
  · rw [List.getD_eq_getElem?_getD]
/-! data: == of lists of ints, of pairs -/
theorem eqvAll_ints : ∀ xs ys : List Int, PyData.eqvAll (xs.map .int) (ys.map .int) = decide (xs = ys)
  | [], [] => by simp [PyData.eqvAll]
  | [], _ :: _ => by simp [PyData.eqvAll]
  | _ :: _, [] => by simp [PyData.eqvAll]
  | x :: xs, y :: ys => by
    simp only [List.map_cons, PyData.eqvAll, PyData.eqv, eqvAll_ints xs ys]
    by_cases h : x = y <;> by_cases k : xs = ys <;> simp [h, k]
theorem canLayAll_ints : ∀ xs : List Int, PyData.canLayAll0 (xs.map .int) = true
  | [] => rfl
  | x :: xs => by simp [PyData.canLayAll0, PyData.canLay0, canLayAll_ints xs]
theorem depthAll_ints : ∀ xs : List Int, PyData.depthAll (xs.map .int) = 0
  | [] => rfl
  | x :: xs => by simp [PyData.depthAll, PyData.depth, depthAll_ints xs]
theorem shaped_ints (xs : List Int) : SeqAt.shaped (.list (xs.map .int)) = true := by
  simp [SeqAt.shaped, PyData.canLay0, canLayAll_ints, PyData.depth, depthAll_ints]
theorem dpAll_ints {K : PySem.W.Frag} {H : Hp} : ∀ xs : List Int, DpAll K H (xs.map V.int) (xs.map .int)
  | [] => .nil
  | x :: xs => .cons (.int x) (dpAll_ints xs)
theorem dp_ints {K : PySem.W.Frag} {H : Hp} {a : Addr} {xs : List Int} (h : SqL K H a (xs.map V.int)) : Dp K H (.ref a) (.list (xs.map .int)) := .lst h (dpAll_ints xs)
theorem eqv_ints (xs ys : List Int) : PyData.eqv (.list (xs.map .int)) (.list (ys.map .int)) = decide (xs = ys) := by
  simp only [PyData.eqv]
  exact eqvAll_ints xs ys
/-- rows of ints -/
def rowD (xs : List Int) : PyData := .list (xs.map .int)
theorem rows_data : ∀ xss : List (List Int), PyData.canLayAll0 (xss.map rowD) = true ∧ PyData.depthAll (xss.map rowD) ≤ 1
  | [] => ⟨rfl, Nat.zero_le _⟩
  | xs :: xss => by
    obtain ⟨h1, h2⟩ := rows_data xss
    refine ⟨by simp [PyData.canLayAll0, PyData.canLay0, rowD, canLayAll_ints, h1], ?_⟩
    simp only [List.map_cons, PyData.depthAll, rowD, PyData.depth, depthAll_ints]
    omega
theorem rows_shaped (xss : List (List Int)) : SeqAt.shaped (.list (xss.map rowD)) = true := by
  obtain ⟨h1, h2⟩ := rows_data xss
  have e : PyData.depth (.list (xss.map rowD)) = PyData.depthAll (xss.map rowD) + 1 := by simp only [PyData.depth]
  unfold SeqAt.shaped
  rw [Bool.and_eq_true]
  exact ⟨by simp only [PyData.canLay0]; exact h1, decide_eq_true (by rw [e]; omega)⟩
theorem eqvAll_rows : ∀ xss yss : List (List Int), PyData.eqvAll (xss.map rowD) (yss.map rowD) = decide (xss = yss)
  | [], [] => by simp [PyData.eqvAll]
  | [], _ :: _ => by simp [PyData.eqvAll]
  | _ :: _, [] => by simp [PyData.eqvAll]
  | x :: xs, y :: ys => by
    have h := eqv_ints x y
    simp only [List.map_cons, PyData.eqvAll, rowD, eqvAll_rows xs ys, h]
    by_cases h : x = y <;> by_cases k : xs = ys <;> simp [h, k]
theorem eqv_rows (xss yss : List (List Int)) : PyData.eqv (.list (xss.map rowD)) (.list (yss.map rowD)) = decide (xss = yss) := by
  simp only [PyData.eqv]
  exact eqvAll_rows xss yss
theorem dp_two {K : PySem.W.Frag} {H : Hp} {a b c : Addr} {xs ys : List Int} (h : SqL K H a [V.ref b, V.ref c]) (hb : SqL K H b (xs.map V.int)) (hc : SqL K H c (ys.map V.int)) : Dp K H (.ref a) (.list ([xs, ys].map rowD)) :=
  .lst h (.cons (dp_ints hb) (.cons (dp_ints hc) .nil))
/-! xs[i] op= e, i not below 0 -/
def rGetL (K : PySem.W.Frag) : V → V → Hp → VK → Prop := fun x y H Q => ∃ (p : Addr) (xs : List V) (i : Int) (j : Nat) (v : V), x = .ref p ∧ y = .int i ∧ i = (j : Int) ∧ SqL K H p xs ∧ xs[j]? = some v ∧ Q v H
theorem pget_list {X : Cx} : PGet X (rGetL X.K) := by
  intro pins s σ H o i ov iv Q I ro ri h
  obtain ⟨p, xs, _, j, v, rfl, rfl, rfl, hS, hv, q⟩ := h
  cases ro
  obtain ⟨t, rfl⟩ := ri
  obtain ⟨its, r, pl, hz⟩ := I.list hS
  obtain ⟨u, hu, ru⟩ := r.get hv
  have hl : j < xs.length := (List.getElem?_eq_some_iff.mp hv).1
  have hn := line63
  exact PySem.wpAny_getItem_list pl.isList (by omega) (by omega) (by rw [Int.toNat_natCast]; simpa using hu) ⟨v, H, I, ru, q⟩
theorem rep_zero (n : Nat) : (List.replicate n [V.int 0]).flatten = (List.replicate n (0 : Int)).map V.int := by
  induction n with
  | zero => rfl
  | succ n ih => rw [List.replicate_succ, List.flatten_cons, ih, List.replicate_succ]; rfl
theorem pev_rep (n : Nat) (x : Zp) : pev (List.replicate n (0 : Int)) x = 0 := pev_zeros (fun w m => by rw [(List.mem_replicate.mp m).2]; exact z_zero) x
theorem ixN_nat {n j : Nat} (h : j < n) : ixN n (j : Int) = some j := by
  unfold ixN
  rw [if_pos (by omega), if_pos (by omega), Int.toNat_natCast]
theorem rev_ind {α : Type} {P : List α → Prop} (h0 : P []) (hs : ∀ l a, P l → P (l ++ [a])) (l : List α) : P l := by
  have h : ∀ l : List α, P l.reverse := fun l => by
    induction l with
    | nil => exact h0
    | cons a l ih => rw [List.reverse_cons]; exact hs _ _ ih
  have := h l.reverse
  rw [List.reverse_reverse] at this
  exact this
/-- where things stand -/
structure Ad where
  f_is_present : Addr
  d_is_present : FuncData
  f_sector_at : Addr
  d_sector_at : FuncData
  f_check_words : Addr
  d_check_words : FuncData
  f_is_place : Addr
  d_is_place : FuncData
  f_seal : Addr
  d_seal : FuncData
  f_unseal : Addr
  d_unseal : FuncData
  f_is_whole : Addr
  d_is_whole : FuncData
  f_note_places : Addr
  d_note_places : FuncData
  f_place_payloads : Addr
  d_place_payloads : FuncData
  f_note_requests : Addr
  d_note_requests : FuncData
  f_read_place : Addr
  d_read_place : FuncData
  f_read_notes : Addr
  d_read_notes : FuncData
  f_law_pot : Addr
  d_law_pot : FuncData
  f_law_next : Addr
  d_law_next : FuncData
  f_law_word : Addr
  d_law_word : FuncData
  f_law_words : Addr
  d_law_words : FuncData
  f_law_seal : Addr
  d_law_seal : FuncData
  f_law_refused : Addr
  d_law_refused : FuncData
  f_law_note : Addr
  d_law_note : FuncData
  f_law_fate : Addr
  d_law_fate : FuncData
  f_law_write_all : Addr
  d_law_write_all : FuncData
  f_law : Addr
  d_law : FuncData
  c_PoolError : Addr
  c_InvalidArgument : Addr
/-- what the top has written -/
structure Txt (K : PySem.W.Frag) (mg : Str → Option Value) (a : Ad) : Prop where
  F_is_present : Fun K "is_present" "is_present" s_is_present a.f_is_present a.d_is_present
  g_is_present : mg "is_present" = some (.ref a.f_is_present)
  d_is_present : Binds K a.d_is_present ["images", "disk"] []
  F_sector_at : Fun K "sector_at" "sector_at" s_sector_at a.f_sector_at a.d_sector_at
  g_sector_at : mg "sector_at" = some (.ref a.f_sector_at)
  d_sector_at : Binds K a.d_sector_at ["images", "disk", "row"] []
  F_check_words : Fun K "check_words" "check_words" s_check_words a.f_check_words a.d_check_words
  g_check_words : mg "check_words" = some (.ref a.f_check_words)
  d_check_words : Binds K a.d_check_words ["words"] []
  F_is_place : Fun K "is_place" "is_place" s_is_place a.f_is_place a.d_is_place
  g_is_place : mg "is_place" = some (.ref a.f_is_place)
  d_is_place : Binds K a.d_is_place ["kind", "disk", "row"] []
  F_seal : Fun K "seal" "seal" s_seal a.f_seal a.d_seal
  g_seal : mg "seal" = some (.ref a.f_seal)
  d_seal : Binds K a.d_seal ["kind", "disk", "row", "stamp", "payload"] []
  F_unseal : Fun K "unseal" "unseal" s_unseal a.f_unseal a.d_unseal
  g_unseal : mg "unseal" = some (.ref a.f_unseal)
  d_unseal : Binds K a.d_unseal ["sector", "kind", "disk", "row"] []
  F_is_whole : Fun K "is_whole" "is_whole" s_is_whole a.f_is_whole a.d_is_whole
  g_is_whole : mg "is_whole" = some (.ref a.f_is_whole)
  d_is_whole : Binds K a.d_is_whole ["sector"] []
  F_note_places : Fun K "note_places" "note_places" s_note_places a.f_note_places a.d_note_places
  g_note_places : mg "note_places" = some (.ref a.f_note_places)
  d_note_places : Binds K a.d_note_places ["words"] []
  F_place_payloads : Fun K "place_payloads" "place_payloads" s_place_payloads a.f_place_payloads a.d_place_payloads
  g_place_payloads : mg "place_payloads" = some (.ref a.f_place_payloads)
  d_place_payloads : Binds K a.d_place_payloads ["words"] []
  F_note_requests : Fun K "note_requests" "note_requests" s_note_requests a.f_note_requests a.d_note_requests
  g_note_requests : mg "note_requests" = some (.ref a.f_note_requests)
  d_note_requests : Binds K a.d_note_requests ["images", "disks", "stamp", "first", "words"] []
  F_read_place : Fun K "read_place" "read_place" s_read_place a.f_read_place a.d_read_place
  g_read_place : mg "read_place" = some (.ref a.f_read_place)
  d_read_place : Binds K a.d_read_place ["images", "disks", "stamp", "place"] []
  F_read_notes : Fun K "read_notes" "read_notes" s_read_notes a.f_read_notes a.d_read_notes
  g_read_notes : mg "read_notes" = some (.ref a.f_read_notes)
  d_read_notes : Binds K a.d_read_notes ["images", "disks", "stamp"] []
  F_law_pot : Fun K "_law_pot" "_law_pot" s_law_pot a.f_law_pot a.d_law_pot
  g_law_pot : mg "_law_pot" = some (.ref a.f_law_pot)
  d_law_pot : Binds K a.d_law_pot ["script"] []
  F_law_next : Fun K "_law_next" "_law_next" s_law_next a.f_law_next a.d_law_next
  g_law_next : mg "_law_next" = some (.ref a.f_law_next)
  d_law_next : Binds K a.d_law_next ["pot", "limit"] []
  F_law_word : Fun K "_law_word" "_law_word" s_law_word a.f_law_word a.d_law_word
  g_law_word : mg "_law_word" = some (.ref a.f_law_word)
  d_law_word : Binds K a.d_law_word ["pot"] []
  F_law_words : Fun K "_law_words" "_law_words" s_law_words a.f_law_words a.d_law_words
  g_law_words : mg "_law_words" = some (.ref a.f_law_words)
  d_law_words : Binds K a.d_law_words ["pot", "count"] []
  F_law_seal : Fun K "_law_seal" "_law_seal" s_law_seal a.f_law_seal a.d_law_seal
  g_law_seal : mg "_law_seal" = some (.ref a.f_law_seal)
  d_law_seal : Binds K a.d_law_seal ["kind", "disk", "row", "stamp", "payload"] []
  F_law_refused : Fun K "_law_refused" "_law_refused" s_law_refused a.f_law_refused a.d_law_refused
  g_law_refused : mg "_law_refused" = some (.ref a.f_law_refused)
  d_law_refused : Binds K a.d_law_refused ["images", "disks", "stamp", "first", "words"] []
  F_law_note : Fun K "_law_note" "_law_note" s_law_note a.f_law_note a.d_law_note
  g_law_note : mg "_law_note" = some (.ref a.f_law_note)
  d_law_note : Binds K a.d_law_note ["pot"] []
  F_law_fate : Fun K "_law_fate" "_law_fate" s_law_fate a.f_law_fate a.d_law_fate
  g_law_fate : mg "_law_fate" = some (.ref a.f_law_fate)
  d_law_fate : Binds K a.d_law_fate ["pot", "images", "request", "old"] []
  F_law_write_all : Fun K "_law_write_all" "_law_write_all" s_law_write_all a.f_law_write_all a.d_law_write_all
  g_law_write_all : mg "_law_write_all" = some (.ref a.f_law_write_all)
  d_law_write_all : Binds K a.d_law_write_all ["pot", "images", "count", "stamp"] []
  F_law : Fun K "law" "law" s_law a.f_law a.d_law
  g_law : mg "law" = some (.ref a.f_law)
  d_law : Binds K a.d_law ["script"] []
  g_PRIME : ∃ u, mg "PRIME" = some u ∧ RelV (.int 65521) u
  g_MAX_DISKS : ∃ u, mg "MAX_DISKS" = some u ∧ RelV (.int 8) u
  g_MAX_PAYLOAD : ∃ u, mg "MAX_PAYLOAD" = some u ∧ RelV (.int 1000) u
  g_MAX_ROWS : ∃ u, mg "MAX_ROWS" = some u ∧ RelV (.int 4000) u
  g_LABEL_ROWS : ∃ u, mg "LABEL_ROWS" = some u ∧ RelV (.int 2) u
  g_JOURNAL_ROWS : ∃ u, mg "JOURNAL_ROWS" = some u ∧ RelV (.int 16) u
  g_LABEL : ∃ u, mg "LABEL" = some u ∧ RelV (.int 1) u
  g_NOTE : ∃ u, mg "NOTE" = some u ∧ RelV (.int 2) u
  g_PIECE : ∃ u, mg "PIECE" = some u ∧ RelV (.int 3) u
  g_HEADER_WORDS : ∃ u, mg "HEADER_WORDS" = some u ∧ RelV (.int 6) u
  g_CHECK_WORDS : ∃ u, mg "CHECK_WORDS" = some u ∧ RelV (.int 2) u
  g_PLACE_WORDS : ∃ u, mg "PLACE_WORDS" = some u ∧ RelV (.int 999) u
  n_len : mg "len" = none
  n_enumerate : mg "enumerate" = none
  n_sum : mg "sum" = none
  n_tuple : mg "tuple" = none
  n_min : mg "min" = none
  n_max : mg "max" = none
  n_range : mg "range" = none
  n_list : mg "list" = none
  n_int : mg "int" = none
  n_abs : mg "abs" = none
  n_isinstance : mg "isinstance" = none
  n_any : mg "any" = none
  n_repr : mg "repr" = none
  g_PoolError : mg "PoolError" = some (.ref a.c_PoolError)
  x_PoolError : PySem.W.excIn K a.c_PoolError [.type "ValueError", .type "Exception", .type "BaseException", .type "object"] "ValueError.__new__" = true
  k_PoolError : PySem.W.keepIn K (.ref a.c_PoolError) = true
  b_PoolError : PySem.W.subIn K (.ref a.c_PoolError) (.type "BaseException") = some true
  t_PoolError : PySem.W.typeIn K (.ref a.c_PoolError) = some (.type "type")
  E_PoolError : ExcC K a.c_PoolError
  g_InvalidArgument : mg "InvalidArgument" = some (.ref a.c_InvalidArgument)
  x_InvalidArgument : PySem.W.excIn K a.c_InvalidArgument [.type "ValueError", .type "Exception", .type "BaseException", .type "object"] "ValueError.__new__" = true
  k_InvalidArgument : PySem.W.keepIn K (.ref a.c_InvalidArgument) = true
  b_InvalidArgument : PySem.W.subIn K (.ref a.c_InvalidArgument) (.type "BaseException") = some true
  t_InvalidArgument : PySem.W.typeIn K (.ref a.c_InvalidArgument) = some (.type "type")
  E_InvalidArgument : ExcC K a.c_InvalidArgument
  u_InvalidArgument_PoolError : PySem.W.exmOne K (.ref a.c_InvalidArgument) (.ref a.c_PoolError) = some true
  i_InvalidArgument_InvalidArgument : PySem.W.kitOne K (.ref a.c_InvalidArgument) (.ref a.c_InvalidArgument) = some true
/-! the promises -/
/-! the draws: a list of the script, a place in it, a rest, a seed -/
/-- at p stands a pot, its script's list at l -/
def Pot (H : Hp) (p l : Addr) : Prop := ∃ (ns : List Int) (i acc seed : Int), H p = some (.lst [.ref l, .int i, .int acc, .int seed]) ∧ H l = some (.lst (ns.map V.int)) ∧ 0 ≤ i ∧ 0 ≤ acc ∧ 0 ≤ seed ∧ seed < 2147483647
theorem Pot.ne {H : Hp} {p l : Addr} (h : Pot H p l) : l ≠ p := by
  obtain ⟨ns, i, acc, seed, h1, h2, _⟩ := h
  refine ne_of h2 h1 fun e => ?_
  have e1 := HO.lst.inj e
  cases ns with
  | nil => cases e1
  | cons a r => rw [List.map_cons] at e1; injection e1 with e2 _; cases e2
theorem Pot.same {H H' : Hp} {p l : Addr} (h : Pot H p l) (s : Same H H') : Pot H' p l := by
  obtain ⟨ns, i, acc, seed, h1, h2, h3⟩ := h
  exact ⟨ns, i, acc, seed, s _ _ h1, s _ _ h2, h3⟩
theorem Pot.only {H H' : Hp} {p l q : Addr} (h : Pot H p l) (s : Only q H H') (n1 : p ≠ q) (n2 : l ≠ q) : Pot H' p l := by
  obtain ⟨ns, i, acc, seed, h1, h2, h3⟩ := h
  exact ⟨ns, i, acc, seed, by rw [s _ n1]; exact h1, by rw [s _ n2]; exact h2, h3⟩
/-- a draw's answer below the limit -/
def sp_law_next (K : PySem.W.Frag) (a : Ad) : Sp := fun vs H Q _ => ∃ (p l : Addr) (m : Int), vs = [.ref p, .int m] ∧ Pot H p l ∧ 0 < m ∧ m.natAbs < 2 ^ 400 ∧
  ∀ (v : Int) (H' : Hp), 0 ≤ v → v < m → Pot H' p l → Only p H H' → Q (.int v) H'
theorem sp_law_next_len {K : PySem.W.Frag} {a : Ad} {vs : List V} {H : Hp} {Q : VK} {E : XK} (h : sp_law_next K a vs H Q E) : vs.length = 2 := by
  obtain ⟨p, l, m, rfl, _⟩ := h
  rfl
def sp_law_pot (K : PySem.W.Frag) (a : Ad) : Sp := fun vs H Q _ => ∃ (s : Addr) (ns : List Int), vs = [.ref s] ∧ SqL K H s (ns.map V.int) ∧ ns.length ≤ 1000 ∧
  ∀ (p l : Addr) (H' : Hp), H p = none → H l = none → Same H H' → Pot H' p l → Q (.ref p) H'
theorem sp_law_pot_len {K : PySem.W.Frag} {a : Ad} {vs : List V} {H : Hp} {Q : VK} {E : XK} (h : sp_law_pot K a vs H Q E) : vs.length = 1 := by
  obtain ⟨s, ns, rfl, _⟩ := h
  rfl
/-- the law itself: True at every script -/
def sp_law0 (K : PySem.W.Frag) : Sp := fun vs H Q _ => ∃ (s : Addr) (ns : List Int), vs = [.ref s] ∧ SqL K H s (ns.map V.int) ∧ ns.length ≤ 63 ∧ ∀ H', Q (.bl true) H'
def sp_law (K : PySem.W.Frag) (a : Ad) : Sp := sp_law0 K
theorem sp_law_len {K : PySem.W.Frag} {a : Ad} {vs : List V} {H : Hp} {Q : VK} {E : XK} (h : sp_law K a vs H Q E) : vs.length = 1 := by
  obtain ⟨s, ns, rfl, _⟩ := h
  rfl
theorem int_item {ns : List Int} {i : Nat} {y : V} (h : (ns.map V.int)[i]? = some y) : ∃ z, ns[i]? = some z ∧ y = V.int z := by
  rw [List.getElem?_map] at h
  cases e : ns[i]? with
  | none => rw [e] at h; cases h
  | some z => rw [e] at h; exact ⟨z, rfl, (Option.some.inj h).symm⟩
/-- the pot's own object is no list of refs alone, no tuple -/
theorem Pot.list {H : Hp} {p l : Addr} (h : Pot H p l) : ∃ i acc seed : Int, H p = some (.lst [.ref l, .int i, .int acc, .int seed]) := by
  obtain ⟨ns, i, acc, seed, h1, _⟩ := h
  exact ⟨i, acc, seed, h1⟩
theorem But.seq {K : PySem.W.Frag} {H H' : Hp} {p a : Addr} {xs : List V} (b : But p H H') (n : a ≠ p) (h : SqL K H a xs) : SqL K H' a xs := by
  rcases h with (h | ⟨o, h⟩) | h
  · exact .inl (.inl (b _ _ h n))
  · exact .inl (.inr ⟨o, b _ _ h n⟩)
  · exact .inr h
theorem But.tup {K : PySem.W.Frag} {H H' : Hp} {p l a : Addr} {xs : List V} (P : Pot H p l) (b : But p H H') (h : SqT K H a xs) : SqT K H' a xs := by
  obtain ⟨i, acc, seed, hp⟩ := P.list
  rcases h with (h | ⟨o, h⟩) | h
  · exact .inl (.inl (b _ _ h (ne_of h hp (by intro q; cases q))))
  · exact .inl (.inr ⟨o, b _ _ h (ne_of h hp (by intro q; cases q))⟩)
  · exact .inr h
theorem Pot.noList {H : Hp} {p l a : Addr} (P : Pot H p l) {xs : List V} (h : H a = some (.lst xs)) (hx : ∀ i acc seed : Int, xs ≠ [.ref l, .int i, .int acc, .int seed]) : a ≠ p := by
  obtain ⟨i, acc, seed, hp⟩ := P.list
  exact ne_of h hp fun q => hx i acc seed (HO.lst.inj q)
theorem Pot.off {H : Hp} {p l q : Addr} (P : Pot H p l) (h : H q = none) : p ≠ q ∧ l ≠ q := by
  obtain ⟨_, _, _, _, g1, g2, _⟩ := P
  exact ⟨ne_of_none g1 h, ne_of_none g2 h⟩
theorem Pot.new {H : Hp} {p l q : Addr} {o : HO} (P : Pot H p l) (h : H q = none) : Pot (upd H q o) p l := P.same (Same.new h)
/-! expressions that make new lists, with draws among them -/
theorem Pot.nn {H : Hp} {p l q : Addr} (P : Pot H p l) (h : H q = none) : q ≠ p := fun z => (P.off h).1 z.symm
theorem but_none {p l q : Addr} {H H' : Hp} (b : But p H H') (P : Pot H' p l) (n : H' q = none) : H q = none := by
  cases e : H q with
  | none => rfl
  | some o =>
    by_cases z : q = p
    · obtain ⟨_, _, _, hp⟩ := P.list
      rw [z, hp] at n
      cases n
    · rw [b _ _ e z] at n
      cases n
section
variable {K : PySem.W.Frag} {p l : Addr} {G : Hp → Prop} {σ : St}
/-- what holds of the heap while only the pot changes and things are added -/
def Stay (p l : Addr) (G : Hp → Prop) : Prop := ∀ H H', But p H H' → Pot H p l → G H → G H'
def Mk (p l : Addr) (G : Hp → Prop) (te : TE) (σ : St) (U : List V → Prop) : Prop := ∀ (H : Hp) (Q : VK), Pot H p l → G H → (∀ (D : Addr) (us : List V) (H' : Hp), U us → But p H H' → Pot H' p l → G H' → H D = none → H' D = some (.lst us) → Q (.ref D) H') → te σ H Q
/-- values, which may be drawn -/
def Ev (p l : Addr) (G : Hp → Prop) (te : TE) (σ : St) (U : V → Prop) : Prop := ∀ (H : Hp) (Q : VK), Pot H p l → G H → (∀ (v : V) (H' : Hp), U v → But p H H' → Pot H' p l → G H' → Q v H') → te σ H Q
def Px (to : TO) (σ : St) (o : Option Int) : Prop := ∀ (H : Hp) (Q : Option Int → Hp → Prop), Q o H → to σ H Q
theorem But.refl {p : Addr} {H : Hp} : But p H H := fun _ _ e _ => e
theorem Mk.cat {ta tb : TE} {U W : List V → Prop} (hs : Stay p l G) (ha : Mk p l G ta σ U) (hb : Mk p l G tb σ W) (hz : ∀ us vs, U us → W vs → us.length + vs.length ≤ 60000) : Mk p l G (tOp rCat ta tb) σ (fun zs => ∃ us vs, U us ∧ W vs ∧ zs = us ++ vs) := by
  intro H Q P g k
  refine ha H _ P g fun D1 us H1 u1 b1 P1 g1 n1 d1 => hb H1 _ P1 g1 fun D2 vs H2 v2 b2 P2 g2 n2 d2 => ?_
  refine ⟨D1, D2, us, vs, rfl, rfl, b2 _ _ d1 (P.nn n1), d2, Nat.le_of_lt (small _ (hz us vs u1 v2)), fun q nq => ?_⟩
  have b3 : But p H2 (upd H2 q (.lst (us ++ vs))) := (Same.new nq).but
  exact k q _ _ ⟨us, vs, u1, v2, rfl⟩ ((b1.trans b2).trans b3) (P2.new nq) (hs _ _ b3 P2 g2) (but_none (b1.trans b2) P2 nq) upd_same
theorem Mk.slice {W : Addr} {i : Nat} {xs : List V} {tl th : TO} {lo hi : Option Int} (hs : Stay p l G) (hi' : σ[i]? = some (some (.ref W))) (hW : ∀ H, G H → SqL K H W xs) (hl : Px tl σ lo) (hh : Px th σ hi) : Mk p l G (tSl (rSlL K) (tVar i) tl th) σ (fun us => us = cutV xs lo hi) := by
  intro H Q P g k
  refine ⟨_, hi', hl _ _ (hh _ _ ⟨W, xs, rfl, hW _ g, fun q nq => ?_⟩)⟩
  have b3 : But p H (upd H q (.lst (cutV xs lo hi))) := (Same.new nq).but
  exact k q _ _ rfl b3 (P.new nq) (hs _ _ b3 P g) nq upd_same
theorem Mk.one {te : TE} {U : V → Prop} (hs : Stay p l G) (h : Ev p l G te σ U) : Mk p l G (tLst (tCons te tNil)) σ (fun us => ∃ v, U v ∧ us = [v]) := by
  intro H Q P g k
  refine h H _ P g fun v H1 u1 b1 P1 g1 => ⟨by show 1 ≤ sizeLine; decide, fun q nq => ?_⟩
  have b3 : But p H1 (upd H1 q (.lst [v])) := (Same.new nq).but
  exact k q _ _ ⟨v, u1, rfl⟩ (b1.trans b3) (P1.new nq) (hs _ _ b3 P1 g1) (but_none b1 P1 nq) upd_same
theorem Px.none : Px tNoPart σ none := fun _ _ q => q
theorem Px.var {i : Nat} {n : Int} (h : σ[i]? = some (some (.int n))) : Px (tPart (tVar i)) σ (some n) := fun _ _ q => ⟨_, h, _, rfl, q⟩
theorem Px.add {i : Nat} {n m : Int} (h : σ[i]? = some (some (.int n))) : Px (tPart (tOp (rI0 fun i j => .int (i + j)) (tVar i) (tC (.int m)))) σ (some (n + m)) := fun _ _ q => ⟨_, h, _, _, rfl, rfl, _, rfl, q⟩
end
/-- a list of whole numbers stays -/
theorem stay_ints {p l W : Addr} {ws : List Int} : Stay p l (fun H => H W = some (.lst (ws.map V.int))) := fun H H' b P g => b _ _ g (P.noList g fun i acc seed z => by
  cases ws with
  | nil => cases z
  | cons a r => rw [List.map_cons] at z; injection z with z _; cases z)
def cutI (ws : List Int) (lo hi : Option Int) : List Int := (ws.drop (HT.sIx ws.length 0 lo)).take (HT.sIx ws.length ws.length hi - HT.sIx ws.length 0 lo)
theorem cut_ints (ws : List Int) (lo hi : Option Int) : cutV (ws.map V.int) lo hi = (cutI ws lo hi).map V.int := by
  unfold cutV cutI
  rw [List.length_map, List.map_take, List.map_drop]
theorem cutI_to (ws : List Int) (i : Nat) : (cutI ws none (some (i : Int))).length ≤ i := by
  unfold cutI
  rw [HT.sIx_none, HT.sIx_nat, List.length_take]
  omega
theorem cutI_from (ws : List Int) (i : Nat) : (cutI ws (some (i : Int)) none).length ≤ ws.length - i := by
  unfold cutI
  rw [HT.sIx_none, HT.sIx_nat, List.length_take]
  omega
theorem cutI_mid (ws : List Int) (i j : Nat) : (cutI ws (some (i : Int)) (some (j : Int))).length ≤ j - i := by
  unfold cutI
  rw [HT.sIx_nat, HT.sIx_nat, List.length_take]
  omega
theorem ret_mk {p l : Addr} {G : Hp → Prop} {σ : St} {te : TE} {U : List V → Prop} {D : Ends} {H : Hp} (m : Mk p l G te σ U) (P : Pot H p l) (g : G H) (k : ∀ (A : Addr) (us : List V) (H' : Hp), U us → But p H H' → Pot H' p l → G H' → H A = none → H' A = some (.lst us) → D.rt (.ref A) H') : tRet te D σ H := m H _ P g k
theorem Ev.draw {K : PySem.W.Frag} {a : Ad} {p l : Addr} {G : Hp → Prop} {σ : St} {i : Nat} {m : Int} {E : XK} (hs : Stay p l G) (hi : σ[i]? = some (some (.ref p))) (m0 : 0 < m) (m1 : m.natAbs < 2 ^ 400) :
    Ev p l G (tCall (sp_law_next K a) [] E (tCons (tVar i) (tCons (tC (.int m)) tNil))) σ (fun v => ∃ n : Int, v = .int n ∧ 0 ≤ n ∧ n < m) := by
  intro H Q P g k
  exact ⟨_, hi, p, l, m, rfl, P, m0, m1, fun n H' n0 n1 P' o => k _ _ ⟨n, rfl, n0, n1⟩ o.but P' (hs _ _ o.but P g)⟩
theorem Ev.item {K : PySem.W.Frag} {p l W : Addr} {G : Hp → Prop} {σ : St} {i j : Nat} {xs : List V} {n : Nat} {y : V} (hi : σ[i]? = some (some (.ref W))) (hj : σ[j]? = some (some (.int (n : Int)))) (hW : ∀ H, G H → SqL K H W xs) (hy : xs[n]? = some y) :
    Ev p l G (tOp (rIxL K) (tVar i) (tVar j)) σ (fun v => v = y) := by
  intro H Q P g k
  exact ⟨_, hi, _, hj, W, _, _, _, rfl, rfl, hW _ g, at_of (j := n) rfl hy, k _ _ rfl But.refl P g⟩
theorem Ev.op {p l : Addr} {G : Hp → Prop} {σ : St} {ta tb : TE} {f : Int → Int → Int} {U W : Int → Prop} (hs : Stay p l G) (ha : Ev p l G ta σ (fun v => ∃ n, v = .int n ∧ U n)) (hb : Ev p l G tb σ (fun v => ∃ n, v = .int n ∧ W n)) :
    Ev p l G (tOp (rI0 fun i j => .int (f i j)) ta tb) σ (fun v => ∃ n m, v = .int (f n m) ∧ U n ∧ W m) := by
  intro H Q P g k
  refine ha H _ P g fun v H1 u1 b1 P1 g1 => hb H1 _ P1 g1 fun w H2 u2 b2 P2 g2 => ?_
  obtain ⟨n, rfl, hn⟩ := u1
  obtain ⟨m, rfl, hm⟩ := u2
  exact ⟨_, _, rfl, rfl, k _ _ ⟨n, m, rfl, hn, hm⟩ (b1.trans b2) P2 g2⟩
theorem Ev.int {p l : Addr} {G : Hp → Prop} {σ : St} {n : Int} : Ev p l G (tC (.int n)) σ (fun v => v = .int n) := fun H Q P g k => k _ _ rfl But.refl P g
theorem Ev.imp {p l : Addr} {G : Hp → Prop} {σ : St} {te : TE} {U W : V → Prop} (h : Ev p l G te σ U) (i : ∀ v, U v → W v) : Ev p l G te σ W := fun H Q P g k => h H Q P g fun v H' u b P' g' => k v H' (i v u) b P' g'
theorem Mk.imp {p l : Addr} {G : Hp → Prop} {σ : St} {te : TE} {U W : List V → Prop} (h : Mk p l G te σ U) (i : ∀ v, U v → W v) : Mk p l G te σ W := fun H Q P g k => h H Q P g fun A v H' u b P' g' => k A v H' (i v u) b P' g'
theorem Ev.var {p l : Addr} {G : Hp → Prop} {σ : St} {i : Nat} {v : V} (h : σ[i]? = some (some v)) : Ev p l G (tVar i) σ (fun x => x = v) := fun H Q P g k => ⟨_, h, k _ _ rfl But.refl P g⟩
theorem op_l {r : R2} {ta tb : TE} {σ : St} {H : Hp} {Q : VK} (h : ta σ H fun x H1 => tb σ H1 fun y H2 => r x y H2 Q) : tOp r ta tb σ H Q := h
theorem call_1 {sp : Sp} {dvs : List V} {E : XK} {te : TE} {σ : St} {H : Hp} {Q : VK} (h : te σ H fun x H1 => sp ([x] ++ dvs) H1 Q E) : tCall sp dvs E (tCons te tNil) σ H Q := h
/-- a list of the entry stays through the draws of a pot made since -/
theorem seq_stay {K : PySem.W.Frag} {H H1 H2 : Hp} {s p : Addr} {xs : List V} (h : SqL K H s xs) (np : H p = none) (s1 : Same H H1) (b : But p H1 H2) : SqL K H2 s xs := by
  rcases h with (h | ⟨o, h⟩) | h
  · exact .inl (.inl (b _ _ (s1 _ _ h) (ne_of_none h np)))
  · exact .inl (.inr ⟨o, b _ _ (s1 _ _ h) (ne_of_none h np)⟩)
  · exact .inr h
theorem asg_l {te : TE} {g : TG} {D : Ends} {σ : St} {H : Hp} (h : te σ H fun x H1 => g x σ H1 D.nx) : tAsg te g D σ H := h
theorem set_cut (ws : List Int) (i : Nat) (v : Int) (h : i < ws.length) : cutV (ws.map V.int) none (some (i : Int)) ++ [V.int v] ++ cutV (ws.map V.int) (some ((i : Int) + 1)) none = (ws.set i v).map V.int := by
  rw [cut_take, show ((i : Int) + 1) = ((i + 1 : Nat) : Int) from rfl, cut_drop, List.set_eq_take_append_cons_drop, if_pos h, List.map_append, List.map_cons, List.map_take, List.map_drop, List.append_assoc]
  rfl
/-! rows, lines: lists of lists -/
def refs (E : List (Addr × List Int)) : List V := E.map fun e => V.ref e.1
theorem refs_len (E : List (Addr × List Int)) : (refs E).length = E.length := by simp [refs]
theorem refs_get {E : List (Addr × List Int)} {i : Nat} {e : Addr × List Int} (h : E[i]? = some e) : (refs E)[i]? = some (V.ref e.1) := by unfold refs; rw [List.getElem?_map, h]; rfl
theorem refs_item {E : List (Addr × List Int)} {i : Nat} {y : V} (h : (refs E)[i]? = some y) : ∃ e, E[i]? = some e ∧ y = V.ref e.1 := by
  unfold refs at h
  rw [List.getElem?_map] at h
  cases q : E[i]? with
  | none => rw [q] at h; cases h
  | some e => rw [q] at h; exact ⟨e, rfl, (Option.some.inj h).symm⟩
/-- rows that are read -/
def RL (K : PySem.W.Frag) (H : Hp) (R : Addr) (E : List (Addr × List Int)) : Prop := SqL K H R (refs E) ∧ ∀ e ∈ E, SqL K H e.1 (e.2.map V.int)
theorem RL.same {K : PySem.W.Frag} {H H' : Hp} {R : Addr} {E : List (Addr × List Int)} (h : RL K H R E) (s : Same H H') : RL K H' R E := ⟨s.seq h.1, fun e m => s.seq (h.2 e m)⟩
/-- lines that are changed -/
def LA (H : Hp) (L : Addr) (E : List (Addr × List Int)) : Prop := H L = some (.lst (refs E)) ∧ ∀ e ∈ E, H e.1 = some (.lst (e.2.map V.int)) ∧ e.1 ≠ L
theorem LA.same {H H' : Hp} {L : Addr} {E : List (Addr × List Int)} (h : LA H L E) (s : Same H H') : LA H' L E := ⟨s _ _ h.1, fun e m => ⟨s _ _ (h.2 e m).1, (h.2 e m).2⟩⟩
theorem LA.put {H : Hp} {L : Addr} {E' : List (Addr × List Int)} (h : ∀ e ∈ E', H e.1 = some (.lst (e.2.map V.int)) ∧ e.1 ≠ L) : LA (upd H L (.lst (refs E'))) L E' := ⟨upd_same, fun e m => ⟨by rw [upd_ne (h e m).2]; exact (h e m).1, (h e m).2⟩⟩
theorem LA.rl {K : PySem.W.Frag} {H : Hp} {L : Addr} {E : List (Addr × List Int)} (h : LA H L E) : RL K H L E := ⟨SqL.of h.1, fun e m => SqL.of (h.2 e m).1⟩
abbrev snds (E : List (Addr × List Int)) : List (List Int) := E.map (·.2)
theorem snds_get {E : List (Addr × List Int)} {i : Nat} {e : Addr × List Int} (h : E[i]? = some e) : (snds E).getD i [] = e.2 := getD_item (by rw [List.getElem?_map, h]; rfl)
theorem snds_len (E : List (Addr × List Int)) : (snds E).length = E.length := List.length_map _
theorem ints_pot {l : Addr} {xs : List Int} {i acc seed : Int} : xs.map V.int ≠ [.ref l, .int i, .int acc, .int seed] := fun e => by
  cases xs with
  | nil => cases e
  | cons a r => rw [List.map_cons] at e; injection e with e1 _; cases e1
theorem LA.but {H H' : Hp} {p l L : Addr} {F : List (Addr × List Int)} (h : LA H L F) (P : Pot H p l) (n : L ≠ p) (b : But p H H') : LA H' L F :=
  ⟨b _ _ h.1 n, fun e m => ⟨b _ _ (h.2 e m).1 (P.noList (h.2 e m).1 fun _ _ _ => ints_pot), (h.2 e m).2⟩⟩
/-! words drawn, a polynomial's value -/
def sp_law_word (K : PySem.W.Frag) (a : Ad) : Sp := fun vs H Q _ => ∃ (p l : Addr), vs = [.ref p] ∧ Pot H p l ∧ ∀ (v : Int) (H' : Hp), Wd v → Pot H' p l → Only p H H' → Q (.int v) H'
theorem sp_law_word_len {K : PySem.W.Frag} {a : Ad} {vs : List V} {H : Hp} {Q : VK} {E : XK} (h : sp_law_word K a vs H Q E) : vs.length = 1 := by
  obtain ⟨p, l, rfl, _⟩ := h
  rfl
def sp_law_words (K : PySem.W.Frag) (a : Ad) : Sp := fun vs H Q _ => ∃ (p l : Addr) (n : Int), vs = [.ref p, .int n] ∧ Pot H p l ∧ 0 ≤ n ∧ n ≤ 5000 ∧
  ∀ (D : Addr) (ws : List Int) (H' : Hp), ws.length = n.toNat → (∀ w ∈ ws, Wd w) → H D = none → H' D = some (.lst (ws.map V.int)) → But p H H' → Pot H' p l → Q (.ref D) H'
theorem sp_law_words_len {K : PySem.W.Frag} {a : Ad} {vs : List V} {H : Hp} {Q : VK} {E : XK} (h : sp_law_words K a vs H Q E) : vs.length = 2 := by
  obtain ⟨p, l, n, rfl, _⟩ := h
  rfl
/-! sealed sectors -/
def wts (ws : List Int) : List Int := (List.range ws.length).map fun (i : Nat) => (1 + (i : Int)) * ws.getD i 0
def ck1 (ws : List Int) : Int := ws.sum % 65521
def ck2 (ws : List Int) : Int := (wts ws).sum % 65521
def hdM (k d r e s : Int) (ws : List Int) : List Int := [k, d, r, e, s / 65521, s % 65521] ++ ws
def sealM (k d r e s : Int) (ws : List Int) : List Int := hdM k d r e s ws ++ [ck1 (hdM k d r e s ws), ck2 (hdM k d r e s ws)]
def Plc (k d r : Int) : Prop := (1 ≤ k ∧ k ≤ 3) ∧ (0 ≤ d ∧ d < 8) ∧ (0 ≤ r ∧ r < 4000)
def Stp (e s : Int) : Prop := (0 ≤ e ∧ e < 65521) ∧ (0 ≤ s ∧ s < 4293001441)
def BadSeal (k d r e s : Int) (ws : List Int) : Prop := ¬ Plc k d r ∨ ¬ Stp e s ∨ 1000 < ws.length
theorem range_getD (ws : List Int) : (List.range ws.length).map (fun (i : Nat) => ws.getD i 0) = ws := by
  refine List.ext_getElem (by simp) fun i h1 h2 => ?_
  simp [h2]
/-- the sums as they grow -/
def sm1 (ws : List Int) (i : Nat) : Int := ((List.range i).map fun (j : Nat) => ws.getD j 0).sum
def sm2 (ws : List Int) (i : Nat) : Int := ((List.range i).map fun (j : Nat) => (1 + (j : Int)) * ws.getD j 0).sum
theorem sum_snoc (xs : List Int) (x : Int) : (xs ++ [x]).sum = xs.sum + x := by rw [List.sum_append]; simp
theorem sm1_succ (ws : List Int) (i : Nat) : sm1 ws (i + 1) = sm1 ws i + ws.getD i 0 := by
  unfold sm1
  rw [List.range_succ, List.map_append]
  exact sum_snoc _ _
theorem sm2_succ (ws : List Int) (i : Nat) : sm2 ws (i + 1) = sm2 ws i + (1 + (i : Int)) * ws.getD i 0 := by
  unfold sm2
  rw [List.range_succ, List.map_append]
  exact sum_snoc _ _
theorem ck1_sm (ws : List Int) : ck1 ws = sm1 ws ws.length % 65521 := by unfold ck1 sm1; rw [range_getD]
theorem ck2_sm (ws : List Int) : ck2 ws = sm2 ws ws.length % 65521 := rfl
theorem hdM_length (k d r e s : Int) (ws : List Int) : (hdM k d r e s ws).length = ws.length + 6 := by simp [hdM]
theorem sealM_length (k d r e s : Int) (ws : List Int) : (sealM k d r e s ws).length = ws.length + 8 := by simp [sealM, hdM]
theorem ck1_word (ws : List Int) : Wd (ck1 ws) := ⟨Int.emod_nonneg _ (by decide), Int.emod_lt_of_pos _ (by decide)⟩
theorem ck2_word (ws : List Int) : Wd (ck2 ws) := ⟨Int.emod_nonneg _ (by decide), Int.emod_lt_of_pos _ (by decide)⟩
theorem hdM_words {k d r e s : Int} {ws : List Int} (hp : Plc k d r) (hs : Stp e s) (hw : ∀ w ∈ ws, Wd w) : ∀ w ∈ hdM k d r e s ws, Wd w := fun w m => by
  obtain ⟨⟨k0, k1⟩, ⟨d0, d1⟩, ⟨r0, r1⟩⟩ := hp
  obtain ⟨⟨e0, e1⟩, ⟨s0, s1⟩⟩ := hs
  rcases List.mem_append.mp m with m | m
  · simp only [List.mem_cons, List.not_mem_nil, or_false] at m
    unfold Wd
    rcases m with rfl | rfl | rfl | rfl | rfl | rfl <;> omega
  · exact hw w m
theorem sealM_words {k d r e s : Int} {ws : List Int} (hp : Plc k d r) (hs : Stp e s) (hw : ∀ w ∈ ws, Wd w) : ∀ w ∈ sealM k d r e s ws, Wd w := fun w m => by
  rcases List.mem_append.mp m with m | m
  · exact hdM_words hp hs hw w m
  · simp only [List.mem_cons, List.not_mem_nil, or_false] at m
    rcases m with rfl | rfl
    · exact ck1_word _
    · exact ck2_word _
def sp_check_words (K : PySem.W.Frag) (a : Ad) : Sp := fun vs H Q _ => ∃ (l : Addr) (ws : List Int), vs = [.ref l] ∧ SqL K H l (ws.map V.int) ∧ ws.length ≤ 5000 ∧
  ∀ (D : Addr) (H' : Hp), Same H H' → H D = none → H' D = some (.tup [.int (ck1 ws), .int (ck2 ws)]) → Q (.ref D) H'
theorem sp_check_words_len {K : PySem.W.Frag} {a : Ad} {vs : List V} {H : Hp} {Q : VK} {E : XK} (h : sp_check_words K a vs H Q E) : vs.length = 1 := by
  obtain ⟨l, ws, rfl, _⟩ := h
  rfl
def sp_is_place (K : PySem.W.Frag) (a : Ad) : Sp := fun vs H Q _ => ∃ (k d r : Int), vs = [.int k, .int d, .int r] ∧ (Plc k d r → Q (.bl true) H) ∧ (¬ Plc k d r → Q (.bl false) H)
theorem sp_is_place_len {K : PySem.W.Frag} {a : Ad} {vs : List V} {H : Hp} {Q : VK} {E : XK} (h : sp_is_place K a vs H Q E) : vs.length = 3 := by
  obtain ⟨k, d, r, rfl, _⟩ := h
  rfl
def sp_seal (K : PySem.W.Frag) (a : Ad) : Sp := fun vs H Q E => ∃ (k d r : Int) (st pl : Addr) (e s : Int) (ws : List Int), vs = [.int k, .int d, .int r, .ref st, .ref pl] ∧ SqT K H st [.int e, .int s] ∧ SqL K H pl (ws.map V.int) ∧ ws.length ≤ 4000 ∧
  (BadSeal k d r e s ws → ∀ H', Same H H' → E (.ref a.c_InvalidArgument) none H') ∧
  (¬ BadSeal k d r e s ws → ∀ (D : Addr) (H' : Hp), Same H H' → H D = none → H' D = some (.lst ((sealM k d r e s ws).map V.int)) → Q (.ref D) H')
theorem sp_seal_len {K : PySem.W.Frag} {a : Ad} {vs : List V} {H : Hp} {Q : VK} {E : XK} (h : sp_seal K a vs H Q E) : vs.length = 5 := by
  obtain ⟨k, d, r, st, pl, e, s, ws, rfl, _⟩ := h
  rfl
theorem seal_take (k d r e s : Int) (ws : List Int) : (sealM k d r e s ws).take (ws.length + 6) = hdM k d r e s ws := by
  unfold sealM
  rw [List.take_append_of_le_length (by rw [hdM_length]; exact Nat.le_refl _), List.take_of_length_le (by rw [hdM_length]; exact Nat.le_refl _)]
theorem seal_drop (k d r e s : Int) (ws : List Int) : (sealM k d r e s ws).drop (ws.length + 6) = [ck1 (hdM k d r e s ws), ck2 (hdM k d r e s ws)] := by
  unfold sealM
  rw [List.drop_append_of_le_length (by rw [hdM_length]; exact Nat.le_refl _), List.drop_of_length_le (by rw [hdM_length]; exact Nat.le_refl _)]
  rfl
/-! what is good -/
def Whole (ws : List Int) : Prop := (8 ≤ ws.length ∧ ws.length ≤ 1008) ∧ (∀ w ∈ ws, Wd w) ∧ ws.drop (ws.length - 2) = [ck1 (ws.take (ws.length - 2)), ck2 (ws.take (ws.length - 2))]
def Good (ws : List Int) (k d r : Int) : Prop := Plc k d r ∧ ws.take 3 = [k, d, r] ∧ Whole ws
def payM (ws : List Int) : List Int := (ws.drop 6).take (ws.length - 8)
theorem sIx_neg {n d k : Nat} (h : k ≤ n) (h0 : 0 < k) : HT.sIx n d (some (-(k : Int))) = n - k := by
  show (if (-(k : Int)) < 0 then ((-(k : Int)) + (n : Int)).toNat else min (-(k : Int)).toNat n) = n - k
  rw [if_pos (by omega)]
  omega
theorem cut_last {xs : List V} (h : 2 ≤ xs.length) : cutV xs (some (-2)) none = xs.drop (xs.length - 2) := by
  unfold cutV
  rw [HT.sIx_none, show (-2 : Int) = -((2 : Nat) : Int) from rfl, sIx_neg h (by decide), List.take_of_length_le (by rw [List.length_drop]; exact Nat.le_refl _)]
theorem cut_but {xs : List V} (h : 2 ≤ xs.length) : cutV xs none (some (-2)) = xs.take (xs.length - 2) := by
  unfold cutV
  rw [HT.sIx_none, show (-2 : Int) = -((2 : Nat) : Int) from rfl, sIx_neg h (by decide), List.drop_zero, Nat.sub_zero]
theorem cut_pay {xs : List V} (h : 8 ≤ xs.length) : cutV xs (some 6) (some (-2)) = (xs.drop 6).take (xs.length - 8) := by
  unfold cutV
  rw [show (-2 : Int) = -((2 : Nat) : Int) from rfl, sIx_neg (by omega) (by decide), show (6 : Int) = ((6 : Nat) : Int) from rfl, HT.sIx_nat, Nat.min_eq_left (by omega), show xs.length - 2 - 6 = xs.length - 8 by omega]
theorem cut_mid36 {xs : List V} (h : 6 ≤ xs.length) : cutV xs (some 3) (some 6) = (xs.drop 3).take 3 := by
  unfold cutV
  rw [show (3 : Int) = ((3 : Nat) : Int) from rfl, show (6 : Int) = ((6 : Nat) : Int) from rfl, HT.sIx_nat, HT.sIx_nat, Nat.min_eq_left (by omega), Nat.min_eq_left (by omega)]
def sp_is_whole (K : PySem.W.Frag) (a : Ad) : Sp := fun vs H Q _ => ∃ (l : Addr) (ws : List Int), vs = [.ref l] ∧ SqL K H l (ws.map V.int) ∧ ws.length ≤ 5000 ∧
  (Whole ws → ∀ H', Same H H' → Q (.bl true) H') ∧ (¬ Whole ws → ∀ H', Same H H' → Q (.bl false) H')
theorem sp_is_whole_len {K : PySem.W.Frag} {a : Ad} {vs : List V} {H : Hp} {Q : VK} {E : XK} (h : sp_is_whole K a vs H Q E) : vs.length = 1 := by
  obtain ⟨l, ws, rfl, _⟩ := h
  rfl
def sp_unseal (K : PySem.W.Frag) (a : Ad) : Sp := fun vs H Q _ => ∃ (sv : V) (k d r : Int), vs = [sv, .int k, .int d, .int r] ∧ ((sv = .non ∧ ∀ H', Same H H' → Q .non H') ∨ ∃ (l : Addr) (ws : List Int), sv = .ref l ∧ SqL K H l (ws.map V.int) ∧ ws.length ≤ 5000 ∧
  (¬ Good ws k d r → ∀ H', Same H H' → Q .non H') ∧
  (Good ws k d r → ∀ (T S D : Addr) (H' : Hp), Same H H' → H T = none → H D = none → H' T = some (.tup [.ref S, .ref D]) → H' S = some (.tup [.int (ws.getD 3 0), .int (ws.getD 4 0 * 65521 + ws.getD 5 0)]) → H' D = some (.lst ((payM ws).map V.int)) → Q (.ref T) H'))
theorem sp_unseal_len {K : PySem.W.Frag} {a : Ad} {vs : List V} {H : Hp} {Q : VK} {E : XK} (h : sp_unseal K a vs H Q E) : vs.length = 4 := by
  obtain ⟨sv, k, d, r, rfl, _⟩ := h
  rfl
theorem mid_items {ws : List Int} (h : 6 ≤ ws.length) : ((ws.map V.int).drop 3).take 3 = [.int (ws.getD 3 0), .int (ws.getD 4 0), .int (ws.getD 5 0)] :=
  match ws, h with
  | _ :: _ :: _ :: _ :: _ :: _ :: _, _ => rfl
theorem eqv_tints (xs ys : List Int) : PyData.eqv (.tuple (xs.map .int)) (.tuple (ys.map .int)) = decide (xs = ys) := by
  simp only [PyData.eqv]
  exact eqvAll_ints xs ys
theorem shaped_tints (xs : List Int) : SeqAt.shaped (.tuple (xs.map .int)) = true := by
  simp [SeqAt.shaped, PyData.canLay0, canLayAll_ints, PyData.depth, depthAll_ints]
theorem dp_tints {K : PySem.W.Frag} {H : Hp} {a : Addr} {xs : List Int} (h : SqT K H a (xs.map V.int)) : Dp K H (.ref a) (.tuple (xs.map .int)) := .tup h (dpAll_ints xs)
theorem seal_good {k d r e s : Int} {ws : List Int} (hp : Plc k d r) (hs : Stp e s) (hw : ∀ w ∈ ws, Wd w) (hl : ws.length ≤ 1000) : Good (sealM k d r e s ws) k d r := by
  have l := sealM_length k d r e s ws
  refine ⟨hp, rfl, ⟨by omega, by omega⟩, sealM_words hp hs hw, ?_⟩
  rw [show (sealM k d r e s ws).length - 2 = ws.length + 6 by omega, seal_take, seal_drop]
theorem seal_pay (k d r e s : Int) (ws : List Int) : payM (sealM k d r e s ws) = ws := by
  unfold payM
  rw [sealM_length, Nat.add_sub_cancel]
  show (ws ++ _).take ws.length = ws
  rw [List.take_append_of_le_length (Nat.le_refl _), List.take_of_length_le (Nat.le_refl _)]
def sp_law_seal (K : PySem.W.Frag) (a : Ad) : Sp := fun vs H Q _ => ∃ (k d r : Int) (st pl : Addr) (e s : Int) (ws : List Int), vs = [.int k, .int d, .int r, .ref st, .ref pl] ∧ SqT K H st [.int e, .int s] ∧ H pl = some (.lst (ws.map V.int)) ∧ ws.length ≤ 1000 ∧
  ∀ (D : Addr) (H' : Hp), Same H H' → H D = none → H' D = some (.lst ((sealM k d r e s ws).map V.int)) → Q (.ref D) H'
theorem sp_law_seal_len {K : PySem.W.Frag} {a : Ad} {vs : List V} {H : Hp} {Q : VK} {E : XK} (h : sp_law_seal K a vs H Q E) : vs.length = 5 := by
  obtain ⟨k, d, r, st, pl, e, s, ws, rfl, _⟩ := h
  rfl
/-! images, requests -/
theorem seqIx_nat {i n : Nat} (h : i < n) : seqIndex? (i : Int) n = some i := by
  rw [seqIndex_of (by omega) (by omega), Int.toNat_natCast]
def refI : Option Addr → V
  | none => .non
  | some a => .ref a
def presentM (ims : List (Option Addr)) (d : Nat) : Bool := (ims.getD d none).isSome
theorem imgs_get {ims : List (Option Addr)} {i : Nat} {o : Option Addr} (h : ims[i]? = some o) : (ims.map refI)[i]? = some (refI o) := by rw [List.getElem?_map, h]; rfl
structure Rq where
  t : Addr
  s : Addr
  d : Int
  r : Int
  ws : List Int
abbrev rqV (e : Rq) : V := .ref e.t
abbrev rqM (e : Rq) : Int × Int × List Int := (e.d, e.r, e.ws)
/-- a list of write requests -/
def WRq (H : Hp) (D : Addr) (L : List Rq) : Prop := H D = some (.lst (L.map rqV)) ∧ ∀ e ∈ L, (H e.t = some (.tup [.str "write", .int e.d, .int e.r, .ref e.s]) ∧ e.t ≠ D) ∧ H e.s = some (.lst (e.ws.map V.int)) ∧ e.s ≠ D
theorem WRq.same {H H' : Hp} {D : Addr} {L : List Rq} (h : WRq H D L) (s : Same H H') : WRq H' D L := ⟨s _ _ h.1, fun e m => ⟨⟨s _ _ (h.2 e m).1.1, (h.2 e m).1.2⟩, s _ _ (h.2 e m).2.1, (h.2 e m).2.2⟩⟩
theorem WRq.put {H : Hp} {D : Addr} {L : List Rq} (h : ∀ e ∈ L, (H e.t = some (.tup [.str "write", .int e.d, .int e.r, .ref e.s]) ∧ e.t ≠ D) ∧ H e.s = some (.lst (e.ws.map V.int)) ∧ e.s ≠ D) : WRq (upd H D (.lst (L.map rqV))) D L :=
  ⟨upd_same, fun e m => ⟨⟨by rw [upd_ne (h e m).1.2]; exact (h e m).1.1, (h e m).1.2⟩, by rw [upd_ne (h e m).2.2]; exact (h e m).2.1, (h e m).2.2⟩⟩
def sp_is_present (K : PySem.W.Frag) (a : Ad) : Sp := fun vs H Q _ => ∃ (I : Addr) (ims : List (Option Addr)) (d : Nat), vs = [.ref I, .int (d : Int)] ∧ SqL K H I (ims.map refI) ∧ ims.length ≤ 100 ∧ Q (.bl (presentM ims d)) H
theorem sp_is_present_len {K : PySem.W.Frag} {a : Ad} {vs : List V} {H : Hp} {Q : VK} {E : XK} (h : sp_is_present K a vs H Q E) : vs.length = 2 := by
  obtain ⟨I, ims, d, rfl, _⟩ := h
  rfl
/-! images whose rows are known -/
structure DkO where
  A : Addr
  rows : List (Option (Addr × List Int))
abbrev Sts := List (Option DkO)
def rowV : Option (Addr × List Int) → V
  | none => .non
  | some s => .ref s.1
def dkV : Option DkO → V
  | none => .non
  | some d => .ref d.A
def mutS (X : Addr → Prop) (I : Addr) (st : Sts) (q : Addr) : Prop := X q ∨ q = I ∨ ∃ (i : Nat) (dk : DkO), st[i]? = some (some dk) ∧ q = dk.A
structure ImM (H : Hp) (X : Addr → Prop) (I : Addr) (st : Sts) : Prop where
  hI : H I = some (.lst (st.map dkV))
  ip : ¬ X I
  hD : ∀ (i : Nat) (dk : DkO), st[i]? = some (some dk) → H dk.A = some (.lst (dk.rows.map rowV)) ∧ dk.A ≠ I ∧ ¬ X dk.A
  hU : ∀ (i j : Nat) (dk dk' : DkO), st[i]? = some (some dk) → st[j]? = some (some dk') → dk.A = dk'.A → i = j
  hR : ∀ (i : Nat) (dk : DkO) (r : Nat) (s : Addr × List Int), st[i]? = some (some dk) → dk.rows[r]? = some (some s) → H s.1 = some (.lst (s.2.map V.int)) ∧ ¬ mutS X I st s.1 ∧ s.2.length ≤ 1008
def secS (st : Sts) (d r : Nat) : Option (Addr × List Int) := match st[d]? with
  | some (some dk) => (dk.rows[r]?).join
  | _ => none
def Pres (st : Sts) (d : Nat) : Prop := ∃ dk, st[d]? = some (some dk)
theorem dk_get {st : Sts} {i : Nat} {o : Option DkO} (h : st[i]? = some o) : (st.map dkV)[i]? = some (dkV o) := by rw [List.getElem?_map, h]; rfl
theorem row_get {rs : List (Option (Addr × List Int))} {i : Nat} {o : Option (Addr × List Int)} (h : rs[i]? = some o) : (rs.map rowV)[i]? = some (rowV o) := by rw [List.getElem?_map, h]; rfl
def adrs (st : Sts) : List (Option Addr) := st.map (Option.map DkO.A)
theorem adrs_refI (st : Sts) : (adrs st).map refI = st.map dkV := by
  unfold adrs
  rw [List.map_map]
  refine List.map_congr_left fun o _ => ?_
  cases o <;> rfl
theorem adrs_pres (st : Sts) (d : Nat) : presentM (adrs st) d = true ↔ Pres st d := by
  unfold presentM Pres adrs
  rw [List.getD_eq_getElem?_getD, List.getElem?_map]
  cases e : st[d]? with
  | none => simp
  | some o => cases o with
    | none => simp
    | some dk => simp
theorem ImM.but {H H' : Hp} {X : Addr → Prop} {I : Addr} {st : Sts} (h : ImM H X I st) (b : ∀ q o, H q = some o → ¬ X q → H' q = some o) : ImM H' X I st :=
  ⟨b _ _ h.hI h.ip, h.ip, fun i dk e => ⟨b _ _ (h.hD i dk e).1 (h.hD i dk e).2.2, (h.hD i dk e).2⟩, h.hU, fun i dk r s e1 e2 => ⟨b _ _ (h.hR i dk r s e1 e2).1 fun z => (h.hR i dk r s e1 e2).2.1 (.inl z), (h.hR i dk r s e1 e2).2⟩⟩
theorem ImM.same {H H' : Hp} {X : Addr → Prop} {I : Addr} {st : Sts} (h : ImM H X I st) (s : Same H H') : ImM H' X I st := h.but fun _ _ e _ => s _ _ e
theorem ImM.draw {H H' : Hp} {X : Addr → Prop} {p I : Addr} {st : Sts} (h : ImM H X I st) (b : But p H H') (hp : X p) : ImM H' X I st := h.but fun q o e n => b q o e fun z => n (by rw [z]; exact hp)
/-- one place more that may change, which is none of these -/
theorem ImM.more {H : Hp} {X X' : Addr → Prop} {I : Addr} {st : Sts} (h : ImM H X I st) (hx : ∀ q o, H q = some o → X' q → X q) : ImM H X' I st :=
  ⟨h.hI, fun z => h.ip (hx _ _ h.hI z), fun i dk e => ⟨(h.hD i dk e).1, (h.hD i dk e).2.1, fun z => (h.hD i dk e).2.2 (hx _ _ (h.hD i dk e).1 z)⟩, h.hU, fun i dk r s e1 e2 => ⟨(h.hR i dk r s e1 e2).1, fun z => (h.hR i dk r s e1 e2).2.1 (z.imp (hx _ _ (h.hR i dk r s e1 e2).1) id), (h.hR i dk r s e1 e2).2.2⟩⟩
def stampM (ws : List Int) : Int × Int := (ws.getD 3 0, ws.getD 4 0 * 65521 + ws.getD 5 0)
/-- a disk has this label in its row -/
def HasL (st : Sts) (d : Nat) (ep gr : Int) : Prop := ∃ s, secS st d (gr % 2).toNat = some s ∧ Good s.2 1 (d : Int) (gr % 2) ∧ stampM s.2 = (ep, gr)
theorem seal_stamp (k d r e s : Int) (ws : List Int) : stampM (sealM k d r e s ws) = (e, s) := by
  show (e, s / 65521 * 65521 + s % 65521) = (e, s)
  rw [show s / 65521 * 65521 + s % 65521 = s by omega]
def secV (st : Sts) (d r : Nat) : V := rowV (secS st d r)
def sp_sector_at (K : PySem.W.Frag) (a : Ad) : Sp := fun vs H Q _ => ∃ (X : Addr → Prop) (I : Addr) (st : Sts) (d r : Nat), vs = [.ref I, .int (d : Int), .int (r : Int)] ∧ ImM H X I st ∧ st.length ≤ 100 ∧ (∀ (i : Nat) (dk : DkO), st[i]? = some (some dk) → dk.rows.length ≤ 100) ∧ Q (secV st d r) H
theorem sp_sector_at_len {K : PySem.W.Frag} {a : Ad} {vs : List V} {H : Hp} {Q : VK} {E : XK} (h : sp_sector_at K a vs H Q E) : vs.length = 3 := by
  obtain ⟨X, I, st, d, r, rfl, _⟩ := h
  rfl
theorem sec_some {st : Sts} {d r : Nat} {s : Addr × List Int} (h : secS st d r = some s) : ∃ dk, st[d]? = some (some dk) ∧ dk.rows[r]? = some (some s) := by
  unfold secS at h
  split at h
  · next dk e =>
    cases g : dk.rows[r]? with
    | none => rw [g] at h; cases h
    | some o =>
      rw [g] at h
      exact ⟨dk, e, by rw [g]; exact congrArg some h⟩
  · cases h
/-! changing rows -/
def dkS (st : Sts) (b : Addr) : Prop := ∃ (i : Nat) (dk : DkO), st[i]? = some (some dk) ∧ b = dk.A
def putS (st : Sts) (d r : Nat) (o : Option (Addr × List Int)) : Sts := match st[d]? with
  | some (some dk) => st.set d (some ⟨dk.A, dk.rows.set r o⟩)
  | _ => st
theorem putS_at {st : Sts} {d r : Nat} {o : Option (Addr × List Int)} {dk : DkO} (h : st[d]? = some (some dk)) : putS st d r o = st.set d (some ⟨dk.A, dk.rows.set r o⟩) := by
  unfold putS
  rw [h]
theorem putS_get {st : Sts} {d r : Nat} {o : Option (Addr × List Int)} (i : Nat) : (putS st d r o)[i]? = if i = d then (match st[d]? with
    | some (some dk) => some (some ⟨dk.A, dk.rows.set r o⟩)
    | x => x) else st[i]? := by
  by_cases e : i = d
  · subst e
    rw [if_pos rfl]
    unfold putS
    cases h : st[i]? with
    | none => simp [h]
    | some x => cases x with
      | none => simp [h]
      | some dk =>
        have := item_lt h
        simp [List.getElem?_set, this]
  · rw [if_neg e]
    unfold putS
    split
    · rw [List.getElem?_set, if_neg (fun z => e z.symm)]
    · rfl
theorem putS_len (st : Sts) (d r : Nat) (o : Option (Addr × List Int)) : (putS st d r o).length = st.length := by
  unfold putS
  split
  · rw [List.length_set]
  · rfl
/-- what stands in a changed state -/
theorem putS_some {st : Sts} {d r i : Nat} {o : Option (Addr × List Int)} {dk : DkO} (h : (putS st d r o)[i]? = some (some dk)) : ∃ dk0, st[i]? = some (some dk0) ∧ dk.A = dk0.A ∧ dk.rows = if i = d then dk0.rows.set r o else dk0.rows := by
  rw [putS_get] at h
  by_cases e : i = d
  · subst e
    rw [if_pos rfl] at h
    cases g : st[i]? with
    | none => rw [g] at h; cases h
    | some x => cases x with
      | none => rw [g] at h; cases h
      | some dk0 =>
        rw [g] at h
        cases h
        exact ⟨dk0, rfl, rfl, (if_pos rfl).symm⟩
  · rw [if_neg e] at h
    exact ⟨dk, h, rfl, (if_neg e).symm⟩
theorem putS_back {st : Sts} {d r i : Nat} {o : Option (Addr × List Int)} {dk : DkO} (h : st[i]? = some (some dk)) : (putS st d r o)[i]? = some (some ⟨dk.A, if i = d then dk.rows.set r o else dk.rows⟩) := by
  rw [putS_get]
  by_cases e : i = d
  · subst e
    rw [if_pos rfl, if_pos rfl, h]
  · rw [if_neg e, if_neg e, h]
theorem putS_pres {st : Sts} {d r i : Nat} {o : Option (Addr × List Int)} : Pres (putS st d r o) i ↔ Pres st i := by
  constructor
  · rintro ⟨dk, h⟩
    obtain ⟨dk0, h, _⟩ := putS_some h
    exact ⟨dk0, h⟩
  · rintro ⟨dk, h⟩
    exact ⟨_, putS_back h⟩
theorem putS_dkS {st : Sts} {d r : Nat} {o : Option (Addr × List Int)} {b : Addr} : dkS (putS st d r o) b ↔ dkS st b := by
  constructor
  · rintro ⟨i, dk, h, e⟩
    obtain ⟨dk0, h, e2, _⟩ := putS_some h
    exact ⟨i, dk0, h, e.trans e2⟩
  · rintro ⟨i, dk, h, e⟩
    exact ⟨i, _, putS_back h, e⟩
theorem putS_mut {X : Addr → Prop} {I : Addr} {st : Sts} {d r : Nat} {o : Option (Addr × List Int)} {b : Addr} : mutS X I (putS st d r o) b ↔ mutS X I st b := by
  show (X b ∨ b = I ∨ dkS (putS st d r o) b) ↔ (X b ∨ b = I ∨ dkS st b)
  rw [putS_dkS]
theorem putS_sec {st : Sts} {d r : Nat} {o : Option (Addr × List Int)} {dk : DkO} (h : st[d]? = some (some dk)) (hr : r < dk.rows.length) : secS (putS st d r o) d r = o := by
  unfold secS
  rw [putS_back h, if_pos rfl]
  show ((dk.rows.set r o)[r]?).join = o
  rw [List.getElem?_set, if_pos rfl, if_pos hr]
  rfl
theorem putS_sec_ne {st : Sts} {d r d' r' : Nat} {o : Option (Addr × List Int)} (n : d ≠ d' ∨ r ≠ r') : secS (putS st d r o) d' r' = secS st d' r' := by
  unfold secS
  rw [putS_get]
  by_cases e : d' = d
  · subst e
    rw [if_pos rfl]
    cases g : st[d']? with
    | none => rfl
    | some x => cases x with
      | none => rfl
      | some dk =>
        show ((dk.rows.set r o)[r']?).join = ((dk.rows)[r']?).join
        rw [List.getElem?_set, if_neg (n.resolve_left fun z => z rfl)]
  · rw [if_neg e]
theorem putS_rows {st : Sts} {d r : Nat} {o : Option (Addr × List Int)} {n : Nat} (h : ∀ (i : Nat) (dk : DkO), st[i]? = some (some dk) → dk.rows.length = n) : ∀ (i : Nat) (dk : DkO), (putS st d r o)[i]? = some (some dk) → dk.rows.length = n := fun i dk g => by
  obtain ⟨dk0, g, _, e⟩ := putS_some g
  rw [e]
  split
  · rw [List.length_set]; exact h i dk0 g
  · exact h i dk0 g
theorem map_set_row (rs : List (Option (Addr × List Int))) (r : Nat) (o : Option (Addr × List Int)) : (rs.map rowV).set r (rowV o) = (rs.set r o).map rowV := by rw [List.map_set]
theorem ImM.put {H : Hp} {X : Addr → Prop} {I : Addr} {st : Sts} (h : ImM H X I st) {d r : Nat} {dk : DkO} (hd : st[d]? = some (some dk)) {o : Option (Addr × List Int)} (ho : ∀ s, o = some s → H s.1 = some (.lst (s.2.map V.int)) ∧ ¬ mutS X I st s.1 ∧ s.2.length ≤ 1008) :
    ImM (upd H dk.A (.lst ((dk.rows.set r o).map rowV))) X I (putS st d r o) := by
  have hD := h.hD d dk hd
  have kp : ∀ b o', H b = some o' → b ≠ dk.A → upd H dk.A (.lst ((dk.rows.set r o).map rowV)) b = some o' := fun b o' e n => by rw [upd_ne n]; exact e
  have nm : ∀ b, ¬ mutS X I st b → b ≠ dk.A := fun b n z => n (.inr (.inr ⟨d, dk, hd, z⟩))
  refine ⟨?_, h.ip, fun i dk' g => ?_, fun i j dk1 dk2 g1 g2 e => ?_, fun i dk' r' s g1 g2 => ?_⟩
  · have e : (putS st d r o).map dkV = st.map dkV := by
      rw [putS_at hd]
      refine List.ext_getElem? fun i => ?_
      rw [List.getElem?_map, List.getElem?_map, List.getElem?_set]
      by_cases z : d = i
      · subst z
        rw [if_pos rfl, if_pos (item_lt hd), hd]
        rfl
      · rw [if_neg z]
    rw [e]
    exact kp _ _ h.hI hD.2.1.symm
  · obtain ⟨dk0, g0, e1, e2⟩ := putS_some g
    have h0 := h.hD i dk0 g0
    rw [e1]
    refine ⟨?_, h0.2⟩
    by_cases z : i = d
    · subst z
      have : dk0 = dk := Option.some.inj (Option.some.inj (g0.symm.trans hd))
      subst this
      rw [e2, if_pos rfl]
      exact upd_same
    · rw [e2, if_neg z]
      exact kp _ _ h0.1 fun y => z (h.hU i d dk0 dk g0 hd y)
  · obtain ⟨k1, b1, a1, _⟩ := putS_some g1
    obtain ⟨k2, b2, a2, _⟩ := putS_some g2
    exact h.hU i j k1 k2 b1 b2 (by rw [← a1, ← a2]; exact e)
  · obtain ⟨dk0, g0, e1, e2⟩ := putS_some g1
    rw [putS_mut]
    rw [e2] at g2
    by_cases z : i = d
    · subst z
      have : dk0 = dk := Option.some.inj (Option.some.inj (g0.symm.trans hd))
      subst this
      rw [if_pos rfl] at g2
      rcases item_set g2 with ⟨_, e3, _⟩ | ⟨_, g3⟩
      · have := ho s e3.symm
        exact ⟨kp _ _ this.1 (nm _ this.2.1), this.2⟩
      · have := h.hR i dk0 r' s g0 g3
        exact ⟨kp _ _ this.1 (nm _ this.2.1), this.2⟩
    · rw [if_neg z] at g2
      have := h.hR i dk0 r' s g0 g2
      exact ⟨kp _ _ this.1 (nm _ this.2.1), this.2⟩
def carryM (st : Sts) (rs : List Rq) : Sts := rs.foldl (fun st e => putS st e.d.toNat e.r.toNat (some (e.s, e.ws))) st
theorem carry_snoc (st : Sts) (rs : List Rq) (e : Rq) : carryM st (rs ++ [e]) = putS (carryM st rs) e.d.toNat e.r.toNat (some (e.s, e.ws)) := by unfold carryM; rw [List.foldl_append]; rfl
theorem carry_len (st : Sts) (rs : List Rq) : (carryM st rs).length = st.length := by
  refine rev_ind (P := fun rs : List Rq => (carryM st rs).length = st.length) rfl (fun rs e ih => ?_) rs
  rw [carry_snoc, putS_len, ih]
theorem carry_pres (st : Sts) (rs : List Rq) (i : Nat) : Pres (carryM st rs) i ↔ Pres st i := by
  refine rev_ind (P := fun rs : List Rq => Pres (carryM st rs) i ↔ Pres st i) Iff.rfl (fun rs e ih => ?_) rs
  rw [carry_snoc, putS_pres, ih]
theorem carry_dkS (st : Sts) (rs : List Rq) (b : Addr) : dkS (carryM st rs) b ↔ dkS st b := by
  refine rev_ind (P := fun rs : List Rq => dkS (carryM st rs) b ↔ dkS st b) Iff.rfl (fun rs e ih => ?_) rs
  rw [carry_snoc, putS_dkS, ih]
theorem carry_mut {X : Addr → Prop} {I : Addr} (st : Sts) (rs : List Rq) (b : Addr) : mutS X I (carryM st rs) b ↔ mutS X I st b := by
  show (X b ∨ b = I ∨ dkS (carryM st rs) b) ↔ (X b ∨ b = I ∨ dkS st b)
  rw [carry_dkS]
theorem carry_rows {st : Sts} {n : Nat} (h : ∀ (i : Nat) (dk : DkO), st[i]? = some (some dk) → dk.rows.length = n) (rs : List Rq) : ∀ (i : Nat) (dk : DkO), (carryM st rs)[i]? = some (some dk) → dk.rows.length = n := by
  refine rev_ind (P := fun rs : List Rq => ∀ (i : Nat) (dk : DkO), (carryM st rs)[i]? = some (some dk) → dk.rows.length = n) h (fun rs e ih => ?_) rs
  rw [carry_snoc]
  exact putS_rows ih
def sp_law_carry (K : PySem.W.Frag) (a : Ad) : Sp := fun vs H Q _ => ∃ (X : Addr → Prop) (I R : Addr) (st : Sts) (rs : List Rq) (n : Nat), vs = [.ref I, .ref R] ∧ ImM H X I st ∧ st.length ≤ 100 ∧ n ≤ 100 ∧ (∀ (i : Nat) (dk : DkO), st[i]? = some (some dk) → dk.rows.length = n) ∧ WRq H R rs ∧ rs.length ≤ 100 ∧ ¬ mutS X I st R ∧
  (∀ e ∈ rs, ¬ mutS X I st e.s ∧ e.ws.length ≤ 1008 ∧ 0 ≤ e.d ∧ e.d < (st.length : Nat) ∧ 0 ≤ e.r ∧ e.r < (n : Nat)) ∧
  ∀ H', ImM H' X I (carryM st rs) → (∀ b o, H b = some o → ¬ dkS st b → H' b = some o) → (∀ b, H' b = none → H b = none) → Q .non H'
theorem sp_law_carry_len {K : PySem.W.Frag} {a : Ad} {vs : List V} {H : Hp} {Q : VK} {E : XK} (h : sp_law_carry K a vs H Q E) : vs.length = 2 := by
  obtain ⟨X, I, R, st, rs, n, rfl, _⟩ := h
  rfl
/-- a list of whole numbers is none of these lists -/
theorem ints_ne {H : Hp} {a b : Addr} {ws : List Int} {xs : List V} (h : H a = some (.lst (ws.map V.int))) (h2 : H b = some (.lst xs)) (hx : ∃ x ∈ xs, ∀ i, x ≠ V.int i) : a ≠ b := ne_of h h2 fun z => by
  obtain ⟨x, m, hx⟩ := hx
  rw [← HO.lst.inj z] at m
  obtain ⟨i, _, e⟩ := List.mem_map.mp m
  exact hx i e.symm
/-! a disk away, a blank disk -/
def blk4 : List (Option (Addr × List Int)) := [none, none, none, none]
theorem set_dk (st : Sts) (d : Nat) (o : Option DkO) : (st.map dkV).set d (dkV o) = (st.set d o).map dkV := by rw [List.map_set]
theorem setS_some {st : Sts} {d i : Nat} {o : Option DkO} {dk : DkO} (h : (st.set d o)[i]? = some (some dk)) : (i = d ∧ o = some dk) ∨ (i ≠ d ∧ st[i]? = some (some dk)) := by
  rcases item_set h with ⟨e, h, _⟩ | ⟨n, h⟩
  · exact .inl ⟨e.symm, h.symm⟩
  · exact .inr ⟨fun z => n z.symm, h⟩
theorem setS_sec {st : Sts} {d i r : Nat} {o : Option DkO} (n : i ≠ d) : secS (st.set d o) i r = secS st i r := by
  unfold secS
  rw [List.getElem?_set, if_neg fun z => n z.symm]
theorem setS_pres {st : Sts} {d i : Nat} {o : Option DkO} (n : i ≠ d) : Pres (st.set d o) i ↔ Pres st i := by
  unfold Pres
  rw [List.getElem?_set, if_neg fun z => n z.symm]
theorem setS_gone {st : Sts} {d : Nat} : ¬ Pres (st.set d none) d := by
  rintro ⟨dk, h⟩
  rcases setS_some h with ⟨_, h⟩ | ⟨n, _⟩
  · cases h
  · exact n rfl
theorem setS_blank {st : Sts} {d r : Nat} {B : Addr} : secS (st.set d (some ⟨B, blk4⟩)) d r = none := by
  unfold secS
  rw [List.getElem?_set, if_pos rfl]
  split
  · next dk e =>
    split at e
    · cases e
      rcases r with _ | _ | _ | _ | r <;> rfl
    · cases e
  · rfl
theorem setS_dkS {st : Sts} {d : Nat} {o : Option DkO} {b : Addr} (h : dkS (st.set d o) b) : dkS st b ∨ ∃ dk, o = some dk ∧ b = dk.A := by
  obtain ⟨i, dk, g, e⟩ := h
  rcases setS_some g with ⟨_, h⟩ | ⟨_, h⟩
  · exact .inr ⟨dk, h, e⟩
  · exact .inl ⟨i, dk, h, e⟩
theorem ImM.drop {H : Hp} {X : Addr → Prop} {I : Addr} {st : Sts} (h : ImM H X I st) (d : Nat) : ImM (upd H I (.lst ((st.set d none).map dkV))) X I (st.set d none) := by
  have kp : ∀ b o', H b = some o' → b ≠ I → upd H I (.lst ((st.set d none).map dkV)) b = some o' := fun b o' e n => by rw [upd_ne n]; exact e
  have old : ∀ {i : Nat} {dk : DkO}, (st.set d none)[i]? = some (some dk) → st[i]? = some (some dk) := fun {i dk} g => by
    rcases setS_some g with ⟨_, z⟩ | ⟨_, z⟩
    · cases z
    · exact z
  refine ⟨upd_same, h.ip, fun i dk g => ?_, fun i j dk dk' g1 g2 e => h.hU i j dk dk' (old g1) (old g2) e, fun i dk r s g1 g2 => ?_⟩
  · have := h.hD i dk (old g)
    exact ⟨kp _ _ this.1 this.2.1, this.2⟩
  · obtain ⟨a1, a2, a3⟩ := h.hR i dk r s (old g1) g2
    refine ⟨kp _ _ a1 fun z => a2 (.inr (.inl z)), fun z => a2 ?_, a3⟩
    rcases z with z | z | ⟨j, dj, g, z⟩
    · exact .inl z
    · exact .inr (.inl z)
    · exact .inr (.inr ⟨j, dj, old g, z⟩)
theorem ImM.blank {H : Hp} {X : Addr → Prop} {I B : Addr} {st : Sts} (h : ImM H X I st) (d : Nat) (nB : H B = none) (Bx : ¬ X B) : ImM (upd (upd H B (.lst (blk4.map rowV))) I (.lst ((st.set d (some ⟨B, blk4⟩)).map dkV))) X I (st.set d (some ⟨B, blk4⟩)) := by
  have IB : I ≠ B := ne_of_none h.hI nB
  have kp : ∀ b o', H b = some o' → b ≠ I → upd (upd H B (.lst (blk4.map rowV))) I (.lst ((st.set d (some ⟨B, blk4⟩)).map dkV)) b = some o' := fun b o' e n => by rw [upd_ne n, upd_ne (ne_of_none e nB)]; exact e
  refine ⟨upd_same, h.ip, fun i dk g => ?_, fun i j dk dk' g1 g2 e => ?_, fun i dk r s g1 g2 => ?_⟩
  · rcases setS_some g with ⟨_, z⟩ | ⟨_, z⟩
    · cases z
      exact ⟨by rw [upd_ne IB.symm]; exact upd_same, IB.symm, Bx⟩
    · have := h.hD i dk z
      exact ⟨kp _ _ this.1 this.2.1, this.2⟩
  · rcases setS_some g1 with ⟨e1, z1⟩ | ⟨n1, z1⟩
    · rcases setS_some g2 with ⟨e2, z2⟩ | ⟨n2, z2⟩
      · rw [e1, e2]
      · cases z1
        exact absurd e.symm (ne_of_none (h.hD j dk' z2).1 nB)
    · rcases setS_some g2 with ⟨e2, z2⟩ | ⟨n2, z2⟩
      · cases z2
        exact absurd e (ne_of_none (h.hD i dk z1).1 nB)
      · exact h.hU i j dk dk' z1 z2 e
  · rcases setS_some g1 with ⟨_, z⟩ | ⟨_, z⟩
    · cases z
      rcases r with _ | _ | _ | _ | r <;> cases g2
    · obtain ⟨a1, a2, a3⟩ := h.hR i dk r s z g2
      refine ⟨kp _ _ a1 (fun y => a2 (.inr (.inl y))), fun y => ?_, a3⟩
      rcases y with y | y | y
      · exact a2 (.inl y)
      · exact a2 (.inr (.inl y))
      · rcases setS_dkS y with y | ⟨dk', y, y2⟩
        · exact a2 (.inr (.inr y))
        · cases y
          exact ne_of_none a1 nB y2
/-- a list of whole numbers is no disk and not the images -/
theorem ImM.ints {H : Hp} {X : Addr → Prop} {I b : Addr} {st : Sts} {n : Nat} {ws : List Int} (h : ImM H X I st) (hn : ∀ (i : Nat) (dk : DkO), st[i]? = some (some dk) → dk.rows.length = n) (n1 : 1 ≤ n) (l1 : 1 ≤ st.length) (hb : H b = some (.lst (ws.map V.int))) : ¬ dkS st b ∧ b ≠ I := by
  constructor
  · rintro ⟨i, dk, g, e⟩
    have hl := hn i dk g
    refine ints_ne hb (h.hD i dk g).1 ?_ e
    cases hr : dk.rows with
    | nil => rw [hr] at hl; simp at hl; omega
    | cons o rs => exact ⟨rowV o, by simp, fun i => by cases o <;> exact fun z => nomatch z⟩
  · refine ints_ne hb h.hI ?_
    cases hs : st with
    | nil => rw [hs] at l1; simp at l1
    | cons o rs => exact ⟨dkV o, by simp, fun i => by cases o <;> exact fun z => nomatch z⟩
/-- what a carry leaves in a row -/
theorem carry_sec {st : Sts} {n rr : Nat} (hn : ∀ (i : Nat) (dk : DkO), st[i]? = some (some dk) → dk.rows.length = n) (hr : rr < n) : ∀ rs : List Rq, (∀ e ∈ rs, e.r = (rr : Int) ∧ 0 ≤ e.d ∧ Pres st e.d.toNat) →
    ∀ d : Nat, (∃ e ∈ rs, e.d = (d : Int) ∧ secS (carryM st rs) d rr = some (e.s, e.ws)) ∨ ((∀ e ∈ rs, e.d ≠ (d : Int)) ∧ secS (carryM st rs) d rr = secS st d rr) := by
  refine rev_ind (P := fun rs : List Rq => (∀ e ∈ rs, e.r = (rr : Int) ∧ 0 ≤ e.d ∧ Pres st e.d.toNat) → ∀ d : Nat, (∃ e ∈ rs, e.d = (d : Int) ∧ secS (carryM st rs) d rr = some (e.s, e.ws)) ∨ ((∀ e ∈ rs, e.d ≠ (d : Int)) ∧ secS (carryM st rs) d rr = secS st d rr)) (fun _ d => .inr ⟨fun _ m => (nomatch m), rfl⟩) fun rs e ih h d => ?_
  have he := h e (by simp)
  have ih := ih (fun x m => h x (List.mem_append_left _ m)) d
  rw [carry_snoc, he.1, Int.toNat_natCast]
  by_cases c : e.d = (d : Int)
  · left
    refine ⟨e, by simp, c, ?_⟩
    obtain ⟨dk, g⟩ := (carry_pres st rs e.d.toNat).mpr he.2.2
    have e2 : e.d.toNat = d := by omega
    rw [e2] at g ⊢
    exact putS_sec g (by rw [carry_rows hn rs d dk g]; exact hr)
  · have ne : secS (putS (carryM st rs) e.d.toNat rr (some (e.s, e.ws))) d rr = secS (carryM st rs) d rr := putS_sec_ne (.inl (by omega))
    rw [ne]
    rcases ih with ⟨x, m, e1, e2⟩ | ⟨a1, a2⟩
    · exact .inl ⟨x, List.mem_append_left _ m, e1, e2⟩
    · refine .inr ⟨fun x m => ?_, a2⟩
      rcases List.mem_append.mp m with m | m
      · exact a1 x m
      · rw [List.mem_singleton.mp m]
        exact c
theorem sorted_ext : ∀ {xs ys : List Int}, xs.Pairwise (· < ·) → ys.Pairwise (· < ·) → (∀ u, u ∈ xs ↔ u ∈ ys) → xs = ys
  | [], [], _, _, _ => rfl
  | [], y :: ys, _, _, h => absurd ((h y).mpr (by simp)) (by simp)
  | x :: xs, [], _, _, h => absurd ((h x).mp (by simp)) (by simp)
  | x :: xs, y :: ys, hx, hy, h => by
    rw [List.pairwise_cons] at hx hy
    have e : x = y := by
      rcases List.mem_cons.mp ((h x).mp (by simp)) with z | z
      · exact z
      rcases List.mem_cons.mp ((h y).mpr (by simp)) with w | w
      · exact w.symm
      have := hy.1 x z
      have := hx.1 y w
      omega
    subst e
    rw [sorted_ext hx.2 hy.2 fun u => ?_]
    constructor
    · intro m
      rcases List.mem_cons.mp ((h u).mp (List.mem_cons_of_mem _ m)) with z | z
      · have := hx.1 u m
        omega
      · exact z
    · intro m
      rcases List.mem_cons.mp ((h u).mpr (List.mem_cons_of_mem _ m)) with z | z
      · have := hy.1 u m
        omega
      · exact z
/-! the repr of images -/
structure Rp (x : PyData) (k n : Nat) : Prop where
  c : x.canLay0 = true
  d : x.depth ≤ k
  w : x.weight ≤ n
  s : x.intsShort 13 = true
  h : x.showable = true
  nd : x.hasDict = false
theorem Rp.mono {x : PyData} {k n k' n' : Nat} (h : Rp x k n) (hk : k ≤ k') (hn : n ≤ n') : Rp x k' n' := ⟨h.c, Nat.le_trans h.d hk, Nat.le_trans h.w hn, h.s, h.h, h.nd⟩
theorem rp_none : Rp .none 0 0 := ⟨rfl, by simp [PyData.depth], by simp [PyData.weight], rfl, rfl, rfl⟩
theorem rp_int {i : Int} (h : Wd i) : Rp (.int i) 0 17 := by
  have h1 : i.natAbs < 65536 := by have := h.1; have := h.2; omega
  have h2 : i.natAbs.log2 ≤ 16 := by
    by_cases z : i.natAbs = 0
    · rw [z]; decide
    · have := (Nat.log2_lt z (k := 16)).mpr h1
      omega
  refine ⟨by simp [PyData.canLay0], by simp [PyData.depth], ?_, ?_, ?_, by simp [PyData.hasDict]⟩
  · simp only [PyData.weight]
    split <;> omega
  · simp only [PyData.intsShort]
    exact decide_eq_true (PyData.shown_int_le (by omega))
  · simp only [PyData.showable]
    exact decide_eq_true (by omega)
theorem rp_all {k n : Nat} : ∀ {xs : List PyData}, (∀ x ∈ xs, Rp x k n) → PyData.canLayAll0 xs = true ∧ PyData.depthAll xs ≤ k ∧ PyData.weightAll xs ≤ xs.length * (n + 1) ∧ PyData.intsShortAll 13 xs = true ∧ PyData.showableAll xs = true ∧ PyData.hasDictAll xs = false
  | [], _ => ⟨rfl, by simp [PyData.depthAll], by simp [PyData.weightAll], rfl, rfl, rfl⟩
  | x :: xs, h => by
    obtain ⟨a1, a2, a3, a4, a5, a6⟩ := rp_all fun y m => h y (List.mem_cons_of_mem _ m)
    have b := h x (by simp)
    refine ⟨by simp [PyData.canLayAll0, b.c, a1], ?_, ?_, by simp [PyData.intsShortAll, b.s, a4], by simp [PyData.showableAll, b.h, a5], by simp [PyData.hasDictAll, b.nd, a6]⟩
    · have e : PyData.depthAll (x :: xs) = max x.depth (PyData.depthAll xs) := by simp [PyData.depthAll]
      rw [e]
      exact Nat.max_le.mpr ⟨b.d, a2⟩
    · have e : PyData.weightAll (x :: xs) = x.weight + 1 + PyData.weightAll xs := by simp [PyData.weightAll]
      rw [e, List.length_cons, Nat.succ_mul]
      have := b.w
      omega
theorem rp_list {k n : Nat} {xs : List PyData} (h : ∀ x ∈ xs, Rp x k n) : Rp (.list xs) (k + 1) (xs.length * (n + 1)) := by
  obtain ⟨a1, a2, a3, a4, a5, a6⟩ := rp_all h
  exact ⟨by simp only [PyData.canLay0]; exact a1, by simp only [PyData.depth]; omega, by simp only [PyData.weight]; exact a3, by simp only [PyData.intsShort]; exact a4, by simp only [PyData.showable]; exact a5, by simp only [PyData.hasDict]; exact a6⟩
theorem Rp.shown {x : PyData} {k n : Nat} (h : Rp x k n) (hk : k ≤ 64) (hn : n ≤ 2 ^ 20) : x.shown.length ≤ sizeLine := by
  refine PyData.shown_fits_of_layable0 (B := 13) (by decide) (by decide) ?_ h.s
  unfold PyData.layable0
  rw [Bool.and_eq_true, Bool.and_eq_true]
  exact ⟨⟨h.c, decide_eq_true (Nat.le_trans h.d hk)⟩, decide_eq_true (Nat.le_trans h.w hn)⟩
def scD : Option (Addr × List Int) → PyData
  | none => .none
  | some s => .list (s.2.map .int)
def imD : Option DkO → PyData
  | none => .none
  | some dk => .list (dk.rows.map scD)
def stD19 (st : Sts) : PyData := .list (st.map imD)
theorem dp_st19 {K : PySem.W.Frag} {H : Hp} {X : Addr → Prop} {I : Addr} {st : Sts} (h : ImM H X I st) : Dp K H (.ref I) (stD19 st) := by
  refine .lst (SqL.of h.hI) ?_
  have hD := h.hD
  have hR := h.hR
  have rows : ∀ (rs : List (Option (Addr × List Int))), (∀ s, some s ∈ rs → H s.1 = some (.lst (s.2.map V.int))) → DpAll K H (rs.map rowV) (rs.map scD) := by
    intro rs hs
    induction rs with
    | nil => exact .nil
    | cons o rs ih =>
      refine .cons ?_ (ih fun s m => hs s (List.mem_cons_of_mem _ m))
      cases o with
      | none => exact .non
      | some s => exact dp_ints (SqL.of (hs s (by simp)))
  have all : ∀ (sts : Sts), (∀ o ∈ sts, o ∈ st) → DpAll K H (sts.map dkV) (sts.map imD) := by
    intro sts hs
    induction sts with
    | nil => exact .nil
    | cons o os ih =>
      refine .cons ?_ (ih fun x m => hs x (List.mem_cons_of_mem _ m))
      cases o with
      | none => exact .non
      | some dk =>
        obtain ⟨i, hi⟩ := List.mem_iff_getElem?.mp (hs _ (List.mem_cons_self))
        refine .lst (SqL.of (hD i dk hi).1) (rows _ fun s m => ?_)
        obtain ⟨r, hr⟩ := List.mem_iff_getElem?.mp m
        exact (hR i dk r s hi hr).1
  exact all st fun _ m => m
/-! notes in the journal -/
def plM (n : Nat) : Nat := max 1 ((n + 998) / 999)
theorem plM_pos (n : Nat) : 1 ≤ plM n := by unfold plM; omega
theorem plM_le {n : Nat} (h : n ≤ 2500) : plM n ≤ 3 := by unfold plM; omega
theorem plM_hi (n : Nat) : n ≤ plM n * 999 := by unfold plM; omega
def payN (ws : List Int) (k : Nat) : List Int := (((plM ws.length : Nat) : Int) - 1 - (k : Int)) :: (ws.drop (k * 999)).take 999
def paysN (ws : List Int) : List (List Int) := (List.range (plM ws.length)).map (payN ws)
theorem paysN_len (ws : List Int) : (paysN ws).length = plM ws.length := by unfold paysN; rw [List.length_map, List.length_range]
theorem payN_len (ws : List Int) (k : Nat) : 1 ≤ (payN ws k).length ∧ (payN ws k).length ≤ 1000 := by
  unfold payN
  rw [List.length_cons, List.length_take]
  omega
def sp_note_places (K : PySem.W.Frag) (a : Ad) : Sp := fun vs H Q _ => ∃ (W : Addr) (ws : List Int), vs = [.ref W] ∧ SqL K H W (ws.map V.int) ∧ ws.length ≤ 5000 ∧ Q (.int ((plM ws.length : Nat) : Int)) H
theorem sp_note_places_len {K : PySem.W.Frag} {a : Ad} {vs : List V} {H : Hp} {Q : VK} {E : XK} (h : sp_note_places K a vs H Q E) : vs.length = 1 := by
  obtain ⟨W, ws, rfl, _⟩ := h
  rfl
theorem cut_mid999 (ws : List Int) (a : Nat) : cutV (ws.map V.int) (some (a : Int)) (some ((a + 999 : Nat) : Int)) = ((ws.drop a).take 999).map V.int := by
  rw [cut_ints]
  congr 1
  unfold cutI
  rw [HT.sIx_nat, HT.sIx_nat]
  by_cases h : a ≤ ws.length
  · rw [Nat.min_eq_left h]
    by_cases h2 : a + 999 ≤ ws.length
    · rw [Nat.min_eq_left h2, show a + 999 - a = 999 by omega]
    · rw [Nat.min_eq_right (by omega), List.take_of_length_le (by rw [List.length_drop]; exact Nat.le_refl _), List.take_of_length_le (by rw [List.length_drop]; omega)]
  · rw [List.drop_of_length_le (i := a) (by omega), List.drop_of_length_le (i := min a ws.length) (by omega), List.take_nil, List.take_nil]
def sp_place_payloads (K : PySem.W.Frag) (a : Ad) : Sp := fun vs H Q _ => ∃ (W : Addr) (ws : List Int), vs = [.ref W] ∧ SqL K H W (ws.map V.int) ∧ ws.length ≤ 5000 ∧
  ∀ (R : Addr) (rows : List (Addr × List Int)) (H' : Hp), Same H H' → H R = none → LA H' R rows → (∀ e ∈ rows, H e.1 = none) → snds rows = paysN ws → Q (.ref R) H'
theorem sp_place_payloads_len {K : PySem.W.Frag} {a : Ad} {vs : List V} {H : Hp} {Q : VK} {E : XK} (h : sp_place_payloads K a vs H Q E) : vs.length = 1 := by
  obtain ⟨W, ws, rfl, _⟩ := h
  rfl
/-- the requests of one place -/
def rqP (ims : List (Option Addr)) (ds : List Nat) (e s f : Int) (ws : List Int) (k : Nat) : List (Int × Int × List Int) := (ds.filter (presentM ims)).map fun d : Nat => ((d : Int), 2 + f + (k : Int), sealM 2 (d : Int) (2 + f + (k : Int)) e s (payN ws k))
def rqN (ims : List (Option Addr)) (ds : List Nat) (e s f : Int) (ws : List Int) (m : Nat) : List (Int × Int × List Int) := (List.range m).flatMap (rqP ims ds e s f ws)
theorem rqN_succ (ims : List (Option Addr)) (ds : List Nat) (e s f : Int) (ws : List Int) (m : Nat) : rqN ims ds e s f ws (m + 1) = rqN ims ds e s f ws m ++ rqP ims ds e s f ws m := by
  unfold rqN
  rw [List.range_succ, List.flatMap_append]
  simp
def sp_note_requests (K : PySem.W.Frag) (a : Ad) : Sp := fun vs H Q E => ∃ (I B S W : Addr) (ims : List (Option Addr)) (ds : List Nat) (e s f : Int) (ws : List Int), vs = [.ref I, .ref B, .ref S, .int f, .ref W] ∧ SqL K H I (ims.map refI) ∧ ims.length ≤ 100 ∧
  SqL K H B (ds.map fun d : Nat => V.int (d : Int)) ∧ ds.length ≤ 8 ∧ (∀ d ∈ ds, d < 8) ∧ SqT K H S [.int e, .int s] ∧ Stp e s ∧ SqL K H W (ws.map V.int) ∧ ws.length ≤ 5000 ∧ 0 ≤ f ∧
  (16 < f + ((plM ws.length : Nat) : Int) → ∀ H', Same H H' → E (.ref a.c_InvalidArgument) none H') ∧
  (f + ((plM ws.length : Nat) : Int) ≤ 16 → ∀ (R : Addr) (rs : List Rq) (H' : Hp), Same H H' → H R = none → WRq H' R rs → (∀ e ∈ rs, H e.s = none) → rs.map rqM = rqN ims ds e s f ws (plM ws.length) → Q (.ref R) H')
theorem sp_note_requests_len {K : PySem.W.Frag} {a : Ad} {vs : List V} {H : Hp} {Q : VK} {E : XK} (h : sp_note_requests K a vs H Q E) : vs.length = 5 := by
  obtain ⟨I, B, S, W, ims, ds, e, s, f, ws, rfl, _⟩ := h
  rfl
/-- a note's part on a disk -/
def NtS (st : Sts) (d r : Nat) (t : Int × Int) (ws : List Int) : Prop := ∃ sc, secS st d r = some sc ∧ Good sc.2 2 (d : Int) (r : Int) ∧ stampM sc.2 = t ∧ payM sc.2 = ws
def RdP (st : Sts) (ds : List Nat) (t : Int × Int) (q : Nat) : Option (List Int) → Prop
  | none => ∀ d ∈ ds, ∀ ws, ¬ NtS st d (2 + q) t ws
  | some ws => (∃ d ∈ ds, NtS st d (2 + q) t ws) ∧ ∀ d ∈ ds, ∀ ws', NtS st d (2 + q) t ws' → ws' = ws
def sp_read_place (K : PySem.W.Frag) (a : Ad) : Sp := fun vs H Q _ => ∃ (X : Addr → Prop) (I B S : Addr) (st : Sts) (ds : List Nat) (e s : Int) (q : Nat) (o : Option (List Int)), vs = [.ref I, .ref B, .ref S, .int (q : Int)] ∧ ImM H X I st ∧ st.length ≤ 100 ∧ (∀ (i : Nat) (dk : DkO), st[i]? = some (some dk) → dk.rows.length ≤ 100) ∧
  SqL K H B (ds.map fun d : Nat => V.int (d : Int)) ∧ ds.length ≤ 8 ∧ SqT K H S [.int e, .int s] ∧ RdP st ds (e, s) q o ∧ (o = none → ∀ H', Same H H' → Q .non H') ∧
  (∀ ws, o = some ws → ∀ (D : Addr) (H' : Hp), Same H H' → H D = none → H' D = some (.lst (ws.map V.int)) → Q (.ref D) H')
theorem sp_read_place_len {K : PySem.W.Frag} {a : Ad} {vs : List V} {H : Hp} {Q : VK} {E : XK} (h : sp_read_place K a vs H Q E) : vs.length = 4 := by
  obtain ⟨X, I, B, S, st, ds, e, s, q, o, rfl, _⟩ := h
  rfl
/-- the notes, and the one begun, behind so many places -/
def rdS (f : Nat → List Int) : Nat → List (List Int) × List Int
  | 0 => ([], [])
  | q + 1 => if (f q).getD 0 0 = 0 then ((rdS f q).1 ++ [(rdS f q).2 ++ (f q).drop 1], []) else ((rdS f q).1, (rdS f q).2 ++ (f q).drop 1)
def sp_read_notes (K : PySem.W.Frag) (a : Ad) : Sp := fun vs H Q _ => ∃ (X : Addr → Prop) (I B S : Addr) (st : Sts) (ds : List Nat) (e s : Int) (f : Nat → List Int) (m : Nat), vs = [.ref I, .ref B, .ref S] ∧ ImM H X I st ∧ st.length ≤ 100 ∧ (∀ (i : Nat) (dk : DkO), st[i]? = some (some dk) → dk.rows.length ≤ 100) ∧
  SqL K H B (ds.map fun d : Nat => V.int (d : Int)) ∧ ds.length ≤ 8 ∧ SqT K H S [.int e, .int s] ∧ m ≤ 16 ∧ (∀ q, q < m → RdP st ds (e, s) q (some (f q)) ∧ 1 ≤ (f q).length ∧ (f q).length ≤ 1000) ∧ (m < 16 → RdP st ds (e, s) m none) ∧
  ∀ (R : Addr) (rows : List (Addr × List Int)) (H' : Hp), Same H H' → LA H' R rows → snds rows = (rdS f m).1 → Q (.ref R) H'
theorem sp_read_notes_len {K : PySem.W.Frag} {a : Ad} {vs : List V} {H : Hp} {Q : VK} {E : XK} (h : sp_read_notes K a vs H Q E) : vs.length = 3 := by
  obtain ⟨X, I, B, S, st, ds, e, s, f, m, rfl, _⟩ := h
  rfl
theorem rdS_few (f : Nat → List Int) (h : ∀ q, (f q).length ≤ 1000) : ∀ m, (rdS f m).1.length ≤ m ∧ (rdS f m).2.length ≤ 1000 * m
  | 0 => ⟨Nat.le_refl _, Nat.le_refl _⟩
  | m + 1 => by
    have ih := rdS_few f h m
    have h1 := h m
    rw [rdS]
    split
    · refine ⟨?_, Nat.zero_le _⟩
      show ((rdS f m).1 ++ [_]).length ≤ _
      rw [List.length_append, List.length_singleton]
      omega
    · refine ⟨by show (rdS f m).1.length ≤ _; omega, ?_⟩
      show ((rdS f m).2 ++ _).length ≤ _
      rw [List.length_append, List.length_drop]
      omega
def sp_law_refused (K : PySem.W.Frag) (a : Ad) : Sp := fun vs H Q _ => ∃ (I B S W : Addr) (ims : List (Option Addr)) (ds : List Nat) (e s f : Int) (ws : List Int), vs = [.ref I, .ref B, .ref S, .int f, .ref W] ∧ SqL K H I (ims.map refI) ∧ ims.length ≤ 100 ∧
  SqL K H B (ds.map fun d : Nat => V.int (d : Int)) ∧ ds.length ≤ 8 ∧ (∀ d ∈ ds, d < 8) ∧ SqT K H S [.int e, .int s] ∧ Stp e s ∧ SqL K H W (ws.map V.int) ∧ ws.length ≤ 5000 ∧ 0 ≤ f ∧ 16 < f + ((plM ws.length : Nat) : Int) ∧ ∀ H', Same H H' → Q (.bl true) H'
theorem sp_law_refused_len {K : PySem.W.Frag} {a : Ad} {vs : List V} {H : Hp} {Q : VK} {E : XK} (h : sp_law_refused K a vs H Q E) : vs.length = 5 := by
  obtain ⟨I, B, S, W, ims, ds, e, s, f, ws, rfl, _⟩ := h
  rfl
def sp_law_note (K : PySem.W.Frag) (a : Ad) : Sp := fun vs H Q _ => ∃ (p l : Addr), vs = [.ref p] ∧ Pot H p l ∧
  ∀ (D : Addr) (ws : List Int) (H' : Hp), ws.length ≤ 2500 → (∀ w ∈ ws, Wd w) → H D = none → H' D = some (.lst (ws.map V.int)) → But p H H' → Pot H' p l → Q (.ref D) H'
theorem sp_law_note_len {K : PySem.W.Frag} {a : Ad} {vs : List V} {H : Hp} {Q : VK} {E : XK} (h : sp_law_note K a vs H Q E) : vs.length = 1 := by
  obtain ⟨p, l, rfl, _⟩ := h
  rfl
def sp_law_fate (K : PySem.W.Frag) (a : Ad) : Sp := fun vs H Q _ => ∃ (X : Addr → Prop) (p l I T S : Addr) (st : Sts) (dk : DkO) (d r : Nat) (o : Addr × List Int), vs = [.ref p, .ref I, .ref T, .ref o.1] ∧ Pot H p l ∧ ImM H X I st ∧ X p ∧ (∀ q, H q = none → ¬ X q) ∧ H T = some (.tup [.str "write", .int (d : Int), .int (r : Int), .ref S]) ∧
  st[d]? = some (some dk) ∧ r < dk.rows.length ∧ H o.1 = some (.lst (o.2.map V.int)) ∧ ¬ mutS X I st o.1 ∧ o.2.length ≤ 1008 ∧
  ∀ (b : Bool) (st' : Sts) (H' : Hp), ImM H' X I st' → (b = false → st' = st) → (b = true → st' = putS st d r (some o) ∨ st' = putS st d r none) → (∀ q ob, H q = some ob → q ≠ p → q ≠ dk.A → H' q = some ob) → (dk.A ≠ l → Pot H' p l) → Q (.bl b) H'
theorem sp_law_fate_len {K : PySem.W.Frag} {a : Ad} {vs : List V} {H : Hp} {Q : VK} {E : XK} (h : sp_law_fate K a vs H Q E) : vs.length = 4 := by
  obtain ⟨X, p, l, I, T, S, st, dk, d, r, o, rfl, _⟩ := h
  rfl
/-- the places of all notes -/
def plc (nts : List (List Int)) : List (List Int) := nts.flatMap paysN
theorem plc_snoc (nts : List (List Int)) (ws : List Int) : plc (nts ++ [ws]) = plc nts ++ paysN ws := by unfold plc; rw [List.flatMap_append]; simp
/-- what stands on the disks: parts of the notes, or older ones; the first fl places are there -/
structure Wn (st : Sts) (n : Nat) (t : Int × Int) (pl : List (List Int)) (fl : Nat) : Prop where
  al : ∀ d, d < n → Pres st d
  r20 : ∀ (i : Nat) (dk : DkO), st[i]? = some (some dk) → dk.rows.length = 20
  any : ∀ d r sc, secS st d r = some sc → (∃ q ws, r = 2 + q ∧ pl[q]? = some ws ∧ Good sc.2 2 (d : Int) (r : Int) ∧ stampM sc.2 = t ∧ payM sc.2 = ws) ∨ stampM sc.2 = (1, 9)
  fsh : ∀ d, d < n → ∀ q ws, q < fl → pl[q]? = some ws → NtS st d (2 + q) t ws
  wd : ∀ d r sc, secS st d r = some sc → ∀ w ∈ sc.2, Wd w
theorem Wn.less {st : Sts} {n : Nat} {t : Int × Int} {pl : List (List Int)} {fl fl' : Nat} (h : Wn st n t pl fl) (hl : fl' ≤ fl) : Wn st n t pl fl' := ⟨h.al, h.r20, h.any, fun d hd q ws hq => h.fsh d hd q ws (by omega), h.wd⟩
def sp_law_write_all (K : PySem.W.Frag) (a : Ad) : Sp := fun vs H Q _ => ∃ (p l I S : Addr) (n : Nat) (st : Sts) (g : Int), vs = [.ref p, .ref I, .int (n : Int), .ref S] ∧ Pot H p l ∧ ImM H (fun q => q = p) I st ∧ st.length = n ∧ 1 ≤ n ∧ n ≤ 5 ∧ H S = some (.tup [.int 2, .int g]) ∧ 0 ≤ g ∧ g < 5 ∧
  Wn st n (2, g) [] 0 ∧ (∀ d, d < n → ∀ r, r < 20 → ∃ sc, secS st d r = some sc) ∧
  ∀ (T N : Addr) (nts : List (Addr × List Int)) (fl : Nat) (lost : Bool) (st' : Sts) (H' : Hp), H' T = some (.tup [.ref N, .int (fl : Int), .bl lost]) → LA H' N nts → Pot H' p l → ImM H' (fun q => q = p) I st' → st'.length = n → Wn st' n (2, g) (plc (snds nts)) (plc ((snds nts).take fl)).length → (plc (snds nts)).length ≤ 16 → fl ≤ nts.length →
    (lost = false → Wn st' n (2, g) (plc (snds nts)) (plc (snds nts)).length) → H N = none → (∀ e ∈ nts, H e.1 = none ∧ e.2.length ≤ 2500) → (∀ b, dkS st' b ↔ dkS st b) → H' S = some (.tup [.int 2, .int g]) → Q (.ref T) H'
theorem sp_law_write_all_len {K : PySem.W.Frag} {a : Ad} {vs : List V} {H : Hp} {Q : VK} {E : XK} (h : sp_law_write_all K a vs H Q E) : vs.length = 4 := by
  obtain ⟨p, l, I, S, n, st, g, rfl, _⟩ := h
  rfl
theorem carry_gen {st : Sts} {n : Nat} (hn : ∀ (i : Nat) (dk : DkO), st[i]? = some (some dk) → dk.rows.length = n) : ∀ rs : List Rq, (∀ e ∈ rs, 0 ≤ e.d ∧ 0 ≤ e.r ∧ e.r < (n : Int) ∧ Pres st e.d.toNat) →
    ∀ d r : Nat, (∃ e ∈ rs, e.d = (d : Int) ∧ e.r = (r : Int) ∧ secS (carryM st rs) d r = some (e.s, e.ws)) ∨ ((∀ e ∈ rs, ¬ (e.d = (d : Int) ∧ e.r = (r : Int))) ∧ secS (carryM st rs) d r = secS st d r) := by
  refine rev_ind (P := fun rs : List Rq => (∀ e ∈ rs, 0 ≤ e.d ∧ 0 ≤ e.r ∧ e.r < (n : Int) ∧ Pres st e.d.toNat) → ∀ d r : Nat, (∃ e ∈ rs, e.d = (d : Int) ∧ e.r = (r : Int) ∧ secS (carryM st rs) d r = some (e.s, e.ws)) ∨ ((∀ e ∈ rs, ¬ (e.d = (d : Int) ∧ e.r = (r : Int))) ∧ secS (carryM st rs) d r = secS st d r)) (fun _ d r => .inr ⟨fun _ m => (nomatch m), rfl⟩) fun rs e ih h d r => ?_
  have he := h e (by simp)
  have ih := ih (fun x m => h x (List.mem_append_left _ m)) d r
  rw [carry_snoc]
  by_cases c : e.d = (d : Int) ∧ e.r = (r : Int)
  · left
    refine ⟨e, by simp, c.1, c.2, ?_⟩
    obtain ⟨dk, g⟩ := (carry_pres st rs e.d.toNat).mpr he.2.2.2
    have e2 : e.d.toNat = d := by omega
    have e3 : e.r.toNat = r := by omega
    rw [e2] at g ⊢
    rw [e3]
    exact putS_sec g (by rw [carry_rows hn rs d dk g]; omega)
  · have ne : secS (putS (carryM st rs) e.d.toNat e.r.toNat (some (e.s, e.ws))) d r = secS (carryM st rs) d r := putS_sec_ne (by omega)
    rw [ne]
    rcases ih with ⟨x, m, e1, e2, e3⟩ | ⟨a1, a2⟩
    · exact .inl ⟨x, List.mem_append_left _ m, e1, e2, e3⟩
    · refine .inr ⟨fun x m => ?_, a2⟩
      rcases List.mem_append.mp m with m | m
      · exact a1 x m
      · rw [List.mem_singleton.mp m]
        exact c
theorem rqP_in {ims : List (Option Addr)} {ds : List Nat} {e s f : Int} {ws : List Int} {k : Nat} {x : Int × Int × List Int} : x ∈ rqP ims ds e s f ws k ↔ ∃ d ∈ ds, presentM ims d = true ∧ x = ((d : Int), 2 + f + (k : Int), sealM 2 (d : Int) (2 + f + (k : Int)) e s (payN ws k)) := by
  unfold rqP
  rw [List.mem_map]
  constructor
  · rintro ⟨d, m, rfl⟩
    exact ⟨d, (List.mem_filter.mp m).1, (List.mem_filter.mp m).2, rfl⟩
  · rintro ⟨d, m, h, rfl⟩
    exact ⟨d, List.mem_filter.mpr ⟨m, h⟩, rfl⟩
theorem rqN_in {ims : List (Option Addr)} {ds : List Nat} {e s f : Int} {ws : List Int} {m : Nat} {x : Int × Int × List Int} : x ∈ rqN ims ds e s f ws m ↔ ∃ k < m, x ∈ rqP ims ds e s f ws k := by
  unfold rqN
  rw [List.mem_flatMap]
  constructor
  · rintro ⟨k, mk, h⟩
    exact ⟨k, List.mem_range.mp mk, h⟩
  · rintro ⟨k, mk, h⟩
    exact ⟨k, List.mem_range.mpr mk, h⟩
/-- no place twice -/
theorem rqN_apart {ims : List (Option Addr)} {ds : List Nat} (nd : ds.Nodup) (e s f : Int) (ws : List Int) : ∀ m, (rqN ims ds e s f ws m).Pairwise fun x y => ¬ (x.1 = y.1 ∧ x.2.1 = y.2.1)
  | 0 => List.Pairwise.nil
  | m + 1 => by
    rw [rqN_succ, List.pairwise_append]
    refine ⟨rqN_apart nd e s f ws m, ?_, fun x mx y my => ?_⟩
    · unfold rqP
      rw [List.pairwise_map]
      refine (nd.filter _).imp fun {a b} hab z => hab ?_
      have := z.1
      omega
    · obtain ⟨k, hk, mx⟩ := rqN_in.mp mx
      obtain ⟨d1, _, _, rfl⟩ := rqP_in.mp mx
      obtain ⟨d2, _, _, rfl⟩ := rqP_in.mp my
      intro z
      have := z.2
      dsimp only at this
      omega
theorem rqN_len {ims : List (Option Addr)} {ds : List Nat} (hp : ∀ d ∈ ds, presentM ims d = true) (e s f : Int) (ws : List Int) : ∀ m, (rqN ims ds e s f ws m).length = m * ds.length
  | 0 => by simp [rqN]
  | m + 1 => by
    rw [rqN_succ, List.length_append, rqN_len hp e s f ws m, Nat.succ_mul]
    congr 1
    unfold rqP
    rw [List.length_map, List.filter_eq_self.mpr hp]
structure Pn where
  T : Addr
  t : Addr
  S : Addr
  d : Nat
  r : Nat
  o : Addr × List Int
structure PnOk (H0 H : Hp) (n : Nat) (e : Pn) : Prop where
  T : H e.T = some (.tup [.ref e.t, .ref e.o.1])
  t : H e.t = some (.tup [.str "write", .int (e.d : Int), .int (e.r : Int), .ref e.S])
  o : H e.o.1 = some (.lst (e.o.2.map V.int))
  o0 : H0 e.o.1 = some (.lst (e.o.2.map V.int))
  lo : e.o.2.length ≤ 1008
  st : stampM e.o.2 = (1, 9)
  wd : ∀ w ∈ e.o.2, Wd w
  dn : e.d < n
  r20 : e.r < 20
abbrev X3 (p Pd N : Addr) : Addr → Prop := fun q => q = p ∨ q = Pd ∨ q = N
abbrev X1 (p : Addr) : Addr → Prop := fun q => q = p
theorem updn {H : Hp} {q b : Addr} {o : HO} (e : upd H q o b = none) : b ≠ q ∧ H b = none := by
  by_cases z : b = q
  · rw [z, upd_same] at e; cases e
  · rw [upd_ne z] at e; exact ⟨z, e⟩
/-- while notes are written -/
structure Wr (H0 H : Hp) (p l I S N Pd : Addr) (n : Nat) (g : Int) (st0 st : Sts) (nts : List (Addr × List Int)) (pnd : List Pn) (lo : Nat) : Prop where
  P : Pot H p l
  im : ImM H (X3 p Pd N) I st
  ln : st.length = n
  n5 : 1 ≤ n ∧ n ≤ 5
  dk : ∀ b, dkS st b ↔ dkS st0 b
  m0 : ∀ b, mutS (X1 p) I st0 b → H0 b ≠ none
  l0 : H0 l ≠ none
  la : LA H N nts
  pd : H Pd = some (.lst (pnd.map fun e => V.ref e.T))
  pn : ∀ e ∈ pnd, PnOk H0 H n e ∧ lo ≤ e.r ∧ ¬ mutS (X1 p) I st0 e.o.1
  hS : H S = some (.tup [.int 2, .int g])
  nN : H0 N = none
  nPd : H0 Pd = none
  NP : N ≠ Pd
  nt : ∀ e ∈ nts, H0 e.1 = none ∧ e.2.length ≤ 2500 ∧ e.1 ≠ Pd
  ol : ∀ b, H b = none → H0 b = none
section
variable {H0 H H' : Hp} {p l I S N Pd : Addr} {n : Nat} {g : Int} {st0 st : Sts} {nts : List (Addr × List Int)} {pnd : List Pn} {lo : Nat}
theorem Wr.mu (h : Wr H0 H p l I S N Pd n g st0 st nts pnd lo) (b : Addr) : mutS (X3 p Pd N) I st b ↔ b = Pd ∨ b = N ∨ mutS (X1 p) I st0 b := by
  show ((b = p ∨ b = Pd ∨ b = N) ∨ b = I ∨ dkS st b) ↔ (b = Pd ∨ b = N ∨ b = p ∨ b = I ∨ dkS st0 b)
  rw [h.dk]
  constructor
  · rintro ((z | z | z) | z)
    · exact .inr (.inr (.inl z))
    · exact .inl z
    · exact .inr (.inl z)
    · exact .inr (.inr (.inr z))
  · rintro (z | z | z | z)
    · exact .inl (.inr (.inl z))
    · exact .inl (.inr (.inr z))
    · exact .inl (.inl z)
    · exact .inr z
theorem Wr.nm (h : Wr H0 H p l I S N Pd n g st0 st nts pnd lo) {b : Addr} (hb : H0 b = none) (nb : b ≠ Pd) (nb2 : b ≠ N) : ¬ mutS (X3 p Pd N) I st b := fun z => ((h.mu b).mp z).elim nb fun z => z.elim nb2 fun z => h.m0 b z hb
theorem Wr.om (h : Wr H0 H p l I S N Pd n g st0 st nts pnd lo) {b : Addr} {o : HO} (hb : H0 b = some o) (nb : ¬ mutS (X1 p) I st0 b) : ¬ mutS (X3 p Pd N) I st b := fun z => ((h.mu b).mp z).elim (fun z => by rw [z, h.nPd] at hb; cases hb) fun z => z.elim (fun z => by rw [z, h.nN] at hb; cases hb) nb
theorem Wr.tup (h : Wr H0 H p l I S N Pd n g st0 st nts pnd lo) {q : Addr} {xs : List V} (hq : H q = some (.tup xs)) : ¬ mutS (X3 p Pd N) I st q := fun z => by
  rcases z with (z | z | z) | z | ⟨i, dk, g, z⟩
  · obtain ⟨_, _, _, hp⟩ := h.P.list
    rw [z, hp] at hq; cases hq
  · rw [z, h.pd] at hq; cases hq
  · rw [z, h.la.1] at hq; cases hq
  · rw [z, h.im.hI] at hq; cases hq
  · rw [z, (h.im.hD i dk g).1] at hq; cases hq
theorem Wr.fresh (h : Wr H0 H p l I S N Pd n g st0 st nts pnd lo) {q : Addr} (nq : H q = none) : ¬ mutS (X3 p Pd N) I st q := fun z => by
  rcases z with (z | z | z) | z | ⟨i, dk, g, z⟩
  · exact h.P.nn nq z
  · rw [z, h.pd] at nq; cases nq
  · rw [z, h.la.1] at nq; cases nq
  · rw [z, h.im.hI] at nq; cases nq
  · rw [z, (h.im.hD i dk g).1] at nq; cases nq
/-- a step that changes what may change alone -/
theorem Wr.go (h : Wr H0 H p l I S N Pd n g st0 st nts pnd lo) {st' : Sts} (fr : ∀ b o, H b = some o → ¬ mutS (X3 p Pd N) I st b → H' b = some o) (P' : Pot H' p l) (pd' : H' Pd = some (.lst (pnd.map fun e => V.ref e.T))) (la' : H' N = some (.lst (refs nts))) (im' : ImM H' (X3 p Pd N) I st') (ln' : st'.length = n) (dk' : ∀ b, dkS st' b ↔ dkS st b) (ol' : ∀ b, H' b = none → H b = none) : Wr H0 H' p l I S N Pd n g st0 st' nts pnd lo :=
  ⟨P', im', ln', h.n5, fun b => (dk' b).trans (h.dk b), h.m0, h.l0, ⟨la', fun e m => ⟨fr _ _ (h.la.2 e m).1 (h.nm (h.nt e m).1 (h.nt e m).2.2 (h.la.2 e m).2), (h.la.2 e m).2⟩⟩, pd', fun e m => by
    obtain ⟨a1, a2, a3⟩ := h.pn e m
    exact ⟨⟨fr _ _ a1.T (h.tup a1.T), fr _ _ a1.t (h.tup a1.t), fr _ _ a1.o (h.om a1.o0 a3), a1.o0, a1.lo, a1.st, a1.wd, a1.dn, a1.r20⟩, a2, a3⟩, fr _ _ h.hS (h.tup h.hS), h.nN, h.nPd, h.NP, h.nt, fun b e => h.ol b (ol' b e)⟩
theorem Wr.offp (h : Wr H0 H p l I S N Pd n g st0 st nts pnd lo) : (p ≠ Pd ∧ l ≠ Pd) ∧ p ≠ N ∧ l ≠ N := ⟨⟨fun z => h.m0 p (.inl rfl) (by rw [z]; exact h.nPd), fun z => h.l0 (by rw [z]; exact h.nPd)⟩, fun z => h.m0 p (.inl rfl) (by rw [z]; exact h.nN), fun z => h.l0 (by rw [z]; exact h.nN)⟩
theorem Wr.but (h : Wr H0 H p l I S N Pd n g st0 st nts pnd lo) (b : But p H H') (P : Pot H' p l) : Wr H0 H' p l I S N Pd n g st0 st nts pnd lo := h.go (fun q o e nm => b _ _ e fun z => nm (.inl (.inl z))) P (b _ _ h.pd h.offp.1.1.symm) (b _ _ h.la.1 h.offp.2.1.symm) (h.im.draw b (.inl rfl)) h.ln (fun _ => Iff.rfl) fun _ e => but_none b P e
theorem Wr.same (h : Wr H0 H p l I S N Pd n g st0 st nts pnd lo) (s : Same H H') : Wr H0 H' p l I S N Pd n g st0 st nts pnd lo := h.but s.but (h.P.same s)
theorem Wr.pot (h : Wr H0 H p l I S N Pd n g st0 st nts pnd lo) (hr : ∀ (i : Nat) (dk : DkO), st[i]? = some (some dk) → dk.rows.length = 20) {d : Nat} {dk : DkO} (gd : st[d]? = some (some dk)) : dk.A ≠ p ∧ dk.A ≠ l ∧ dk.A ≠ Pd ∧ dk.A ≠ N := by
  refine ⟨fun z => (h.im.hD d dk gd).2.2 (.inl z), fun z => ?_, fun z => (h.im.hD d dk gd).2.2 (.inr (.inl z)), fun z => (h.im.hD d dk gd).2.2 (.inr (.inr z))⟩
  obtain ⟨_, _, _, _, _, z2, _⟩ := h.P
  exact (h.im.ints hr (by decide) (by have := h.ln; have := h.n5; omega) z2).1 ⟨d, dk, gd, z.symm⟩
theorem Wr.put (h : Wr H0 H p l I S N Pd n g st0 st nts pnd lo) (hr : ∀ (i : Nat) (dk : DkO), st[i]? = some (some dk) → dk.rows.length = 20) {d r : Nat} {dk : DkO} (gd : st[d]? = some (some dk)) {o : Option (Addr × List Int)} (ho : ∀ s, o = some s → H s.1 = some (.lst (s.2.map V.int)) ∧ ¬ mutS (X3 p Pd N) I st s.1 ∧ s.2.length ≤ 1008) :
    Wr H0 (upd H dk.A (.lst ((dk.rows.set r o).map rowV))) p l I S N Pd n g st0 (putS st d r o) nts pnd lo :=
  have a := h.pot hr gd
  h.go (fun b o e nm => by rw [upd_ne fun z => nm (.inr (.inr ⟨d, dk, gd, z⟩))]; exact e) (h.P.only Only.upd a.1.symm a.2.1.symm) (by rw [upd_ne a.2.2.1.symm]; exact h.pd) (by rw [upd_ne a.2.2.2.symm]; exact h.la.1) (h.im.put gd ho) (by rw [putS_len]; exact h.ln) (fun b => putS_dkS) fun b e => (updn e).2
theorem Wr.pend (h : Wr H0 H p l I S N Pd n g st0 st nts pnd lo) {e : Pn} (he : PnOk H0 H n e ∧ lo ≤ e.r ∧ ¬ mutS (X1 p) I st0 e.o.1) : Wr H0 (upd H Pd (.lst ((pnd ++ [e]).map fun e => V.ref e.T))) p l I S N Pd n g st0 st nts (pnd ++ [e]) lo := by
  have fr : ∀ b o, H b = some o → ¬ mutS (X3 p Pd N) I st b → upd H Pd (.lst ((pnd ++ [e]).map fun e => V.ref e.T)) b = some o := fun b o e nb => by rw [upd_ne fun z => nb (.inl (.inr (.inl z)))]; exact e
  refine ⟨h.P.only Only.upd h.offp.1.1 h.offp.1.2, h.im.but fun q o e nx => by rw [upd_ne fun z => nx (.inr (.inl z))]; exact e, h.ln, h.n5, h.dk, h.m0, h.l0, ⟨by rw [upd_ne h.NP]; exact h.la.1, fun x m => ⟨fr _ _ (h.la.2 x m).1 (h.nm (h.nt x m).1 (h.nt x m).2.2 (h.la.2 x m).2), (h.la.2 x m).2⟩⟩, upd_same, fun x m => ?_, fr _ _ h.hS (h.tup h.hS), h.nN, h.nPd, h.NP, h.nt, fun b e => h.ol b (updn e).2⟩
  have hx : PnOk H0 H n x ∧ lo ≤ x.r ∧ ¬ mutS (X1 p) I st0 x.o.1 := by
    rcases List.mem_append.mp m with m | m
    · exact h.pn x m
    · rw [List.mem_singleton.mp m]; exact he
  obtain ⟨a1, a2, a3⟩ := hx
  exact ⟨⟨fr _ _ a1.T (h.tup a1.T), fr _ _ a1.t (h.tup a1.t), fr _ _ a1.o (h.om a1.o0 a3), a1.o0, a1.lo, a1.st, a1.wd, a1.dn, a1.r20⟩, a2, a3⟩
/-- a list of pending ones anew -/
theorem Wr.flush (h : Wr H0 H p l I S N Pd n g st0 st nts pnd lo) {Q : Addr} (nQ : H Q = none) (nQ0 : H0 Q = none) (lo' : Nat) : Wr H0 (upd H Q (.lst [])) p l I S N Q n g st0 st nts [] lo' := by
  have s := Same.new (o := .lst []) nQ
  have la := h.la.same s
  exact ⟨h.P.same s, (h.im.more (X' := X3 p Q N) fun q o e z => by
    rcases z with z | z | z
    · exact .inl z
    · rw [z, nQ] at e; cases e
    · exact .inr (.inr z)).same s, h.ln, h.n5, h.dk, h.m0, h.l0, la, upd_same, fun _ m => (nomatch m), s _ _ h.hS, h.nN, nQ0, ne_of_none h.la.1 nQ, fun e m => ⟨(h.nt e m).1, (h.nt e m).2.1, ne_of_none (h.la.2 e m).1 nQ⟩, fun b e => h.ol b (updn e).2⟩
theorem Wr.note (h : Wr H0 H p l I S N Pd n g st0 st nts pnd lo) {W : Addr} {ws : List Int} (hW : H W = some (.lst (ws.map V.int))) (nW : H0 W = none) (WN : W ≠ N) (WP : W ≠ Pd) (lw : ws.length ≤ 2500) : Wr H0 (upd H N (.lst (refs (nts ++ [(W, ws)])))) p l I S N Pd n g st0 st (nts ++ [(W, ws)]) pnd lo := by
  have fr : ∀ b o, H b = some o → b ≠ N → upd H N (.lst (refs (nts ++ [(W, ws)]))) b = some o := fun b o e nb => by rw [upd_ne nb]; exact e
  have nt : ∀ {q : Addr} {xs : List V}, H q = some (.tup xs) → q ≠ N := fun hq => ne_of hq h.la.1 (by intro z; cases z)
  refine ⟨h.P.only Only.upd h.offp.2.1 h.offp.2.2, h.im.but fun q o e nx => fr _ _ e fun z => nx (.inr (.inr z)), h.ln, h.n5, h.dk, h.m0, h.l0, LA.put fun x m => ?_, fr _ _ h.pd h.NP.symm, fun x m => ?_, fr _ _ h.hS (nt h.hS), h.nN, h.nPd, h.NP, fun x m => ?_, fun b e => h.ol b (updn e).2⟩
  · rcases List.mem_append.mp m with m | m
    · exact h.la.2 x m
    · rw [List.mem_singleton.mp m]
      exact ⟨hW, WN⟩
  · obtain ⟨a1, a2, a3⟩ := h.pn x m
    exact ⟨⟨fr _ _ a1.T (nt a1.T), fr _ _ a1.t (nt a1.t), fr _ _ a1.o (fun z => by have := a1.o0; rw [z, h.nN] at this; cases this), a1.o0, a1.lo, a1.st, a1.wd, a1.dn, a1.r20⟩, a2, a3⟩
  · rcases List.mem_append.mp m with m | m
    · exact h.nt x m
    · rw [List.mem_singleton.mp m]
      exact ⟨nW, lw, WP⟩
end
/-! the law's own: the notes that are read -/
theorem plc_app (xs ys : List (List Int)) : plc (xs ++ ys) = plc xs ++ plc ys := by unfold plc; rw [List.flatMap_append]
theorem plc_pref (nts : List (List Int)) (j : Nat) : (plc (nts.take j)).length ≤ (plc nts).length := by
  conv => rhs; rw [← List.take_append_drop j nts]
  rw [plc_app, List.length_append]
  omega
theorem plc_step {nts : List (List Int)} {j : Nat} {ws : List Int} (h : nts[j]? = some ws) : plc (nts.take (j + 1)) = plc (nts.take j) ++ paysN ws := by
  rw [take_snoc h, plc_snoc]
theorem plc_mono (nts : List (List Int)) {i j : Nat} (h : i ≤ j) : (plc (nts.take i)).length ≤ (plc (nts.take j)).length := by
  have := plc_pref (nts.take j) i
  rw [List.take_take, Nat.min_eq_left h] at this
  exact this
theorem plc_at {nts : List (List Int)} {j k : Nat} {ws : List Int} (h : nts[j]? = some ws) (hk : k < plM ws.length) : (plc nts)[(plc (nts.take j)).length + k]? = some (payN ws k) := by
  have e : plc nts = plc (nts.take j) ++ (paysN ws ++ plc (nts.drop (j + 1))) := by
    conv => lhs; rw [← List.take_append_drop (j + 1) nts]
    rw [plc_app, plc_step h, List.append_assoc]
  rw [e, List.getElem?_append_right (by omega), Nat.add_sub_cancel_left, List.getElem?_append_left (by rw [paysN_len]; exact hk)]
  unfold paysN
  rw [List.getElem?_map, List.getElem?_range hk]
  rfl
theorem plc_items {nts : List (List Int)} {q : Nat} {ws : List Int} (h : (plc nts)[q]? = some ws) : 1 ≤ ws.length ∧ ws.length ≤ 1000 := by
  have m := List.mem_of_getElem? h
  unfold plc at m
  obtain ⟨n, _, m⟩ := List.mem_flatMap.mp m
  unfold paysN at m
  obtain ⟨k, _, rfl⟩ := List.mem_map.mp m
  exact payN_len n k
theorem rd_notes (nts : List (List Int)) : ∀ m, m ≤ (plc nts).length → ∃ j, j ≤ nts.length ∧ (rdS (fun q => (plc nts).getD q []) m).1 = nts.take j ∧ (plc (nts.take j)).length ≤ m ∧ (j < nts.length → m < (plc (nts.take (j + 1))).length) ∧
    (rdS (fun q => (plc nts).getD q []) m).2 = (nts.getD j []).take ((m - (plc (nts.take j)).length) * 999)
  | 0, _ => ⟨0, Nat.zero_le _, by rw [rdS, List.take_zero], by rw [List.take_zero]; exact Nat.le_refl _, fun h => by
      rw [plc_step (List.getElem?_eq_getElem h), List.length_append, paysN_len]
      have := plM_pos nts[0].length
      omega, by rw [rdS, Nat.zero_sub, Nat.zero_mul, List.take_zero]⟩
  | m + 1, hm => by
    obtain ⟨j, hj, e1, lo, hi, e2⟩ := rd_notes nts m (by omega)
    have jl : j < nts.length := by
      rcases Nat.lt_or_ge j nts.length with h | h
      · exact h
      · rw [List.take_of_length_le h] at lo
        omega
    have gj : nts[j]? = some nts[j] := List.getElem?_eq_getElem jl
    have hi := hi jl
    generalize nts[j] = ws at gj
    have gd : nts.getD j [] = ws := getD_item gj
    rw [plc_step gj, List.length_append, paysN_len] at hi
    obtain ⟨k, rfl⟩ : ∃ k, m = (plc (nts.take j)).length + k := ⟨m - (plc (nts.take j)).length, by omega⟩
    rw [Nat.add_sub_cancel_left, gd] at e2
    have fm : (plc nts).getD ((plc (nts.take j)).length + k) [] = payN ws k := getD_item (plc_at gj (by omega))
    have nx : ws.take (k * 999) ++ (payN ws k).drop 1 = ws.take ((k + 1) * 999) := by
      unfold payN
      rw [List.drop_succ_cons, List.drop_zero, Nat.succ_mul, List.take_add]
    have hd : (payN ws k).getD 0 0 = ((plM ws.length : Nat) : Int) - 1 - (k : Int) := rfl
    by_cases c : k + 1 = plM ws.length
    · refine ⟨j + 1, by omega, ?_, ?_, ?_, ?_⟩
      · rw [rdS, fm, hd, if_pos (by omega), e1, e2, nx]
        show nts.take j ++ [_] = _
        rw [take_snoc gj, show ws.take ((k + 1) * 999) = ws from List.take_of_length_le (by have := plM_hi ws.length; rw [c]; exact this)]
      · rw [plc_step gj, List.length_append, paysN_len]
        omega
      · intro h
        rw [plc_step (List.getElem?_eq_getElem h), List.length_append, paysN_len, plc_step gj, List.length_append, paysN_len]
        have := plM_pos nts[j + 1].length
        omega
      · rw [rdS, fm, hd, if_pos (by omega), plc_step gj, List.length_append, paysN_len]
        rw [show (plc (nts.take j)).length + k + 1 - ((plc (nts.take j)).length + plM ws.length) = 0 by omega, Nat.zero_mul, List.take_zero]
    · refine ⟨j, by omega, ?_, by omega, fun _ => ?_, ?_⟩
      · rw [rdS, fm, hd, if_neg (by omega), e1]
      · rw [plc_step gj, List.length_append, paysN_len]
        omega
      · rw [rdS, fm, hd, if_neg (by omega), e2, nx, gd]
        rw [show (plc (nts.take j)).length + k + 1 - (plc (nts.take j)).length = k + 1 by omega]
theorem first_gap (P : Nat → Prop) : ∀ N : Nat, ∃ m, m ≤ N ∧ (∀ q, q < m → P q) ∧ (m < N → ¬ P m)
  | 0 => ⟨0, Nat.le_refl _, fun _ h => absurd h (Nat.not_lt_zero _), fun h => absurd h (Nat.lt_irrefl _)⟩
  | N + 1 => by
    obtain ⟨m, h1, h2, h3⟩ := first_gap P N
    rcases Nat.lt_or_ge m N with h | h
    · exact ⟨m, by omega, h2, fun _ => h3 h⟩
    · have e : m = N := by omega
      subst e
      rcases Classical.em (P m) with hp | hp
      · refine ⟨m + 1, Nat.le_refl _, fun q hq => ?_, fun h => absurd h (Nat.lt_irrefl _)⟩
        rcases Nat.lt_or_ge q m with z | z
        · exact h2 q z
        · rw [show q = m by omega]; exact hp
      · exact ⟨m, by omega, h2, fun _ => hp⟩
/-- one disk is whole up to the flush -/
structure Wk (st : Sts) (t : Int × Int) (pl : List (List Int)) (kept fl : Nat) : Prop where
  r20 : ∀ (i : Nat) (dk : DkO), st[i]? = some (some dk) → dk.rows.length = 20
  any : ∀ d r sc, secS st d r = some sc → (∃ q ws, r = 2 + q ∧ pl[q]? = some ws ∧ Good sc.2 2 (d : Int) (r : Int) ∧ stampM sc.2 = t ∧ payM sc.2 = ws) ∨ stampM sc.2 = (1, 9)
  fsh : ∀ q ws, q < fl → pl[q]? = some ws → NtS st kept (2 + q) t ws
  wd : ∀ d r sc, secS st d r = some sc → ∀ w ∈ sc.2, Wd w
theorem Wk.out {st : Sts} {t : Int × Int} {pl : List (List Int)} {kept fl d : Nat} (h : Wk st t pl kept fl) (hd : d ≠ kept) {o : Option DkO} (ho : ∀ dk, o = some dk → dk.rows = List.replicate 20 none) : Wk (st.set d o) t pl kept fl := by
  have sec : ∀ i r sc, secS (st.set d o) i r = some sc → secS st i r = some sc := fun i r sc z => by
    by_cases c : i = d
    · exfalso
      rw [c] at z
      obtain ⟨dk, g, gr⟩ := sec_some z
      rcases setS_some g with ⟨_, y⟩ | ⟨y, _⟩
      · rw [ho dk y, List.getElem?_replicate] at gr
        split at gr <;> cases gr
      · exact y rfl
    · rw [setS_sec c] at z
      exact z
  refine ⟨fun i dk g => ?_, fun i r sc z => h.any i r sc (sec i r sc z), fun q ws hq hw => ?_, fun i r sc z => h.wd i r sc (sec i r sc z)⟩
  · rcases setS_some g with ⟨_, y⟩ | ⟨_, y⟩
    · rw [ho dk y, List.length_replicate]
    · exact h.r20 i dk y
  · obtain ⟨sc, z1, z2⟩ := h.fsh q ws hq hw
    exact ⟨sc, by rw [setS_sec fun z => hd z.symm]; exact z1, z2⟩
def blk20 : List (Option (Addr × List Int)) := List.replicate 20 none
theorem ImM.blank20 {H : Hp} {X : Addr → Prop} {I B : Addr} {st : Sts} (h : ImM H X I st) (d : Nat) (hB : H B = some (.lst (blk20.map rowV))) (Bx : ¬ mutS X I st B) (nr : ∀ (i : Nat) (dk : DkO) (r : Nat) (s : Addr × List Int), st[i]? = some (some dk) → dk.rows[r]? = some (some s) → s.1 ≠ B) : ImM (upd H I (.lst ((st.set d (some ⟨B, blk20⟩)).map dkV))) X I (st.set d (some ⟨B, blk20⟩)) := by
  have IB : I ≠ B := fun z => Bx (.inr (.inl z.symm))
  have kp : ∀ b o', H b = some o' → b ≠ I → upd H I (.lst ((st.set d (some ⟨B, blk20⟩)).map dkV)) b = some o' := fun b o' e n => by rw [upd_ne n]; exact e
  refine ⟨upd_same, h.ip, fun i dk g => ?_, fun i j dk dk' g1 g2 e => ?_, fun i dk r s g1 g2 => ?_⟩
  · rcases setS_some g with ⟨_, z⟩ | ⟨_, z⟩
    · cases z
      exact ⟨kp _ _ hB IB.symm, IB.symm, fun z => Bx (.inl z)⟩
    · have := h.hD i dk z
      exact ⟨kp _ _ this.1 this.2.1, this.2⟩
  · rcases setS_some g1 with ⟨e1, z1⟩ | ⟨n1, z1⟩
    · rcases setS_some g2 with ⟨e2, z2⟩ | ⟨n2, z2⟩
      · rw [e1, e2]
      · cases z1
        exact absurd (.inr (.inr ⟨j, dk', z2, e⟩)) Bx
    · rcases setS_some g2 with ⟨e2, z2⟩ | ⟨n2, z2⟩
      · cases z2
        exact absurd (.inr (.inr ⟨i, dk, z1, e.symm⟩)) Bx
      · exact h.hU i j dk dk' z1 z2 e
  · rcases setS_some g1 with ⟨_, z⟩ | ⟨_, z⟩
    · cases z
      unfold blk20 at g2
      rw [List.getElem?_replicate] at g2
      split at g2 <;> cases g2
    · obtain ⟨a1, a2, a3⟩ := h.hR i dk r s z g2
      refine ⟨kp _ _ a1 (fun y => a2 (.inr (.inl y))), fun y => ?_, a3⟩
      rcases y with y | y | y
      · exact a2 (.inl y)
      · exact a2 (.inr (.inl y))
      · rcases setS_dkS y with y | ⟨dk', y, y2⟩
        · exact a2 (.inr (.inr y))
        · cases y
          exact nr i dk r s z g2 y2
/-- how long the text is -/
theorem bulk_list {n : Nat} : ∀ {xs : List PyData}, (∀ x ∈ xs, x.bulk ≤ n) → PyData.bulkAll xs ≤ xs.length * (n + 1)
  | [], _ => by simp [PyData.bulkAll]
  | x :: xs, h => by
    have a := bulk_list fun y m => h y (List.mem_cons_of_mem _ m)
    have b := h x (by simp)
    have e : PyData.bulkAll (x :: xs) = x.bulk + 1 + PyData.bulkAll xs := by simp [PyData.bulkAll]
    rw [e, List.length_cons, Nat.succ_mul]
    omega
theorem bulk_l {n k : Nat} {xs : List PyData} (h : ∀ x ∈ xs, x.bulk ≤ n) (hk : xs.length * (n + 1) ≤ k) : (PyData.list xs).bulk ≤ k := by
  have := bulk_list h
  simp only [PyData.bulk]
  omega
theorem Rp.shownB {x : PyData} {k n : Nat} (h : Rp x k n) (hb : x.bulk ≤ 2 ^ 20) : x.shown.length ≤ sizeLine :=
  PyData.shown_fits_bulk (B := 13) (by decide) (by decide) (PyData.leavesShort_of_canLay0 13 x h.c h.s) hb
theorem rp_st24 {st : Sts} {t : Int × Int} {pl : List (List Int)} {kept fl : Nat} {H : Hp} {X : Addr → Prop} {I : Addr} (h : Wk st t pl kept fl) (im : ImM H X I st) (ls : st.length ≤ 5) : Rp (stD19 st) 3 100000000 ∧ (stD19 st).shown.length ≤ sizeLine := by
  have sec : ∀ o ∈ st, ∀ dk, o = some dk → ∀ y ∈ dk.rows.map scD, Rp y 1 20000 ∧ y.bulk ≤ 1008 := fun o mo dk e y my => by
    obtain ⟨i, hi⟩ := List.mem_iff_getElem?.mp mo
    rw [e] at hi
    obtain ⟨o, mo, rfl⟩ := List.mem_map.mp my
    obtain ⟨r, hr⟩ := List.mem_iff_getElem?.mp mo
    cases o with
    | none => exact ⟨rp_none.mono (by omega) (by omega), by simp [scD, PyData.bulk]⟩
    | some s =>
      have lw := (im.hR i dk r s hi hr).2.2
      have wd := h.wd i r s (by unfold secS; rw [hi]; show (dk.rows[r]?).join = _; rw [hr]; rfl)
      refine ⟨(rp_list (k := 0) (n := 17) (xs := s.2.map .int) fun x mx => ?_).mono (by omega) (by rw [List.length_map]; omega), bulk_l (n := 0) (fun x mx => ?_) (by rw [List.length_map]; omega)⟩
      · obtain ⟨w, mw, rfl⟩ := List.mem_map.mp mx
        exact rp_int (wd w mw)
      · obtain ⟨w, mw, rfl⟩ := List.mem_map.mp mx
        simp [PyData.bulk]
  have one : ∀ y ∈ st.map imD, Rp y 2 500000 ∧ y.bulk ≤ 20180 := fun y my => by
    obtain ⟨o, mo, rfl⟩ := List.mem_map.mp my
    cases o with
    | none => exact ⟨rp_none.mono (by omega) (by omega), by simp [imD, PyData.bulk]⟩
    | some dk =>
      obtain ⟨i, hi⟩ := List.mem_iff_getElem?.mp mo
      have z := sec _ mo dk rfl
      have lr := h.r20 i dk hi
      exact ⟨(rp_list fun y my => (z y my).1).mono (by omega) (by rw [List.length_map, lr]; omega), bulk_l (fun y my => (z y my).2) (by rw [List.length_map, lr]; omega)⟩
  have rp := (rp_list fun y my => (one y my).1).mono (k' := 3) (n' := 100000000) (by omega) (by rw [List.length_map]; omega)
  refine ⟨rp, Rp.shownB rp (Nat.le_trans (bulk_l (k := 5 * 20181) (fun y my => (one y my).2) ?_) (by decide))⟩
  rw [List.length_map]
  exact Nat.mul_le_mul ls (by omega)
/-- what is read -/
theorem wk_read {st : Sts} {n : Nat} {g : Int} {nts : List (List Int)} {kept fl : Nat} (h : Wk st (2, g) (plc nts) kept fl) (hk : kept < n) : ∃ (m j : Nat), m ≤ (plc nts).length ∧ (∀ q, q < m → RdP st (List.range n) (2, g) q (some ((plc nts).getD q []))) ∧ RdP st (List.range n) (2, g) m none ∧
    (rdS (fun q => (plc nts).getD q []) m).1 = nts.take j ∧ j ≤ nts.length ∧ (∀ fl', Wk st (2, g) (plc nts) kept fl' → fl' ≤ (plc nts).length → ∀ i, i ≤ nts.length → (plc (nts.take i)).length ≤ fl' → i ≤ j) := by
  have is : ∀ d q ws, NtS st d (2 + q) (2, g) ws → (plc nts)[q]? = some ws := fun d q ws ⟨sc, z1, z2, z3, z4⟩ => by
    rcases h.any d (2 + q) sc z1 with ⟨q', ws', y1, y2, _, _, y5⟩ | y
    · rw [show q = q' by omega, y2, ← y5, z4]
    · rw [y] at z3; cases z3
  obtain ⟨m, m1, m2, m3⟩ := first_gap (fun q => ∃ d, d < n ∧ ∃ ws, NtS st d (2 + q) (2, g) ws) (plc nts).length
  obtain ⟨j, j1, j2, j3, j4, _⟩ := rd_notes nts m m1
  refine ⟨m, j, m1, fun q hq => ?_, fun d md ws z => ?_, j2, j1, fun fl' h' hf i hi hp => ?_⟩
  · obtain ⟨d, hd, ws, z⟩ := m2 q hq
    have e := getD_item (d := ([] : List Int)) (is d q ws z)
    exact ⟨⟨d, List.mem_range.mpr hd, by rw [e]; exact z⟩, fun d' _ ws' z' => (getD_item (d := ([] : List Int)) (is d' q ws' z')).symm⟩
  · have hd := List.mem_range.mp md
    rcases Nat.lt_or_ge m (plc nts).length with c | c
    · exact m3 c ⟨d, hd, ws, z⟩
    · have := item_lt (is d m ws z)
      omega
  · rcases Nat.lt_or_ge j i with c | c
    · exfalso
      have j4 := j4 (by omega)
      have := plc_mono nts (show j + 1 ≤ i by omega)
      have ml : m < (plc nts).length := by omega
      have mf : m < fl' := by omega
      exact m3 ml ⟨kept, hk, _, h'.fsh m _ mf (List.getElem?_eq_getElem ml)⟩
    · exact c
theorem dp_la {K : PySem.W.Frag} {H : Hp} {R : Addr} {rows : List (Addr × List Int)} (h : LA H R rows) : Dp K H (.ref R) (.list ((snds rows).map rowD)) := by
  refine .lst (SqL.of h.1) ?_
  have : ∀ G : List (Addr × List Int), (∀ e ∈ G, H e.1 = some (.lst (e.2.map V.int))) → DpAll K H (refs G) ((snds G).map rowD) := by
    intro G hG
    induction G with
    | nil => exact .nil
    | cons e G ih => exact .cons (dp_ints (SqL.of (hG e (by simp)))) (ih fun x m => hG x (List.mem_cons_of_mem _ m))
  exact this rows fun e m => (h.2 e m).1
section
variable {P : Program} {w : World} {K : PySem.W.Frag} {mg : Str → Option Value} {base : Heap} {a : Ad}
theorem sc_is_present : FnScope ["images", "disk"] ["images", "disk"] (defScope s_is_present) := ⟨rfl, rfl, rfl, by decide +kernel, rfl, by decide +kernel, by decide +kernel⟩
theorem ok_is_present (T : Txt K mg a) : FnOk P w K mg base CX0 1 a.f_is_present a.d_is_present ["images", "disk"] (sp_is_present K a) := by
  refine T.F_is_present.ok sc_is_present (fun vs H Q E h => ?len) (fun cdv A outer s H vs Q E hr h => ?body)
  case len =>
    exact sp_is_present_len h
  case body =>
    obtain ⟨I, ims, d, rfl, hI, hl, k⟩ := h
    refine ⟨_, (pss_one (ps_ret (pe_and (pe_chain op_le op_lt pe_int (pv 1) (pe_callB call_len_seq (by rfl) T.n_len PySem.boot_len (pa_cons (pv 0) pa_nil))) (pe_one (pe_cmpR op_notN (pe_ix ix_list (pv 0) (pv 1) (fun _ _ => rfl)) pe_non (nomark _)))))), ?_⟩
    refine ⟨_, rfl, _, _, rfl, rfl, _, rfl, ite2 (fun _ => ⟨_, rfl, I, _, rfl, .inl hI, _, _, rfl, rfl, _, rfl, ite2 (fun b => ?_) (fun b => ?_)⟩) (fun a => absurd (decide_eq_true (show (0 : Int) ≤ (d : Int) by omega)) a)⟩
    · have b := of_decide_eq_true b
      rw [List.length_map] at b
      have hd : d < ims.length := by omega
      have hg : ims[d]? = some ims[d] := List.getElem?_eq_getElem hd
      refine ⟨_, rfl, _, rfl, I, _, _, _, rfl, rfl, hI, at_of (j := d) rfl (imgs_get hg), ?_⟩
      have e : presentM ims d = ims[d].isSome := by unfold presentM; rw [getD_item hg]
      rw [e] at k
      cases q : ims[d] with
      | none => rw [q] at k; exact ⟨rfl, k⟩
      | some x => rw [q] at k; exact ⟨rfl, k⟩
    · have e : presentM ims d = false := by
        unfold presentM
        rw [List.getD_eq_getElem?_getD, List.getElem?_eq_none (by
          have : ¬ (d : Int) < ((ims.map refI).length : Int) := fun z => b (decide_eq_true z)
          rw [List.length_map] at this
          omega)]
        rfl
      rw [e] at k
      exact k
theorem sc_check_words : FnScope ["words", "weighted", "at", "word"] ["words"] (defScope s_check_words) := ⟨rfl, rfl, rfl, by decide +kernel, rfl, by decide +kernel, by decide +kernel⟩
theorem ok_check_words (T : Txt K mg a) : FnOk P w K mg base CX0 1 a.f_check_words a.d_check_words ["words"] (sp_check_words K a) := by
  refine T.F_check_words.ok sc_check_words (fun vs H Q E h => ?len) (fun cdv A outer s H vs Q E hr h => ?body)
  case len =>
    exact sp_check_words_len h
  case body =>
    obtain ⟨l, ws, rfl, hS, hlen, k⟩ := h
    refine ⟨_, (pss_cons (ps_setLc (i := 1) (own := [("at", 2), ("word", 3)]) (g := (gTup K 2 (gCons (gName 2) (gCons (gName 3) gNil)))) (by rfl) sc_check_words.nd rfl rfl (sw_true rfl rfl rfl (by decide +kernel)) (pi_enumS (by rfl) T.n_enumerate (pa_cons (pv 0) pa_nil) (pk_cons pe_int pk_nil)) (blkOk_by (own := [("at", 2), ("word", 3)]) (N := ["words", "weighted", "at", "word"]) (sc := defScope s_check_words) (by decide +kernel))
      (fun _ _ _ _ _ => (pg_tup rfl (pgs_cons (pg_name (i := 2) sc_check_words.nd rfl (Or.inl rfl)) (pgs_cons (pg_name (i := 3) sc_check_words.nd rfl (Or.inl rfl)) pgs_nil)))) (fun _ _ _ _ _ => pts_nil) (fun _ _ _ _ _ => (pe_op op_mul (pv 2) (pv 3))))
      (pss_one (ps_ret (pe_tup (pa_cons (pe_op op_mod (pe_callB (cr_sum rfl) (by rfl) T.n_sum (by decide +kernel) (pa_cons (pv 0) pa_nil)) (pe_const T.g_PRIME)) (pa_cons (pe_op op_mod (pe_callB (cr_sum rfl) (by rfl) T.n_sum (by decide +kernel) (pa_cons (pv 1) pa_nil)) (pe_const T.g_PRIME)) pa_nil)))))), ?_⟩
    refine ⟨_, rfl, _, _, _, rfl, rfl, hS, by decide, by decide, fun D new => lc_it (walk_enumS (k := 1)) (fun i H' => Same H H' ∧ H' D = some (.lst (((wts ws).take i).map V.int))) ⟨Same.new new, upd_same⟩ (fun i H' _ q => q.1.seq hS) ?_ ?_⟩
    · rintro i y H1 H2 hi ⟨s1, hD⟩ ⟨t, u, v, rfl, ht, rfl, hu, hv⟩
      cases hu
      obtain ⟨c, hc, rfl⟩ := int_item hv
      have s2 : Same H1 (upd H1 t (.tup [V.int (1 + (i : Nat)), V.int c])) := Same.new ht
      rw [List.length_map] at hi
      refine ⟨t, _, rfl, SqT.of upd_same, rfl, _, _, rfl, _, _, rfl, rfl, ?_⟩
      refine ⟨rfl, _, rfl, _, rfl, _, _, rfl, rfl, .inl ⟨by omega, by omega⟩, _, s2 _ _ hD, small _ (by simp; omega), same_put (s1.trans s2) new, ?_⟩
      have g : (wts ws)[i]? = some ((1 + (i : Int)) * c) := by
        unfold wts
        rw [List.getElem?_map, List.getElem?_range hi]
        show some (_ * ws.getD i 0) = _
        rw [getD_item hc]
      rw [upd_same, take_snoc g, List.map_append]
      rfl
    rintro H1 ⟨s1, hD⟩
    rw [List.take_of_length_le (by simp [wts])] at hD
    refine ⟨_, rfl, l, ws, rfl, s1.seq hS, _, _, rfl, rfl, (by show (0 : Int) < 65521; decide), ?_⟩
    refine ⟨_, rfl, D, _, rfl, SqL.of hD, _, _, rfl, rfl, (by show (0 : Int) < 65521; decide), ?_⟩
    refine ⟨by show 2 ≤ sizeLine; decide, fun D2 n2 => k D2 _ (s1.trans (Same.new n2)) ?_ upd_same⟩
    exact Classical.byContradiction fun q => by
      cases q' : H D2 with
      | none => exact q q'
      | some o => rw [s1 _ _ q'] at n2; cases n2
theorem sc_is_place : FnScope ["kind", "disk", "row"] ["kind", "disk", "row"] (defScope s_is_place) := ⟨rfl, rfl, rfl, by decide +kernel, rfl, by decide +kernel, by decide +kernel⟩
theorem ok_is_place (T : Txt K mg a) : FnOk P w K mg base CX0 1 a.f_is_place a.d_is_place ["kind", "disk", "row"] (sp_is_place K a) := by
  refine T.F_is_place.ok sc_is_place (fun vs H Q E h => ?len) (fun cdv A outer s H vs Q E hr h => ?body)
  case len =>
    exact sp_is_place_len h
  case body =>
    obtain ⟨k, d, r, rfl, h1, h2⟩ := h
    refine ⟨_, (pss_one (ps_ret (pe_and (pe_chain op_le op_le (pe_const T.g_LABEL) (pv 0) (pe_const T.g_PIECE)) (pe_and (pe_chain op_le op_lt pe_int (pv 1) (pe_const T.g_MAX_DISKS)) (pe_one (pe_chain op_le op_lt pe_int (pv 2) (pe_const T.g_MAX_ROWS))))))), ?_⟩
    refine ⟨_, rfl, _, _, rfl, rfl, _, rfl, ite2 (fun a1 => ⟨_, _, rfl, rfl, _, rfl, ite2 (fun a2 => ?_) (fun a2 => h2 fun z => a2 (decide_eq_true z.1.2))⟩) (fun a1 => ⟨_, rfl, iteF (h2 fun z => a1 (decide_eq_true z.1.1))⟩)⟩
    have a1 := of_decide_eq_true a1
    have a2 := of_decide_eq_true a2
    refine ⟨_, rfl, _, _, rfl, rfl, _, rfl, ite2 (fun b1 => ⟨_, _, rfl, rfl, _, rfl, ite2 (fun b2 => ?_) (fun b2 => h2 fun z => b2 (decide_eq_true z.2.1.2))⟩) (fun b1 => ⟨_, rfl, iteF (h2 fun z => b1 (decide_eq_true z.2.1.1))⟩)⟩
    have b1 := of_decide_eq_true b1
    have b2 := of_decide_eq_true b2
    refine ⟨_, rfl, _, _, rfl, rfl, _, rfl, ite2 (fun c1 => ⟨_, _, rfl, rfl, ?_⟩) (fun c1 => h2 fun z => c1 (decide_eq_true z.2.2.1))⟩
    have c1 := of_decide_eq_true c1
    show Q (.bl (decide (r < 4000))) H
    by_cases c2 : r < 4000
    · rw [decide_eq_true c2]
      exact h1 ⟨⟨a1, a2⟩, ⟨b1, b2⟩, ⟨c1, c2⟩⟩
    · rw [decide_eq_false c2]
      exact h2 fun z => c2 z.2.2.2
theorem sc_note_places : FnScope ["words"] ["words"] (defScope s_note_places) := ⟨rfl, rfl, rfl, by decide +kernel, rfl, by decide +kernel, by decide +kernel⟩
theorem ok_note_places (T : Txt K mg a) : FnOk P w K mg base CX0 1 a.f_note_places a.d_note_places ["words"] (sp_note_places K a) := by
  refine T.F_note_places.ok sc_note_places (fun vs H Q E h => ?len) (fun cdv A outer s H vs Q E hr h => ?body)
  case len =>
    exact sp_note_places_len h
  case body =>
    obtain ⟨W, ws, rfl, hW, lw, k⟩ := h
    refine ⟨_, (pss_one (ps_ret (pe_callB (call_max2 rfl) (by rfl) T.n_max (by decide +kernel) (pa_cons pe_int (pa_cons (pe_op op_fdiv (pe_op op_sub (pe_op op_add (pe_callB call_len_seq (by rfl) T.n_len PySem.boot_len (pa_cons (pv 0) pa_nil)) (pe_const T.g_PLACE_WORDS)) pe_int) (pe_const T.g_PLACE_WORDS)) pa_nil))))), ?_⟩
    refine ⟨_, rfl, W, _, rfl, .inl hW, _, _, rfl, rfl, _, _, rfl, rfl, _, _, rfl, rfl, ⟨by decide, by decide⟩, _, _, rfl, ?_⟩
    rw [List.length_map]
    have e : (if ((ws.length : Nat) + (999 : Int) - 1) / 999 > 1 then ((ws.length : Nat) + (999 : Int) - 1) / 999 else 1) = ((plM ws.length : Nat) : Int) := by
      unfold plM
      have h1 : ((ws.length : Nat) + (999 : Int) - 1) / 999 = (((ws.length + 998) / 999 : Nat) : Int) := by omega
      rw [h1]
      split <;> omega
    rw [e]
    exact k
theorem sc_law_pot : FnScope ["script", "seed", "cell"] ["script"] (defScope s_law_pot) := ⟨rfl, rfl, rfl, by decide +kernel, rfl, by decide +kernel, by decide +kernel⟩
theorem ok_law_pot (T : Txt K mg a) : FnOk P w K mg base CX0 1 a.f_law_pot a.d_law_pot ["script"] (sp_law_pot K a) := by
  refine T.F_law_pot.ok sc_law_pot (fun vs H Q E h => ?len) (fun cdv A outer s H vs Q E hr h => ?body)
  case len =>
    exact sp_law_pot_len h
  case body =>
    obtain ⟨s, ns, rfl, hS, hlen, k⟩ := h
    refine ⟨_, (pss_cons (ps_set (i := 1) sc_law_pot.nd rfl (Or.inl rfl) pe_int)
      (pss_cons (ps_for PassesOwn.never rfl (pi_list (pv 0)) (pg_name (i := 2) sc_law_pot.nd rfl (Or.inl rfl))
      (pss_one (ps_set (i := 1) sc_law_pot.nd rfl (Or.inl rfl) (pe_op op_mod (pe_callTy call_int1 (by rfl) T.n_int (by decide +kernel) (pa_cons (pe_op op_add (pe_op op_mul (pv 1) pe_int) (pv 2)) pa_nil)) pe_int))))
      (pss_one (ps_ret (pe_lst (pa_cons (pe_callTy call_list_of (by rfl) T.n_list (by decide +kernel) (pa_cons (pv 0) pa_nil)) (pa_cons pe_int (pa_cons pe_int (pa_cons (pv 1) pa_nil))))))))), ?_⟩
    refine ⟨_, rfl, s, rfl, ⟨_, hS⟩, for_list (K := K) (a := s) (xs := ns.map V.int) (fun i σ H' => ∃ (z : Int) (v : Option V), σ = [some (.ref s), some (.int z), v] ∧ 0 ≤ z ∧ z < 2147483647 ∧ H' = H)
      ⟨1, none, rfl, by decide, by decide, rfl⟩ (fun i σ H' _ ⟨_, _, _, _, _, e⟩ => by rw [e]; exact hS) ?_ ?_⟩
    · rintro i y σ H' hi ⟨z, v, rfl, z0, z1, rfl⟩
      obtain ⟨c, hc, rfl⟩ := int_item hi
      refine ⟨_, rfl, _, _, rfl, rfl, .inl ⟨by omega, by omega⟩, _, rfl, _, _, rfl, rfl, .inl ⟨_, rfl, _, _, rfl, rfl, (by show (0 : Int) < 2147483647; decide), ?_⟩⟩
      exact ⟨_, _, rfl, Int.emod_nonneg _ (by decide), Int.emod_lt_of_pos _ (by decide), rfl⟩
    · rintro σ H' ⟨z, v, rfl, z0, z1, rfl⟩
      refine ⟨_, rfl, s, _, rfl, .inl hS, fun l hl => ?_⟩
      refine ⟨_, rfl, (by show 4 ≤ sizeLine; decide), fun p hp => ?_⟩
      have npl : l ≠ p := fun e => by subst e; rw [upd_same] at hp; cases hp
      have hp0 : H' p = none := by rw [upd_ne npl.symm] at hp; exact hp
      refine k p l _ hp0 hl (fun b o e => ?_) ⟨ns, 0, 0, z, upd_same, by rw [upd_ne npl, upd_same], by decide, by decide, z0, z1⟩
      rw [upd_ne (ne_of_none e hp0), upd_ne (ne_of_none e hl)]
      exact e
theorem sc_law_next : FnScope ["pot", "limit", "cell", "found", "mixed"] ["pot", "limit"] (defScope s_law_next) := ⟨rfl, rfl, rfl, by decide +kernel, rfl, by decide +kernel, by decide +kernel⟩
theorem ok_law_next (T : Txt K mg a) : FnOk P w K mg base CX0 1 a.f_law_next a.d_law_next ["pot", "limit"] (sp_law_next K a) := by
  refine T.F_law_next.ok sc_law_next (fun vs H Q E h => ?len) (fun cdv A outer s H vs Q E hr h => ?body)
  case len =>
    exact sp_law_next_len h
  case body =>
    obtain ⟨p, l, m, rfl, hP, m0, m1, k⟩ := h
    obtain ⟨ns, i, acc, seed, h1, h2, i0, acc0, s0, s1⟩ := id hP
    have nlp := hP.ne
    have mod0 : ∀ x : Int, 0 ≤ x % m := fun x => Int.emod_nonneg _ (by omega)
    have mod1 : ∀ x : Int, x % m < m := fun x => Int.emod_lt_of_pos _ m0
    have mW : m.natAbs < 2 ^ 400 := m1
    refine ⟨_, (Evl.pss_cut (ps_if (PW.pt (pw_and (pt_cmpR op_eq (pe_ix ix_list (pv 0) pe_int (fun _ _ => rfl)) pe_int (nomark _)) (pw_and1 (pt_cmpR op_lt (pe_ix ix_list (pv 0) pe_int (fun _ _ => rfl)) (pe_callB call_len_seq (by rfl) T.n_len PySem.boot_len (pa_cons (pe_ix ix_list (pv 0) pe_int (fun _ _ => rfl)) pa_nil)) (nomark _)))))
      (pss_cons (ps_set (i := 2) sc_law_next.nd rfl (Or.inl rfl) (pe_callB call_abs (by rfl) T.n_abs (by decide +kernel) (pa_cons (pe_callTy call_int1 (by rfl) T.n_int (by decide +kernel) (pa_cons (pe_ix ix_list (pe_ix ix_list (pv 0) pe_int (fun _ _ => rfl)) (pe_ix ix_list (pv 0) pe_int (fun _ _ => rfl)) (fun _ _ => rfl)) pa_nil)) pa_nil)))
      (pss_cons (ps_asg (pe_op op_add (pe_ix ix_list (pv 0) pe_int (fun _ _ => rfl)) pe_int) (pg_sub (pv 0) pe_int set_list))
      (pss_cons (ps_if (pt_cmpR op_lt (pv 2) (pe_op op_pow pe_int pe_int) (nomark _))
      (pss_one (ps_ret (pe_op op_mod (pe_callTy call_int1 (by rfl) T.n_int (by decide +kernel) (pa_cons (pv 2) pa_nil)) (pv 1))))
      pss_nil)
      (pss_one (ps_asg (pv 2) (pg_sub (pv 0) pe_int set_list))))))
      pss_nil)
      (pss_cons (ps_if (pt_cmpR op_gt (pe_ix ix_list (pv 0) pe_int (fun _ _ => rfl)) pe_int (nomark _))
      (pss_cons (ps_set (i := 3) sc_law_next.nd rfl (Or.inl rfl) (pe_op op_mod (pe_callTy call_int1 (by rfl) T.n_int (by decide +kernel) (pa_cons (pe_ix ix_list (pv 0) pe_int (fun _ _ => rfl)) pa_nil)) (pv 1)))
      (pss_cons (ps_asg (pe_op op_fdivW (pe_ix ix_list (pv 0) pe_int (fun _ _ => rfl)) (pv 1)) (pg_sub (pv 0) pe_int set_list))
      (pss_one (ps_ret (pv 3)))))
      pss_nil)
      (pss_cons (ps_asg (pe_op op_mod (pe_callTy call_int1 (by rfl) T.n_int (by decide +kernel) (pa_cons (pe_op op_add (pe_op op_mul (pe_ix ix_list (pv 0) pe_int (fun _ _ => rfl)) pe_int) pe_int) pa_nil)) pe_int) (pg_sub (pv 0) pe_int set_list))
      (pss_cons (ps_set (i := 4) sc_law_next.nd rfl (Or.inl rfl) (pe_op op_mod (pe_callTy call_int1 (by rfl) T.n_int (by decide +kernel) (pa_cons (pe_op op_add (pe_op op_mul (pe_ix ix_list (pv 0) pe_int (fun _ _ => rfl)) pe_int) (pe_op op_fdiv (pe_ix ix_list (pv 0) pe_int (fun _ _ => rfl)) pe_int)) pa_nil)) pe_int))
      (pss_one (ps_ret (pe_op op_mod (pe_callTy call_int1 (by rfl) T.n_int (by decide +kernel) (pa_cons (pv 4) pa_nil)) (pv 1)))))))), ?_⟩
    refine ⟨fun σ H' => ∃ (u : Option V) (i' acc' : Int), σ = [some (.ref p), some (.int m), u, none, none] ∧ H' p = some (.lst [.ref l, .int i', .int acc', .int seed]) ∧ 0 ≤ i' ∧ 0 ≤ acc' ∧ Only p H H', ?_, ?_⟩
    · -- if pot[2] == 0 and pot[1] < len(pot[0])
      refine ⟨_, rfl, p, _, _, _, rfl, rfl, SqL.of h1, at_of (j := 2) rfl rfl, rfl, _, rfl, ?_⟩
      refine ite2 (fun e2 => ?_) (fun e2 => iteF ⟨none, i, acc, rfl, h1, i0, acc0, Only.refl⟩)
      refine ⟨_, rfl, p, _, _, _, rfl, rfl, SqL.of h1, at_of (j := 1) rfl rfl, _, rfl, p, _, _, _, rfl, rfl, SqL.of h1, at_of (j := 0) rfl rfl, l, _, rfl, .inl (SqL.of h2), _, _, rfl, rfl, _, rfl, ?_⟩
      refine ite2 (fun e3 => ?_) (fun e3 => ⟨none, i, acc, rfl, h1, i0, acc0, Only.refl⟩)
      have i1 : i < (ns.length : Int) := by
        have := of_decide_eq_true e3
        rw [List.length_map] at this
        exact this
      obtain ⟨j, rfl⟩ : ∃ j : Nat, i = (j : Int) := ⟨i.toNat, by omega⟩
      have hj : j < ns.length := by omega
      have hit : (ns.map V.int)[j]? = some (V.int ns[j]) := by rw [List.getElem?_map, List.getElem?_eq_getElem hj]; rfl
      -- cell = abs(int(pot[0][pot[1]])); pot[1] = pot[1] + 1
      refine ⟨_, rfl, p, _, _, _, rfl, rfl, SqL.of h1, at_of (j := 0) rfl rfl, _, rfl, p, _, _, _, rfl, rfl, SqL.of h1, at_of (j := 1) rfl rfl, l, _, _, _, rfl, rfl, SqL.of h2, at_of (j := j) rfl hit, .inl ⟨_, rfl, _, rfl, ?_⟩⟩
      have abs0 : 0 ≤ (if ns[j] < 0 then -ns[j] else ns[j]) := by split <;> omega
      generalize (if ns[j] < 0 then -ns[j] else ns[j]) = c at abs0 ⊢
      refine ⟨_, rfl, p, _, _, _, rfl, rfl, SqL.of h1, at_of (j := 1) rfl rfl, _, _, rfl, rfl, _, rfl, p, _, _, 1, rfl, rfl, h1, rfl, ?_⟩
      have g1 : upd H p (.lst (List.set [V.ref l, V.int (j : Int), V.int acc, V.int seed] 1 (V.int ((j : Int) + 1)))) p = some (.lst [.ref l, .int ((j : Int) + 1), .int acc, .int seed]) := upd_same
      -- if cell < 10 ** 18: return int(cell) % limit
      refine ⟨_, rfl, _, _, rfl, rfl, ⟨by decide, by decide, by decide⟩, _, _, rfl, rfl, _, rfl, ?_⟩
      refine ite2 (fun e4 => ?_) (fun e4 => ?_)
      · refine ⟨_, rfl, .inl ⟨_, rfl, _, rfl, _, _, rfl, rfl, m0, ?_⟩⟩
        exact k _ _ (mod0 _) (mod1 _) ⟨ns, _, _, _, g1, by rw [upd_ne nlp]; exact h2, by omega, acc0, s0, s1⟩ Only.upd
      · -- pot[2] = cell
        refine ⟨_, rfl, _, rfl, p, _, _, 2, rfl, rfl, g1, rfl, ?_⟩
        exact ⟨_, (j : Int) + 1, c, rfl, upd_same, by omega, abs0, Only.upd.trans Only.upd⟩
    · rintro σ H' ⟨u, i', acc', rfl, g1, i0', acc0', oH⟩
      have g2 : H' l = some (.lst (ns.map V.int)) := by rw [oH _ nlp]; exact h2
      -- if pot[2] > 0
      refine ⟨_, rfl, p, _, _, _, rfl, rfl, SqL.of g1, at_of (j := 2) rfl rfl, _, _, rfl, rfl, _, rfl, ?_⟩
      refine ite2 (fun e2 => ?_) (fun e2 => ?_)
      · refine ⟨_, rfl, p, _, _, _, rfl, rfl, SqL.of g1, at_of (j := 2) rfl rfl, .inl ⟨_, rfl, _, rfl, _, _, rfl, rfl, m0, ?_⟩⟩
        refine ⟨_, rfl, p, _, _, _, rfl, rfl, SqL.of g1, at_of (j := 2) rfl rfl, _, rfl, _, _, rfl, rfl, wide_div m0 mW (by decide) (by decide), _, rfl, p, _, _, 2, rfl, rfl, g1, rfl, ?_⟩
        refine ⟨_, rfl, ?_⟩
        exact k _ _ (mod0 _) (mod1 _) ⟨ns, i', acc' / m, seed, upd_same, by rw [upd_ne nlp]; exact g2, i0', Int.ediv_nonneg acc0' (by omega), s0, s1⟩ (oH.trans Only.upd)
      · -- pot[3] = int(pot[3] * 48271 + 12345) % 2147483647
        refine ⟨_, rfl, p, _, _, _, rfl, rfl, SqL.of g1, at_of (j := 3) rfl rfl, _, _, rfl, rfl, .inl ⟨by omega, by omega⟩, _, _, rfl, rfl, .inl ⟨_, rfl, _, _, rfl, rfl, (by show (0 : Int) < 2147483647; decide), ?_⟩⟩
        have t0 := Int.emod_nonneg (seed * 48271 + 12345) (show (2147483647 : Int) ≠ 0 by decide)
        have t1 := Int.emod_lt_of_pos (seed * 48271 + 12345) (show (0 : Int) < 2147483647 by decide)
        refine ⟨_, rfl, p, _, _, 3, rfl, rfl, g1, rfl, ?_⟩
        have g3 : upd H' p (.lst (List.set [V.ref l, V.int i', V.int acc', V.int seed] 3 (V.int ((seed * 48271 + 12345) % 2147483647)))) p = some (.lst [.ref l, .int i', .int acc', .int ((seed * 48271 + 12345) % 2147483647)]) := upd_same
        refine ⟨_, rfl, p, _, _, _, rfl, rfl, SqL.of g3, at_of (j := 3) rfl rfl, _, _, rfl, rfl, .inl ⟨by omega, by omega⟩, _, rfl, p, _, _, _, rfl, rfl, SqL.of g3, at_of (j := 3) rfl rfl, _, _, rfl, rfl, ⟨by decide, by decide⟩, _, _, rfl, rfl, .inl ⟨_, rfl, _, _, rfl, rfl, (by show (0 : Int) < 2147483629; decide), ?_⟩⟩
        refine ⟨_, rfl, .inl ⟨_, rfl, _, rfl, _, _, rfl, rfl, m0, ?_⟩⟩
        exact k _ _ (mod0 _) (mod1 _) ⟨ns, _, _, _, g3, by rw [upd_ne nlp]; exact g2, i0', acc0', t0, t1⟩ (oH.trans Only.upd)
theorem sc_law_seal : FnScope ["kind", "disk", "row", "stamp", "payload", "words", "first", "second", "k"] ["kind", "disk", "row", "stamp", "payload"] (defScope s_law_seal) := ⟨rfl, rfl, rfl, by decide +kernel, rfl, by decide +kernel, by decide +kernel⟩
theorem ok_law_seal (T : Txt K mg a) : FnOk P w K mg base CX0 1 a.f_law_seal a.d_law_seal ["kind", "disk", "row", "stamp", "payload"] (sp_law_seal K a) := by
  refine T.F_law_seal.ok sc_law_seal (fun vs H Q E h => ?len) (fun cdv A outer s H vs Q E hr h => ?body)
  case len =>
    exact sp_law_seal_len h
  case body =>
    obtain ⟨kd, d, r, st, pl, e, s', ws, rfl, hT, hS, hlen, k⟩ := h
    refine ⟨_, (pss_cons (ps_set (i := 5) sc_law_seal.nd rfl (Or.inr rfl) (pe_op op_cat (pe_lst (pa_cons (pv 0) (pa_cons (pv 1) (pa_cons (pv 2) (pa_cons (pe_ix ix_tup (pv 3) pe_int (fun _ _ => rfl)) (pa_cons (pe_op op_fdiv (pe_ix ix_tup (pv 3) pe_int (fun _ _ => rfl)) pe_int) (pa_cons (pe_op op_mod (pe_callTy call_int1 (by rfl) T.n_int (by decide +kernel) (pa_cons (pe_ix ix_tup (pv 3) pe_int (fun _ _ => rfl)) pa_nil)) pe_int) pa_nil))))))) (pv 4)))
      (pss_cons (ps_set (i := 6) sc_law_seal.nd rfl (Or.inl rfl) (pe_callB (cr_sum rfl) (by rfl) T.n_sum (by decide +kernel) (pa_cons (pv 5) pa_nil)))
      (pss_cons (ps_set (i := 7) sc_law_seal.nd rfl (Or.inl rfl) (pe_callB (cr_sum rfl) (by rfl) T.n_sum (by decide +kernel) (pa_cons (pe_lc (own := [("k", 8)]) (g := (gName 8)) (by rfl) sc_law_seal.nd (pi_range1 (by rfl) T.n_range (pa_cons (pe_callB call_len_seq (by rfl) T.n_len PySem.boot_len (pa_cons (pv 5) pa_nil)) pa_nil)) (blkOk_by (own := [("k", 8)]) (N := ["kind", "disk", "row", "stamp", "payload", "words", "first", "second", "k"]) (sc := defScope s_law_seal) (by decide +kernel))
      (fun _ _ _ _ _ => (pg_name (i := 8) sc_law_seal.nd rfl (Or.inl rfl))) (fun _ _ _ _ _ => pts_nil) (fun _ _ _ _ _ => (pe_op op_mul (pe_op op_add (pv 8) pe_int) (pe_ix (by exact ix_list : IxR _ (rIxL K)) (pv 5) (pv 8) (fun _ _ => rfl))))) pa_nil)))
      (pss_one (ps_ret (pe_op op_cat (pv 5) (pe_lst (pa_cons (pe_op op_mod (pe_callTy call_int1 (by rfl) T.n_int (by decide +kernel) (pa_cons (pv 6) pa_nil)) pe_int) (pa_cons (pe_op op_mod (pe_callTy call_int1 (by rfl) T.n_int (by decide +kernel) (pa_cons (pv 7) pa_nil)) pe_int) pa_nil))))))))), ?_⟩
    refine ⟨_, rfl, _, rfl, _, rfl, _, rfl, st, _, _, _, rfl, rfl, hT, at_of (j := 0) rfl rfl, ?_⟩
    refine ⟨_, rfl, st, _, _, _, rfl, rfl, hT, at_of (j := 1) rfl rfl, _, _, rfl, rfl, ⟨by decide, by decide⟩, _, rfl, st, _, _, _, rfl, rfl, hT, at_of (j := 1) rfl rfl, .inl ⟨_, rfl, _, _, rfl, rfl, (by show (0 : Int) < 65521; decide), ?_⟩⟩
    refine ⟨by show 6 ≤ sizeLine; decide, fun q1 n1 => ?_⟩
    have S1 := Same.new (o := .lst [V.int kd, .int d, .int r, .int e, .int (s' / 65521), .int (s' % 65521)]) n1
    refine ⟨_, rfl, q1, pl, _, _, rfl, rfl, upd_same, S1 _ _ hS, Nat.le_of_lt (small _ (by simp; omega)), fun q2 n2 => ?_⟩
    have ew : [V.int kd, .int d, .int r, .int e, .int (s' / 65521), .int (s' % 65521)] ++ ws.map V.int = (hdM kd d r e s' ws).map V.int := by unfold hdM; rw [List.map_append]; rfl
    rw [ew]
    have S2 := S1.trans (Same.new (o := .lst ((hdM kd d r e s' ws).map V.int)) n2)
    have dW : upd (upd H q1 (.lst [V.int kd, .int d, .int r, .int e, .int (s' / 65521), .int (s' % 65521)])) q2 (.lst ((hdM kd d r e s' ws).map V.int)) q2 = some (.lst ((hdM kd d r e s' ws).map V.int)) := upd_same
    have hl := hdM_length kd d r e s' ws
    generalize hG : hdM kd d r e s' ws = W at dW hl S2 ⊢
    generalize upd (upd H q1 (.lst [V.int kd, .int d, .int r, .int e, .int (s' / 65521), .int (s' % 65521)])) q2 (.lst (W.map V.int)) = H2 at dW S2 ⊢
    refine ⟨_, rfl, q2, W, rfl, SqL.of dW, ?_⟩
    refine ⟨_, rfl, q2, _, rfl, .inl (SqL.of dW), _, rfl, by omega, by rw [List.length_map]; omega, fun C nC => ?_⟩
    rw [List.length_map, Int.toNat_natCast]
    refine lc_it walk_range (fun i H' => Same H2 H' ∧ H' C = some (.lst (((wts W).take i).map V.int))) ⟨Same.new nC, upd_same⟩ (fun _ _ _ _ => True.intro) ?_ ?_
    · rintro i y H3 H4 hi ⟨s3, hC⟩ ⟨rfl, rfl⟩
      have hc : W[i]? = some W[i] := List.getElem?_eq_getElem hi
      refine ⟨rfl, _, rfl, _, _, rfl, rfl, _, rfl, _, rfl, q2, _, _, _, rfl, rfl, SqL.of (s3 _ _ dW), at_of (j := i) (by omega) (by rw [List.getElem?_map, hc]; rfl), _, _, rfl, rfl, .inl ⟨by omega, by omega⟩, _, hC, small _ (by simp; omega), same_put s3 nC, ?_⟩
      have g : (wts W)[i]? = some ((1 + (i : Int)) * W[i]) := by
        unfold wts
        rw [List.getElem?_map, List.getElem?_range hi]
        show some (_ * W.getD i 0) = _
        rw [getD_item hc]
      rw [upd_same, take_snoc g, List.map_append]
      show some (HO.lst (_ ++ [V.int ((0 + (i : Int) + 1) * W[i])])) = _
      rw [show 0 + (i : Int) + 1 = 1 + (i : Int) by omega]
      rfl
    rintro H3 ⟨s3, hC⟩
    rw [List.take_of_length_le (by simp [wts])] at hC
    refine ⟨C, wts W, rfl, SqL.of hC, ?_⟩
    have dW3 := s3 _ _ dW
    refine ⟨_, rfl, _, rfl, .inl ⟨_, rfl, _, _, rfl, rfl, (by show (0 : Int) < 65521; decide), ?_⟩⟩
    refine ⟨_, rfl, .inl ⟨_, rfl, _, _, rfl, rfl, (by show (0 : Int) < 65521; decide), ?_⟩⟩
    refine ⟨by show 2 ≤ sizeLine; decide, fun q3 n3 => ?_⟩
    have S3 := Same.new (o := .lst [V.int (ck1 W), .int (ck2 W)]) n3
    refine ⟨q2, q3, _, _, rfl, rfl, S3 _ _ dW3, upd_same, Nat.le_of_lt (small _ (by simp; omega)), fun q4 n4 => ?_⟩
    have S4 := Same.new (o := .lst (W.map V.int ++ [V.int (ck1 W), .int (ck2 W)])) n4
    have n0 : H q4 = none := same_none ((S2.trans s3).trans S3) n4
    refine k q4 _ (((S2.trans s3).trans S3).trans S4) n0 ?_
    rw [upd_same]
    unfold sealM
    rw [hG, List.map_append]
    rfl
theorem sc_sector_at : FnScope ["images", "disk", "row"] ["images", "disk", "row"] (defScope s_sector_at) := ⟨rfl, rfl, rfl, by decide +kernel, rfl, by decide +kernel, by decide +kernel⟩
theorem ok_sector_at (T : Txt K mg a) : FnOk P w K mg base CX0 2 a.f_sector_at a.d_sector_at ["images", "disk", "row"] (sp_sector_at K a) := by
  refine T.F_sector_at.ok sc_sector_at (fun vs H Q E h => ?len) (fun cdv A outer s H vs Q E hr h => ?body)
  case len =>
    exact sp_sector_at_len h
  case body =>
    obtain ⟨X, I, st, d, r, rfl, hI, ls, lr, k⟩ := h
    refine ⟨_, (pss_cons (ps_if (PW.pt (pw_or (pt_not (pt_val (pe_call (ok_is_present T) (hr.mono (by decide)) rfl T.g_is_present T.F_is_present.kp T.d_is_present .nil pass0 (pa_cons (pv 0) (pa_cons (pv 1) pa_nil))))) (pw_or1 (pt_not (pt_chain op_le op_lt pe_int (pv 2) (pe_callB call_len_seq (by rfl) T.n_len PySem.boot_len (pa_cons (pe_ix ix_list (pv 0) (pv 1) (fun _ _ => rfl)) pa_nil)))))))
      (pss_one (ps_ret pe_non))
      pss_nil)
      (pss_one (ps_ret (pe_ix ix_list (pe_ix ix_list (pv 0) (pv 1) (fun _ _ => rfl)) (pv 2) (fun _ _ => rfl))))), ?_⟩
    have hq : SqL K H I ((adrs st).map refI) := by rw [adrs_refI]; exact SqL.of hI.hI
    refine ⟨_, rfl, _, rfl, I, adrs st, d, rfl, hq, by unfold adrs; rw [List.length_map]; exact ls, ?_⟩
    have hp := adrs_pres st d
    cases e : presentM (adrs st) d with
    | false =>
      refine ⟨_, rfl, iteT ?_⟩
      have : secV st d r = .non := by
        unfold secV secS
        cases g : st[d]? with
        | none => rfl
        | some o => cases o with
          | none => rfl
          | some dk =>
            rw [hp.mpr ⟨dk, g⟩] at e
            cases e
      rw [this] at k
      exact k
    | true =>
      obtain ⟨dk, g⟩ := hp.mp e
      have hD := (hI.hD d dk g).1
      refine ⟨_, rfl, iteF ?_⟩
      refine ⟨_, rfl, _, _, rfl, rfl, _, rfl, ite2 (fun _ => ?_) (fun a => absurd (decide_eq_true (show (0 : Int) ≤ (r : Int) by omega)) a)⟩
      refine ⟨_, rfl, _, rfl, I, _, _, _, rfl, rfl, SqL.of hI.hI, at_of (j := d) rfl (dk_get g), dk.A, _, rfl, .inl (SqL.of hD), _, _, rfl, rfl, _, rfl, ?_⟩
      have es : secS st d r = (dk.rows[r]?).join := by unfold secS; rw [g]
      by_cases hr' : r < dk.rows.length
      · rw [decide_eq_true (show (r : Int) < ((dk.rows.map rowV).length : Nat) by rw [List.length_map]; omega)]
        have gr : dk.rows[r]? = some dk.rows[r] := List.getElem?_eq_getElem hr'
        refine iteF ⟨_, rfl, _, rfl, I, _, _, _, rfl, rfl, SqL.of hI.hI, at_of (j := d) rfl (dk_get g), _, rfl, dk.A, _, _, _, rfl, rfl, SqL.of hD, at_of (j := r) rfl (row_get gr), ?_⟩
        unfold secV at k
        rw [es, gr] at k
        exact k
      · rw [decide_eq_false (show ¬ (r : Int) < ((dk.rows.map rowV).length : Nat) by rw [List.length_map]; omega)]
        unfold secV at k
        rw [es, List.getElem?_eq_none (by omega)] at k
        exact iteT k
theorem sc_seal : FnScope ["kind", "disk", "row", "stamp", "payload", "epoch", "serial", "words"] ["kind", "disk", "row", "stamp", "payload"] (defScope s_seal) := ⟨rfl, rfl, rfl, by decide +kernel, rfl, by decide +kernel, by decide +kernel⟩
theorem ok_seal (T : Txt K mg a) : FnOk P w K mg base (L2.CX P w) 2 a.f_seal a.d_seal ["kind", "disk", "row", "stamp", "payload"] (sp_seal K a) := by
  refine T.F_seal.okX sc_seal (fun vs H Q E h => ?len) (fun cdv A outer s H vs Q E hr h => ?body)
  case len =>
    exact sp_seal_len h
  case body =>
    obtain ⟨k, d, r, st, pl, e, s', ws, rfl, hT, hS, hlen, kE, kQ⟩ := h
    refine ⟨_, (pss_cons (ps_asg (pv 3) (pg_tup rfl (pgs_cons (pg_name (i := 5) sc_seal.nd rfl (Or.inl rfl)) (pgs_cons (pg_name (i := 6) sc_seal.nd rfl (Or.inl rfl)) pgs_nil))))
      (pss_cons (ps_if (pt_not (pt_val (pe_call (ok_is_place T) (hr.mono (by decide)) rfl T.g_is_place T.F_is_place.kp T.d_is_place .nil pass0 (pa_cons (pv 0) (pa_cons (pv 1) (pa_cons (pv 2) pa_nil))))))
      (pss_one (ps_raise rfl (takes_of rfl rfl rfl rfl) (pmk_own PySem.F.excBase_ValueError T.x_InvalidArgument T.g_InvalidArgument T.k_InvalidArgument (raises_own T.b_InvalidArgument T.t_InvalidArgument) (by exact rfl))))
      pss_nil)
      (pss_cons (ps_if (PW.pt (pw_or (pt_not (pt_chain op_le op_lt pe_int (pv 5) (pe_const T.g_PRIME))) (pw_or1 (pt_not (pt_chain op_le op_lt pe_int (pv 6) (pe_op op_mul (pe_const T.g_PRIME) (pe_const T.g_PRIME)))))))
      (pss_one (ps_raise rfl (takes_of rfl rfl rfl rfl) (pmk_own PySem.F.excBase_ValueError T.x_InvalidArgument T.g_InvalidArgument T.k_InvalidArgument (raises_own T.b_InvalidArgument T.t_InvalidArgument) (by exact rfl))))
      pss_nil)
      (pss_cons (ps_if (pt_cmpR op_gt (pe_callB call_len_seq (by rfl) T.n_len PySem.boot_len (pa_cons (pv 4) pa_nil)) (pe_const T.g_MAX_PAYLOAD) (nomark _))
      (pss_one (ps_raise rfl (takes_of rfl rfl rfl rfl) (pmk_own PySem.F.excBase_ValueError T.x_InvalidArgument T.g_InvalidArgument T.k_InvalidArgument (raises_own T.b_InvalidArgument T.t_InvalidArgument) (by exact rfl))))
      pss_nil)
      (pss_cons (ps_set (i := 7) sc_seal.nd rfl (Or.inl rfl) (pe_lst (pa_cons (pv 0) (pa_cons (pv 1) (pa_cons (pv 2) (pa_cons (pv 5) (pa_cons (pe_op op_fdiv (pv 6) (pe_const T.g_PRIME)) (pa_cons (pe_op op_mod (pv 6) (pe_const T.g_PRIME)) (StX.pa_star (pv 4) pa_nil)))))))))
      (pss_one (ps_ret (pe_lst (StX.pa_star (pv 7) (StX.pa_star (pe_call (ok_check_words T) (hr.mono (by decide)) rfl T.g_check_words T.F_check_words.kp T.d_check_words .nil pass0 (pa_cons (pv 7) pa_nil)) pa_nil)))))))))), ?_⟩
    refine ⟨_, rfl, st, _, rfl, hT, rfl, _, _, rfl, _, _, rfl, rfl, ?_⟩
    refine ⟨_, rfl, _, rfl, _, rfl, k, d, r, rfl, fun hp => ⟨true, rfl, iteF ?_⟩, fun hn => ⟨false, rfl, iteT (kE (.inl hn) _ (Same.refl _))⟩⟩
    have bad : ¬ Stp e s' → E (.ref a.c_InvalidArgument) none H := fun z => kE (.inr (.inl z)) _ (Same.refl _)
    refine ⟨_, rfl, _, _, rfl, rfl, _, rfl, ite2 (fun a1 => ⟨_, _, rfl, rfl, _, rfl, ite2 (fun z => bad fun y => ?_) (fun z => ?_)⟩) (fun a1 => ⟨_, rfl, iteT (bad fun y => a1 (decide_eq_true y.1.1))⟩)⟩
    · rw [decide_eq_true y.1.2] at z
      cases z
    refine ⟨_, rfl, _, _, rfl, rfl, _, rfl, ite2 (fun b1 => ?_) (fun b1 => ⟨_, rfl, iteT (bad fun y => b1 (decide_eq_true y.2.1))⟩)⟩
    refine ⟨_, _, rfl, rfl, .inl ⟨by decide, by decide⟩, _, _, rfl, rfl, _, rfl, ite2 (fun z => bad fun y => ?_) (fun z2 => ?_)⟩
    · rw [decide_eq_true (show s' < 65521 * 65521 from y.2.2)] at z
      cases z
    have hs : Stp e s' := by
      have a1 := of_decide_eq_true a1
      have b1 := of_decide_eq_true b1
      have a2 : e < 65521 := Classical.byContradiction fun q => z (by rw [decide_eq_false q]; rfl)
      have b2 : s' < 65521 * 65521 := Classical.byContradiction fun q => z2 (by rw [decide_eq_false q]; rfl)
      exact ⟨⟨a1, a2⟩, ⟨b1, b2⟩⟩
    refine ⟨_, rfl, pl, _, rfl, .inl hS, _, _, rfl, rfl, _, rfl, ite2 (fun z => kE (.inr (.inr ?_)) _ (Same.refl _)) (fun z => ?_)⟩
    · have := of_decide_eq_true z
      rw [List.length_map] at this
      omega
    have hl : ws.length ≤ 1000 := Classical.byContradiction fun q => z (decide_eq_true (by rw [List.length_map]; omega))
    have good : ¬ BadSeal k d r e s' ws := by
      rintro (q | q | q)
      · exact q hp
      · exact q hs
      · omega
    refine ⟨_, rfl, _, rfl, _, rfl, _, rfl, _, rfl, _, _, rfl, rfl, ⟨by decide, by decide⟩, _, rfl, _, _, rfl, rfl, (by show (0 : Int) < 65521; decide), ?_⟩
    refine ⟨_, rfl, pl, _, rfl, .inr hS, Nat.le_of_lt (small _ (by simp; omega)), fun q2 n2 => ?_⟩
    have ew : V.int k :: V.int d :: V.int r :: V.int e :: V.int (s' / 65521) :: V.int (s' % 65521) :: (ws.map V.int ++ []) = (hdM k d r e s' ws).map V.int := by unfold hdM; rw [List.map_append, List.append_nil]; rfl
    dsimp only
    rw [ew]
    have dW : upd H q2 (.lst ((hdM k d r e s' ws).map V.int)) q2 = some (.lst ((hdM k d r e s' ws).map V.int)) := upd_same
    have S2 := Same.new (o := .lst ((hdM k d r e s' ws).map V.int)) n2
    have hlW := hdM_length k d r e s' ws
    generalize hG : hdM k d r e s' ws = W at dW hlW S2 ⊢
    generalize upd H q2 (.lst (W.map V.int)) = H2 at dW S2 ⊢
    refine ⟨_, rfl, q2, _, rfl, .inr (SqL.of dW), _, rfl, q2, W, rfl, SqL.of dW, by omega, fun C H3 s3 nC hC => ⟨C, _, rfl, .inl (SqT.of hC), Nat.le_of_lt (small _ (by simp; omega)), fun q4 n4 => ?_⟩⟩
    have n0 : H q4 = none := same_none (S2.trans s3) n4
    refine kQ good q4 _ ((S2.trans s3).trans (Same.new n4)) n0 ?_
    rw [upd_same]
    unfold sealM
    rw [hG, List.map_append]
    rfl
theorem sc_is_whole : FnScope ["sector"] ["sector"] (defScope s_is_whole) := ⟨rfl, rfl, rfl, by decide +kernel, rfl, by decide +kernel, by decide +kernel⟩
theorem ok_is_whole (T : Txt K mg a) : FnOk P w K mg base CX0 2 a.f_is_whole a.d_is_whole ["sector"] (sp_is_whole K a) := by
  refine T.F_is_whole.ok sc_is_whole (fun vs H Q E h => ?len) (fun cdv A outer s H vs Q E hr h => ?body)
  case len =>
    exact sp_is_whole_len h
  case body =>
    obtain ⟨l, ws, rfl, hS, hlen, kT, kF⟩ := h
    have hml : (ws.map V.int).length = ws.length := List.length_map _
    refine ⟨_, (pss_cons (ps_if (pt_not (pt_chain op_le op_le pe_int (pe_op op_sub (pe_op op_sub (pe_callB call_len_seq (by rfl) T.n_len PySem.boot_len (pa_cons (pv 0) pa_nil)) (pe_const T.g_HEADER_WORDS)) (pe_const T.g_CHECK_WORDS)) (pe_const T.g_MAX_PAYLOAD)))
      (pss_one (ps_ret pe_bl))
      pss_nil)
      (pss_cons (ps_if (PW.pt (pw_or (pt_cmpR op_lt (pe_callB (cr_min rfl) (by rfl) T.n_min (by decide +kernel) (pa_cons (pv 0) pa_nil)) pe_int (nomark _)) (pw_or1 (pt_cmpR op_ge (pe_callB (cr_max rfl) (by rfl) T.n_max (by decide +kernel) (pa_cons (pv 0) pa_nil)) (pe_const T.g_PRIME) (nomark _)))))
      (pss_one (ps_ret pe_bl))
      pss_nil)
      (pss_one (ps_ret (pe_cmpR (op_eqD hr.units) (pe_callTy call_tuple_of (by rfl) T.n_tuple (by decide +kernel) (pa_cons (pe_slice sl_list (pv 0) (po_some (pe_un un_neg (pe_const T.g_CHECK_WORDS))) po_none) pa_nil)) (pe_call (ok_check_words T) (hr.mono (by decide)) rfl T.g_check_words T.F_check_words.kp T.d_check_words .nil pass0 (pa_cons (pe_slice sl_list (pv 0) po_none (po_some (pe_un un_neg (pe_const T.g_CHECK_WORDS)))) pa_nil)) (nomark _)))))), ?_⟩
    refine ⟨_, rfl, l, _, rfl, .inl hS, _, _, rfl, rfl, _, _, rfl, rfl, _, _, rfl, rfl, _, rfl, ite2 (fun a1 => ⟨_, _, rfl, rfl, _, rfl, ite2 (fun z => kF (fun g => ?_) _ (Same.refl _)) (fun z => ?_)⟩) (fun a1 => ⟨_, rfl, iteT (kF (fun g => a1 (decide_eq_true ?_)) _ (Same.refl _))⟩)⟩
    · rw [decide_eq_true (show ((ws.map V.int).length : Int) - 6 - 2 ≤ 1000 by have := g.1.2; omega)] at z
      cases z
    rotate_left
    · have := g.1.1
      omega
    have a1 := of_decide_eq_true a1
    have a2 : ((ws.map V.int).length : Int) - 6 - 2 ≤ 1000 := Classical.byContradiction fun q => z (by rw [decide_eq_false q]; rfl)
    have l8 : 8 ≤ ws.length := by omega
    have l9 : ws.length ≤ 1008 := by omega
    refine ⟨_, rfl, l, ws, rfl, hS, by omega, fun m hm hmin => ⟨_, _, rfl, rfl, _, rfl, ite2 (fun z => kF (fun g => ?_) _ (Same.refl _)) (fun z1 => ⟨_, rfl, l, ws, rfl, hS, by omega, fun M hM hmax => ⟨_, _, rfl, rfl, _, rfl, ite2 (fun z => kF (fun g => ?_) _ (Same.refl _)) (fun z2 => ?_)⟩⟩)⟩⟩
    · have := (g.2.1 m hm).1
      have := of_decide_eq_true z
      omega
    · have := (g.2.1 M hM).2
      have := of_decide_eq_true z
      omega
    have wds : ∀ w ∈ ws, Wd w := fun w hw => by
      have x1 := hmin w hw
      have x2 := hmax w hw
      have x3 : ¬ m < 0 := fun q => z1 (decide_eq_true q)
      have x4 : ¬ 65521 ≤ M := fun q => z2 (decide_eq_true q)
      exact ⟨by omega, by omega⟩
    refine ⟨_, rfl, _, rfl, _, rfl, l, _, rfl, hS, fun q1 n1 => ?_⟩
    rw [cut_last (by omega), hml, ← List.map_drop]
    have S1 := Same.new (o := .lst ((ws.drop (ws.length - 2)).map V.int)) n1
    refine ⟨q1, _, rfl, .inl ⟨SqL.of upd_same, fun q2 n2 => ?_⟩⟩
    have S2 := Same.new (o := .tup ((ws.drop (ws.length - 2)).map V.int)) n2
    have dT : upd (upd H q1 (.lst ((ws.drop (ws.length - 2)).map V.int))) q2 (.tup ((ws.drop (ws.length - 2)).map V.int)) q2 = some (.tup ((ws.drop (ws.length - 2)).map V.int)) := upd_same
    refine ⟨_, rfl, _, rfl, _, rfl, l, _, rfl, S2.seq (S1.seq hS), fun q3 n3 => ?_⟩
    rw [cut_but (by omega), hml, ← List.map_take]
    have S3 := Same.new (o := .lst ((ws.take (ws.length - 2)).map V.int)) n3
    refine ⟨q3, _, rfl, SqL.of upd_same, by rw [List.length_take]; omega, fun C H4 s4 nC dC => ?_⟩
    have sA := ((S1.trans S2).trans S3).trans s4
    refine ⟨_, _, dp_tints (SqT.of (s4 _ _ (S3 _ _ dT))), dp_tints (xs := [_, _]) (SqT.of dC), shaped_tints _, shaped_tints _, ?_⟩
    rw [eqv_tints]
    by_cases q : ws.drop (ws.length - 2) = [ck1 (ws.take (ws.length - 2)), ck2 (ws.take (ws.length - 2))]
    · rw [decide_eq_true q]
      exact kT ⟨⟨l8, l9⟩, wds, q⟩ _ sA
    · rw [decide_eq_false q]
      exact kF (fun g => q g.2.2) _ sA
theorem sc_place_payloads : FnScope ["words", "places", "k"] ["words"] (defScope s_place_payloads) := ⟨rfl, rfl, rfl, by decide +kernel, rfl, by decide +kernel, by decide +kernel⟩
theorem ok_place_payloads (T : Txt K mg a) : FnOk P w K mg base CX0 2 a.f_place_payloads a.d_place_payloads ["words"] (sp_place_payloads K a) := by
  refine T.F_place_payloads.ok sc_place_payloads (fun vs H Q E h => ?len) (fun cdv A outer s H vs Q E hr h => ?body)
  case len =>
    exact sp_place_payloads_len h
  case body =>
    obtain ⟨W, ws, rfl, hW, lw, k⟩ := h
    refine ⟨_, (pss_cons (ps_set (i := 1) sc_place_payloads.nd rfl (Or.inr rfl) (pe_call (ok_note_places T) (hr.mono (by decide)) rfl T.g_note_places T.F_note_places.kp T.d_note_places .nil pass0 (pa_cons (pv 0) pa_nil)))
      (pss_one (ps_ret (pe_lc (own := [("k", 2)]) (g := (gName 2)) (by rfl) sc_place_payloads.nd (pi_range1 (by rfl) T.n_range (pa_cons (pv 1) pa_nil)) (blkOk_by (own := [("k", 2)]) (N := ["words", "places", "k"]) (sc := defScope s_place_payloads) (by decide +kernel))
      (fun _ _ _ _ _ => (pg_name (i := 2) sc_place_payloads.nd rfl (Or.inl rfl))) (fun _ _ _ _ _ => pts_nil) (fun _ _ _ _ _ => (pe_lst (pa_cons (pe_op op_sub (pe_op op_sub (pv 1) pe_int) (pv 2)) (by exact (StX.pa_star (pe_slice (by exact sl_list : SlR _ (rSlL K)) (pv 0) (po_some (pe_op op_mul (pv 2) (pe_const T.g_PLACE_WORDS))) (po_some (pe_op op_mul (pe_op op_add (pv 2) pe_int) (pe_const T.g_PLACE_WORDS)))) pa_nil) : PA _ _ (StX.tStar K _ _))))))))), ?_⟩
    refine ⟨_, rfl, W, ws, rfl, hW, lw, ?_⟩
    refine ⟨_, rfl, ((plM ws.length : Nat) : Int), rfl, by omega, by unfold plM; omega, fun R nR => ?_⟩
    rw [Int.toNat_natCast]
    obtain ⟨m, hm⟩ : ∃ m, plM ws.length = m := ⟨_, rfl⟩
    have m10 : m ≤ 10 := by rw [← hm]; unfold plM; omega
    rw [hm]
    refine lc_it (walk_range (n := m)) (fun i H' => ∃ rows : List (Addr × List Int), Same H H' ∧ LA H' R rows ∧ rows.map (·.2) = (List.range i).map (payN ws) ∧ ∀ e ∈ rows, H e.1 = none) ⟨[], Same.new nR, ⟨upd_same, fun _ m => (nomatch m)⟩, rfl, fun _ m => (nomatch m)⟩ (fun _ _ _ _ => True.intro) ?_ ?_
    · rintro i y H1 H2 hi ⟨rows, s1, la, er, nw⟩ ⟨rfl, rfl⟩
      refine ⟨rfl, _, rfl, _, _, rfl, rfl, _, rfl, _, _, rfl, rfl, ?_⟩
      refine ⟨_, rfl, _, rfl, _, _, rfl, rfl, .inl ⟨by omega, by omega⟩, _, rfl, _, rfl, _, _, rfl, rfl, _, _, rfl, rfl, .inl ⟨by omega, by omega⟩, _, rfl, W, _, rfl, s1.seq hW, fun q nq => ?_⟩
      have e1 : (0 + (i : Int)) * 999 = ((i * 999 : Nat) : Int) := by omega
      have e2 : (0 + (i : Int) + 1) * 999 = ((i * 999 + 999 : Nat) : Int) := by omega
      dsimp only
      rw [e1, e2, cut_mid999]
      have s2 := Same.new (o := .lst (((ws.drop (i * 999)).take 999).map V.int)) nq
      refine ⟨q, _, rfl, .inr (SqL.of upd_same), by rw [List.append_nil, List.length_cons, List.length_map, List.length_take]; exact Nat.le_of_lt (small _ (by omega)), fun u nu => ?_⟩
      have e3 : V.int (((m : Nat) : Int) - 1 - (0 + (i : Int))) :: (((ws.drop (i * 999)).take 999).map V.int ++ []) = (payN ws i).map V.int := by
        rw [List.append_nil, Int.zero_add]
        unfold payN
        rw [hm]
        rfl
      rw [e3]
      have s3 := s2.trans (Same.new (o := .lst ((payN ws i).map V.int)) nu)
      have nuR : u ≠ R := (ne_of_none (s2 _ _ la.1) nu).symm
      have nu0 := same_none (s1.trans s2) nu
      have la3 := la.same s3
      refine ⟨_, la3.1, small _ (by rw [refs_len]; have := congrArg List.length er; rw [List.length_map, List.length_map, List.length_range] at this; omega), rows ++ [(u, payN ws i)], same_put (s1.trans s3) nR, ?_, by rw [List.map_append, er, List.range_succ, List.map_append]; rfl, fun x mx => ?_⟩
      · have e4 : refs rows ++ [V.ref u] = refs (rows ++ [(u, payN ws i)]) := by unfold refs; rw [List.map_append]; rfl
        rw [e4]
        refine LA.put fun x mx => ?_
        rcases List.mem_append.mp mx with mx | mx
        · exact la3.2 x mx
        · rw [List.mem_singleton.mp mx]
          exact ⟨upd_same, nuR⟩
      · rcases List.mem_append.mp mx with mx | mx
        · exact nw x mx
        · rw [List.mem_singleton.mp mx]
          exact nu0
    rintro H1 ⟨rows, s1, la, er, nw⟩
    refine k R rows H1 s1 nR la nw ?_
    unfold paysN
    rw [hm]
    exact er
theorem sc_law_word : FnScope ["pot", "kind"] ["pot"] (defScope s_law_word) := ⟨rfl, rfl, rfl, by decide +kernel, rfl, by decide +kernel, by decide +kernel⟩
theorem ok_law_word (T : Txt K mg a) : FnOk P w K mg base CX0 2 a.f_law_word a.d_law_word ["pot"] (sp_law_word K a) := by
  refine T.F_law_word.ok sc_law_word (fun vs H Q E h => ?len) (fun cdv A outer s H vs Q E hr h => ?body)
  case len =>
    exact sp_law_word_len h
  case body =>
    obtain ⟨p, l, rfl, hP, k⟩ := h
    refine ⟨_, (pss_cons (ps_set (i := 1) sc_law_word.nd rfl (Or.inl rfl) (pe_call (ok_law_next T) (hr.mono (by decide)) rfl T.g_law_next T.F_law_next.kp T.d_law_next .nil pass0 (pa_cons (pv 0) (pa_cons pe_int pa_nil))))
      (pss_cons (ps_if (pt_cmpR op_eq (pv 1) pe_int (nomark _))
      (pss_one (ps_ret pe_int))
      pss_nil)
      (pss_cons (ps_if (pt_cmpR op_eq (pv 1) pe_int (nomark _))
      (pss_one (ps_ret (pe_op op_sub pe_int (pe_call (ok_law_next T) (hr.mono (by decide)) rfl T.g_law_next T.F_law_next.kp T.d_law_next .nil pass0 (pa_cons (pv 0) (pa_cons pe_int pa_nil))))))
      pss_nil)
      (pss_cons (ps_if (pt_cmpR op_lt (pv 1) pe_int (nomark _))
      (pss_one (ps_ret (pe_call (ok_law_next T) (hr.mono (by decide)) rfl T.g_law_next T.F_law_next.kp T.d_law_next .nil pass0 (pa_cons (pv 0) (pa_cons pe_int pa_nil)))))
      pss_nil)
      (pss_one (ps_ret (pe_call (ok_law_next T) (hr.mono (by decide)) rfl T.g_law_next T.F_law_next.kp T.d_law_next .nil pass0 (pa_cons (pv 0) (pa_cons pe_int pa_nil))))))))), ?_⟩
    refine ⟨_, rfl, p, l, 8, rfl, hP, by decide, by decide, fun c H1 c0 c1 P1 o1 => ?_⟩
    refine ⟨_, rfl, rfl, _, rfl, ?_⟩
    refine ite2 (fun _ => k _ _ ⟨by decide, by decide⟩ P1 o1) (fun _ => ?_)
    refine ⟨_, rfl, rfl, _, rfl, ?_⟩
    refine ite2 (fun _ => ?_) (fun _ => ?_)
    · exact ⟨_, rfl, p, l, 3, rfl, P1, by decide, by decide, fun v H2 v0 v1 P2 o2 => ⟨_, _, rfl, rfl, k _ _ ⟨by omega, by omega⟩ P2 (o1.trans o2)⟩⟩
    · refine ⟨_, rfl, _, _, rfl, rfl, _, rfl, ?_⟩
      refine ite2 (fun _ => ?_) (fun _ => ?_)
      · exact ⟨_, rfl, p, l, 9, rfl, P1, by decide, by decide, fun v H2 v0 v1 P2 o2 => k _ _ ⟨by omega, by omega⟩ P2 (o1.trans o2)⟩
      · exact ⟨_, rfl, p, l, 65521, rfl, P1, by decide, by decide, fun v H2 v0 v1 P2 o2 => k _ _ ⟨by omega, by omega⟩ P2 (o1.trans o2)⟩
theorem sc_law_fate : FnScope ["pot", "images", "request", "old", "disk", "row", "kind"] ["pot", "images", "request", "old"] (defScope s_law_fate) := ⟨rfl, rfl, rfl, by decide +kernel, rfl, by decide +kernel, by decide +kernel⟩
theorem ok_law_fate (T : Txt K mg a) : FnOk P w K mg base CX0 2 a.f_law_fate a.d_law_fate ["pot", "images", "request", "old"] (sp_law_fate K a) := by
  refine T.F_law_fate.ok sc_law_fate (fun vs H Q E h => ?len) (fun cdv A outer s H vs Q E hr h => ?body)
  case len =>
    exact sp_law_fate_len h
  case body =>
    obtain ⟨X, p, l, I, T0, S, st, dk, d, r, o, rfl, hP, hI, Xp, hX, hT, gd, r4, ho, no, lo, k⟩ := h
    refine ⟨_, (pss_cons (ps_asg (pe_slice sl_tup (pv 2) (po_some pe_int) (po_some pe_int)) (pg_tup rfl (pgs_cons (pg_name (i := 4) sc_law_fate.nd rfl (Or.inl rfl)) (pgs_cons (pg_name (i := 5) sc_law_fate.nd rfl (Or.inl rfl)) pgs_nil))))
      (pss_cons (ps_set (i := 6) sc_law_fate.nd rfl (Or.inl rfl) (pe_call (ok_law_next T) (hr.mono (by decide)) rfl T.g_law_next T.F_law_next.kp T.d_law_next .nil pass0 (pa_cons (pv 0) (pa_cons pe_int pa_nil))))
      (Evl.pss_cut (ps_if (pt_cmpR op_eq (pv 6) pe_int (nomark _))
      (pss_one (ps_asg (pv 3) (pg_sub (pe_ix ix_list (pv 1) (pv 4) (fun _ _ => rfl)) (pv 5) set_list)))
      (pss_one (ps_if (pt_cmpR op_eq (pv 6) pe_int (nomark _))
      (pss_one (ps_asg pe_non (pg_sub (pe_ix ix_list (pv 1) (pv 4) (fun _ _ => rfl)) (pv 5) set_list)))
      pss_nil)))
      (pss_one (ps_ret (pe_cmpR op_gt (pv 6) pe_int (nomark _))))))), ?_⟩
    have lim : ∀ {m : Int}, m.natAbs < 2 ^ 40 → m.natAbs < 2 ^ 400 := fun h => Nat.lt_of_lt_of_le h (Nat.pow_le_pow_right (by decide) (by decide))
    have ec : cutV [V.str "write", .int (d : Int), .int (r : Int), .ref S] (some 1) (some 3) = [V.int (d : Int), .int (r : Int)] := rfl
    refine ⟨_, rfl, _, rfl, _, rfl, T0, _, rfl, SqT.of hT, fun z => absurd z.1 (by show ¬ HT.sIx 4 0 (some 1) = 0; decide), fun q nq => ?_⟩
    rw [ec]
    have sq := Same.new (o := .tup [V.int (d : Int), .int (r : Int)]) nq
    refine ⟨q, _, rfl, SqT.of upd_same, rfl, _, _, rfl, _, _, rfl, rfl, ?_⟩
    have P1 := hP.same sq
    have I1 := hI.same sq
    have ho1 := sq _ _ ho
    generalize upd H q (.tup [V.int (d : Int), .int (r : Int)]) = H1 at sq P1 I1 ho1 ⊢
    refine ⟨_, rfl, p, l, 3, rfl, P1, by decide, lim (by decide), fun kd H2 k0 k1 P2 o2 => ?_⟩
    have I2 := I1.draw o2.but Xp
    have op : o.1 ≠ p := fun z => no (.inl (by rw [z]; exact Xp))
    have ho2 := o2.but _ _ ho1 op
    have b2 : ∀ q ob, H q = some ob → q ≠ p → H2 q = some ob := fun q ob e n => o2.but _ _ (sq _ _ e) n
    have hD := I2.hD d dk gd
    have Ap : dk.A ≠ p := fun z => hD.2.2 (by rw [z]; exact Xp)
    have put : ∀ (o' : Option (Addr × List Int)), (o' = some o ∨ o' = none) → ImM (upd H2 dk.A (.lst ((dk.rows.set r o').map rowV))) X I (putS st d r o') ∧ (∀ q ob, H q = some ob → q ≠ p → q ≠ dk.A → upd H2 dk.A (.lst ((dk.rows.set r o').map rowV)) q = some ob) ∧ (dk.A ≠ l → Pot (upd H2 dk.A (.lst ((dk.rows.set r o').map rowV))) p l) := fun o' h => by
      refine ⟨I2.put gd fun sc z => ?_, fun q ob e n1 n2 => by rw [upd_ne n2]; exact b2 q ob e n1, fun n => P2.only Only.upd Ap.symm n.symm⟩
      rcases h with h | h
      · rw [h] at z
        cases z
        exact ⟨ho2, no, lo⟩
      · rw [h] at z
        cases z
    refine ⟨fun σ H' => σ = [some (.ref p), some (.ref I), some (.ref T0), some (.ref o.1), some (.int (d : Int)), some (.int (r : Int)), some (.int kd)] ∧ ∃ st', ImM H' X I st' ∧ (kd = 0 → st' = st) ∧ (0 < kd → st' = putS st d r (some o) ∨ st' = putS st d r none) ∧ (∀ q ob, H q = some ob → q ≠ p → q ≠ dk.A → H' q = some ob) ∧ (dk.A ≠ l → Pot H' p l), ?_, ?_⟩
    · refine ⟨_, rfl, rfl, _, rfl, ite2 (fun c => ?_) (fun c => ?_)⟩
      · have c : kd = 1 := V.int.inj (of_decide_eq_true c)
        obtain ⟨q1, q2, q3⟩ := put (some o) (.inl rfl)
        refine ⟨_, rfl, _, rfl, _, rfl, I, _, _, _, rfl, rfl, SqL.of I2.hI, at_of (j := d) rfl (dk_get gd), _, rfl, dk.A, _, _, r, rfl, rfl, hD.1, by rw [List.length_map]; exact ixN_nat r4, rfl, putS st d r (some o), ?_, fun z => by omega, fun _ => .inl rfl, ?_, fun n => ?_⟩
        all_goals rw [show V.ref o.1 = rowV (some o) from rfl, map_set_row]
        · exact q1
        · exact q2
        · exact q3 n
      · have c : kd ≠ 1 := fun z => c (decide_eq_true (by rw [z]))
        refine ⟨_, rfl, rfl, _, rfl, ite2 (fun c2 => ?_) (fun c2 => ?_)⟩
        · have c2 : kd = 2 := V.int.inj (of_decide_eq_true c2)
          obtain ⟨q1, q2, q3⟩ := put none (.inr rfl)
          refine ⟨_, rfl, _, rfl, I, _, _, _, rfl, rfl, SqL.of I2.hI, at_of (j := d) rfl (dk_get gd), _, rfl, dk.A, _, _, r, rfl, rfl, hD.1, by rw [List.length_map]; exact ixN_nat r4, rfl, putS st d r none, ?_, fun z => by omega, fun _ => .inr rfl, ?_, fun n => ?_⟩
          all_goals rw [show V.non = rowV none from rfl, map_set_row]
          · exact q1
          · exact q2
          · exact q3 n
        · have c2 : kd ≠ 2 := fun z => c2 (decide_eq_true (by rw [z]))
          exact ⟨rfl, st, I2, fun _ => rfl, fun z => by omega, fun q ob e n1 n2 => b2 q ob e n1, fun _ => P2⟩
    rintro σ H3 ⟨rfl, st', q1, q2, q3, q4, q5⟩
    refine ⟨_, rfl, _, _, rfl, rfl, ?_⟩
    refine k _ st' H3 q1 (fun z => q2 ?_) (fun z => q3 (of_decide_eq_true z)) q4 q5
    have := of_decide_eq_false z
    omega
theorem sc_unseal : FnScope ["sector", "kind", "disk", "row", "epoch", "high", "low"] ["sector", "kind", "disk", "row"] (defScope s_unseal) := ⟨rfl, rfl, rfl, by decide +kernel, rfl, by decide +kernel, by decide +kernel⟩
theorem ok_unseal (T : Txt K mg a) : FnOk P w K mg base CX0 3 a.f_unseal a.d_unseal ["sector", "kind", "disk", "row"] (sp_unseal K a) := by
  refine T.F_unseal.ok sc_unseal (fun vs H Q E h => ?len) (fun cdv A outer s H vs Q E hr h => ?body)
  case len =>
    exact sp_unseal_len h
  case body =>
    obtain ⟨sv, k, d, r, rfl, h⟩ := h
    refine ⟨_, (pss_cons (ps_if (PW.pt (pw_or (pt_cmpR op_isN (pv 0) pe_non (nomark _)) (pw_or (pt_not (pt_val (pe_call (ok_is_place T) (hr.mono (by decide)) rfl T.g_is_place T.F_is_place.kp T.d_is_place .nil pass0 (pa_cons (pv 1) (pa_cons (pv 2) (pa_cons (pv 3) pa_nil)))))) (pw_or1 (pt_cmpR (op_neD hr.units) (pe_slice sl_list (pv 0) po_none (po_some pe_int)) (pe_lst (pa_cons (pv 1) (pa_cons (pv 2) (pa_cons (pv 3) pa_nil)))) (nomark _))))))
      (pss_one (ps_ret pe_non))
      pss_nil)
      (pss_cons (ps_if (pt_not (pt_val (pe_call (ok_is_whole T) (hr.mono (by decide)) rfl T.g_is_whole T.F_is_whole.kp T.d_is_whole .nil pass0 (pa_cons (pv 0) pa_nil))))
      (pss_one (ps_ret pe_non))
      pss_nil)
      (pss_cons (ps_asg (pe_slice sl_list (pv 0) (po_some pe_int) (po_some (pe_const T.g_HEADER_WORDS))) (pg_lst rfl (pgs_cons (pg_name (i := 4) sc_unseal.nd rfl (Or.inl rfl)) (pgs_cons (pg_name (i := 5) sc_unseal.nd rfl (Or.inl rfl)) (pgs_cons (pg_name (i := 6) sc_unseal.nd rfl (Or.inl rfl)) pgs_nil)))))
      (pss_one (ps_ret (pe_tup (pa_cons (pe_tup (pa_cons (pv 4) (pa_cons (pe_op op_add (pe_op op_mul (pv 5) (pe_const T.g_PRIME)) (pv 6)) pa_nil))) (pa_cons (pe_slice sl_list (pv 0) (po_some (pe_const T.g_HEADER_WORDS)) (po_some (pe_un un_neg (pe_const T.g_CHECK_WORDS)))) pa_nil)))))))), ?_⟩
    rcases h with ⟨rfl, kN⟩ | ⟨l, ws, rfl, hS, hlen, kN, kQ⟩
    · exact ⟨_, rfl, rfl, _, rfl, ite2 (fun _ => kN _ (Same.refl _)) (fun q => absurd rfl q)⟩
    have hml : (ws.map V.int).length = ws.length := List.length_map _
    refine ⟨_, rfl, rfl, _, rfl, ite2 (fun q => by cases q) (fun _ => ?_)⟩
    refine ⟨_, rfl, _, rfl, _, rfl, k, d, r, rfl, fun hp => ⟨true, rfl, iteF ?_⟩, fun hn => ⟨false, rfl, iteT (kN (fun g => hn g.1) _ (Same.refl _))⟩⟩
    refine ⟨_, rfl, _, rfl, l, _, rfl, hS, fun q1 n1 => ?_⟩
    rw [show cutV (ws.map V.int) none (some 3) = (ws.take 3).map V.int from (cut_take _ 3).trans List.map_take.symm]
    have S1 := Same.new (o := .lst ((ws.take 3).map V.int)) n1
    refine ⟨_, rfl, _, rfl, _, rfl, by show 3 ≤ sizeLine; decide, fun q2 n2 => ?_⟩
    have S2 := Same.new (o := .lst [V.int k, .int d, .int r]) n2
    have d1 := S2 _ _ (upd_same (H := H) (a := q1) (o := .lst ((ws.take 3).map V.int)))
    refine ⟨_, _, dp_ints (SqL.of d1), dp_ints (xs := [k, d, r]) (SqL.of upd_same), shaped_ints _, shaped_ints _, _, rfl, ?_⟩
    rw [eqv_ints]
    have sA := S1.trans S2
    refine ite2 (fun z => kN (fun g => ?_) _ sA) (fun z => ?_)
    · rw [decide_eq_true g.2.1] at z
      cases z
    have h3 : ws.take 3 = [k, d, r] := Classical.byContradiction fun q => z (by rw [decide_eq_false q]; rfl)
    clear d1
    generalize upd (upd H q1 (.lst ((ws.take 3).map V.int))) q2 (.lst [V.int k, .int d, .int r]) = H2 at sA ⊢
    refine ⟨_, rfl, l, ws, rfl, sA.seq hS, hlen, fun hw H3 s3 => ⟨true, rfl, iteF ?_⟩, fun hw H3 s3 => ⟨false, rfl, iteT (kN (fun g => hw g.2.2) _ (sA.trans s3))⟩⟩
    have sB := sA.trans s3
    have hg : Good ws k d r := ⟨hp, h3, hw⟩
    have l8 := hw.1.1
    refine ⟨_, rfl, _, rfl, _, rfl, l, _, rfl, sB.seq hS, fun q3 n3 => ?_⟩
    rw [cut_mid36 (by omega), mid_items (by omega)]
    refine ⟨q3, _, rfl, SqL.of upd_same, rfl, _, _, rfl, _, _, rfl, _, _, rfl, rfl, ?_⟩
    have S3 := Same.new (o := .lst [V.int (ws.getD 3 0), .int (ws.getD 4 0), .int (ws.getD 5 0)]) n3
    have sC := sB.trans S3
    generalize upd H3 q3 (.lst [V.int (ws.getD 3 0), .int (ws.getD 4 0), .int (ws.getD 5 0)]) = H4 at sC ⊢
    have w4 : Wd (ws.getD 4 0) := by
      have : ws[4]? = some ws[4] := List.getElem?_eq_getElem (by omega)
      rw [getD_item this]
      exact hw.2.1 _ (List.getElem_mem _)
    refine ⟨_, rfl, _, rfl, _, _, rfl, rfl, .inl ⟨by have := w4.1; omega, by have := w4.2; omega⟩, _, rfl, _, _, rfl, rfl, by show 2 ≤ sizeLine; decide, fun S nS => ?_⟩
    have S4 := Same.new (o := .tup [V.int (ws.getD 3 0), .int (ws.getD 4 0 * 65521 + ws.getD 5 0)]) nS
    refine ⟨_, rfl, _, rfl, _, rfl, _, rfl, l, _, rfl, S4.seq (sC.seq hS), fun D nD => ?_⟩
    rw [cut_pay (by omega), hml, ← List.map_drop, ← List.map_take]
    have S5 := Same.new (o := .lst (((ws.drop 6).take (ws.length - 8)).map V.int)) nD
    refine ⟨by show 2 ≤ sizeLine; decide, fun Tt nT => ?_⟩
    have S6 := Same.new (o := .tup [V.ref S, .ref D]) nT
    have sD := ((sC.trans S4).trans S5).trans S6
    refine kQ hg Tt S D _ sD (same_none ((sC.trans S4).trans S5) nT) (same_none (sC.trans S4) nD) upd_same (S6 _ _ (S5 _ _ upd_same)) (S6 _ _ upd_same)
theorem sc_note_requests : FnScope ["images", "disks", "stamp", "first", "words", "requests", "row", "payload", "disk"] ["images", "disks", "stamp", "first", "words"] (defScope s_note_requests) := ⟨rfl, rfl, rfl, by decide +kernel, rfl, by decide +kernel, by decide +kernel⟩
theorem ok_note_requests (T : Txt K mg a) : FnOk P w K mg base (L2.CX P w) 3 a.f_note_requests a.d_note_requests ["images", "disks", "stamp", "first", "words"] (sp_note_requests K a) := by
  refine T.F_note_requests.okX sc_note_requests (fun vs H Q E h => ?len) (fun cdv A outer s H vs Q E hr h => ?body)
  case len =>
    exact sp_note_requests_len h
  case body =>
    obtain ⟨I, B, S, W, ims, ds, e, s', f, ws, rfl, hI, li, hB, lB, hds, hS, hst, hW, lw, f0, kE, kQ⟩ := h
    refine ⟨_, (pss_cons (ps_if (PW.pt (pw_or (pt_cmpR op_lt (pv 3) pe_int (nomark _)) (pw_or1 (pt_cmpR op_gt (pe_op op_add (pv 3) (pe_call (ok_note_places T) (hr.mono (by decide)) rfl T.g_note_places T.F_note_places.kp T.d_note_places .nil pass0 (pa_cons (pv 4) pa_nil))) (pe_const T.g_JOURNAL_ROWS) (nomark _)))))
      (pss_one (ps_raise rfl (takes_of rfl rfl rfl rfl) (pmk_own PySem.F.excBase_ValueError T.x_InvalidArgument T.g_InvalidArgument T.k_InvalidArgument (raises_own T.b_InvalidArgument T.t_InvalidArgument) (by exact rfl))))
      pss_nil)
      (pss_cons (ps_set (i := 5) sc_note_requests.nd rfl (Or.inl rfl) (pe_lst pa_nil))
      (pss_cons (ps_for (passes_of rfl) rfl (pi_enumS (by rfl) T.n_enumerate (pa_cons (pe_call (ok_place_payloads T) (hr.mono (by decide)) rfl T.g_place_payloads T.F_place_payloads.kp T.d_place_payloads .nil pass0 (pa_cons (pv 4) pa_nil)) pa_nil) (pk_cons (pe_op op_add (pe_const T.g_LABEL_ROWS) (pv 3)) pk_nil)) (pg_tup rfl (pgs_cons (pg_name (i := 6) sc_note_requests.nd rfl (Or.inl rfl)) (pgs_cons (pg_name (i := 7) sc_note_requests.nd rfl (Or.inl rfl)) pgs_nil)))
      (pss_one (ps_for (passes_of rfl) rfl (pi_list (pv 1)) (pg_name (i := 8) sc_note_requests.nd rfl (Or.inl rfl))
      (pss_one (ps_if (pt_val (pe_call (ok_is_present T) (hr.mono (by decide)) rfl T.g_is_present T.F_is_present.kp T.d_is_present .nil pass0 (pa_cons (pv 0) (pa_cons (pv 8) pa_nil))))
      (pss_one (ps_expr (pe_bm PySem.F.plainAttrs_list PySem.F.slot_list_append PySem.F.type_list_append mt_append (pv 5) (pa_cons (pe_tup (pa_cons pe_str (pa_cons (pv 8) (pa_cons (pv 6) (pa_cons (pe_call (ok_seal T) (hr.mono (by decide)) rfl T.g_seal T.F_seal.kp T.d_seal .nil (passes_call (takes_of rfl rfl rfl rfl) (fun _ _ _ _ z => z)) (pa_cons (pe_const T.g_NOTE) (pa_cons (pv 8) (pa_cons (pv 6) (pa_cons (pv 2) (pa_cons (pv 7) pa_nil)))))) pa_nil))))) pa_nil))))
      pss_nil)))))
      (pss_one (ps_ret (pv 5)))))), ?_⟩
    refine ⟨_, rfl, _, _, rfl, rfl, _, rfl, ?_⟩
    rw [decide_eq_false (show ¬ f < 0 by omega)]
    refine iteF ⟨_, rfl, _, rfl, W, ws, rfl, hW, lw, _, _, rfl, rfl, _, _, rfl, rfl, _, rfl, ite2 (fun c => ?_) (fun c => ?_)⟩
    · have c := of_decide_eq_true c
      exact kE (by omega) _ (Same.refl _)
    have c : f + ((plM ws.length : Nat) : Int) ≤ 16 := by
      have := of_decide_eq_false (show decide ((16 : Int) < f + ((plM ws.length : Nat) : Int)) = false by simpa using c)
      omega
    refine ⟨Nat.zero_le _, fun R nR => ?_⟩
    have sR := Same.new (o := .lst []) nR
    refine ⟨_, rfl, W, ws, rfl, sR.seq hW, lw, fun Pl rows H1 s1 nPl la nw er => ?_⟩
    have s1' := sR.trans s1
    have lrows : rows.length = plM ws.length := by rw [← snds_len, er, paysN_len]
    refine ⟨_, rfl, _, _, rfl, rfl, Pl, _, _, rfl, rfl, SqL.of la.1, by omega, by omega, ?_⟩
    refine for_it (walk_enumS (k := 2 + f)) (fun i σ H' => ∃ (v6 v7 v8 : Option V) (rs : List Rq), σ = [some (.ref I), some (.ref B), some (.ref S), some (.int f), some (.ref W), some (.ref R), v6, v7, v8] ∧ Same H H' ∧ LA H' Pl rows ∧ WRq H' R rs ∧ (∀ e ∈ rs, H e.s = none) ∧ rs.map rqM = rqN ims ds e s' f ws i)
      ⟨none, none, none, [], rfl, s1', la, ⟨s1 _ _ upd_same, fun _ m => (nomatch m)⟩, fun _ m => (nomatch m), rfl⟩ (fun i σ H' _ ⟨_, _, _, _, _, _, la, _⟩ => SqL.of la.1) ?_ ?_
    · rintro i y σ H2 H3 hi ⟨v6, v7, v8, rs, rfl, s2, la2, hW2, hf2, hm2⟩ ⟨t, u, v, rfl, ht, rfl, hu, hv⟩
      cases hu
      obtain ⟨row, hrow, rfl⟩ := refs_item hv
      rw [refs_len, lrows] at hi
      have mrow := List.mem_of_getElem? hrow
      have erow : row.2 = payN ws i := by
        have h1 : (snds rows)[i]? = some row.2 := by rw [List.getElem?_map, hrow]; rfl
        rw [er] at h1
        unfold paysN at h1
        rw [List.getElem?_map, List.getElem?_range hi] at h1
        exact (Option.some.inj h1).symm
      have s3 := s2.trans (Same.new (o := .tup [V.int (2 + f + (i : Nat)), .ref row.1]) ht)
      have la3 := la2.same (Same.new (o := .tup [V.int (2 + f + (i : Nat)), .ref row.1]) ht)
      have hW3 := hW2.same (Same.new (o := .tup [V.int (2 + f + (i : Nat)), .ref row.1]) ht)
      refine ⟨t, _, rfl, SqT.of upd_same, rfl, _, _, rfl, _, _, rfl, rfl, ?_⟩
      generalize upd H2 t (.tup [V.int (2 + f + (i : Nat)), .ref row.1]) = H4 at s3 la3 hW3 ⊢
      clear s2 la2 hW2 ht
      have hB3 := s3.seq hB
      refine ⟨_, rfl, B, rfl, ⟨_, hB3⟩, for_list (xs := ds.map fun d : Nat => V.int (d : Int)) (fun j σ H' => ∃ (v8 : Option V) (rs : List Rq), σ = [some (.ref I), some (.ref B), some (.ref S), some (.int f), some (.ref W), some (.ref R), some (.int (2 + f + (i : Nat))), some (.ref row.1), v8] ∧ Same H H' ∧ LA H' Pl rows ∧ WRq H' R rs ∧ (∀ e ∈ rs, H e.s = none) ∧ rs.map rqM = rqN ims ds e s' f ws i ++ rqP ims (ds.take j) e s' f ws i)
        ⟨v8, rs, rfl, s3, la3, hW3, hf2, by rw [hm2]; simp [rqP]⟩ (fun j σ H' _ ⟨_, _, _, s, _⟩ => s.seq hB) ?_ ?_⟩
      · clear s3 la3 hW3 hB3 hf2 hm2 v8 rs
        rintro j y σ H5 hy ⟨v8, rs, rfl, s5, la5, hW5, hf5, hm5⟩
        obtain ⟨d, hd, rfl⟩ : ∃ d, ds[j]? = some d ∧ y = V.int (d : Int) := by
          rw [List.getElem?_map] at hy
          cases z : ds[j]? with
          | none => rw [z] at hy; cases hy
          | some d => rw [z] at hy; exact ⟨d, rfl, (Option.some.inj hy).symm⟩
        have d8 := hds d (List.mem_of_getElem? hd)
        refine ⟨_, rfl, _, rfl, I, ims, d, rfl, s5.seq hI, li, ?_⟩
        have e1 : rqP ims (ds.take (j + 1)) e s' f ws i = rqP ims (ds.take j) e s' f ws i ++ (if presentM ims d = true then [((d : Int), 2 + f + (i : Int), sealM 2 (d : Int) (2 + f + (i : Int)) e s' (payN ws i))] else []) := by
          unfold rqP
          rw [take_snoc hd, List.filter_append, List.map_append]
          cases hp : presentM ims d <;> simp [hp]
        rw [e1]
        cases hp : presentM ims d with
        | false => exact ⟨_, rfl, iteF ⟨_, rs, rfl, s5, la5, hW5, hf5, by rw [hm5]; simp⟩⟩
        | true =>
          refine ⟨_, rfl, iteT ?_⟩
          have pl := payN_len ws i
          have good : ¬ BadSeal 2 (d : Int) (2 + f + (i : Int)) e s' (payN ws i) := by
            rintro (q | q | q)
            · exact q ⟨⟨by decide, by decide⟩, ⟨by omega, by omega⟩, ⟨by omega, by omega⟩⟩
            · exact q hst
            · omega
          have dr := (la5.2 row mrow).1
          rw [erow] at dr
          refine ⟨_, rfl, .inl ⟨rfl, _, SqL.of hW5.1⟩, _, rfl, _, rfl, _, rfl, _, rfl, _, rfl, _, rfl, 2, (d : Int), 2 + f + (i : Int), S, row.1, e, s', payN ws i, rfl, s5.tup hS, SqL.of dr, by omega, fun z => absurd z good, fun _ C H6 s6 nC dC => ⟨by show 4 ≤ sizeLine; decide, fun u nu => ?_⟩⟩
          have su := Same.new (o := .tup [V.str "write", .int (d : Int), .int (2 + f + (i : Int)), .ref C]) nu
          have du : upd H6 u (.tup [V.str "write", .int (d : Int), .int (2 + f + (i : Int)), .ref C]) u = some (.tup [V.str "write", .int (d : Int), .int (2 + f + (i : Int)), .ref C]) := upd_same
          have s67 := s6.trans su
          have hW7 := hW5.same s67
          have la7 := la5.same s67
          have dC7 := su _ _ dC
          have uR : u ≠ R := (ne_of_none (s6 _ _ hW5.1) nu).symm
          have CR : C ≠ R := (ne_of_none hW5.1 nC).symm
          have nC0 := same_none s5 nC
          have s7 := s5.trans s67
          generalize upd H6 u (.tup [V.str "write", .int (d : Int), .int (2 + f + (i : Int)), .ref C]) = H7 at su du s67 hW7 la7 dC7 s7 ⊢
          have lrs : rs.length ≤ 1000 := by
            have h1 := congrArg List.length hm5
            have h2 : ∀ m, (rqN ims ds e s' f ws m).length ≤ 8 * m := fun m => by
              induction m with
              | zero => exact Nat.zero_le _
              | succ m ih =>
                rw [rqN_succ, List.length_append]
                have : (rqP ims ds e s' f ws m).length ≤ 8 := by
                  unfold rqP
                  rw [List.length_map]
                  exact Nat.le_trans (List.length_filter_le _ _) lB
                omega
            have h3 : (rqP ims (ds.take j) e s' f ws i).length ≤ 8 := by
              unfold rqP
              rw [List.length_map]
              exact Nat.le_trans (List.length_filter_le _ _) (by rw [List.length_take]; omega)
            have h4 := h2 i
            rw [List.length_map, List.length_append] at h1
            have : plM ws.length ≤ 16 := by omega
            omega
          refine ⟨R, _, _, rfl, rfl, hW7.1, small _ (by rw [List.length_map]; omega), ?_⟩
          have el : rs.map rqV ++ [V.ref u] = (rs ++ [(⟨u, C, d, 2 + f + (i : Int), sealM 2 (d : Int) (2 + f + (i : Int)) e s' (payN ws i)⟩ : Rq)]).map rqV := by rw [List.map_append]; rfl
          rw [el]
          refine ⟨_, _, rfl, same_put s7 nR, ⟨?_, fun x m => ⟨?_, (la7.2 x m).2⟩⟩, WRq.put fun x m => ?_, fun x m => ?_, ?_⟩
          · rw [upd_ne (ne_of_none upd_same nPl).symm]
            exact la7.1
          · rw [upd_ne (ne_of_none upd_same (nw x m)).symm]
            exact (la7.2 x m).1
          · rcases List.mem_append.mp m with m | m
            · exact hW7.2 x m
            · rw [List.mem_singleton.mp m]
              exact ⟨⟨du, uR⟩, dC7, CR⟩
          · rcases List.mem_append.mp m with m | m
            · exact hf5 x m
            · rw [List.mem_singleton.mp m]
              exact nC0
          · rw [List.map_append, hm5, List.append_assoc]
            rfl
      rintro σ H5 ⟨v8', rs, rfl, s5, la5, hW5, hf5, hm5⟩
      rw [List.length_map, List.take_length, ← rqN_succ] at hm5
      exact ⟨_, _, _, rs, rfl, s5, la5, hW5, hf5, hm5⟩
    rintro σ H2 ⟨v6, v7, v8, rs, rfl, s2, la2, hW2, hf2, hm2⟩
    rw [refs_len, lrows] at hm2
    exact ⟨_, rfl, kQ c R rs H2 s2 nR hW2 hf2 hm2⟩
theorem sc_law_words : FnScope ["pot", "count", "k"] ["pot", "count"] (defScope s_law_words) := ⟨rfl, rfl, rfl, by decide +kernel, rfl, by decide +kernel, by decide +kernel⟩
theorem ok_law_words (T : Txt K mg a) : FnOk P w K mg base CX0 3 a.f_law_words a.d_law_words ["pot", "count"] (sp_law_words K a) := by
  refine T.F_law_words.ok sc_law_words (fun vs H Q E h => ?len) (fun cdv A outer s H vs Q E hr h => ?body)
  case len =>
    exact sp_law_words_len h
  case body =>
    obtain ⟨p, l, n, rfl, hP, n0, n5, k⟩ := h
    refine ⟨_, (pss_one (ps_ret (pe_lc (own := [("k", 2)]) (g := (gName 2)) (by rfl) sc_law_words.nd (pi_range1 (by rfl) T.n_range (pa_cons (pv 1) pa_nil)) (blkOk_by (own := [("k", 2)]) (N := ["pot", "count", "k"]) (sc := defScope s_law_words) (by decide +kernel))
      (fun _ _ _ _ _ => (pg_name (i := 2) sc_law_words.nd rfl (Or.inl rfl))) (fun _ _ _ _ _ => pts_nil) (fun _ _ _ _ _ => (pe_call (ok_law_word T) (hr.mono (by decide)) rfl T.g_law_word T.F_law_word.kp T.d_law_word .nil pass0 (pa_cons (pv 0) pa_nil)))))), ?_⟩
    refine ⟨_, rfl, n, rfl, by omega, by omega, fun D new => lc_it walk_range (fun i H' => ∃ ws : List Int, But p H H' ∧ Pot H' p l ∧ H' D = some (.lst (ws.map V.int)) ∧ ws.length = i ∧ ∀ w ∈ ws, Wd w)
      ⟨[], (Same.new new).but, hP.new new, upd_same, rfl, fun _ m => nomatch m⟩ (fun _ _ _ _ => True.intro) ?_ ?_⟩
    · rintro i y H1 H2 hi ⟨ws, b1, P1, d1, hl, hw⟩ ⟨rfl, rfl⟩
      have off := hP.off new
      refine ⟨rfl, _, rfl, p, l, rfl, P1, fun v H3 wv P3 o3 => ?_⟩
      refine ⟨_, by rw [o3 _ off.1.symm]; exact d1, small _ (by simp; omega), ws ++ [v], ?_, P3.only Only.upd off.1 off.2, ?_, by simp [hl], ?_⟩
      · intro b o e nb
        rw [upd_ne (ne_of_none e new), o3 _ nb]
        exact b1 b o e nb
      · rw [upd_same, List.map_append]
        rfl
      · intro w m
        rcases List.mem_append.mp m with m | m
        · exact hw w m
        · have : w = v := by simpa using m
          rw [this]
          exact wv
    · rintro H' ⟨ws, b1, P1, d1, hl, hw⟩
      exact k D ws H' hl hw new d1 b1 P1
theorem sc_read_place : FnScope ["images", "disks", "stamp", "place", "row", "disk", "found"] ["images", "disks", "stamp", "place"] (defScope s_read_place) := ⟨rfl, rfl, rfl, by decide +kernel, rfl, by decide +kernel, by decide +kernel⟩
theorem ok_read_place (T : Txt K mg a) : FnOk P w K mg base CX0 4 a.f_read_place a.d_read_place ["images", "disks", "stamp", "place"] (sp_read_place K a) := by
  refine T.F_read_place.ok sc_read_place (fun vs H Q E h => ?len) (fun cdv A outer s H vs Q E hr h => ?body)
  case len =>
    exact sp_read_place_len h
  case body =>
    obtain ⟨X, I, B, S, st, ds, e, s', q, o, rfl, hI, ls, lr, hB, lB, hS, hr', kN, kQ⟩ := h
    refine ⟨_, (pss_cons (ps_set (i := 4) sc_read_place.nd rfl (Or.inl rfl) (pe_op op_add (pe_const T.g_LABEL_ROWS) (pv 3)))
      (pss_cons (ps_for PassesOwn.never rfl (pi_list (pv 1)) (pg_name (i := 5) sc_read_place.nd rfl (Or.inl rfl))
      (pss_cons (ps_set (i := 6) sc_read_place.nd rfl (Or.inl rfl) (pe_call (ok_unseal T) (hr.mono (by decide)) rfl T.g_unseal T.F_unseal.kp T.d_unseal .nil pass0 (pa_cons (pe_call (ok_sector_at T) (hr.mono (by decide)) rfl T.g_sector_at T.F_sector_at.kp T.d_sector_at .nil pass0 (pa_cons (pv 0) (pa_cons (pv 5) (pa_cons (pv 4) pa_nil)))) (pa_cons (pe_const T.g_NOTE) (pa_cons (pv 5) (pa_cons (pv 4) pa_nil))))))
      (pss_one (ps_if (PW.pt (pw_and (pt_cmpR op_notN (pv 6) pe_non (nomark _)) (pw_and1 (pt_cmpR (op_eqD hr.units) (pe_ix ix_tup (pv 6) pe_int (fun _ _ => rfl)) (pv 2) (nomark _)))))
      (pss_one (ps_ret (pe_ix ix_tup (pv 6) pe_int (fun _ _ => rfl))))
      pss_nil))))
      (pss_one (ps_ret pe_non)))), ?_⟩
    refine ⟨_, rfl, _, _, rfl, rfl, ?_⟩
    refine ⟨_, rfl, B, rfl, ⟨_, hB⟩, for_list (xs := ds.map fun d : Nat => V.int (d : Int)) (fun j σ H' => ∃ (v5 v6 : Option V), σ = [some (.ref I), some (.ref B), some (.ref S), some (.int (q : Int)), some (.int (2 + (q : Int))), v5, v6] ∧ Same H H' ∧ ∀ d ∈ ds.take j, ∀ ws, ¬ NtS st d (2 + q) (e, s') ws)
      ⟨none, none, rfl, Same.refl _, fun _ m => by rw [List.take_zero] at m; cases m⟩ (fun j σ H' _ ⟨_, _, _, s, _⟩ => s.seq hB) ?_ ?_⟩
    · rintro j y σ H5 hy ⟨v5, v6, rfl, s5, no⟩
      obtain ⟨d, hd, rfl⟩ : ∃ d, ds[j]? = some d ∧ y = V.int (d : Int) := by
        rw [List.getElem?_map] at hy
        cases z : ds[j]? with
        | none => rw [z] at hy; cases hy
        | some d => rw [z] at hy; exact ⟨d, rfl, (Option.some.inj hy).symm⟩
      have md := List.mem_of_getElem? hd
      have im5 := hI.same s5
      have e2 : (2 : Int) + (q : Int) = ((2 + q : Nat) : Int) := by omega
      have more : ∀ {H' : Hp}, Same H H' → (∀ ws, ¬ NtS st d (2 + q) (e, s') ws) → ∀ d' ∈ ds.take (j + 1), ∀ ws, ¬ NtS st d' (2 + q) (e, s') ws := fun _ n d' m => by
        rw [take_snoc hd] at m
        rcases List.mem_append.mp m with m | m
        · exact no d' m
        · rw [List.mem_singleton.mp m]; exact n
      refine ⟨_, rfl, _, rfl, _, rfl, X, I, st, d, 2 + q, by rw [e2]; rfl, im5, ls, lr, ?_⟩
      have goN : ∀ H6, Same H5 H6 → (∀ ws, ¬ NtS st d (2 + q) (e, s') ws) → ∃ (v5 v6 : Option V), [some (V.ref I), some (.ref B), some (.ref S), some (.int (q : Int)), some (.int (2 + (q : Int))), some (.int (d : Int)), some .non] = [some (.ref I), some (.ref B), some (.ref S), some (.int (q : Int)), some (.int (2 + (q : Int))), v5, v6] ∧ Same H H6 ∧ ∀ d ∈ ds.take (j + 1), ∀ ws, ¬ NtS st d (2 + q) (e, s') ws := fun H6 s6 n => ⟨_, _, rfl, s5.trans s6, more (s5.trans s6) n⟩
      have fin : ∀ H6, Same H5 H6 → (∀ ws, ¬ NtS st d (2 + q) (e, s') ws) → True := fun _ _ _ => True.intro
      unfold secV
      cases hs : secS st d (2 + q) with
      | none =>
        refine ⟨_, rfl, _, rfl, .non, 2, (d : Int), 2 + (q : Int), rfl, .inl ⟨rfl, fun H6 s6 => ?_⟩⟩
        refine ⟨_, rfl, rfl, _, rfl, ?_⟩
        rw [decide_eq_true rfl]
        exact iteF (iteF (goN H6 s6 fun ws ⟨sc, z, _⟩ => by rw [hs] at z; cases z))
      | some sc =>
        obtain ⟨dk, z1, z2⟩ := sec_some hs
        have hR := im5.hR d dk (2 + q) sc z1 z2
        have sn : ∀ t ws, NtS st d (2 + q) t ws ↔ Good sc.2 2 (d : Int) ((2 + q : Nat) : Int) ∧ stampM sc.2 = t ∧ payM sc.2 = ws := fun t ws => ⟨fun ⟨sc', g1, g2⟩ => by
          rw [hs] at g1
          cases g1
          exact g2, fun g => ⟨sc, hs, g⟩⟩
        refine ⟨_, rfl, _, rfl, .ref sc.1, 2, (d : Int), 2 + (q : Int), rfl, .inr ⟨sc.1, sc.2, rfl, SqL.of hR.1, by have := hR.2.2; omega, fun ng H6 s6 => ?_, fun g T S' D H6 s6 nT nD dT dS dD => ?_⟩⟩
        · refine ⟨_, rfl, rfl, _, rfl, ?_⟩
          rw [decide_eq_true rfl]
          exact iteF (iteF (goN H6 s6 fun ws w => ng (by rw [e2]; exact ((sn _ _).mp w).1)))
        · refine ⟨_, rfl, rfl, _, rfl, ?_⟩
          rw [decide_eq_false (show ¬ V.ref T = V.non from fun z => nomatch z)]
          refine iteT ⟨_, rfl, T, _, _, _, rfl, rfl, SqT.of dT, at_of (j := 0) rfl rfl, _, rfl, _, _, dp_tints (xs := [_, _]) (SqT.of dS), dp_tints (xs := [e, s']) ((s5.trans s6).tup hS), shaped_tints _, shaped_tints _, _, rfl, ?_⟩
          rw [eqv_tints]
          refine ite2 (fun c => ?_) (fun c => ?_)
          · have c := of_decide_eq_true c
            injection c with c1 c2
            injection c2 with c2 _
            have w : NtS st d (2 + q) (e, s') (payM sc.2) := (sn _ _).mpr ⟨by rw [← e2]; exact g, Prod.ext c1 c2, rfl⟩
            refine ⟨_, rfl, T, _, _, _, rfl, rfl, SqT.of dT, at_of (j := 1) rfl rfl, ?_⟩
            cases o with
            | none => exact absurd w (hr' d md _)
            | some ws =>
              have := hr'.2 d md _ w
              rw [← this] at kQ
              exact kQ _ rfl D H6 (s5.trans s6) (same_none s5 nD) dD
          · refine ⟨_, _, rfl, s5.trans s6, more (s5.trans s6) fun ws w => c (decide_eq_true ?_)⟩
            have := ((sn _ _).mp w).2.1
            unfold stampM at this
            injection this with t1 t2
            rw [t1, t2]
    rintro σ H5 ⟨v5, v6, rfl, s5, no⟩
    rw [List.length_map, List.take_length] at no
    cases o with
    | none => exact kN rfl H5 s5
    | some ws =>
      obtain ⟨⟨d, md, w⟩, _⟩ := hr'
      exact absurd w (no d md ws)
theorem sc_law_refused : FnScope ["images", "disks", "stamp", "first", "words", "e"] ["images", "disks", "stamp", "first", "words"] (defScope s_law_refused) := ⟨rfl, rfl, rfl, by decide +kernel, rfl, by decide +kernel, by decide +kernel⟩
theorem ok_law_refused (T : Txt K mg a) : FnOk P w K mg base CX0 4 a.f_law_refused a.d_law_refused ["images", "disks", "stamp", "first", "words"] (sp_law_refused K a) := by
  refine T.F_law_refused.ok sc_law_refused (fun vs H Q E h => ?len) (fun cdv A outer s H vs Q E hr h => ?body)
  case len =>
    exact sp_law_refused_len h
  case body =>
    obtain ⟨I, B, S, W, ims, ds, e, s', f, ws, rfl, hI, li, hB, lB, hds, hS, hst, hW, lw, f0, big, k⟩ := h
    refine ⟨_, (pss_cons (ps_try_as (i := 5) rfl rfl sc_law_refused.nd rfl rfl ⟨rfl, by decide, .inl T.g_PoolError⟩ takes0
      (fun W pn xe tk _ => (pss_one (ps_expr (pe_callS (ok_note_requests T) (hr.mono (by decide)) rfl T.g_note_requests T.F_note_requests.kp T.d_note_requests (fun σ => passAt tk σ) (pa_cons (pv 0) (pa_cons (pv 1) (pa_cons (pv 2) (pa_cons (pv 3) (pa_cons (pv 4) pa_nil)))))))))
      (fun a oe cls d pn hz hf => (pss_one (ps_ret (pe_callB (call_isE' hz hf) (by rfl) T.n_isinstance (by decide +kernel) (pa_cons (pv 5) (pa_cons (pe_glob (v := .ref _) rfl T.g_InvalidArgument rfl) pa_nil)))))))
      (pss_one (ps_ret pe_bl))), ?_⟩
    refine ⟨_, rfl, _, rfl, _, rfl, _, rfl, _, rfl, I, B, S, W, ims, ds, e, s', f, ws, rfl, hI, li, hB, lB, hds, hS, hst, hW, lw, f0, fun _ H1 sm => ?_, fun z => absurd z (by omega)⟩
    refine ⟨true, T.u_InvalidArgument_PoolError, fun _ b hb => ?_, fun z => Bool.noConfusion z⟩
    exact ⟨_, rfl, _, rfl, rfl, T.E_InvalidArgument, _, _, true, rfl, fun _ z => z, T.i_InvalidArgument_InvalidArgument, k _ sm⟩
theorem sc_law_note : FnScope ["pot", "kind", "base", "size"] ["pot"] (defScope s_law_note) := ⟨rfl, rfl, rfl, by decide +kernel, rfl, by decide +kernel, by decide +kernel⟩
theorem ok_law_note (T : Txt K mg a) : FnOk P w K mg base CX0 4 a.f_law_note a.d_law_note ["pot"] (sp_law_note K a) := by
  refine T.F_law_note.ok sc_law_note (fun vs H Q E h => ?len) (fun cdv A outer s H vs Q E hr h => ?body)
  case len =>
    exact sp_law_note_len h
  case body =>
    obtain ⟨p, l, rfl, hP, k⟩ := h
    refine ⟨_, (pss_cons (ps_set (i := 1) sc_law_note.nd rfl (Or.inl rfl) (pe_call (ok_law_next T) (hr.mono (by decide)) rfl T.g_law_next T.F_law_next.kp T.d_law_next .nil pass0 (pa_cons (pv 0) (pa_cons pe_int pa_nil))))
      (pss_cons (ps_if (pt_cmpR op_lt (pv 1) pe_int (nomark _))
      (pss_one (ps_ret (pe_call (ok_law_words T) (hr.mono (by decide)) rfl T.g_law_words T.F_law_words.kp T.d_law_words .nil pass0 (pa_cons (pv 0) (pa_cons (pe_call (ok_law_next T) (hr.mono (by decide)) rfl T.g_law_next T.F_law_next.kp T.d_law_next .nil pass0 (pa_cons (pv 0) (pa_cons pe_int pa_nil))) pa_nil)))))
      pss_nil)
      (pss_cons (ps_set (i := 2) sc_law_note.nd rfl (Or.inl rfl) (pe_call (ok_law_words T) (hr.mono (by decide)) rfl T.g_law_words T.F_law_words.kp T.d_law_words .nil pass0 (pa_cons (pv 0) (pa_cons (pe_op op_add pe_int (pe_call (ok_law_next T) (hr.mono (by decide)) rfl T.g_law_next T.F_law_next.kp T.d_law_next .nil pass0 (pa_cons (pv 0) (pa_cons pe_int pa_nil)))) pa_nil))))
      (pss_cons (ps_set (i := 3) sc_law_note.nd rfl (Or.inl rfl) (pe_ix ix_list (pe_lst (pa_cons pe_int (pa_cons pe_int (pa_cons pe_int (pa_cons pe_int (pa_cons pe_int (pa_cons pe_int pa_nil))))))) (pe_call (ok_law_next T) (hr.mono (by decide)) rfl T.g_law_next T.F_law_next.kp T.d_law_next .nil pass0 (pa_cons (pv 0) (pa_cons pe_int pa_nil))) (fun _ _ => rfl)))
      (pss_one (ps_ret (pe_slice sl_list (pe_op op_rep (pv 2) (pv 3)) po_none (po_some (pv 3))))))))), ?_⟩
    have lim : ∀ {m : Int}, m.natAbs < 2 ^ 40 → m.natAbs < 2 ^ 400 := fun h => Nat.lt_of_lt_of_le h (Nat.pow_le_pow_right (by decide) (by decide))
    refine ⟨_, rfl, p, l, 6, rfl, hP, by decide, lim (by decide), fun kd H1 k0 k1 P1 o1 => ⟨_, rfl, _, _, rfl, rfl, _, rfl, ite2 (fun _ => ?_) (fun _ => ?_)⟩⟩
    · exact ⟨_, rfl, _, rfl, p, l, 8, rfl, P1, by decide, lim (by decide), fun c H2 c0 c1 P2 o2 => ⟨p, l, c, rfl, P2, c0, by omega, fun D ws H3 lw hw nD dD b3 P3 => k D ws H3 (by omega) hw (but_none (o1.but.trans o2.but) P2 nD) dD ((o1.but.trans o2.but).trans b3) P3⟩⟩
    · refine ⟨_, rfl, _, rfl, p, l, 3, rfl, P1, by decide, lim (by decide), fun c H2 c0 c1 P2 o2 => ⟨_, _, rfl, rfl, p, l, 1 + c, rfl, P2, by omega, by omega, fun D ws H3 lw hw nD dD b3 P3 => ?_⟩⟩
      have nD0 := but_none (o1.but.trans o2.but) P2 nD
      have b13 := (o1.but.trans o2.but).trans b3
      have Dp := P2.nn nD
      refine ⟨by show 6 ≤ sizeLine; decide, fun q nq => ?_⟩
      have s4 := Same.new (o := .lst [V.int 998, .int 999, .int 1000, .int 1998, .int 1999, .int 2500]) nq
      have dq : upd H3 q (.lst [V.int 998, .int 999, .int 1000, .int 1998, .int 1999, .int 2500]) q = some (.lst [V.int 998, .int 999, .int 1000, .int 1998, .int 1999, .int 2500]) := upd_same
      have P4 := P3.same s4
      have dD4 := s4 _ _ dD
      have oq := (P3.off nq).1.symm
      have b14 := b13.trans s4.but
      generalize upd H3 q (.lst [V.int 998, .int 999, .int 1000, .int 1998, .int 1999, .int 2500]) = H4 at s4 dq P4 dD4 b14 ⊢
      refine ⟨_, rfl, p, l, 6, rfl, P4, by decide, lim (by decide), fun v H5 v0 v6 P5 o5 => ?_⟩
      have hsz : ∃ sz : Int, ([V.int 998, .int 999, .int 1000, .int 1998, .int 1999, .int 2500] : List V)[v.toNat]? = some (.int sz) ∧ 0 ≤ sz ∧ sz ≤ 2500 := by
        have : v = 0 ∨ v = 1 ∨ v = 2 ∨ v = 3 ∨ v = 4 ∨ v = 5 := by omega
        rcases this with rfl | rfl | rfl | rfl | rfl | rfl
        · exact ⟨998, rfl, by decide, by decide⟩
        · exact ⟨999, rfl, by decide, by decide⟩
        · exact ⟨1000, rfl, by decide, by decide⟩
        · exact ⟨1998, rfl, by decide, by decide⟩
        · exact ⟨1999, rfl, by decide, by decide⟩
        · exact ⟨2500, rfl, by decide, by decide⟩
      obtain ⟨sz, hlv, sz0, sz1⟩ := hsz
      refine ⟨q, _, _, _, rfl, rfl, SqL.of (o5.but _ _ dq oq), at_of (j := v.toNat) (by omega) hlv, ?_⟩
      have dD5 := o5.but _ _ dD4 Dp
      have b15 := b14.trans o5.but
      obtain ⟨sn, rfl⟩ : ∃ m : Nat, sz = (m : Int) := ⟨sz.toNat, by omega⟩
      have lw : ws.length ≤ 3 := by omega
      refine ⟨_, rfl, _, rfl, D, (sn : Int), _, rfl, rfl, dD5, by omega, by omega, by rw [List.length_map, Int.toNat_natCast]; exact Nat.le_trans (Nat.mul_le_mul lw (by omega : sn ≤ 2500)) (by decide), fun q2 nq2 => ?_⟩
      have er : (List.replicate ((sn : Int)).toNat (ws.map V.int)).flatten = ((List.replicate sn ws).flatten).map V.int := by
        rw [Int.toNat_natCast]
        clear dD5 hlv sz0 sz1
        induction sn with
        | zero => rfl
        | succ m ih => rw [List.replicate_succ, List.replicate_succ, List.flatten_cons, List.flatten_cons, ih, List.map_append]
      rw [er]
      refine ⟨_, rfl, _, rfl, q2, _, rfl, SqL.of upd_same, fun q3 nq3 => ?_⟩
      rw [cut_take, ← List.map_take]
      have s6 := Same.new (o := .lst (((List.replicate sn ws).flatten).map V.int)) nq2
      have s7 := s6.trans (Same.new (o := .lst ((((List.replicate sn ws).flatten).take sn).map V.int)) nq3)
      refine k q3 (((List.replicate sn ws).flatten).take sn) _ (by rw [List.length_take]; omega) (fun w m => ?_) (but_none b15 P5 (same_none s6 nq3)) upd_same (b15.trans s7.but) (P5.same s7)
      obtain ⟨x, mx, m⟩ := List.mem_flatten.mp (List.mem_of_mem_take m)
      rw [List.eq_of_mem_replicate mx] at m
      exact hw w m
theorem sc_read_notes : FnScope ["images", "disks", "stamp", "notes", "begun", "place", "payload"] ["images", "disks", "stamp"] (defScope s_read_notes) := ⟨rfl, rfl, rfl, by decide +kernel, rfl, by decide +kernel, by decide +kernel⟩
theorem ok_read_notes (T : Txt K mg a) : FnOk P w K mg base CX0 5 a.f_read_notes a.d_read_notes ["images", "disks", "stamp"] (sp_read_notes K a) := by
  refine T.F_read_notes.ok sc_read_notes (fun vs H Q E h => ?len) (fun cdv A outer s H vs Q E hr h => ?body)
  case len =>
    exact sp_read_notes_len h
  case body =>
    obtain ⟨X, I, B, S, st, ds, e, s', f, m, rfl, hI, ls, lr, hB, lB, hS, m16, hf, hm, k⟩ := h
    refine ⟨_, (pss_cons (ps_set (i := 3) sc_read_notes.nd rfl (Or.inl rfl) (pe_lst pa_nil))
      (pss_cons (ps_set (i := 4) sc_read_notes.nd rfl (Or.inl rfl) (pe_lst pa_nil))
      (Evl.pss_cut (ps_for PassesOwn.never rfl (pi_range1 (by rfl) T.n_range (pa_cons (pe_const T.g_JOURNAL_ROWS) pa_nil)) (pg_name (i := 5) sc_read_notes.nd rfl (Or.inl rfl))
      (pss_cons (ps_set (i := 6) sc_read_notes.nd rfl (Or.inl rfl) (pe_call (ok_read_place T) (hr.mono (by decide)) rfl T.g_read_place T.F_read_place.kp T.d_read_place .nil pass0 (pa_cons (pv 0) (pa_cons (pv 1) (pa_cons (pv 2) (pa_cons (pv 5) pa_nil))))))
      (pss_cons (ps_if (pt_cmpR op_isN (pv 6) pe_non (nomark _))
      (pss_one ps_break)
      pss_nil)
      (pss_cons (ps_expr (pe_bm PySem.F.plainAttrs_list PySem.F.slot_list_extend PySem.F.type_list_extend mt_extend (pv 4) (pa_cons (pe_slice sl_list (pv 6) (po_some pe_int) po_none) pa_nil)))
      (pss_one (ps_if (pt_cmpR op_eq (pe_ix ix_list (pv 6) pe_int (fun _ _ => rfl)) pe_int (nomark _))
      (pss_cons (ps_expr (pe_bm PySem.F.plainAttrs_list PySem.F.slot_list_append PySem.F.type_list_append mt_append (pv 3) (pa_cons (pv 4) pa_nil)))
      (pss_one (ps_set (i := 4) sc_read_notes.nd rfl (Or.inl rfl) (pe_lst pa_nil))))
      pss_nil))))))
      (pss_one (ps_ret (pv 3)))))), ?_⟩
    refine ⟨Nat.zero_le _, fun N nN => ⟨Nat.zero_le _, fun B0 nB0 => ?_⟩⟩
    have sN := Same.new (o := .lst []) nN
    have sB := Same.new (o := .lst []) nB0
    have NB : N ≠ B0 := ne_of_none upd_same nB0
    refine ⟨fun σ H' => ∃ (v4 v5 v6 : Option V) (rows : List (Addr × List Int)), σ = [some (.ref I), some (.ref B), some (.ref S), some (.ref N), v4, v5, v6] ∧ Same H H' ∧ LA H' N rows ∧ snds rows = (rdS f m).1, ?_, ?_⟩
    · refine ⟨16, rfl, by decide, by decide, ?_⟩
      refine for_range (lo := 0) (n := 16) (fun i σ H' => i ≤ m ∧ ∃ (v5 v6 : Option V) (rows : List (Addr × List Int)) (Bg : Addr), σ = [some (.ref I), some (.ref B), some (.ref S), some (.ref N), some (.ref Bg), v5, v6] ∧ Same H H' ∧ LA H' N rows ∧ snds rows = (rdS f i).1 ∧ H' Bg = some (.lst ((rdS f i).2.map V.int)) ∧ H Bg = none ∧ Bg ≠ N ∧ (∀ e ∈ rows, e.1 ≠ Bg) ∧ rows.length ≤ i ∧ (rdS f i).2.length ≤ 1000 * i)
        ⟨Nat.zero_le _, none, none, [], B0, rfl, sN.trans sB, ⟨sB _ _ upd_same, fun _ m => (nomatch m)⟩, rfl, upd_same, same_none sN nB0, NB.symm, fun _ m => (nomatch m), Nat.le_refl _, Nat.zero_le _⟩ ?_ ?_
      · rintro i σ H1 hi ⟨im, v5, v6, rows, Bg, rfl, s1, la, er, dB, nB, BN, hB', lr', lb⟩
        rw [Int.zero_add]
        have h1 := hI.same s1
        refine ⟨_, rfl, _, rfl, _, rfl, _, rfl, X, I, B, S, st, ds, e, s', i, if i < m then some (f i) else none, rfl, h1, ls, lr, s1.seq hB, lB, s1.tup hS, ?_, fun c H2 s2 => ?_, fun ws c D H2 s2 nD dD => ?_⟩
        · by_cases c : i < m
          · rw [if_pos c]; exact (hf i c).1
          · rw [if_neg c]
            have : i = m := by omega
            rw [this]
            exact hm (by omega)
        · have c : ¬ i < m := fun z => by rw [if_pos z] at c; cases c
          have : i = m := by omega
          subst this
          refine ⟨_, rfl, rfl, _, rfl, ?_⟩
          rw [decide_eq_true rfl]
          exact iteT ⟨_, _, _, rows, rfl, s1.trans s2, la.same s2, er⟩
        · have hlt : i < m := Classical.byContradiction fun z => by rw [if_neg z] at c; cases c
          rw [if_pos hlt] at c
          cases c
          obtain ⟨_, f1, f2⟩ := hf i hlt
          refine ⟨_, rfl, rfl, _, rfl, ?_⟩
          rw [decide_eq_false (show ¬ V.ref D = V.non from fun z => nomatch z)]
          refine iteF ?_
          have s12 := s1.trans s2
          have la2 := la.same s2
          have dB2 := s2 _ _ dB
          refine ⟨_, rfl, .inl ⟨rfl, _, SqL.of dB2⟩, _, rfl, _, rfl, D, _, rfl, SqL.of dD, fun q nq => ?_⟩
          rw [show (1 : Int) = ((1 : Nat) : Int) from rfl, cut_drop, ← List.map_drop]
          have s3 := Same.new (o := .lst (((f i).drop 1).map V.int)) nq
          have dq : upd H2 q (.lst (((f i).drop 1).map V.int)) q = some (.lst (((f i).drop 1).map V.int)) := upd_same
          have la3 := la2.same s3
          have dB3 := s3 _ _ dB2
          have dD3 := s3 _ _ dD
          have s13 := s12.trans s3
          have DB : D ≠ Bg := (ne_of_none dB nD).symm
          generalize upd H2 q (.lst (((f i).drop 1).map V.int)) = H3 at s3 dq la3 dB3 dD3 s13 ⊢
          refine ⟨Bg, q, _, _, rfl, rfl, dB3, dq, Nat.le_of_lt (small _ (by rw [List.length_map, List.length_map, List.length_drop]; omega)), ?_⟩
          rw [← List.map_append]
          have s4 : Same H (upd H3 Bg (.lst (((rdS f i).2 ++ (f i).drop 1).map V.int))) := same_put s13 nB
          have dB4 : upd H3 Bg (.lst (((rdS f i).2 ++ (f i).drop 1).map V.int)) Bg = some (.lst (((rdS f i).2 ++ (f i).drop 1).map V.int)) := upd_same
          have la4 : LA (upd H3 Bg (.lst (((rdS f i).2 ++ (f i).drop 1).map V.int))) N rows := ⟨by rw [upd_ne BN.symm]; exact la3.1, fun x mx => ⟨by rw [upd_ne (hB' x mx)]; exact (la3.2 x mx).1, (la3.2 x mx).2⟩⟩
          have dD4 : upd H3 Bg (.lst (((rdS f i).2 ++ (f i).drop 1).map V.int)) D = some (.lst ((f i).map V.int)) := by rw [upd_ne DB]; exact dD3
          have nBg : H Bg = none := nB
          generalize upd H3 Bg (.lst (((rdS f i).2 ++ (f i).drop 1).map V.int)) = H4 at s4 dB4 la4 dD4 ⊢
          have h0 : ((f i).map V.int)[0]? = some (.int ((f i).getD 0 0)) := by
            rw [List.getElem?_map, List.getD_eq_getElem?_getD, List.getElem?_eq_getElem (by omega)]
            rfl
          refine ⟨_, rfl, D, _, _, _, rfl, rfl, SqL.of dD4, at_of (j := 0) rfl h0, rfl, _, rfl, ?_⟩
          refine ite2 (fun c => ?_) (fun c => ?_)
          · have c : (f i).getD 0 0 = 0 := V.int.inj (of_decide_eq_true c)
            have e1 : rdS f (i + 1) = ((rdS f i).1 ++ [(rdS f i).2 ++ (f i).drop 1], []) := by rw [rdS, if_pos c]
            refine ⟨_, rfl, .inl ⟨rfl, _, SqL.of la4.1⟩, _, rfl, N, _, _, rfl, rfl, la4.1, small _ (by rw [refs_len]; omega), ?_⟩
            have e2 : refs rows ++ [V.ref Bg] = refs (rows ++ [(Bg, (rdS f i).2 ++ (f i).drop 1)]) := by unfold refs; rw [List.map_append]; rfl
            rw [e2]
            have la5 : LA (upd H4 N (.lst (refs (rows ++ [(Bg, (rdS f i).2 ++ (f i).drop 1)])))) N (rows ++ [(Bg, (rdS f i).2 ++ (f i).drop 1)]) := LA.put fun x mx => by
              rcases List.mem_append.mp mx with mx | mx
              · exact la4.2 x mx
              · rw [List.mem_singleton.mp mx]
                exact ⟨dB4, BN⟩
            have s5 := same_put (o := .lst (refs (rows ++ [(Bg, (rdS f i).2 ++ (f i).drop 1)]))) s4 nN
            generalize upd H4 N (.lst (refs (rows ++ [(Bg, (rdS f i).2 ++ (f i).drop 1)]))) = H5 at la5 s5 ⊢
            refine ⟨Nat.zero_le _, fun B1 nB1 => ?_⟩
            have s6 := Same.new (o := .lst []) nB1
            refine ⟨hlt, _, _, rows ++ [(Bg, (rdS f i).2 ++ (f i).drop 1)], B1, rfl, s5.trans s6, la5.same s6, by rw [e1]; unfold snds; rw [List.map_append]; exact congrArg (· ++ [(rdS f i).2 ++ (f i).drop 1]) er, by rw [e1]; exact upd_same, same_none s5 nB1, (ne_of_none la5.1 nB1).symm, fun x mx => ne_of_none (la5.2 x mx).1 nB1, by rw [List.length_append, List.length_singleton]; omega, by rw [e1]; exact Nat.zero_le _⟩
          · have c : ¬ (f i).getD 0 0 = 0 := fun z => c (decide_eq_true (by rw [z]))
            have e1 : rdS f (i + 1) = ((rdS f i).1, (rdS f i).2 ++ (f i).drop 1) := by rw [rdS, if_neg c]
            exact ⟨hlt, _, _, rows, Bg, rfl, s4, la4, by rw [e1]; exact er, by rw [e1]; exact dB4, nBg, BN, hB', by omega, by rw [e1]; show ((rdS f i).2 ++ (f i).drop 1).length ≤ _; rw [List.length_append, List.length_drop]; omega⟩
      · rintro σ H1 ⟨im, v5, v6, rows, Bg, rfl, s1, la, er, _⟩
        have : m = 16 := by omega
        subst this
        exact ⟨_, _, _, rows, rfl, s1, la, er⟩
    rintro σ H1 ⟨v4, v5, v6, rows, rfl, s1, la, er⟩
    exact ⟨_, rfl, k N rows H1 s1 la er⟩
theorem sc_law_write_all : FnScope ["pot", "images", "count", "stamp", "notes", "used", "flushed", "pending", "k", "words", "places", "requests", "request", "lost", "disk", "pair"] ["pot", "images", "count", "stamp"] (defScope s_law_write_all) := ⟨rfl, rfl, rfl, by decide +kernel, rfl, by decide +kernel, by decide +kernel⟩
theorem ok_law_write_all (T : Txt K mg a) : FnOk P w K mg base CX0 5 a.f_law_write_all a.d_law_write_all ["pot", "images", "count", "stamp"] (sp_law_write_all K a) := by
  refine T.F_law_write_all.ok sc_law_write_all (fun vs H Q E h => ?len) (fun cdv A outer s H vs Q E hr h => ?body)
  case len =>
    exact sp_law_write_all_len h
  case body =>
    obtain ⟨p, l, I, S, n, st0, g, rfl, hP, hI, ln, n1, n5, hS, g0, g5, hW, full, k⟩ := h
    refine ⟨_, (pss_cons (ps_set (i := 4) sc_law_write_all.nd rfl (Or.inl rfl) (pe_lst pa_nil))
      (pss_cons (ps_set (i := 5) sc_law_write_all.nd rfl (Or.inl rfl) pe_int)
      (pss_cons (ps_set (i := 6) sc_law_write_all.nd rfl (Or.inl rfl) pe_int)
      (pss_cons (ps_set (i := 7) sc_law_write_all.nd rfl (Or.inl rfl) (pe_lst pa_nil))
      (pss_cons (ps_for PassesOwn.never rfl (pi_range1 (by rfl) T.n_range (pa_cons (pe_call (ok_law_next T) (hr.mono (by decide)) rfl T.g_law_next T.F_law_next.kp T.d_law_next .nil pass0 (pa_cons (pv 0) (pa_cons pe_int pa_nil))) pa_nil)) (pg_name (i := 8) sc_law_write_all.nd rfl (Or.inl rfl))
      (pss_cons (ps_set (i := 9) sc_law_write_all.nd rfl (Or.inl rfl) (pe_call (ok_law_note T) (hr.mono (by decide)) rfl T.g_law_note T.F_law_note.kp T.d_law_note .nil pass0 (pa_cons (pv 0) pa_nil)))
      (pss_cons (ps_set (i := 10) sc_law_write_all.nd rfl (Or.inl rfl) (pe_callB (call_max2 rfl) (by rfl) T.n_max (by decide +kernel) (pa_cons pe_int (pa_cons (pe_op op_fdiv (pe_op op_add (pe_callB call_len_seq (by rfl) T.n_len PySem.boot_len (pa_cons (pv 9) pa_nil)) pe_int) pe_int) pa_nil))))
      (pss_cons (ps_if (PW.pt (pw_or (pt_cmpR op_ne (pe_call (ok_note_places T) (hr.mono (by decide)) rfl T.g_note_places T.F_note_places.kp T.d_note_places .nil pass0 (pa_cons (pv 9) pa_nil)) (pv 10) (nomark _)) (pw_or1 (pt_not (pt_val (pe_call (ok_law_refused T) (hr.mono (by decide)) rfl T.g_law_refused T.F_law_refused.kp T.d_law_refused .nil pass0 (pa_cons (pv 1) (pa_cons (pe_lst (pa_cons pe_int pa_nil)) (pa_cons (pv 3) (pa_cons (pe_op op_sub pe_int (pv 10)) (pa_cons (pv 9) pa_nil)))))))))))
      (pss_one (ps_ret pe_non))
      pss_nil)
      (pss_one (ps_if (pt_cmpR op_le (pe_op op_add (pv 5) (pv 10)) pe_int (nomark _))
      (pss_cons (ps_set (i := 11) sc_law_write_all.nd rfl (Or.inl rfl) (pe_call (ok_note_requests T) (hr.mono (by decide)) rfl T.g_note_requests T.F_note_requests.kp T.d_note_requests .nil passL (pa_cons (pv 1) (pa_cons (pe_lc (own := [("disk", 14)]) (g := (gName 14)) (by rfl) sc_law_write_all.nd (pi_range1 (by rfl) T.n_range (pa_cons (pv 2) pa_nil)) (blkOk_by (own := [("disk", 14)]) (N := ["pot", "images", "count", "stamp", "notes", "used", "flushed", "pending", "k", "words", "places", "requests", "request", "lost", "disk", "pair"]) (sc := defScope s_law_write_all) (by decide +kernel))
      (fun _ _ _ _ _ => (pg_name (i := 14) sc_law_write_all.nd rfl (Or.inl rfl))) (fun _ _ _ _ _ => pts_nil) (fun _ _ _ _ _ => (pv 14))) (pa_cons (pv 3) (pa_cons (pv 5) (pa_cons (pv 9) pa_nil)))))))
      (pss_cons (ps_if (pt_cmpR op_ne (pe_callB call_len_seq (by rfl) T.n_len PySem.boot_len (pa_cons (pv 11) pa_nil)) (pe_op op_mul (pv 10) (pv 2)) (nomark _))
      (pss_one (ps_ret pe_non))
      pss_nil)
      (pss_cons (ps_for PassesOwn.never rfl (pi_list (pv 11)) (pg_name (i := 12) sc_law_write_all.nd rfl (Or.inl rfl))
      (pss_cons (ps_expr (pe_bm PySem.F.plainAttrs_list PySem.F.slot_list_append PySem.F.type_list_append mt_append (pv 7) (pa_cons (pe_tup (pa_cons (pv 12) (pa_cons (pe_ix ix_list (pe_ix ix_list (pv 1) (pe_ix ix_tup (pv 12) pe_int (fun _ _ => rfl)) (fun _ _ => rfl)) (pe_ix ix_tup (pv 12) pe_int (fun _ _ => rfl)) (fun _ _ => rfl)) pa_nil))) pa_nil)))
      (pss_one (ps_asg (pe_ix ix_tup (pv 12) pe_int (fun _ _ => rfl)) (pg_sub (pe_ix ix_list (pv 1) (pe_ix ix_tup (pv 12) pe_int (fun _ _ => rfl)) (fun _ _ => rfl)) (pe_ix ix_tup (pv 12) pe_int (fun _ _ => rfl)) set_list)))))
      (pss_cons (ps_set (i := 5) sc_law_write_all.nd rfl (Or.inl rfl) (pe_op op_add (pv 5) (pv 10)))
      (pss_cons (ps_expr (pe_bm PySem.F.plainAttrs_list PySem.F.slot_list_append PySem.F.type_list_append mt_append (pv 4) (pa_cons (pv 9) pa_nil)))
      (pss_one (ps_if (pt_cmpR op_eq (pe_call (ok_law_next T) (hr.mono (by decide)) rfl T.g_law_next T.F_law_next.kp T.d_law_next .nil pass0 (pa_cons (pv 0) (pa_cons pe_int pa_nil))) pe_int (nomark _))
      (pss_cons (ps_set (i := 7) sc_law_write_all.nd rfl (Or.inl rfl) (pe_lst pa_nil))
      (pss_one (ps_set (i := 6) sc_law_write_all.nd rfl (Or.inl rfl) (pe_callB call_len_seq (by rfl) T.n_len PySem.boot_len (pa_cons (pv 4) pa_nil)))))
      pss_nil)))))))
      pss_nil))))))
      (pss_cons (ps_setLc (i := 13) (own := [("pair", 15)]) (g := (gName 15)) (by rfl) sc_law_write_all.nd rfl rfl (sw_true rfl rfl rfl (by decide +kernel)) (pi_list (pv 7)) (blkOk_by (own := [("pair", 15)]) (N := ["pot", "images", "count", "stamp", "notes", "used", "flushed", "pending", "k", "words", "places", "requests", "request", "lost", "disk", "pair"]) (sc := defScope s_law_write_all) (by decide +kernel))
      (fun _ _ _ _ _ => (pg_name (i := 15) sc_law_write_all.nd rfl (Or.inl rfl))) (fun _ _ _ _ _ => pts_nil) (fun _ _ _ _ _ => (pe_call (ok_law_fate T) (hr.mono (by decide)) rfl T.g_law_fate T.F_law_fate.kp T.d_law_fate .nil pass0 (pa_cons (pv 0) (pa_cons (pv 1) (pa_cons (pe_ix (by exact ix_tup : IxR _ (rIxT K)) (pv 15) pe_int (fun _ _ => rfl)) (pa_cons (pe_ix (by exact ix_tup : IxR _ (rIxT K)) (pv 15) pe_int (fun _ _ => rfl)) pa_nil)))))))
      (pss_one (ps_ret (pe_tup (pa_cons (pv 4) (pa_cons (pv 6) (pa_cons (pe_callB (cr_any rfl) (by rfl) T.n_any (by decide +kernel) (pa_cons (pv 13) pa_nil)) pa_nil)))))))))))), ?_⟩
    have lim : ∀ {m : Int}, m.natAbs < 2 ^ 40 → m.natAbs < 2 ^ 400 := fun h => Nat.lt_of_lt_of_le h (Nat.pow_le_pow_right (by decide) (by decide))
    refine ⟨Nat.zero_le _, fun N nN => ?_⟩
    have sN := Same.new (o := .lst []) nN
    refine ⟨Nat.zero_le _, fun Pd nPd => ?_⟩
    have sP := Same.new (o := .lst []) nPd
    have NP : N ≠ Pd := ne_of_none upd_same nPd
    have w0 : Wr H (upd (upd H N (.lst [])) Pd (.lst [])) p l I S N Pd n g st0 st0 [] [] 2 := by
      have sA := sN.trans sP
      refine ⟨hP.same sA, (hI.more (X' := X3 p Pd N) fun q o e z => ?_).same sA, ln, ⟨n1, n5⟩, fun _ => Iff.rfl, fun b z => ?_, ?_, ⟨sP _ _ upd_same, fun _ m => (nomatch m)⟩, upd_same, fun _ m => (nomatch m), sA _ _ hS, nN, same_none sN nPd, NP, fun _ m => (nomatch m), fun b e => same_none sA e⟩
      · rcases z with z | z | z
        · exact z
        · rw [z, same_none sN nPd] at e; cases e
        · rw [z, nN] at e; cases e
      · rcases z with z | z | ⟨i, dk, gg, z⟩
        · obtain ⟨_, _, _, hp⟩ := hP.list
          rw [z, hp]; exact fun z => nomatch z
        · rw [z, hI.hI]; exact fun z => nomatch z
        · rw [z, (hI.hD i dk gg).1]; exact fun z => nomatch z
      · obtain ⟨_, _, _, _, _, z2, _⟩ := hP
        rw [z2]; exact fun z => nomatch z
    generalize upd (upd H N (.lst [])) Pd (.lst []) = H1 at w0 ⊢
    clear sN sP NP nPd nN
    obtain ⟨IV, hIV⟩ : ∃ IV : Nat → St → Hp → Prop, ∀ i σ H', IV i σ H' ↔ ∃ (v8 v9 v10 v11 v12 : Option V) (Pd : Addr) (st : Sts) (nts : List (Addr × List Int)) (pnd : List Pn) (fl : Nat), σ = [some (.ref p), some (.ref I), some (.int (n : Int)), some (.ref S), some (.ref N), some (.int (((plc (snds nts)).length : Nat) : Int)), some (.int (fl : Int)), some (.ref Pd), v8, v9, v10, v11, v12, none, none, none] ∧
      Wr H H' p l I S N Pd n g st0 st nts pnd (2 + (plc ((snds nts).take fl)).length) ∧ Wn st n (2, g) (plc (snds nts)) (plc (snds nts)).length ∧ (plc (snds nts)).length ≤ 16 ∧ fl ≤ nts.length ∧ pnd.length ≤ 5 * (plc (snds nts)).length ∧ nts.length ≤ i ∧ ∀ d, d < n → ∀ r, 2 + (plc (snds nts)).length ≤ r → r < 20 → secS st d r = secS st0 d r := ⟨fun i σ H' => _, fun i σ H' => Iff.rfl⟩
    refine ⟨_, rfl, p, l, 9, rfl, w0.P, by decide, lim (by decide), fun kk H2 k0 k1 P2 o2 => ⟨kk, rfl, by omega, by omega, ?_⟩⟩
    have w2 := w0.but o2.but P2
    refine for_range (lo := 0) (n := kk.toNat) IV ((hIV _ _ _).mpr ⟨none, none, none, none, none, Pd, st0, [], [], 0, rfl, w2, hW, Nat.zero_le _, Nat.zero_le _, Nat.zero_le _, Nat.zero_le _, fun _ _ _ _ _ => rfl⟩) ?_ ?_
    · clear w0 w2 o2 P2 Pd H1 H2
      intro i σ H1 hi hiv
      obtain ⟨v8, v9, v10, v11, v12, Pd, st, nts, pnd, fl, rfl, w1, wn, u16, fln, lpn, lnt, rest⟩ := (hIV _ _ _).mp hiv
      clear hiv
      obtain ⟨used, hu⟩ : ∃ u, (plc (snds nts)).length = u := ⟨_, rfl⟩
      rw [hu] at wn u16 lpn rest ⊢
      -- a note
      refine ⟨_, rfl, p, l, rfl, w1.P, fun W ws H2 lw hw nW dW b2 P2 => ?_⟩
      have w2 := w1.but b2 P2
      refine ⟨_, rfl, W, _, rfl, .inl (SqL.of dW), _, _, rfl, rfl, _, _, rfl, rfl, ⟨by decide, by decide⟩, _, _, rfl, ?_⟩
      rw [List.length_map]
      have em : (if ((ws.length : Nat) + (998 : Int)) / 999 > 1 then ((ws.length : Nat) + (998 : Int)) / 999 else 1) = ((plM ws.length : Nat) : Int) := by
        unfold plM
        have h1 : ((ws.length : Nat) + (998 : Int)) / 999 = (((ws.length + 998) / 999 : Nat) : Int) := by omega
        rw [h1]
        split <;> omega
      rw [em]
      obtain ⟨m, hm⟩ : ∃ m, plM ws.length = m := ⟨_, rfl⟩
      have m1 : 1 ≤ m := by rw [← hm]; exact plM_pos _
      have m3 : m ≤ 3 := by rw [← hm]; exact plM_le lw
      rw [hm]
      have hqI : SqL K H2 I ((adrs st).map refI) := by rw [adrs_refI]; exact SqL.of w2.im.hI
      have la : (adrs st).length ≤ 100 := by unfold adrs; rw [List.length_map]; have := w2.ln; omega
      refine ⟨_, rfl, W, ws, rfl, SqL.of dW, by omega, ?_⟩
      rw [hm]
      refine ⟨_, rfl, rfl, _, rfl, iteNS rfl ?_⟩
      -- refused
      refine ⟨_, rfl, by show 1 ≤ sizeLine; decide, fun q nq => ?_⟩
      have s3 := Same.new (o := .lst [V.int 0]) nq
      have dq : upd H2 q (.lst [V.int 0]) q = some (.lst (([0] : List Nat).map fun d : Nat => V.int (d : Int))) := upd_same
      have w3 := w2.same s3
      have dW3 := s3 _ _ dW
      have nW0 : H W = none := w1.ol W nW
      have WN : W ≠ N := (ne_of_none w1.la.1 nW).symm
      have WP : W ≠ Pd := (ne_of_none w1.pd nW).symm
      generalize upd H2 q (.lst [V.int 0]) = H3 at s3 dq w3 dW3 ⊢
      have hst : Stp 2 g := ⟨⟨by decide, by decide⟩, ⟨g0, by omega⟩⟩
      have hqI3 : SqL K H3 I ((adrs st).map refI) := by rw [adrs_refI]; exact SqL.of w3.im.hI
      refine ⟨_, rfl, _, rfl, _, _, rfl, rfl, _, rfl, I, q, S, W, adrs st, [0], 2, g, 17 - (m : Int), ws, rfl, hqI3, la, SqL.of dq, by decide, fun d md => by rw [List.mem_singleton.mp md]; decide, SqT.of w3.hS, hst, SqL.of dW3, by omega, by omega, by rw [hm]; omega, fun H4 s4 => ⟨_, rfl, iteF ?_⟩⟩
      have w4 := w3.same s4
      have dW4 := s4 _ _ dW3
      clear w1 w2 w3 s3 dq dW dW3 hqI hqI3 nW b2 P2
      refine ⟨_, rfl, _, rfl, _, _, rfl, rfl, _, _, rfl, rfl, _, rfl, ite2 (fun c => ?_) (fun c => ?_)⟩
      rotate_left
      · exact (hIV _ _ _).mpr ⟨_, _, _, _, _, Pd, st, nts, pnd, fl, by rw [hu]; rfl, w4, by rw [hu]; exact wn, by omega, fln, by rw [hu]; exact lpn, by omega, by rw [hu]; exact rest⟩
      have c := of_decide_eq_true c
      have um : used + m ≤ 16 := by omega
      clear c
      -- the requests
      refine ⟨_, rfl, _, rfl, (n : Int), rfl, by omega, by omega, fun Dl nDl => ?_⟩
      rw [Int.toNat_natCast]
      refine lc_it (walk_range (n := n)) (fun j H' => Same H4 H' ∧ H' Dl = some (.lst ((List.range j).map fun d : Nat => V.int (d : Int)))) ⟨Same.new nDl, upd_same⟩ (fun _ _ _ _ => True.intro) ?_ ?_
      · rintro j y H5 H6 hj ⟨s5, d5⟩ ⟨rfl, rfl⟩
        refine ⟨rfl, _, rfl, _, d5, small _ (by rw [List.length_map, List.length_range]; omega), same_put s5 nDl, ?_⟩
        dsimp only
        rw [upd_same, List.range_succ, List.map_append, Int.zero_add]
        rfl
      rintro H5 ⟨s5, dDl⟩
      have w5 := w4.same s5
      have dW5 := s5 _ _ dW4
      have hqI5 : SqL K H5 I ((adrs st).map refI) := by rw [adrs_refI]; exact SqL.of w5.im.hI
      have pr : ∀ d ∈ List.range n, presentM (adrs st) d = true := fun d md => (adrs_pres st d).mpr (wn.al d (List.mem_range.mp md))
      refine ⟨_, rfl, _, rfl, _, rfl, I, Dl, S, W, adrs st, List.range n, 2, g, (used : Int), ws, rfl, hqI5, la, SqL.of dDl, by rw [List.length_range]; omega, fun d md => by have := List.mem_range.mp md; omega, SqT.of w5.hS, hst, SqL.of dW5, by omega, by omega, fun z => absurd z (by rw [hm]; omega), fun _ R rs H6 s6 nR hR hf hrm => ?_⟩
      rw [hm] at hrm
      have w6 := w5.same s6
      have dW6 := s6 _ _ dW5
      have lrs : rs.length = m * n := by
        have := congrArg List.length hrm
        rw [List.length_map, rqN_len pr, List.length_range] at this
        exact this
      refine ⟨_, rfl, R, _, rfl, .inl (SqL.of hR.1), _, rfl, _, rfl, _, _, rfl, rfl, .inl ⟨by omega, by omega⟩, rfl, _, rfl, iteNS (by rw [List.length_map, lrs]; rw [Int.natCast_mul]) ?_⟩
      have nR0 : H R = none := w5.ol R nR
      have hf0 : ∀ e ∈ rs, H e.s = none := fun e me => w5.ol _ (hf e me)
      have fs : ∀ e ∈ rs, ¬ mutS (X3 p Pd N) I st e.s := fun e me => w5.fresh (hf e me)
      have RN : R ≠ N := (ne_of_none w5.la.1 nR).symm
      have RP : R ≠ Pd := (ne_of_none w5.pd nR).symm
      have isq : ∀ e ∈ rs, ∃ kq < m, ∃ d < n, e.d = (d : Int) ∧ e.r = 2 + (used : Int) + (kq : Int) ∧ e.ws = sealM 2 (d : Int) (2 + (used : Int) + (kq : Int)) 2 g (payN ws kq) := fun e me => by
        have m2 : rqM e ∈ rs.map rqM := List.mem_map.mpr ⟨e, me, rfl⟩
        rw [hrm] at m2
        obtain ⟨kq, hk, m3⟩ := rqN_in.mp m2
        obtain ⟨d, md, _, z⟩ := rqP_in.mp m3
        injection z with z1 z2
        injection z2 with z2 z3
        exact ⟨kq, hk, d, List.mem_range.mp md, z1, z2, z3⟩
      have has : ∀ kq < m, ∀ d < n, ∃ e ∈ rs, e.d = (d : Int) ∧ e.r = 2 + (used : Int) + (kq : Int) := fun kq hk d hd => by
        have m2 : ((d : Int), 2 + (used : Int) + (kq : Int), sealM 2 (d : Int) (2 + (used : Int) + (kq : Int)) 2 g (payN ws kq)) ∈ rs.map rqM := by
          rw [hrm]
          exact rqN_in.mpr ⟨kq, hk, rqP_in.mpr ⟨d, List.mem_range.mpr hd, pr d (List.mem_range.mpr hd), rfl⟩⟩
        obtain ⟨e, me, z⟩ := List.mem_map.mp m2
        injection z with z1 z2
        injection z2 with z2 _
        exact ⟨e, me, z1, z2⟩
      have apart : rs.Pairwise fun x y => ¬ (x.d = y.d ∧ x.r = y.r) := by
        have := rqN_apart (ims := adrs st) (List.nodup_range (n := n)) 2 g (used : Int) ws m
        rw [← hrm, List.pairwise_map] at this
        exact this
      have rok : ∀ e ∈ rs, 0 ≤ e.d ∧ 0 ≤ e.r ∧ e.r < ((20 : Nat) : Int) ∧ Pres st e.d.toNat := fun e me => by
        obtain ⟨kq, hk, d, hd, z1, z2, _⟩ := isq e me
        exact ⟨by omega, by omega, by omega, by rw [z1, Int.toNat_natCast]; exact wn.al d hd⟩
      clear w4 w5 dW4 dW5 hqI5 dDl nDl s4 s5 s6 hf nR
      -- written
      refine ⟨_, rfl, R, rfl, ⟨_, SqL.of hR.1⟩, for_list (xs := rs.map rqV) (fun j σ H' => ∃ (v12 : Option V) (pnd' : List Pn), σ = [some (.ref p), some (.ref I), some (.int (n : Int)), some (.ref S), some (.ref N), some (.int (used : Int)), some (.int (fl : Int)), some (.ref Pd), some (.int (0 + (i : Int))), some (.ref W), some (.int (m : Int)), some (.ref R), v12, none, none, none] ∧
        Wr H H' p l I S N Pd n g st0 (carryM st (rs.take j)) nts pnd' (2 + (plc ((snds nts).take fl)).length) ∧ WRq H' R rs ∧ H' W = some (.lst (ws.map V.int)) ∧ pnd'.length = pnd.length + j) ⟨v12, pnd, rfl, w6, hR, dW6, rfl⟩ ?_ ?_ ?_⟩
      · rintro j σ H' _ ⟨_, _, _, _, hR, _⟩
        exact SqL.of hR.1
      · clear w6 dW6 hR
        rintro j y σ H7 hy ⟨v12, pnd', rfl, w7, hR, dW7, lp'⟩
        obtain ⟨e, he, rfl⟩ : ∃ e, rs[j]? = some e ∧ y = rqV e := by
          rw [List.getElem?_map] at hy
          cases z : rs[j]? with
          | none => rw [z] at hy; cases hy
          | some e => rw [z] at hy; exact ⟨e, rfl, (Option.some.inj hy).symm⟩
        have me := List.mem_of_getElem? he
        have jl := item_lt he
        obtain ⟨kq, hk, d, hd, z1, z2, z3⟩ := isq e me
        obtain ⟨r, hr⟩ : ∃ r : Nat, e.r = (r : Int) := ⟨e.r.toNat, by omega⟩
        have r20 : r < 20 := by omega
        have q := (hR.2 e me)
        obtain ⟨stj, hstj⟩ : ∃ stj, carryM st (rs.take j) = stj := ⟨_, rfl⟩
        have rows : ∀ (i : Nat) (dk : DkO), stj[i]? = some (some dk) → dk.rows.length = 20 := by rw [← hstj]; exact carry_rows wn.r20 _
        have old : secS stj d r = secS st d r := by
          rw [← hstj]
          rcases carry_gen wn.r20 (rs.take j) (fun x mx => rok x (List.mem_of_mem_take mx)) d r with ⟨x, mx, x1, x2, _⟩ | ⟨_, x2⟩
          · obtain ⟨ix, hix⟩ := List.mem_iff_getElem?.mp mx
            rw [List.getElem?_take] at hix
            split at hix
            · next lt =>
              have h1 := item_lt hix
              have e1 : rs[ix] = x := Option.some.inj ((List.getElem?_eq_getElem h1).symm.trans hix)
              have e2 : rs[j] = e := Option.some.inj ((List.getElem?_eq_getElem jl).symm.trans he)
              have := List.pairwise_iff_getElem.mp apart ix j h1 jl lt
              rw [e1, e2] at this
              exact absurd ⟨x1.trans z1.symm, x2.trans hr.symm⟩ this
            · cases hix
          · exact x2
        rw [rest d hd r (by omega) r20] at old
        obtain ⟨o, ho⟩ := full d hd r r20
        rw [ho] at old
        rw [hstj] at w7
        obtain ⟨dk, gd, gr⟩ := sec_some old
        have hD := w7.im.hD d dk gd
        have hRo := w7.im.hR d dk r o gd gr
        obtain ⟨dk0, gd0, gr0⟩ := sec_some ho
        have hRo0 := hI.hR d dk0 r o gd0 gr0
        have so : stampM o.2 = (1, 9) := by
          rcases hW.any d r o ho with ⟨_, _, _, z, _⟩ | z
          · cases z
          · exact z
        -- pending.append
        have g1 : ∀ {H : Hp}, H e.t = some (.tup [.str "write", .int e.d, .int e.r, .ref e.s]) → H I = some (.lst (stj.map dkV)) → H dk.A = some (.lst (dk.rows.map rowV)) → True := fun _ _ _ => True.intro
        refine ⟨_, rfl, .inl ⟨rfl, _, SqL.of w7.pd⟩, _, rfl, _, rfl, _, rfl, e.t, _, _, _, rfl, rfl, SqT.of q.1.1, at_of (j := 1) rfl rfl, I, _, _, _, rfl, rfl, SqL.of w7.im.hI, at_of (j := d) z1 (dk_get gd), _, rfl, e.t, _, _, _, rfl, rfl, SqT.of q.1.1, at_of (j := 2) rfl rfl, dk.A, _, _, _, rfl, rfl, SqL.of hD.1, at_of (j := r) hr (row_get gr), by show 2 ≤ sizeLine; decide, fun u nu => ?_⟩
        have s8 := Same.new (o := .tup [.ref e.t, rowV (some o)]) nu
        have du : upd H7 u (.tup [.ref e.t, rowV (some o)]) u = some (.tup [.ref e.t, .ref o.1]) := upd_same
        have w8 := w7.same s8
        have hR8 := hR.same s8
        have dW8 := s8 _ _ dW7
        have dt8 := s8 _ _ q.1.1
        generalize upd H7 u (.tup [.ref e.t, rowV (some o)]) = H8 at s8 du w8 hR8 dW8 dt8 ⊢
        refine ⟨Pd, _, _, rfl, rfl, w8.pd, small _ (by rw [List.length_map]; have : m * n ≤ 3 * 5 := Nat.mul_le_mul m3 n5; omega), ?_⟩
        have ep : (pnd'.map fun e => V.ref e.T) ++ [V.ref u] = (pnd' ++ [(⟨u, e.t, e.s, d, r, o⟩ : Pn)]).map fun e => V.ref e.T := by rw [List.map_append]; rfl
        rw [ep]
        have dt8' : H8 e.t = some (.tup [.str "write", .int (d : Int), .int (r : Int), .ref e.s]) := by rw [dt8, z1, hr]
        have low : 2 + (plc ((snds nts).take fl)).length ≤ r := by
          have : (plc ((snds nts).take fl)).length ≤ used := by
            rw [← hu]
            conv => rhs; rw [← List.take_append_drop fl (snds nts)]
            unfold plc
            rw [List.flatMap_append, List.length_append]
            omega
          omega
        have no0 : ¬ mutS (X1 p) I st0 o.1 := hRo0.2.1
        have w9 := w8.pend (e := ⟨u, e.t, e.s, d, r, o⟩) ⟨⟨du, dt8', s8 _ _ hRo.1, hRo0.1, hRo0.2.2, so, hW.wd d r o ho, hd, r20⟩, low, no0⟩
        have fr9 : ∀ b ob, H8 b = some ob → b ≠ Pd → upd H8 Pd (.lst ((pnd' ++ [(⟨u, e.t, e.s, d, r, o⟩ : Pn)]).map fun e => V.ref e.T)) b = some ob := fun b ob e nb => by rw [upd_ne nb]; exact e
        have dt9 := fr9 _ _ dt8 (ne_of dt8 w8.pd (by intro z; cases z))
        have dW9 := fr9 _ _ dW8 WP
        have hR9 : WRq (upd H8 Pd (.lst ((pnd' ++ [(⟨u, e.t, e.s, d, r, o⟩ : Pn)]).map fun e => V.ref e.T))) R rs := ⟨fr9 _ _ hR8.1 RP, fun x mx => ⟨⟨fr9 _ _ (hR8.2 x mx).1.1 (ne_of (hR8.2 x mx).1.1 w8.pd (by intro z; cases z)), (hR8.2 x mx).1.2⟩, fr9 _ _ (hR8.2 x mx).2.1 fun z => fs x mx (.inl (.inr (.inl z))), (hR8.2 x mx).2.2⟩⟩
        generalize upd H8 Pd (.lst ((pnd' ++ [(⟨u, e.t, e.s, d, r, o⟩ : Pn)]).map fun e => V.ref e.T)) = H9 at w9 dt9 dW9 hR9 ⊢
        -- images[..][..] = ..
        have hD9 := w9.im.hD d dk gd
        refine ⟨_, rfl, e.t, _, _, _, rfl, rfl, SqT.of dt9, at_of (j := 3) rfl rfl, _, rfl, _, rfl, e.t, _, _, _, rfl, rfl, SqT.of dt9, at_of (j := 1) rfl rfl, I, _, _, _, rfl, rfl, SqL.of w9.im.hI, at_of (j := d) z1 (dk_get gd), _, rfl, e.t, _, _, _, rfl, rfl, SqT.of dt9, at_of (j := 2) rfl rfl, dk.A, _, _, r, rfl, rfl, hD9.1, by rw [hr, List.length_map]; exact ixN_nat (by rw [rows d dk gd]; exact r20), ?_⟩
        have e0 : (dk.rows.map rowV).set r (V.ref e.s) = (dk.rows.set r (some (e.s, e.ws))).map rowV := map_set_row dk.rows r (some (e.s, e.ws))
        rw [e0]
        have es : carryM st (rs.take (j + 1)) = putS stj d r (some (e.s, e.ws)) := by
          rw [take_snoc he, carry_snoc, hstj, z1, hr, Int.toNat_natCast, Int.toNat_natCast]
        have mst : ∀ b, mutS (X3 p Pd N) I stj b ↔ mutS (X3 p Pd N) I st b := fun b => by rw [← hstj]; exact carry_mut st _ b
        have lws : e.ws.length ≤ 1008 := by
          have := payN_len ws kq
          rw [z3, sealM_length]
          omega
        have w10 := w9.put rows gd (r := r) (o := some (e.s, e.ws)) fun sc z => by
          cases z
          exact ⟨(hR9.2 e me).2.1, fun z => fs e me ((mst _).mp z), lws⟩
        have nA : ∀ b, ¬ mutS (X3 p Pd N) I st b → b ≠ dk.A := fun b nb z => nb ((mst b).mp (.inr (.inr ⟨d, dk, gd, z⟩)))
        have fr10 : ∀ b ob, H9 b = some ob → b ≠ dk.A → upd H9 dk.A (.lst ((dk.rows.set r (some (e.s, e.ws))).map rowV)) b = some ob := fun b ob e nb => by rw [upd_ne nb]; exact e
        have RA : R ≠ dk.A := fun z => by
          have := w9.m0 R ((w9.mu R).mp (.inr (.inr ⟨d, dk, gd, z⟩)) |>.resolve_left RP |>.resolve_left RN)
          exact this nR0
        have WA : W ≠ dk.A := fun z => by
          have := w9.m0 W ((w9.mu W).mp (.inr (.inr ⟨d, dk, gd, z⟩)) |>.resolve_left WP |>.resolve_left WN)
          exact this nW0
        refine ⟨_, pnd' ++ [⟨u, e.t, e.s, d, r, o⟩], rfl, by rw [es]; exact w10, ⟨fr10 _ _ hR9.1 RA, fun x mx => ⟨⟨fr10 _ _ (hR9.2 x mx).1.1 (ne_of (hR9.2 x mx).1.1 hD9.1 (by intro z; cases z)), (hR9.2 x mx).1.2⟩, fr10 _ _ (hR9.2 x mx).2.1 (nA _ (fs x mx)), (hR9.2 x mx).2.2⟩⟩, fr10 _ _ dW9 WA, by rw [List.length_append, List.length_singleton]; omega⟩
      rintro σ H7 ⟨v12', pnd', rfl, w7, hR7, dW7, lp'⟩
      rw [List.length_map] at w7 lp'
      rw [List.take_length] at w7
      clear hR w6 dW6
      -- what stands there now
      have eplc : plc (snds (nts ++ [(W, ws)])) = plc (snds nts) ++ paysN ws := by
        unfold snds
        rw [List.map_append]
        exact plc_snoc _ _
      have lplc : (plc (snds (nts ++ [(W, ws)]))).length = used + m := by rw [eplc, List.length_append, paysN_len, hu, hm]
      have gq : ∀ kq < m, (plc (snds (nts ++ [(W, ws)])))[used + kq]? = some (payN ws kq) := fun kq hk => by
        rw [eplc, List.getElem?_append_right (by omega), hu, Nat.add_sub_cancel_left]
        unfold paysN
        rw [List.getElem?_map, List.getElem?_range (by omega)]
        rfl
      have gold : ∀ q pw, (plc (snds nts))[q]? = some pw → (plc (snds (nts ++ [(W, ws)])))[q]? = some pw := fun q pw z => by
        rw [eplc, List.getElem?_append_left (item_lt z)]
        exact z
      have gd : ∀ (d kq : Nat), d < n → kq < m → Good (sealM 2 (d : Int) ((2 + (used + kq) : Nat) : Int) 2 g (payN ws kq)) 2 (d : Int) ((2 + (used + kq) : Nat) : Int) := fun d kq hd hk => seal_good ⟨⟨by decide, by decide⟩, ⟨by omega, by omega⟩, ⟨by omega, by omega⟩⟩ hst (fun x mx => ?_) (payN_len ws kq).2
      rotate_left
      · unfold payN at mx
        rcases List.mem_cons.mp mx with mx | mx
        · rw [mx, hm]
          exact ⟨by omega, by omega⟩
        · exact hw x (List.mem_of_mem_drop (List.mem_of_mem_take mx))
      have cg := carry_gen wn.r20 rs rok
      have isNew : ∀ e ∈ rs, ∀ d r : Nat, e.d = (d : Int) → e.r = (r : Int) → ∃ kq < m, d < n ∧ r = 2 + (used + kq) ∧ e.ws = sealM 2 (d : Int) ((2 + (used + kq) : Nat) : Int) 2 g (payN ws kq) := fun e me d r x1 x2 => by
        obtain ⟨kq, hk, d', hd, z1, z2, z3⟩ := isq e me
        have e1 : d' = d := by omega
        subst e1
        exact ⟨kq, hk, hd, by omega, by rw [z3]; congr 1; omega⟩
      have wn' : Wn (carryM st rs) n (2, g) (plc (snds (nts ++ [(W, ws)]))) (plc (snds (nts ++ [(W, ws)]))).length := by
        refine ⟨fun d hd => (carry_pres st rs d).mpr (wn.al d hd), carry_rows wn.r20 rs, fun d r sc z => ?_, fun d hd q pw hq z => ?_, fun d r sc z => ?_⟩
        · rcases cg d r with ⟨e, me, x1, x2, x3⟩ | ⟨_, x3⟩
          · rw [x3] at z
            cases z
            obtain ⟨kq, hk, hd, rfl, y⟩ := isNew e me d r x1 x2
            left
            refine ⟨used + kq, payN ws kq, rfl, gq kq hk, ?_, ?_, ?_⟩
            · rw [y]; exact gd d kq hd hk
            · rw [y]; exact seal_stamp _ _ _ _ _ _
            · rw [y]; exact seal_pay _ _ _ _ _ _
          · rw [x3] at z
            rcases wn.any d r sc z with ⟨q, pw, y1, y2, y3⟩ | y
            · exact .inl ⟨q, pw, y1, gold q pw y2, y3⟩
            · exact .inr y
        · rw [lplc] at hq
          by_cases c : q < used
          · have z' : (plc (snds nts))[q]? = some pw := by
              rw [eplc, List.getElem?_append_left (by omega)] at z
              exact z
            obtain ⟨sc, y1, y2⟩ := wn.fsh d hd q pw c z'
            refine ⟨sc, ?_, y2⟩
            rcases cg d (2 + q) with ⟨e, me, x1, x2, x3⟩ | ⟨_, x3⟩
            · obtain ⟨kq, hk, _, y, _⟩ := isNew e me d (2 + q) x1 x2
              omega
            · rw [x3]; exact y1
          · obtain ⟨kq, rfl⟩ : ∃ kq, q = used + kq := ⟨q - used, by omega⟩
            have hk : kq < m := by omega
            rw [gq kq hk] at z
            cases z
            rcases cg d (2 + (used + kq)) with ⟨e, me, x1, x2, x3⟩ | ⟨x1, _⟩
            · obtain ⟨kq', hk', _, y, y2⟩ := isNew e me d _ x1 x2
              have : kq' = kq := by omega
              subst this
              refine ⟨_, x3, ?_, ?_, ?_⟩
              · rw [y2]; exact gd d kq' hd hk
              · rw [y2]; exact seal_stamp _ _ _ _ _ _
              · rw [y2]; exact seal_pay _ _ _ _ _ _
            · obtain ⟨e, me, y1, y2⟩ := has kq hk d hd
              exact absurd ⟨y1, by omega⟩ (x1 e me)
        · rcases cg d r with ⟨e, me, x1, x2, x3⟩ | ⟨_, x3⟩
          · rw [x3] at z
            cases z
            obtain ⟨kq, hk, hd, rfl, y⟩ := isNew e me d r x1 x2
            rw [y]
            exact (gd d kq hd hk).2.2.2.1
          · rw [x3] at z
            exact wn.wd d r sc z
      have rest' : ∀ d, d < n → ∀ r, 2 + (used + m) ≤ r → r < 20 → secS (carryM st rs) d r = secS st0 d r := fun d hd r h1 h2 => by
        rcases cg d r with ⟨e, me, x1, x2, x3⟩ | ⟨_, x3⟩
        · obtain ⟨kq, hk, _, y, _⟩ := isNew e me d r x1 x2
          omega
        · rw [x3]
          exact rest d hd r (by omega) h2
      -- used, notes
      refine ⟨_, rfl, _, rfl, _, _, rfl, rfl, _, rfl, .inl ⟨rfl, _, SqL.of w7.la.1⟩, _, rfl, N, _, _, rfl, rfl, w7.la.1, small _ (by rw [refs_len]; omega), ?_⟩
      have en : refs nts ++ [V.ref W] = refs (nts ++ [(W, ws)]) := by unfold refs; rw [List.map_append]; rfl
      rw [en]
      have w8 := w7.note dW7 nW0 WN WP lw
      generalize upd H7 N (.lst (refs (nts ++ [(W, ws)]))) = H8 at w8 ⊢
      have efl : (snds (nts ++ [(W, ws)])).take fl = (snds nts).take fl := by
        unfold snds
        rw [List.map_append, List.take_append_of_le_length (by rw [List.length_map]; exact fln)]
      have sum5 : pnd'.length ≤ 5 * (used + m) := by
        have : m * n ≤ m * 5 := Nat.mul_le_mul_left _ n5
        omega
      refine ⟨_, rfl, p, l, 3, rfl, w8.P, by decide, lim (by decide), fun v H9 v0 v1 P9 o9 => ⟨rfl, _, rfl, ite2 (fun c => ?_) (fun c => ?_)⟩⟩
      · have w9 := w8.but o9.but P9
        refine ⟨Nat.zero_le _, fun Pn2 nP2 => ?_⟩
        have w10 := w9.flush nP2 (w9.ol _ nP2) (2 + (used + m))
        refine ⟨_, rfl, N, _, rfl, .inl (SqL.of w10.la.1), ?_⟩
        refine (hIV _ _ _).mpr ⟨some (.int (0 + (i : Int))), some (.ref W), some (.int (m : Int)), some (.ref R), v12', Pn2, carryM st rs, nts ++ [(W, ws)], [], nts.length + 1, ?_, ?_, wn', by omega, by rw [List.length_append, List.length_singleton]; exact Nat.le_refl _, Nat.zero_le _, by rw [List.length_append, List.length_singleton]; omega, by rw [lplc]; exact rest'⟩
        · rw [lplc, refs_len, List.length_append, List.length_singleton]
          rfl
        · have : (snds (nts ++ [(W, ws)])).take (nts.length + 1) = snds (nts ++ [(W, ws)]) := List.take_of_length_le (by unfold snds; rw [List.length_map, List.length_append, List.length_singleton]; exact Nat.le_refl _)
          rw [this, lplc]
          exact w10
      · have w9 := w8.but o9.but P9
        refine (hIV _ _ _).mpr ⟨some (.int (0 + (i : Int))), some (.ref W), some (.int (m : Int)), some (.ref R), v12', Pd, carryM st rs, nts ++ [(W, ws)], pnd', fl, ?_, ?_, wn', by omega, by rw [List.length_append, List.length_singleton]; omega, by rw [lplc]; exact sum5, by rw [List.length_append, List.length_singleton]; omega, by rw [lplc]; exact rest'⟩
        · rw [lplc]
          rfl
        · rw [efl]
          exact w9
    rintro σ H3 hiv
    obtain ⟨v8, v9, v10, v11, v12, Pd, st, nts, pnd, fl, rfl, w3, wn, u16, fln, lpn, lnt, rest⟩ := (hIV _ _ _).mp hiv
    clear hiv hIV IV w0 w2 o2 P2 rest
    obtain ⟨lo, hlo⟩ : ∃ lo, (plc ((snds nts).take fl)).length = lo := ⟨_, rfl⟩
    rw [hlo] at w3
    have lou : lo ≤ (plc (snds nts)).length := by
      rw [← hlo]
      conv => rhs; rw [← List.take_append_drop fl (snds nts)]
      unfold plc
      rw [List.flatMap_append, List.length_append]
      omega
    refine ⟨_, rfl, Pd, rfl, ⟨_, SqL.of w3.pd⟩, fun D2 nD2 => lc_list (K := K) (a := Pd) (xs := pnd.map fun e => V.ref e.T) (fun i H' => ∃ (st' : Sts) (bs : List Bool), H' D2 = some (.lst (bs.map V.bl)) ∧ bs.length = i ∧ Pot H' p l ∧ ImM H' (fun q => q = p ∨ q = D2) I st' ∧ st'.length = n ∧ (∀ b, dkS st' b ↔ dkS st0 b) ∧
      (∀ q ob, H3 q = some ob → ¬ mutS (X1 p) I st0 q → H' q = some ob) ∧ Wn st' n (2, g) (plc (snds nts)) lo ∧ ((∀ b ∈ bs, b = false) → st' = st)) ?_ ?_ ?_ ?_⟩
    · refine ⟨st, [], upd_same, rfl, w3.P.new nD2, ?_, w3.ln, w3.dk, fun q ob e _ => Same.new nD2 _ _ e, wn.less lou, fun _ => rfl⟩
      have i1 : ImM H3 (fun q => q = p ∨ q = D2) I st := w3.im.more fun q o e z => by
        rcases z with z | z
        · exact .inl z
        · rw [z, nD2] at e; cases e
      exact i1.same (Same.new nD2)
    · rintro i H' _ ⟨_, _, _, _, _, _, _, _, fr, _⟩
      exact SqL.of (fr _ _ w3.pd fun z => w3.m0 _ z w3.nPd)
    · rintro i y H' hi ⟨st', bs, d', lb, P', I', ln', dk', fr', wn', cl⟩
      obtain ⟨e, he, rfl⟩ : ∃ e, pnd[i]? = some e ∧ y = V.ref e.T := by
        rw [List.getElem?_map] at hi
        cases z : pnd[i]? with
        | none => rw [z] at hi; cases hi
        | some e => rw [z] at hi; exact ⟨e, rfl, (Option.some.inj hi).symm⟩
      have il := item_lt he
      obtain ⟨k1, k2, k3⟩ := w3.pn e (List.mem_of_getElem? he)
      have nm : ∀ {q : Addr} {xs : List V}, H3 q = some (.tup xs) → ¬ mutS (X1 p) I st0 q := fun hq z => w3.tup hq ((w3.mu _).mpr (.inr (.inr z)))
      have oT := fr' _ _ k1.T (nm k1.T)
      have ot := fr' _ _ k1.t (nm k1.t)
      have oo := fr' _ _ k1.o k3
      have nD : ∀ {q : Addr} {ob : HO}, H3 q = some ob → q ≠ D2 := fun e z => by rw [z, nD2] at e; cases e
      have no : ¬ mutS (fun q => q = p ∨ q = D2) I st' e.o.1 := by
        rintro ((z | z) | z | z)
        · exact k3 (.inl z)
        · exact nD k1.o z
        · exact k3 (.inr (.inl z))
        · exact k3 (.inr (.inr ((dk' _).mp z)))
      obtain ⟨dk, gd⟩ := wn'.al e.d k1.dn
      have hX : ∀ q, H' q = none → ¬ (q = p ∨ q = D2) := fun q nq z => by
        rcases z with z | z
        · exact P'.nn nq z
        · rw [z, d'] at nq; cases nq
      have nAl : dk.A ≠ l := fun z => by
        obtain ⟨_, _, _, _, _, z2, _⟩ := id P'
        exact (I'.ints wn'.r20 (by decide) (by have := w3.n5; omega) z2).1 ⟨e.d, dk, gd, z.symm⟩
      refine ⟨rfl, _, rfl, _, rfl, _, rfl, e.T, _, _, _, rfl, rfl, SqT.of oT, at_of (j := 0) rfl rfl, _, rfl, e.T, _, _, _, rfl, rfl, SqT.of oT, at_of (j := 1) rfl rfl, (fun q => q = p ∨ q = D2), p, l, I, e.t, e.S, st', dk, e.d, e.r, e.o, rfl, P', I', .inl rfl, hX, ot, gd, by rw [wn'.r20 _ _ gd]; exact k1.r20, oo, no, k1.lo, fun b st2 H2 I2 q1 q2 fr2 pot2 => ?_⟩
      have P2 := pot2 nAl
      have mA : mutS (X1 p) I st0 dk.A := .inr (.inr ((dk' _).mp ⟨e.d, dk, gd, rfl⟩))
      have d2 : H2 D2 = some (.lst (bs.map V.bl)) := fr2 _ _ d' (fun z => by
        obtain ⟨_, _, _, z2⟩ := w3.P.list
        rw [← z, nD2] at z2; cases z2) fun z => (I'.hD _ _ gd).2.2 (.inr z.symm)
      have pD := w3.P.off nD2
      refine ⟨_, d2, small _ (by rw [List.length_map, lb]; omega), st2, bs ++ [b], ?_, by rw [List.length_append, lb, List.length_singleton], ?_, ?_, ?_, ?_, ?_, ?_, ?_⟩
      · rw [upd_same, List.map_append]; rfl
      · exact P2.only Only.upd pD.1 pD.2
      · exact I2.but fun q o e nx => by rw [upd_ne fun z => nx (.inr z)]; exact e
      · cases b with
        | false => rw [q1 rfl]; exact ln'
        | true => rcases q2 rfl with z | z <;> rw [z, putS_len] <;> exact ln'
      · cases b with
        | false => rw [q1 rfl]; exact dk'
        | true => rcases q2 rfl with z | z <;> rw [z] <;> exact fun b => putS_dkS.trans (dk' b)
      · intro q ob eq nq
        rw [upd_ne (nD eq)]
        exact fr2 _ _ (fr' _ _ eq nq) (fun z => nq (.inl z)) fun z => nq (by rw [z]; exact mA)
      · have put : ∀ o : Option (Addr × List Int), (o = some e.o ∨ o = none) → Wn (putS st' e.d e.r o) n (2, g) (plc (snds nts)) lo := fun o ho => by
          have at1 := putS_sec (r := e.r) (o := o) gd (by rw [wn'.r20 _ _ gd]; exact k1.r20)
          refine ⟨fun d hd => putS_pres.mpr (wn'.al d hd), putS_rows wn'.r20, fun d r sc z => ?_, fun d hd q ws hq hw => ?_, fun d r sc z => ?_⟩
          · by_cases c : d = e.d ∧ r = e.r
            · rw [c.1, c.2, at1] at z
              rcases ho with ho | ho
              · rw [ho] at z; cases z; exact .inr k1.st
              · rw [ho] at z; cases z
            · rw [putS_sec_ne (by omega)] at z
              exact wn'.any d r sc z
          · obtain ⟨sc, z1, z2⟩ := wn'.fsh d hd q ws hq hw
            exact ⟨sc, by rw [putS_sec_ne (.inr (by omega))]; exact z1, z2⟩
          · by_cases c : d = e.d ∧ r = e.r
            · rw [c.1, c.2, at1] at z
              rcases ho with ho | ho
              · rw [ho] at z; cases z; exact k1.wd
              · rw [ho] at z; cases z
            · rw [putS_sec_ne (by omega)] at z
              exact wn'.wd d r sc z
        cases b with
        | false => rw [q1 rfl]; exact wn'
        | true => rcases q2 rfl with z | z <;> rw [z]
                  · exact put _ (.inl rfl)
                  · exact put _ (.inr rfl)
      · intro z
        rw [q1 (z b (by simp))]
        exact cl fun x mx => z x (by simp [mx])
    rintro H4 ⟨st', bs, d4, lb, P4, I4, ln4, dk4, fr4, wn4, cl4⟩
    refine ⟨_, rfl, _, rfl, _, rfl, D2, bs, rfl, SqL.of d4, by show 3 ≤ sizeLine; decide, fun T nT => ?_⟩
    have sT := Same.new (o := .tup [V.ref N, .int (fl : Int), .bl (bs.any id)]) nT
    have P5 := P4.new (o := .tup [V.ref N, .int (fl : Int), .bl (bs.any id)]) nT
    have I5 : ImM (upd H4 T (.tup [V.ref N, .int (fl : Int), .bl (bs.any id)])) (fun q => q = p) I st' := (I4.more fun q o e z => .inl z).same sT
    have nm : ∀ {q : Addr}, H q = none → ¬ mutS (X1 p) I st0 q := fun hq z => w3.m0 _ z hq
    refine k T N nts fl (bs.any id) st' _ upd_same ⟨sT _ _ (fr4 _ _ w3.la.1 (nm w3.nN)), fun e me => ⟨sT _ _ (fr4 _ _ (w3.la.2 e me).1 (nm (w3.nt e me).1)), (w3.la.2 e me).2⟩⟩ P5 I5 ln4 (by rw [hlo]; exact wn4) u16 fln (fun z => ?_) w3.nN (fun e me => ⟨(w3.nt e me).1, (w3.nt e me).2.1⟩) dk4 (sT _ _ (fr4 _ _ w3.hS fun z => w3.tup w3.hS ((w3.mu _).mpr (.inr (.inr z)))))
    rw [cl4 fun b mb => ?_]
    · exact wn
    · cases b with
      | false => rfl
      | true => exact absurd (List.any_eq_true.mpr ⟨true, mb, rfl⟩) (by rw [z]; decide)
theorem sc_law : FnScope ["script", "pot", "count", "stamp", "images", "disk", "kept", "written", "notes", "flushed", "lost", "shown", "found", "row"] ["script"] (defScope s_law) := ⟨rfl, rfl, rfl, by decide +kernel, rfl, by decide +kernel, by decide +kernel⟩
theorem ok_law (T : Txt K mg a) : EntryOk P w K mg base a.f_law a.d_law "script" (sp_law K a) := by
  refine entry_of T.F_law sc_law (k := 5) (by decide) (fun cdv A outer s H vs Q E hg hr h => ?body)
  case body =>
    obtain ⟨s, ns, rfl, hS, short, k⟩ := h
    refine ⟨_, (pss_cons (ps_set (i := 1) sc_law.nd rfl (Or.inl rfl) (pe_call (ok_law_pot T) (hr.mono (by decide)) rfl T.g_law_pot T.F_law_pot.kp T.d_law_pot .nil pass0 (pa_cons (pv 0) pa_nil)))
      (pss_cons (ps_set (i := 2) sc_law.nd rfl (Or.inl rfl) (pe_op op_add pe_int (pe_call (ok_law_next T) (hr.mono (by decide)) rfl T.g_law_next T.F_law_next.kp T.d_law_next .nil pass0 (pa_cons (pv 1) (pa_cons pe_int pa_nil)))))
      (pss_cons (ps_set (i := 3) sc_law.nd rfl (Or.inl rfl) (pe_tup (pa_cons pe_int (pa_cons (pe_call (ok_law_next T) (hr.mono (by decide)) rfl T.g_law_next T.F_law_next.kp T.d_law_next .nil pass0 (pa_cons (pv 1) (pa_cons pe_int pa_nil))) pa_nil))))
      (pss_cons (ps_set (i := 4) sc_law.nd rfl (Or.inl rfl) (pe_lst pa_nil))
      (pss_cons (ps_for PassesOwn.never rfl (pi_range1 (by rfl) T.n_range (pa_cons (pv 2) pa_nil)) (pg_name (i := 5) sc_law.nd rfl (Or.inr rfl))
      (pss_one (ps_expr (pe_bm PySem.F.plainAttrs_list PySem.F.slot_list_append PySem.F.type_list_append mt_append (pv 4) (pa_cons (pe_lc (own := [("row", 13)]) (g := (gName 13)) (by rfl) sc_law.nd (pi_range1 (by rfl) T.n_range (pa_cons pe_int pa_nil)) (blkOk_by (own := [("row", 13)]) (N := ["script", "pot", "count", "stamp", "images", "disk", "kept", "written", "notes", "flushed", "lost", "shown", "found", "row"]) (sc := defScope s_law) (by decide +kernel))
      (fun _ _ _ _ _ => (pg_name (i := 13) sc_law.nd rfl (Or.inl rfl))) (fun _ _ _ _ _ => pts_nil) (fun _ _ _ _ _ => (pe_call (ok_law_seal T) (hr.mono (by decide)) rfl T.g_law_seal T.F_law_seal.kp T.d_law_seal .nil pass0 (pa_cons pe_int (pa_cons (pv 5) (pa_cons (pv 13) (pa_cons (pe_tup (pa_cons pe_int (pa_cons pe_int pa_nil))) (pa_cons (pe_op op_cat (pe_lst (pa_cons pe_int pa_nil)) (pe_op op_rep (pe_lst (pa_cons (pv 13) pa_nil)) pe_int)) pa_nil)))))))) pa_nil)))))
      (pss_cons (ps_set (i := 6) sc_law.nd rfl (Or.inl rfl) (pe_call (ok_law_next T) (hr.mono (by decide)) rfl T.g_law_next T.F_law_next.kp T.d_law_next .nil pass0 (pa_cons (pv 1) (pa_cons (pv 2) pa_nil))))
      (pss_cons (ps_set (i := 7) sc_law.nd rfl (Or.inl rfl) (pe_call (ok_law_write_all T) (hr.mono (by decide)) rfl T.g_law_write_all T.F_law_write_all.kp T.d_law_write_all .nil pass0 (pa_cons (pv 1) (pa_cons (pv 4) (pa_cons (pv 2) (pa_cons (pv 3) pa_nil))))))
      (pss_cons (ps_if (pt_cmpR op_isN (pv 7) pe_non (nomark _))
      (pss_one (ps_ret pe_bl))
      pss_nil)
      (pss_cons (ps_asg (pv 7) (pg_tup rfl (pgs_cons (pg_name (i := 8) sc_law.nd rfl (Or.inl rfl)) (pgs_cons (pg_name (i := 9) sc_law.nd rfl (Or.inl rfl)) (pgs_cons (pg_name (i := 10) sc_law.nd rfl (Or.inl rfl)) pgs_nil)))))
      (pss_cons (ps_for PassesOwn.never rfl (pi_range1 (by rfl) T.n_range (pa_cons (pv 2) pa_nil)) (pg_name (i := 5) sc_law.nd rfl (Or.inr rfl))
      (pss_one (ps_if (PW.pt (pw_and (pt_cmpR op_ne (pv 5) (pv 6) (nomark _)) (pw_and1 (pt_cmpR op_eq (pe_call (ok_law_next T) (hr.mono (by decide)) rfl T.g_law_next T.F_law_next.kp T.d_law_next .nil pass0 (pa_cons (pv 1) (pa_cons pe_int pa_nil))) pe_int (nomark _)))))
      (pss_one (ps_asg (pe_ix ix_list (pe_lst (pa_cons pe_non (pa_cons (pe_op op_rep (pe_lst (pa_cons pe_non pa_nil)) pe_int) pa_nil))) (pe_call (ok_law_next T) (hr.mono (by decide)) rfl T.g_law_next T.F_law_next.kp T.d_law_next .nil pass0 (pa_cons (pv 1) (pa_cons pe_int pa_nil))) (fun _ _ => rfl)) (pg_sub (pv 4) (pv 5) set_list)))
      pss_nil)))
      (pss_cons (ps_set (i := 11) sc_law.nd rfl (Or.inl rfl) (pe_callB (cr_repr hg hr.units) (by rfl) T.n_repr (by decide +kernel) (pa_cons (pv 4) pa_nil)))
      (pss_cons (ps_set (i := 12) sc_law.nd rfl (Or.inl rfl) (pe_call (ok_read_notes T) (hr.mono (by decide)) rfl T.g_read_notes T.F_read_notes.kp T.d_read_notes .nil pass0 (pa_cons (pv 4) (pa_cons (pe_lc (own := [("disk", 5)]) (g := (gName 5)) (by rfl) sc_law.nd (pi_range1 (by rfl) T.n_range (pa_cons (pv 2) pa_nil)) (blkOk_by (own := [("disk", 5)]) (N := ["script", "pot", "count", "stamp", "images", "disk", "kept", "written", "notes", "flushed", "lost", "shown", "found", "row"]) (sc := defScope s_law) (by decide +kernel))
      (fun _ _ _ _ _ => (pg_name (i := 5) sc_law.nd rfl (Or.inl rfl))) (fun _ _ _ _ _ => pts_nil) (fun _ _ _ _ _ => (pv 5))) (pa_cons (pv 3) pa_nil)))))
      (pss_cons (ps_if (PW.pt (pw_or (pt_cmpR op_ne (pe_callB (cr_repr hg hr.units) (by rfl) T.n_repr (by decide +kernel) (pa_cons (pv 4) pa_nil)) (pv 11) (nomark _)) (pw_or (pt_not (pt_val (pe_callB call_isi (by rfl) T.n_isinstance (by decide +kernel) (pa_cons (pv 12) (pa_cons (pe_bltn (v := .ty "list") (by rfl) T.n_list (by decide +kernel) rfl) pa_nil))))) (pw_or1 (pt_cmpR (op_neD hr.units) (pv 12) (pe_slice sl_list (pv 8) po_none (po_some (pe_callB call_len_seq (by rfl) T.n_len PySem.boot_len (pa_cons (pv 12) pa_nil)))) (nomark _))))))
      (pss_one (ps_ret pe_bl))
      pss_nil)
      (pss_cons (ps_if (PW.pt (pw_or (pt_cmpR op_lt (pe_callB call_len_seq (by rfl) T.n_len PySem.boot_len (pa_cons (pv 12) pa_nil)) (pv 9) (nomark _)) (pw_or1 (PW.pt (pw_and (pt_not (pt_truth (pv 10) (by intro _; rfl))) (pw_and1 (pt_cmpR op_ne (pe_callB call_len_seq (by rfl) T.n_len PySem.boot_len (pa_cons (pv 12) pa_nil)) (pe_callB call_len_seq (by rfl) T.n_len PySem.boot_len (pa_cons (pv 8) pa_nil)) (nomark _))))))))
      (pss_one (ps_ret pe_bl))
      pss_nil)
      (pss_one (ps_ret (pe_cmpR (op_eqD hr.units) (pe_call (ok_read_notes T) (hr.mono (by decide)) rfl T.g_read_notes T.F_read_notes.kp T.d_read_notes .nil pass0 (pa_cons (pv 4) (pa_cons (pe_lc (own := [("disk", 5)]) (g := (gName 5)) (by rfl) sc_law.nd (pi_range1 (by rfl) T.n_range (pa_cons (pv 2) pa_nil)) (blkOk_by (own := [("disk", 5)]) (N := ["script", "pot", "count", "stamp", "images", "disk", "kept", "written", "notes", "flushed", "lost", "shown", "found", "row"]) (sc := defScope s_law) (by decide +kernel))
      (fun _ _ _ _ _ => (pg_name (i := 5) sc_law.nd rfl (Or.inl rfl))) (fun _ _ _ _ _ => pts_nil) (fun _ _ _ _ _ => (pv 5))) (pa_cons (pe_tup (pa_cons pe_int (pa_cons pe_int pa_nil))) pa_nil)))) (pe_lst pa_nil) (nomark _)))))))))))))))))), ?_⟩
    have lim : ∀ {m : Int}, m.natAbs < 2 ^ 40 → m.natAbs < 2 ^ 400 := fun h => Nat.lt_of_lt_of_le h (Nat.pow_le_pow_right (by decide) (by decide))
    refine ⟨_, rfl, s, ns, rfl, hS, by omega, fun p l H1 np nl s1 P1 => ?_⟩
    clear hS short np nl s1
    -- count, stamp
    refine ⟨_, rfl, p, l, 5, rfl, P1, by decide, lim (by decide), fun c H2 c0 c1 P2 o2 => ⟨_, _, rfl, rfl, ?_⟩⟩
    refine ⟨_, rfl, p, l, 5, rfl, P2, by decide, lim (by decide), fun g H3 g0 g5 P3 o3 => ⟨by show 2 ≤ sizeLine; decide, fun S nS => ?_⟩⟩
    obtain ⟨n, hn, n1, n5⟩ : ∃ n : Nat, 1 + c = (n : Int) ∧ 1 ≤ n ∧ n ≤ 5 := ⟨(1 + c).toNat, by omega, by omega, by omega⟩
    show gName 3 (V.ref S) (List.set (List.set _ 1 _) 2 (some (V.int (1 + c)))) _ _
    rw [hn]
    clear P1 o2 P2 o3 hn c0 c1
    have dS : upd H3 S (.tup [.int 2, .int g]) S = some (.tup [.int 2, .int g]) := upd_same
    have P4 := P3.new (o := .tup [V.int 2, .int g]) nS
    generalize upd H3 S (.tup [.int 2, .int g]) = H4 at dS P4 ⊢
    clear P3 nS
    -- images
    refine ⟨Nat.zero_le _, fun I nI => ?_⟩
    have offI := P4.off nI
    have IS : S ≠ I := ne_of_none dS nI
    obtain ⟨IV, hIV⟩ : ∃ IV : Nat → St → Hp → Prop, ∀ i σ H', IV i σ H' ↔ ∃ (v5 : Option V) (dks : List DkO), σ = [some (.ref s), some (.ref p), some (.int (n : Int)), some (.ref S), some (.ref I), v5, none, none, none, none, none, none, none, none] ∧ (∀ q ob, H4 q = some ob → H' q = some ob) ∧ H' I = some (.lst (dks.map fun dk => V.ref dk.A)) ∧ dks.length = i ∧
      (∀ (j : Nat) (dk : DkO), dks[j]? = some dk → H' dk.A = some (.lst (dk.rows.map rowV)) ∧ H4 dk.A = none ∧ dk.A ≠ I ∧ dk.rows.length = 20 ∧ ∀ r : Nat, r < 20 → ∃ sc : Addr × List Int, dk.rows[r]? = some (some sc) ∧ H' sc.1 = some (.lst (sc.2.map V.int)) ∧ H4 sc.1 = none ∧ sc.1 ≠ I ∧ sc.2 = sealM 2 (j : Int) (r : Int) 1 9 [0, (r : Int), (r : Int), (r : Int)]) ∧
      (∀ (j j' : Nat) (dk dk' : DkO), dks[j]? = some dk → dks[j']? = some dk' → dk.A = dk'.A → j = j') := ⟨fun i σ H' => _, fun i σ H' => Iff.rfl⟩
    refine ⟨_, rfl, (n : Int), rfl, by omega, by omega, ?_⟩
    rw [Int.toNat_natCast]
    refine for_range (lo := 0) (n := n) IV ((hIV _ _ _).mpr ⟨none, [], rfl, fun q ob e => Same.new nI _ _ e, upd_same, rfl, fun _ _ g => (nomatch g), fun _ _ _ _ g => (nomatch g)⟩) ?_ ?_
    · intro j σ H5 hj hiv
      obtain ⟨v5, dks, rfl, fr, dI, ld, hd, hu⟩ := (hIV _ _ _).mp hiv
      clear hiv
      refine ⟨_, rfl, .inl ⟨rfl, _, SqL.of dI⟩, 20, rfl, by decide, by decide, fun D nD => ?_⟩
      refine lc_it (walk_range (n := 20)) (fun r H' => ∃ rows : List (Addr × List Int), Same H5 H' ∧ H' D = some (.lst (refs rows)) ∧ rows.length = r ∧ ∀ (q : Nat) (e : Addr × List Int), rows[q]? = some e → H' e.1 = some (.lst (e.2.map V.int)) ∧ H5 e.1 = none ∧ e.1 ≠ D ∧ e.2 = sealM 2 (j : Int) (q : Int) 1 9 [0, (q : Int), (q : Int), (q : Int)]) ⟨[], Same.new nD, upd_same, rfl, fun _ _ g => (nomatch g)⟩ (fun _ _ _ _ => True.intro) ?_ ?_
      · rintro r y H6 H7 hr ⟨rows, s6, dD, lr, hrow⟩ ⟨rfl, rfl⟩
        refine ⟨rfl, _, rfl, _, rfl, by show 2 ≤ sizeLine; decide, fun T nT => ⟨by show 1 ≤ sizeLine; decide, fun a1 na1 => ⟨_, rfl, by show 1 ≤ sizeLine; decide, fun a2 na2 => ?_⟩⟩⟩
        refine ⟨a2, 3, _, rfl, rfl, upd_same, by decide, by decide, by show 1 * 3 ≤ sizeLine; decide, fun a3 na3 => ?_⟩
        have eR : (List.replicate (3 : Int).toNat [V.int (0 + (r : Int))]).flatten = [V.int (r : Int), .int (r : Int), .int (r : Int)] := by rw [Int.zero_add]; rfl
        rw [eR]
        have sT := Same.new (o := .tup [V.int 1, .int 9]) nT
        have sa1 := Same.new (o := .lst [V.int 0]) na1
        have sa2 := Same.new (o := .lst [V.int (0 + (r : Int))]) na2
        have sa3 := Same.new (o := .lst [V.int (r : Int), .int (r : Int), .int (r : Int)]) na3
        have e1 := sa3 _ _ (sa2 _ _ (upd_same (H := upd H7 T (.tup [V.int 1, .int 9])) (a := a1) (o := .lst [V.int 0])))
        have eT := sa3 _ _ (sa2 _ _ (sa1 _ _ (upd_same (H := H7) (a := T) (o := .tup [V.int 1, .int 9]))))
        have s7 := ((s6.trans sT).trans sa1).trans (sa2.trans sa3)
        have d7 := sa3 _ _ (sa2 _ _ (sa1 _ _ (sT _ _ dD)))
        refine ⟨a1, a3, _, _, rfl, rfl, e1, upd_same, by show 1 + 3 ≤ sizeLine; decide, fun a4 na4 => ?_⟩
        have sa4 := Same.new (o := .lst ([V.int 0] ++ [V.int (r : Int), .int (r : Int), .int (r : Int)])) na4
        have s8 := s7.trans sa4
        have d8 := sa4 _ _ d7
        have eT8 := sa4 _ _ eT
        have e4 := upd_same (H := upd (upd (upd (upd H7 T (.tup [V.int 1, .int 9])) a1 (.lst [V.int 0])) a2 (.lst [V.int (0 + (r : Int))])) a3 (.lst [V.int (r : Int), .int (r : Int), .int (r : Int)])) (a := a4) (o := .lst ([V.int 0] ++ [V.int (r : Int), .int (r : Int), .int (r : Int)]))
        refine ⟨2, 0 + (j : Int), 0 + (r : Int), T, a4, 1, 9, [0, (r : Int), (r : Int), (r : Int)], rfl, SqT.of eT8, e4, by show 4 ≤ 1000; decide, fun Sx H8 s9 nSx dSx => ?_⟩
        rw [Int.zero_add, Int.zero_add] at dSx
        have s10 := s8.trans s9
        have d9 := s9 _ _ d8
        have n5x : H5 Sx = none := same_none s8 nSx
        have SxD : Sx ≠ D := (ne_of_none d8 nSx).symm
        refine ⟨_, d9, small _ (by rw [refs_len]; omega), rows ++ [(Sx, sealM 2 (j : Int) (r : Int) 1 9 [0, (r : Int), (r : Int), (r : Int)])], same_put s10 nD, ?_, by rw [List.length_append, lr]; rfl, fun q e g => ?_⟩
        · rw [upd_same]
          unfold refs
          rw [List.map_append]
          rfl
        · rcases Nat.lt_or_ge q rows.length with c | c
          · rw [List.getElem?_append_left c] at g
            obtain ⟨z1, z2, z3, z4⟩ := hrow q e g
            exact ⟨by rw [upd_ne z3]; exact s9 _ _ (sa4 _ _ (sa3 _ _ (sa2 _ _ (sa1 _ _ (sT _ _ z1))))), z2, z3, z4⟩
          · rw [List.getElem?_append_right c] at g
            have e0 := item_lt g
            rw [List.length_singleton] at e0
            rw [show q - rows.length = 0 by omega] at g
            cases g
            exact ⟨by rw [upd_ne SxD]; exact dSx, n5x, SxD, by rw [show q = r by omega]⟩
      · rintro H6 ⟨rows, s6, dD, lr, hrow⟩
        have dI6 := s6 _ _ dI
        have DI : D ≠ I := (ne_of_none dI nD).symm
        have fr6 : ∀ q ob, H4 q = some ob → H6 q = some ob := fun q ob e => s6 _ _ (fr q ob e)
        have n4 : ∀ {q : Addr}, H5 q = none → H4 q = none := fun {q} e => by
          cases z : H4 q with
          | none => rfl
          | some ob => rw [fr q ob z] at e; cases e
        have eI : (dks.map fun dk => V.ref dk.A) ++ [V.ref D] = (dks ++ [(⟨D, rows.map some⟩ : DkO)]).map fun dk => V.ref dk.A := by rw [List.map_append]; rfl
        have eD : (rows.map some).map rowV = refs rows := by rw [List.map_map]; rfl
        have old : ∀ q ob, H6 q = some ob → q ≠ I → upd H6 I (.lst ((dks ++ [(⟨D, rows.map some⟩ : DkO)]).map fun dk => V.ref dk.A)) q = some ob := fun q ob e n => by rw [upd_ne n]; exact e
        have nDd : ∀ (i : Nat) (dk : DkO), dks[i]? = some dk → dk.A ≠ D := fun i dk g => ne_of_none (hd i dk g).1 nD
        refine ⟨I, _, _, rfl, rfl, dI6, small _ (by rw [List.length_map]; omega), ?_⟩
        rw [eI]
        refine (hIV _ _ _).mpr ⟨some (.int (0 + (j : Int))), dks ++ [⟨D, rows.map some⟩], rfl, fun q ob e => old q ob (fr6 q ob e) (ne_of_none e nI), upd_same, by rw [List.length_append, ld]; rfl, fun i dk g => ?_, fun i i' dk dk' g1 g2 e => ?_⟩
        · rcases Nat.lt_or_ge i dks.length with c | c
          · rw [List.getElem?_append_left c] at g
            obtain ⟨q1, q2, q3, q4, q5⟩ := hd i dk g
            refine ⟨old _ _ (s6 _ _ q1) q3, q2, q3, q4, fun r hr => ?_⟩
            obtain ⟨sc, z1, z2, z3, z4, z5⟩ := q5 r hr
            exact ⟨sc, z1, old _ _ (s6 _ _ z2) z4, z3, z4, z5⟩
          · rw [List.getElem?_append_right c] at g
            have e0 := item_lt g
            rw [List.length_singleton] at e0
            rw [show i - dks.length = 0 by omega] at g
            cases g
            refine ⟨by rw [show (⟨D, rows.map some⟩ : DkO).rows.map rowV = refs rows from eD]; exact old _ _ dD DI, n4 nD, DI, by show (rows.map some).length = 20; rw [List.length_map, lr], fun r hr => ?_⟩
            have gr : rows[r]? = some rows[r] := List.getElem?_eq_getElem (by omega)
            obtain ⟨z1, z2, z3, z4⟩ := hrow r _ gr
            have nI2 : rows[r].1 ≠ I := (ne_of_none dI z2).symm
            refine ⟨rows[r], by show (rows.map some)[r]? = _; rw [List.getElem?_map, gr]; rfl, old _ _ z1 nI2, n4 z2, nI2, ?_⟩
            rw [z4, show i = j by omega]
        · rcases Nat.lt_or_ge i dks.length with c | c
          · rw [List.getElem?_append_left c] at g1
            rcases Nat.lt_or_ge i' dks.length with c' | c'
            · rw [List.getElem?_append_left c'] at g2
              exact hu i i' dk dk' g1 g2 e
            · rw [List.getElem?_append_right c'] at g2
              have e0 := item_lt g2
              rw [List.length_singleton] at e0
              rw [show i' - dks.length = 0 by omega] at g2
              cases g2
              exact absurd e (nDd i dk g1)
          · rw [List.getElem?_append_right c] at g1
            have e0 := item_lt g1
            rw [List.length_singleton] at e0
            rw [show i - dks.length = 0 by omega] at g1
            cases g1
            rcases Nat.lt_or_ge i' dks.length with c' | c'
            · rw [List.getElem?_append_left c'] at g2
              exact absurd e.symm (nDd i' dk' g2)
            · have e0 := item_lt g2
              rw [List.length_append, List.length_singleton] at e0
              omega
    rintro σ H5 hiv
    obtain ⟨v5, dks, rfl, fr, dI, ld, hd, hu⟩ := (hIV _ _ _).mp hiv
    clear hiv hIV IV
    obtain ⟨st0, hst0⟩ : ∃ st0 : Sts, st0 = dks.map some := ⟨_, rfl⟩
    have g0d : ∀ (i : Nat) (dk : DkO), st0[i]? = some (some dk) → dks[i]? = some dk := fun i dk g => by
      rw [hst0, List.getElem?_map] at g
      cases z : dks[i]? with
      | none => rw [z] at g; cases g
      | some A => rw [z] at g; cases g; rfl
    have l0 : st0.length = n := by rw [hst0, List.length_map, ld]
    have P5 : Pot H5 p l := P4.same fr
    have off4 : p ≠ I := offI.1
    have im5 : ImM H5 (fun q => q = p) I st0 := by
      refine ⟨?_, off4.symm, fun i dk g => ?_, fun i j dk dk' g1 g2 e => hu i j dk dk' (g0d i dk g1) (g0d j dk' g2) e, fun i dk r sc g1 g2 => ?_⟩
      · rw [dI, hst0, List.map_map]
        rfl
      · have := hd i dk (g0d i dk g)
        refine ⟨this.1, this.2.2.1, fun z => ?_⟩
        obtain ⟨_, _, _, hp⟩ := P4.list
        rw [← z, this.2.1] at hp
        cases hp
      · have h1 := hd i dk (g0d i dk g1)
        have hr := item_lt g2
        rw [h1.2.2.2.1] at hr
        obtain ⟨sc', z1, z2, z3, z4, z5⟩ := h1.2.2.2.2 r hr
        rw [g2] at z1
        cases z1
        refine ⟨z2, fun z => ?_, by rw [z5, sealM_length]; show 4 + 8 ≤ 1008; decide⟩
        rcases z with z | z | ⟨j, dk', g, z⟩
        · obtain ⟨_, _, _, hp⟩ := P4.list
          have z : sc.1 = p := z
          rw [← z, z3] at hp
          cases hp
        · exact z4 z
        · have h2 := hd j dk' (g0d j dk' g)
          obtain ⟨sc2, y1, _⟩ := h2.2.2.2.2 0 (by decide)
          refine ints_ne z2 h2.1 ⟨rowV (some sc2), List.mem_map.mpr ⟨_, List.mem_of_getElem? y1, rfl⟩, fun i => fun y => nomatch y⟩ z
    have al0 : ∀ d, d < n → ∃ dk, st0[d]? = some (some dk) := fun d h => by
      have h : d < dks.length := by omega
      exact ⟨dks[d], by rw [hst0, List.getElem?_map, List.getElem?_eq_getElem h]; rfl⟩
    have wn0 : Wn st0 n (2, g) [] 0 := by
      have one : ∀ d r sc, secS st0 d r = some sc → sc.2 = sealM 2 (d : Int) (r : Int) 1 9 [0, (r : Int), (r : Int), (r : Int)] ∧ d < n ∧ r < 20 := fun d r sc z => by
        obtain ⟨dk, gd, gr⟩ := sec_some z
        have h1 := hd d dk (g0d d dk gd)
        have hr := item_lt gr
        rw [h1.2.2.2.1] at hr
        obtain ⟨sc', z1, _, _, _, z5⟩ := h1.2.2.2.2 r hr
        rw [gr] at z1
        cases z1
        have := item_lt gd
        exact ⟨z5, by omega, hr⟩
      refine ⟨fun d h => al0 d h, fun i dk gg => (hd i dk (g0d i dk gg)).2.2.2.1, fun d r sc z => .inr ?_, fun d _ q ws h => absurd h (Nat.not_lt_zero _), fun d r sc z => ?_⟩
      · rw [(one d r sc z).1, seal_stamp]
      · obtain ⟨z1, z2, z3⟩ := one d r sc z
        rw [z1]
        refine sealM_words ⟨⟨by decide, by decide⟩, ⟨by omega, by omega⟩, ⟨by omega, by omega⟩⟩ ⟨⟨by decide, by decide⟩, ⟨by decide, by decide⟩⟩ fun w m => ?_
        rcases List.mem_cons.mp m with m | m
        · rw [m]; exact ⟨by decide, by decide⟩
        · have e : w = (r : Int) := by
            rcases List.mem_cons.mp m with m | m
            · exact m
            · rcases List.mem_cons.mp m with m | m
              · exact m
              · exact List.mem_singleton.mp m
          rw [e]
          exact ⟨by omega, by omega⟩
    have full0 : ∀ d, d < n → ∀ r, r < 20 → ∃ sc, secS st0 d r = some sc := fun d h r hr => by
      obtain ⟨dk, gd⟩ := al0 d h
      obtain ⟨sc, z1, _⟩ := (hd d dk (g0d d dk gd)).2.2.2.2 r hr
      exact ⟨sc, by unfold secS; rw [gd]; show (dk.rows[r]?).join = _; rw [z1]; rfl⟩
    have dS5 := fr _ _ dS
    clear fr dI ld hd hu hst0 g0d dS P4 nI
    -- kept
    refine ⟨_, rfl, _, rfl, p, l, (n : Int), rfl, P5, by omega, lim (by omega), fun kp H6 k0 k1 P6 o6 => ?_⟩
    have im6 := im5.draw o6.but rfl
    have Sp : S ≠ p := fun z => by
      obtain ⟨_, _, _, hp⟩ := P5.list
      rw [← z, dS5] at hp
      cases hp
    have dS6 := o6.but _ _ dS5 Sp
    clear P5 o6 im5 dS5
    -- written
    refine ⟨_, rfl, _, rfl, _, rfl, _, rfl, p, l, I, S, n, st0, g, rfl, P6, im6, l0, n1, n5, dS6, g0, g5, wn0, full0, fun T N nts fl lost st1 H7 dT LN P7 im7 l1 wn1 u16 fln notLost nN nE dk1 dS7 => ?_⟩
    have wk1 : Wk st1 (2, g) (plc (snds nts)) kp.toNat (plc ((snds nts).take fl)).length := ⟨wn1.r20, wn1.any, wn1.fsh _ (by omega), wn1.wd⟩
    have wl1 : lost = false → Wk st1 (2, g) (plc (snds nts)) kp.toNat (plc (snds nts)).length := fun z => ⟨wn1.r20, wn1.any, (notLost z).fsh _ (by omega), wn1.wd⟩
    have offp : ∀ q, H6 q = none → q ≠ p ∧ q ≠ I := fun q e => ⟨fun z => P6.nn e z, fun z => by rw [z, im6.hI] at e; cases e⟩
    have Np := offp N nN
    have Ep : ∀ e ∈ nts, e.1 ≠ p ∧ e.1 ≠ I := fun e m => offp _ (nE e m).1
    clear wn1 notLost wn0 full0 al0 dk1 nN
    refine ⟨_, rfl, rfl, ?_⟩
    rw [decide_eq_false (fun z : V.ref T = V.non => nomatch z)]
    refine ⟨_, rfl, iteF ?_⟩
    refine ⟨_, rfl, T, _, rfl, SqT.of dT, rfl, _, _, rfl, _, _, rfl, _, _, rfl, rfl, ?_⟩
    -- disks lost
    obtain ⟨kpN, hkp, kpn⟩ : ∃ q : Nat, kp = (q : Int) ∧ q < n := ⟨kp.toNat, by omega, by omega⟩
    rw [hkp, Int.toNat_natCast] at wk1 wl1
    rw [hkp]
    obtain ⟨IV, hIV⟩ : ∃ IV : Nat → St → Hp → Prop, ∀ i σ H', IV i σ H' ↔ ∃ (v5 : Option V) (st : Sts), σ = [some (.ref s), some (.ref p), some (.int (n : Int)), some (.ref S), some (.ref I), v5, some (.int (kpN : Int)), some (.ref T), some (.ref N), some (.int (fl : Int)), some (.bl lost), none, none, none] ∧ Pot H' p l ∧ ImM H' (fun q => q = p) I st ∧ st.length = n ∧
      Wk st (2, g) (plc (snds nts)) kpN (plc ((snds nts).take fl)).length ∧ (lost = false → Wk st (2, g) (plc (snds nts)) kpN (plc (snds nts)).length) ∧ (∀ q ob, H7 q = some ob → q ≠ p → q ≠ I → H' q = some ob) := ⟨fun i σ H' => _, fun i σ H' => Iff.rfl⟩
    refine ⟨_, rfl, (n : Int), rfl, by omega, by omega, ?_⟩
    rw [Int.toNat_natCast]
    refine for_range (lo := 0) (n := n) IV ((hIV _ _ _).mpr ⟨v5, st1, rfl, P7, im7, l1, wk1, wl1, fun q ob e _ _ => e⟩) ?_ ?_
    · intro d σ H8 hd hiv
      obtain ⟨v5', st, rfl, P8, im8, ls, wk, wl, fr⟩ := (hIV _ _ _).mp hiv
      clear hiv
      have un : ∀ H', Pot H' p l → But p H8 H' → IV (d + 1) [some (.ref s), some (.ref p), some (.int (n : Int)), some (.ref S), some (.ref I), some (.int (0 + (d : Int))), some (.int (kpN : Int)), some (.ref T), some (.ref N), some (.int (fl : Int)), some (.bl lost), none, none, none] H' := fun H' P' b => (hIV _ _ _).mpr ⟨_, st, rfl, P', im8.draw b rfl, ls, wk, wl, fun q ob e n1 n2 => b _ _ (fr q ob e n1 n2) n1⟩
      refine ⟨_, rfl, _, rfl, rfl, _, rfl, ite2 (fun c => ?_) (fun _ => iteF (un H8 P8 But.refl))⟩
      have dk : d ≠ kpN := fun z => by
        rw [decide_eq_true (show V.int (0 + (d : Int)) = V.int (kpN : Int) by rw [z, Int.zero_add])] at c
        cases c
      refine ⟨_, rfl, p, l, 3, rfl, P8, by decide, lim (by decide), fun v H9 v0 v1 P9 o9 => ⟨rfl, _, rfl, ite2 (fun _ => ?_) (fun _ => un H9 P9 o9.but)⟩⟩
      clear un
      have im9 := im8.draw o9.but rfl
      have fr9 : ∀ q ob, H7 q = some ob → q ≠ p → q ≠ I → H9 q = some ob := fun q ob e n1 n2 => o9.but _ _ (fr q ob e n1 n2) n1
      refine ⟨by show 1 ≤ sizeLine; decide, fun q nq => ⟨q, 20, _, rfl, rfl, upd_same, by decide, by decide, by show 1 * 20 ≤ sizeLine; decide, fun B nB => ⟨by show 2 ≤ sizeLine; decide, fun Lx nLx => ?_⟩⟩⟩
      have e20 : (List.replicate (20 : Int).toNat [V.non]).flatten = blk20.map rowV := rfl
      rw [e20] at nLx ⊢
      have sq := Same.new (o := .lst [V.non]) nq
      have sB := Same.new (o := .lst (blk20.map rowV)) nB
      have sL := Same.new (o := .lst [V.non, .ref B]) nLx
      have dLx : upd (upd (upd H9 q (.lst [V.non])) B (.lst (blk20.map rowV))) Lx (.lst [V.non, .ref B]) Lx = some (.lst [V.non, .ref B]) := upd_same
      have dB := sL _ _ (upd_same (H := upd H9 q (.lst [V.non])) (a := B) (o := .lst (blk20.map rowV)))
      have s10 := (sq.trans sB).trans sL
      have nB9 : H9 B = none := same_none sq nB
      generalize upd (upd (upd H9 q (.lst [V.non])) B (.lst (blk20.map rowV))) Lx (.lst [V.non, .ref B]) = H10 at dLx dB s10 ⊢
      clear sq sB sL nq nLx
      have Bp : B ≠ p := fun z => P9.nn nB9 z
      have BL : Lx ≠ p := fun z => by
        obtain ⟨_, _, _, hp⟩ := (P9.same s10).list
        rw [← z, dLx] at hp
        cases hp
      refine ⟨_, rfl, p, l, 2, rfl, P9.same s10, by decide, lim (by decide), fun u H11 u0 u1 P11 o11 => ?_⟩
      have im11 := (im9.same s10).draw o11.but rfl
      have fr11 : ∀ q ob, H7 q = some ob → q ≠ p → q ≠ I → H11 q = some ob := fun q ob e n1 n2 => o11.but _ _ (s10 _ _ (fr9 q ob e n1 n2)) n1
      have dLx11 := o11.but _ _ dLx BL
      have dB11 := o11.but _ _ dB Bp
      have hl : d < st.length := by omega
      rcases (show u = 0 ∨ u = 1 by omega) with rfl | rfl
      · refine ⟨Lx, _, _, _, rfl, rfl, SqL.of dLx11, at_of (j := 0) rfl rfl, _, rfl, _, rfl, I, _, _, d, rfl, rfl, im11.hI, by rw [Int.zero_add, List.length_map]; exact ixN_nat hl, ?_⟩
        rw [show (st.map dkV).set d V.non = (st.set d none).map dkV from set_dk st d none]
        exact (hIV _ _ _).mpr ⟨_, st.set d none, rfl, P11.only Only.upd offI.1 offI.2, im11.drop d, by rw [List.length_set]; exact ls, wk.out dk fun _ z => (nomatch z), fun z => (wl z).out dk fun _ z => (nomatch z), fun q ob e n1 n2 => by rw [upd_ne n2]; exact fr11 q ob e n1 n2⟩
      · refine ⟨Lx, _, _, _, rfl, rfl, SqL.of dLx11, at_of (j := 1) rfl rfl, _, rfl, _, rfl, I, _, _, d, rfl, rfl, im11.hI, by rw [Int.zero_add, List.length_map]; exact ixN_nat hl, ?_⟩
        rw [show (st.map dkV).set d (V.ref B) = (st.set d (some ⟨B, blk20⟩)).map dkV from set_dk st d (some ⟨B, blk20⟩)]
        have off : ¬ mutS (fun q => q = p) I st B := fun z => by
          rcases z with z | z | ⟨i, x, gx, z⟩
          · exact Bp z
          · rw [z, im9.hI] at nB9; cases nB9
          · rw [z, (im9.hD i x gx).1] at nB9; cases nB9
        refine (hIV _ _ _).mpr ⟨_, st.set d (some ⟨B, blk20⟩), rfl, P11.only Only.upd offI.1 offI.2, im11.blank20 d dB11 off (fun i x r sc g1 g2 z => ?_), by rw [List.length_set]; exact ls, wk.out dk fun _ z => by cases z; rfl, fun z => (wl z).out dk fun _ z => by cases z; rfl, fun q ob e n1 n2 => by rw [upd_ne n2]; exact fr11 q ob e n1 n2⟩
        have := (im9.hR i x r sc g1 g2).1
        rw [z, nB9] at this
        cases this
    rintro σ H8 hiv
    obtain ⟨v5', st, rfl, P8, im8, ls, wk, wl, fr⟩ := (hIV _ _ _).mp hiv
    clear hiv hIV IV wk1 wl1 im7 l1 P7 P6 im6 l0
    -- shown
    obtain ⟨rp, shn⟩ := rp_st24 wk im8 (by omega)
    refine ⟨_, rfl, I, stD19 st, rfl, dp_st19 im8, rp.h, rp.nd, Nat.le_trans rp.d (by decide), shn, ?_⟩
    -- found
    refine ⟨_, rfl, _, rfl, (n : Int), rfl, by omega, by omega, fun Dl nDl => ?_⟩
    rw [Int.toNat_natCast]
    refine lc_it (walk_range (n := n)) (fun j H' => Same H8 H' ∧ H' Dl = some (.lst ((List.range j).map fun d : Nat => V.int (d : Int)))) ⟨Same.new nDl, upd_same⟩ (fun _ _ _ _ => True.intro) ?_ ?_
    · rintro j y H5 H6 hj ⟨s5, d5⟩ ⟨rfl, rfl⟩
      refine ⟨rfl, _, rfl, _, d5, small _ (by rw [List.length_map, List.length_range]; omega), same_put s5 nDl, ?_⟩
      dsimp only
      rw [upd_same, List.range_succ, List.map_append, Int.zero_add]
      rfl
    rintro H9 ⟨s9, dDl⟩
    have im9 := im8.same s9
    have dS9 := s9 _ _ (fr _ _ dS7 Sp IS)
    have r100 : ∀ (i : Nat) (dk : DkO), st[i]? = some (some dk) → dk.rows.length ≤ 100 := fun i dk g => by rw [wk.r20 i dk g]; decide
    have flp : (plc ((snds nts).take fl)).length ≤ (plc (snds nts)).length := plc_pref _ _
    obtain ⟨m, j, m1, rd, rdn, ej, jl, jf⟩ := wk_read wk kpn
    have lsn : (snds nts).length = nts.length := snds_len nts
    refine ⟨_, rfl, (fun q => q = p), I, Dl, S, st, List.range n, 2, g, _, m, rfl, im9, by omega, r100, SqL.of dDl, by rw [List.length_range]; omega, SqT.of dS9, by omega, fun q hq => ⟨rd q hq, ?_⟩, fun _ => rdn, fun R rows H10 s10 LR er => ?_⟩
    · exact plc_items (nts := snds nts) (q := q) (by rw [List.getD_eq_getElem?_getD, List.getElem?_eq_getElem (by omega)]; rfl)
    rw [ej] at er
    have im10 := im9.same s10
    have s80 := s9.trans s10
    have LN10 : LA H10 N nts := ⟨s80 _ _ (fr _ _ LN.1 Np.1 Np.2), fun e me => ⟨s80 _ _ (fr _ _ (LN.2 e me).1 (Ep e me).1 (Ep e me).2), (LN.2 e me).2⟩⟩
    -- if repr(images) != shown or not isinstance(found, list) or found != notes[:len(found)]
    refine ⟨_, rfl, I, stD19 st, rfl, dp_st19 im10, rp.h, rp.nd, Nat.le_trans rp.d (by decide), shn, _, rfl, rfl, _, rfl, iteNS rfl ?_⟩
    refine ⟨_, rfl, _, _, _, _, true, rfl, .ty "list", .base (.lst LR.1), kit_ty (by decide +kernel), true, rfl, iteF ?_⟩
    refine ⟨_, rfl, _, rfl, _, rfl, R, _, rfl, .inl (SqL.of LR.1), _, rfl, N, _, rfl, SqL.of LN10.1, fun C nC => ?_⟩
    have lr : rows.length = j := by
      have := congrArg List.length er
      rw [List.length_map, List.length_take] at this
      omega
    have eC : cutV (refs nts) none (some (((refs rows).length : Nat) : Int)) = refs (nts.take j) := by
      rw [refs_len, lr, cut_take]
      unfold refs
      rw [List.map_take]
    rw [eC]
    have sC := Same.new (o := .lst (refs (nts.take j))) nC
    have LC : LA (upd H10 C (.lst (refs (nts.take j)))) C (nts.take j) := ⟨upd_same, fun e me => ⟨sC _ _ (LN10.2 e (List.mem_of_mem_take me)).1, ne_of_none (LN10.2 e (List.mem_of_mem_take me)).1 nC⟩⟩
    have LR11 := LR.same sC
    have im11 := im10.same sC
    have dDl11 := sC _ _ (s10 _ _ dDl)
    have LN11 := LN10.same sC
    generalize upd H10 C (.lst (refs (nts.take j))) = H11 at sC LC LR11 im11 dDl11 LN11 ⊢
    have es : snds (nts.take j) = (snds nts).take j := by unfold snds; rw [List.map_take]
    refine ⟨_, _, dp_la LR11, dp_la LC, rows_shaped _, rows_shaped _, _, rfl, ?_⟩
    rw [eqv_rows, er, es, decide_eq_true rfl]
    refine iteF ?_
    -- if len(found) < flushed or not lost and len(found) != len(notes)
    refine ⟨_, rfl, R, _, rfl, .inl (SqL.of LR11.1), _, rfl, _, _, rfl, rfl, _, rfl, ite2 (fun c => ?_) (fun _ => ?_)⟩
    · have c := of_decide_eq_true c
      have := jf _ wk flp fl (by omega) (Nat.le_refl _)
      rw [refs_len, lr] at c
      omega
    refine ⟨_, rfl, lost, rfl, ite2 (fun c => ?_) (fun _ => iteF ?_)⟩
    have lf : lost = false := by
      cases lost with
      | false => rfl
      | true => cases c
    have full := jf _ (wl lf) (Nat.le_refl _) (snds nts).length (Nat.le_refl _) (by rw [List.take_length]; exact Nat.le_refl _)
    refine ⟨_, rfl, R, _, rfl, .inl (SqL.of LR11.1), _, rfl, N, _, rfl, .inl (SqL.of LN11.1), rfl, _, rfl, iteNS (by rw [refs_len, refs_len, lr]; congr 2; omega) ?_⟩
    -- another stamp
    all_goals
      refine ⟨_, rfl, _, rfl, (n : Int), rfl, by omega, by omega, fun D2 nD2 => ?_⟩
      rw [Int.toNat_natCast]
      refine lc_it (walk_range (n := n)) (fun j H' => Same H11 H' ∧ H' D2 = some (.lst ((List.range j).map fun d : Nat => V.int (d : Int)))) ⟨Same.new nD2, upd_same⟩ (fun _ _ _ _ => True.intro) ?_ ?_
      · rintro j y H5 H6 hj ⟨s5, d5⟩ ⟨rfl, rfl⟩
        refine ⟨rfl, _, rfl, _, d5, small _ (by rw [List.length_map, List.length_range]; omega), same_put s5 nD2, ?_⟩
        dsimp only
        rw [upd_same, List.range_succ, List.map_append, Int.zero_add]
        rfl
      rintro H12 ⟨s12, dD2⟩
      refine ⟨by show 2 ≤ sizeLine; decide, fun S2 nS2 => ?_⟩
      have sS2 := Same.new (o := .tup [V.int 2, .int 6]) nS2
      have im13 := (im11.same s12).same sS2
      have no6 : RdP st (List.range n) (2, 6) 0 none := fun d _ ws ⟨sc, z1, z2, z3, z4⟩ => by
        rcases wk.any d _ sc z1 with ⟨q, ws', _, _, _, y, _⟩ | y
        · rw [y] at z3
          injection z3 with _ z3
          omega
        · rw [y] at z3
          cases z3
      refine ⟨(fun q => q = p), I, D2, S2, st, List.range n, 2, 6, (fun _ => []), 0, rfl, im13, by omega, r100, SqL.of (sS2 _ _ dD2), by rw [List.length_range]; omega, SqT.of upd_same, Nat.zero_le _, fun q hq => absurd hq (Nat.not_lt_zero _), fun _ => no6, fun R2 rows2 H14 s14 LR2 er2 => ⟨Nat.zero_le _, fun Z nZ => ?_⟩⟩
      have sZ := Same.new (o := .lst []) nZ
      refine ⟨_, _, dp_la (LR2.same sZ), .lst (SqL.of upd_same) .nil, rows_shaped _, rows_shaped [], ?_⟩
      have ee : PyData.eqv (.list ((snds rows2).map rowD)) (.list []) = true := by
        have := eqv_rows (snds rows2) []
        rw [er2] at this ⊢
        exact this
      rw [ee]
      exact k _
end
theorem all_mk {l : PySem.W.OpenLaw} {w : World} {K : PySem.W.Frag} {h : Heap} {mg : Str → Option Value} {fa : Addr} (X : K.In h) (G : h.Ns mainGlobals mg) (hfa : mg "law" = some (.ref fa))
    {f_is_present : Addr} {oc_is_present kV_is_present dc_is_present pm_is_present cd_is_present ct_is_present : Value} {od_is_present an_is_present : Option Addr} {sl_is_present : Array (Option Value)}
    {f_sector_at : Addr} {oc_sector_at kV_sector_at dc_sector_at pm_sector_at cd_sector_at ct_sector_at : Value} {od_sector_at an_sector_at : Option Addr} {sl_sector_at : Array (Option Value)}
    {f_check_words : Addr} {oc_check_words kV_check_words dc_check_words pm_check_words cd_check_words ct_check_words : Value} {od_check_words an_check_words : Option Addr} {sl_check_words : Array (Option Value)}
    {f_is_place : Addr} {oc_is_place kV_is_place dc_is_place pm_is_place cd_is_place ct_is_place : Value} {od_is_place an_is_place : Option Addr} {sl_is_place : Array (Option Value)}
    {f_seal : Addr} {oc_seal kV_seal dc_seal pm_seal cd_seal ct_seal : Value} {od_seal an_seal : Option Addr} {sl_seal : Array (Option Value)}
    {f_unseal : Addr} {oc_unseal kV_unseal dc_unseal pm_unseal cd_unseal ct_unseal : Value} {od_unseal an_unseal : Option Addr} {sl_unseal : Array (Option Value)}
    {f_is_whole : Addr} {oc_is_whole kV_is_whole dc_is_whole pm_is_whole cd_is_whole ct_is_whole : Value} {od_is_whole an_is_whole : Option Addr} {sl_is_whole : Array (Option Value)}
    {f_note_places : Addr} {oc_note_places kV_note_places dc_note_places pm_note_places cd_note_places ct_note_places : Value} {od_note_places an_note_places : Option Addr} {sl_note_places : Array (Option Value)}
    {f_place_payloads : Addr} {oc_place_payloads kV_place_payloads dc_place_payloads pm_place_payloads cd_place_payloads ct_place_payloads : Value} {od_place_payloads an_place_payloads : Option Addr} {sl_place_payloads : Array (Option Value)}
    {f_note_requests : Addr} {oc_note_requests kV_note_requests dc_note_requests pm_note_requests cd_note_requests ct_note_requests : Value} {od_note_requests an_note_requests : Option Addr} {sl_note_requests : Array (Option Value)}
    {f_read_place : Addr} {oc_read_place kV_read_place dc_read_place pm_read_place cd_read_place ct_read_place : Value} {od_read_place an_read_place : Option Addr} {sl_read_place : Array (Option Value)}
    {f_read_notes : Addr} {oc_read_notes kV_read_notes dc_read_notes pm_read_notes cd_read_notes ct_read_notes : Value} {od_read_notes an_read_notes : Option Addr} {sl_read_notes : Array (Option Value)}
    {f_law_pot : Addr} {oc_law_pot kV_law_pot dc_law_pot pm_law_pot cd_law_pot ct_law_pot : Value} {od_law_pot an_law_pot : Option Addr} {sl_law_pot : Array (Option Value)}
    {f_law_next : Addr} {oc_law_next kV_law_next dc_law_next pm_law_next cd_law_next ct_law_next : Value} {od_law_next an_law_next : Option Addr} {sl_law_next : Array (Option Value)}
    {f_law_word : Addr} {oc_law_word kV_law_word dc_law_word pm_law_word cd_law_word ct_law_word : Value} {od_law_word an_law_word : Option Addr} {sl_law_word : Array (Option Value)}
    {f_law_words : Addr} {oc_law_words kV_law_words dc_law_words pm_law_words cd_law_words ct_law_words : Value} {od_law_words an_law_words : Option Addr} {sl_law_words : Array (Option Value)}
    {f_law_seal : Addr} {oc_law_seal kV_law_seal dc_law_seal pm_law_seal cd_law_seal ct_law_seal : Value} {od_law_seal an_law_seal : Option Addr} {sl_law_seal : Array (Option Value)}
    {f_law_refused : Addr} {oc_law_refused kV_law_refused dc_law_refused pm_law_refused cd_law_refused ct_law_refused : Value} {od_law_refused an_law_refused : Option Addr} {sl_law_refused : Array (Option Value)}
    {f_law_note : Addr} {oc_law_note kV_law_note dc_law_note pm_law_note cd_law_note ct_law_note : Value} {od_law_note an_law_note : Option Addr} {sl_law_note : Array (Option Value)}
    {f_law_fate : Addr} {oc_law_fate kV_law_fate dc_law_fate pm_law_fate cd_law_fate ct_law_fate : Value} {od_law_fate an_law_fate : Option Addr} {sl_law_fate : Array (Option Value)}
    {f_law_write_all : Addr} {oc_law_write_all kV_law_write_all dc_law_write_all pm_law_write_all cd_law_write_all ct_law_write_all : Value} {od_law_write_all an_law_write_all : Option Addr} {sl_law_write_all : Array (Option Value)}
    {f_law : Addr} {oc_law kV_law dc_law pm_law cd_law ct_law : Value} {od_law an_law : Option Addr} {sl_law : Array (Option Value)}
    {c_PoolError : Addr}
    {c_InvalidArgument : Addr}
    {tk_PRIME : Tok}
    {tk_MAX_DISKS : Tok}
    {tk_MAX_PAYLOAD : Tok}
    {tk_MAX_ROWS : Tok}
    {tk_LABEL_ROWS : Tok}
    {tk_JOURNAL_ROWS : Tok}
    {tk_LABEL : Tok}
    {tk_NOTE : Tok}
    {tk_PIECE : Tok}
    {tk_HEADER_WORDS : Tok}
    {tk_CHECK_WORDS : Tok}
    {tk_PLACE_WORDS : Tok}
    (a_is_present : PySem.W.nsIn K mainGlobals "is_present" = some (some (.ref f_is_present)))
    (l_is_present : K.lookup f_is_present = some ⟨oc_is_present, od_is_present, .func (PySem.W.fnOf "is_present" "is_present" (defArgs s_is_present) (defBody s_is_present) (defScope s_is_present) .none kV_is_present dc_is_present pm_is_present an_is_present cd_is_present ct_is_present), sl_is_present⟩)
    (q_is_present : PySem.W.codeIn K cd_is_present "is_present" = true)
    (k_is_present : PySem.W.keepIn K (.ref f_is_present) = true)
    (a_sector_at : PySem.W.nsIn K mainGlobals "sector_at" = some (some (.ref f_sector_at)))
    (l_sector_at : K.lookup f_sector_at = some ⟨oc_sector_at, od_sector_at, .func (PySem.W.fnOf "sector_at" "sector_at" (defArgs s_sector_at) (defBody s_sector_at) (defScope s_sector_at) .none kV_sector_at dc_sector_at pm_sector_at an_sector_at cd_sector_at ct_sector_at), sl_sector_at⟩)
    (q_sector_at : PySem.W.codeIn K cd_sector_at "sector_at" = true)
    (k_sector_at : PySem.W.keepIn K (.ref f_sector_at) = true)
    (a_check_words : PySem.W.nsIn K mainGlobals "check_words" = some (some (.ref f_check_words)))
    (l_check_words : K.lookup f_check_words = some ⟨oc_check_words, od_check_words, .func (PySem.W.fnOf "check_words" "check_words" (defArgs s_check_words) (defBody s_check_words) (defScope s_check_words) .none kV_check_words dc_check_words pm_check_words an_check_words cd_check_words ct_check_words), sl_check_words⟩)
    (q_check_words : PySem.W.codeIn K cd_check_words "check_words" = true)
    (k_check_words : PySem.W.keepIn K (.ref f_check_words) = true)
    (a_is_place : PySem.W.nsIn K mainGlobals "is_place" = some (some (.ref f_is_place)))
    (l_is_place : K.lookup f_is_place = some ⟨oc_is_place, od_is_place, .func (PySem.W.fnOf "is_place" "is_place" (defArgs s_is_place) (defBody s_is_place) (defScope s_is_place) .none kV_is_place dc_is_place pm_is_place an_is_place cd_is_place ct_is_place), sl_is_place⟩)
    (q_is_place : PySem.W.codeIn K cd_is_place "is_place" = true)
    (k_is_place : PySem.W.keepIn K (.ref f_is_place) = true)
    (a_seal : PySem.W.nsIn K mainGlobals "seal" = some (some (.ref f_seal)))
    (l_seal : K.lookup f_seal = some ⟨oc_seal, od_seal, .func (PySem.W.fnOf "seal" "seal" (defArgs s_seal) (defBody s_seal) (defScope s_seal) .none kV_seal dc_seal pm_seal an_seal cd_seal ct_seal), sl_seal⟩)
    (q_seal : PySem.W.codeIn K cd_seal "seal" = true)
    (k_seal : PySem.W.keepIn K (.ref f_seal) = true)
    (a_unseal : PySem.W.nsIn K mainGlobals "unseal" = some (some (.ref f_unseal)))
    (l_unseal : K.lookup f_unseal = some ⟨oc_unseal, od_unseal, .func (PySem.W.fnOf "unseal" "unseal" (defArgs s_unseal) (defBody s_unseal) (defScope s_unseal) .none kV_unseal dc_unseal pm_unseal an_unseal cd_unseal ct_unseal), sl_unseal⟩)
    (q_unseal : PySem.W.codeIn K cd_unseal "unseal" = true)
    (k_unseal : PySem.W.keepIn K (.ref f_unseal) = true)
    (a_is_whole : PySem.W.nsIn K mainGlobals "is_whole" = some (some (.ref f_is_whole)))
    (l_is_whole : K.lookup f_is_whole = some ⟨oc_is_whole, od_is_whole, .func (PySem.W.fnOf "is_whole" "is_whole" (defArgs s_is_whole) (defBody s_is_whole) (defScope s_is_whole) .none kV_is_whole dc_is_whole pm_is_whole an_is_whole cd_is_whole ct_is_whole), sl_is_whole⟩)
    (q_is_whole : PySem.W.codeIn K cd_is_whole "is_whole" = true)
    (k_is_whole : PySem.W.keepIn K (.ref f_is_whole) = true)
    (a_note_places : PySem.W.nsIn K mainGlobals "note_places" = some (some (.ref f_note_places)))
    (l_note_places : K.lookup f_note_places = some ⟨oc_note_places, od_note_places, .func (PySem.W.fnOf "note_places" "note_places" (defArgs s_note_places) (defBody s_note_places) (defScope s_note_places) .none kV_note_places dc_note_places pm_note_places an_note_places cd_note_places ct_note_places), sl_note_places⟩)
    (q_note_places : PySem.W.codeIn K cd_note_places "note_places" = true)
    (k_note_places : PySem.W.keepIn K (.ref f_note_places) = true)
    (a_place_payloads : PySem.W.nsIn K mainGlobals "place_payloads" = some (some (.ref f_place_payloads)))
    (l_place_payloads : K.lookup f_place_payloads = some ⟨oc_place_payloads, od_place_payloads, .func (PySem.W.fnOf "place_payloads" "place_payloads" (defArgs s_place_payloads) (defBody s_place_payloads) (defScope s_place_payloads) .none kV_place_payloads dc_place_payloads pm_place_payloads an_place_payloads cd_place_payloads ct_place_payloads), sl_place_payloads⟩)
    (q_place_payloads : PySem.W.codeIn K cd_place_payloads "place_payloads" = true)
    (k_place_payloads : PySem.W.keepIn K (.ref f_place_payloads) = true)
    (a_note_requests : PySem.W.nsIn K mainGlobals "note_requests" = some (some (.ref f_note_requests)))
    (l_note_requests : K.lookup f_note_requests = some ⟨oc_note_requests, od_note_requests, .func (PySem.W.fnOf "note_requests" "note_requests" (defArgs s_note_requests) (defBody s_note_requests) (defScope s_note_requests) .none kV_note_requests dc_note_requests pm_note_requests an_note_requests cd_note_requests ct_note_requests), sl_note_requests⟩)
    (q_note_requests : PySem.W.codeIn K cd_note_requests "note_requests" = true)
    (k_note_requests : PySem.W.keepIn K (.ref f_note_requests) = true)
    (a_read_place : PySem.W.nsIn K mainGlobals "read_place" = some (some (.ref f_read_place)))
    (l_read_place : K.lookup f_read_place = some ⟨oc_read_place, od_read_place, .func (PySem.W.fnOf "read_place" "read_place" (defArgs s_read_place) (defBody s_read_place) (defScope s_read_place) .none kV_read_place dc_read_place pm_read_place an_read_place cd_read_place ct_read_place), sl_read_place⟩)
    (q_read_place : PySem.W.codeIn K cd_read_place "read_place" = true)
    (k_read_place : PySem.W.keepIn K (.ref f_read_place) = true)
    (a_read_notes : PySem.W.nsIn K mainGlobals "read_notes" = some (some (.ref f_read_notes)))
    (l_read_notes : K.lookup f_read_notes = some ⟨oc_read_notes, od_read_notes, .func (PySem.W.fnOf "read_notes" "read_notes" (defArgs s_read_notes) (defBody s_read_notes) (defScope s_read_notes) .none kV_read_notes dc_read_notes pm_read_notes an_read_notes cd_read_notes ct_read_notes), sl_read_notes⟩)
    (q_read_notes : PySem.W.codeIn K cd_read_notes "read_notes" = true)
    (k_read_notes : PySem.W.keepIn K (.ref f_read_notes) = true)
    (a_law_pot : PySem.W.nsIn K mainGlobals "_law_pot" = some (some (.ref f_law_pot)))
    (l_law_pot : K.lookup f_law_pot = some ⟨oc_law_pot, od_law_pot, .func (PySem.W.fnOf "_law_pot" "_law_pot" (defArgs s_law_pot) (defBody s_law_pot) (defScope s_law_pot) .none kV_law_pot dc_law_pot pm_law_pot an_law_pot cd_law_pot ct_law_pot), sl_law_pot⟩)
    (q_law_pot : PySem.W.codeIn K cd_law_pot "_law_pot" = true)
    (k_law_pot : PySem.W.keepIn K (.ref f_law_pot) = true)
    (a_law_next : PySem.W.nsIn K mainGlobals "_law_next" = some (some (.ref f_law_next)))
    (l_law_next : K.lookup f_law_next = some ⟨oc_law_next, od_law_next, .func (PySem.W.fnOf "_law_next" "_law_next" (defArgs s_law_next) (defBody s_law_next) (defScope s_law_next) .none kV_law_next dc_law_next pm_law_next an_law_next cd_law_next ct_law_next), sl_law_next⟩)
    (q_law_next : PySem.W.codeIn K cd_law_next "_law_next" = true)
    (k_law_next : PySem.W.keepIn K (.ref f_law_next) = true)
    (a_law_word : PySem.W.nsIn K mainGlobals "_law_word" = some (some (.ref f_law_word)))
    (l_law_word : K.lookup f_law_word = some ⟨oc_law_word, od_law_word, .func (PySem.W.fnOf "_law_word" "_law_word" (defArgs s_law_word) (defBody s_law_word) (defScope s_law_word) .none kV_law_word dc_law_word pm_law_word an_law_word cd_law_word ct_law_word), sl_law_word⟩)
    (q_law_word : PySem.W.codeIn K cd_law_word "_law_word" = true)
    (k_law_word : PySem.W.keepIn K (.ref f_law_word) = true)
    (a_law_words : PySem.W.nsIn K mainGlobals "_law_words" = some (some (.ref f_law_words)))
    (l_law_words : K.lookup f_law_words = some ⟨oc_law_words, od_law_words, .func (PySem.W.fnOf "_law_words" "_law_words" (defArgs s_law_words) (defBody s_law_words) (defScope s_law_words) .none kV_law_words dc_law_words pm_law_words an_law_words cd_law_words ct_law_words), sl_law_words⟩)
    (q_law_words : PySem.W.codeIn K cd_law_words "_law_words" = true)
    (k_law_words : PySem.W.keepIn K (.ref f_law_words) = true)
    (a_law_seal : PySem.W.nsIn K mainGlobals "_law_seal" = some (some (.ref f_law_seal)))
    (l_law_seal : K.lookup f_law_seal = some ⟨oc_law_seal, od_law_seal, .func (PySem.W.fnOf "_law_seal" "_law_seal" (defArgs s_law_seal) (defBody s_law_seal) (defScope s_law_seal) .none kV_law_seal dc_law_seal pm_law_seal an_law_seal cd_law_seal ct_law_seal), sl_law_seal⟩)
    (q_law_seal : PySem.W.codeIn K cd_law_seal "_law_seal" = true)
    (k_law_seal : PySem.W.keepIn K (.ref f_law_seal) = true)
    (a_law_refused : PySem.W.nsIn K mainGlobals "_law_refused" = some (some (.ref f_law_refused)))
    (l_law_refused : K.lookup f_law_refused = some ⟨oc_law_refused, od_law_refused, .func (PySem.W.fnOf "_law_refused" "_law_refused" (defArgs s_law_refused) (defBody s_law_refused) (defScope s_law_refused) .none kV_law_refused dc_law_refused pm_law_refused an_law_refused cd_law_refused ct_law_refused), sl_law_refused⟩)
    (q_law_refused : PySem.W.codeIn K cd_law_refused "_law_refused" = true)
    (k_law_refused : PySem.W.keepIn K (.ref f_law_refused) = true)
    (a_law_note : PySem.W.nsIn K mainGlobals "_law_note" = some (some (.ref f_law_note)))
    (l_law_note : K.lookup f_law_note = some ⟨oc_law_note, od_law_note, .func (PySem.W.fnOf "_law_note" "_law_note" (defArgs s_law_note) (defBody s_law_note) (defScope s_law_note) .none kV_law_note dc_law_note pm_law_note an_law_note cd_law_note ct_law_note), sl_law_note⟩)
    (q_law_note : PySem.W.codeIn K cd_law_note "_law_note" = true)
    (k_law_note : PySem.W.keepIn K (.ref f_law_note) = true)
    (a_law_fate : PySem.W.nsIn K mainGlobals "_law_fate" = some (some (.ref f_law_fate)))
    (l_law_fate : K.lookup f_law_fate = some ⟨oc_law_fate, od_law_fate, .func (PySem.W.fnOf "_law_fate" "_law_fate" (defArgs s_law_fate) (defBody s_law_fate) (defScope s_law_fate) .none kV_law_fate dc_law_fate pm_law_fate an_law_fate cd_law_fate ct_law_fate), sl_law_fate⟩)
    (q_law_fate : PySem.W.codeIn K cd_law_fate "_law_fate" = true)
    (k_law_fate : PySem.W.keepIn K (.ref f_law_fate) = true)
    (a_law_write_all : PySem.W.nsIn K mainGlobals "_law_write_all" = some (some (.ref f_law_write_all)))
    (l_law_write_all : K.lookup f_law_write_all = some ⟨oc_law_write_all, od_law_write_all, .func (PySem.W.fnOf "_law_write_all" "_law_write_all" (defArgs s_law_write_all) (defBody s_law_write_all) (defScope s_law_write_all) .none kV_law_write_all dc_law_write_all pm_law_write_all an_law_write_all cd_law_write_all ct_law_write_all), sl_law_write_all⟩)
    (q_law_write_all : PySem.W.codeIn K cd_law_write_all "_law_write_all" = true)
    (k_law_write_all : PySem.W.keepIn K (.ref f_law_write_all) = true)
    (a_law : PySem.W.nsIn K mainGlobals "law" = some (some (.ref f_law)))
    (l_law : K.lookup f_law = some ⟨oc_law, od_law, .func (PySem.W.fnOf "law" "law" (defArgs s_law) (defBody s_law) (defScope s_law) .none kV_law dc_law pm_law an_law cd_law ct_law), sl_law⟩)
    (q_law : PySem.W.codeIn K cd_law "law" = true)
    (k_law : PySem.W.keepIn K (.ref f_law) = true)
    (a_PRIME : PySem.W.nsIn K mainGlobals "PRIME" = some (some (.int 65521 tk_PRIME)))
    (a_MAX_DISKS : PySem.W.nsIn K mainGlobals "MAX_DISKS" = some (some (.int 8 tk_MAX_DISKS)))
    (a_MAX_PAYLOAD : PySem.W.nsIn K mainGlobals "MAX_PAYLOAD" = some (some (.int 1000 tk_MAX_PAYLOAD)))
    (a_MAX_ROWS : PySem.W.nsIn K mainGlobals "MAX_ROWS" = some (some (.int 4000 tk_MAX_ROWS)))
    (a_LABEL_ROWS : PySem.W.nsIn K mainGlobals "LABEL_ROWS" = some (some (.int 2 tk_LABEL_ROWS)))
    (a_JOURNAL_ROWS : PySem.W.nsIn K mainGlobals "JOURNAL_ROWS" = some (some (.int 16 tk_JOURNAL_ROWS)))
    (a_LABEL : PySem.W.nsIn K mainGlobals "LABEL" = some (some (.int 1 tk_LABEL)))
    (a_NOTE : PySem.W.nsIn K mainGlobals "NOTE" = some (some (.int 2 tk_NOTE)))
    (a_PIECE : PySem.W.nsIn K mainGlobals "PIECE" = some (some (.int 3 tk_PIECE)))
    (a_HEADER_WORDS : PySem.W.nsIn K mainGlobals "HEADER_WORDS" = some (some (.int 6 tk_HEADER_WORDS)))
    (a_CHECK_WORDS : PySem.W.nsIn K mainGlobals "CHECK_WORDS" = some (some (.int 2 tk_CHECK_WORDS)))
    (a_PLACE_WORDS : PySem.W.nsIn K mainGlobals "PLACE_WORDS" = some (some (.int 999 tk_PLACE_WORDS)))
    (n_len : PySem.W.nsIn K mainGlobals "len" = some none)
    (n_enumerate : PySem.W.nsIn K mainGlobals "enumerate" = some none)
    (n_sum : PySem.W.nsIn K mainGlobals "sum" = some none)
    (n_tuple : PySem.W.nsIn K mainGlobals "tuple" = some none)
    (n_min : PySem.W.nsIn K mainGlobals "min" = some none)
    (n_max : PySem.W.nsIn K mainGlobals "max" = some none)
    (n_range : PySem.W.nsIn K mainGlobals "range" = some none)
    (n_list : PySem.W.nsIn K mainGlobals "list" = some none)
    (n_int : PySem.W.nsIn K mainGlobals "int" = some none)
    (n_abs : PySem.W.nsIn K mainGlobals "abs" = some none)
    (n_isinstance : PySem.W.nsIn K mainGlobals "isinstance" = some none)
    (n_any : PySem.W.nsIn K mainGlobals "any" = some none)
    (n_repr : PySem.W.nsIn K mainGlobals "repr" = some none)
    (a_PoolError : PySem.W.nsIn K mainGlobals "PoolError" = some (some (.ref c_PoolError)))
    (x_PoolError : PySem.W.excIn K c_PoolError [.type "ValueError", .type "Exception", .type "BaseException", .type "object"] "ValueError.__new__" = true)
    (k_PoolError : PySem.W.keepIn K (.ref c_PoolError) = true)
    (b_PoolError : PySem.W.subIn K (.ref c_PoolError) (.type "BaseException") = some true)
    (t_PoolError : PySem.W.typeIn K (.ref c_PoolError) = some (.type "type"))
    (E1_PoolError : PySem.W.findIn K (.ref c_PoolError) "__getattribute__" = some (some (.builtin "BaseException.__getattribute__")))
    (E2_PoolError : PySem.W.findIn K (.ref c_PoolError) "__getattr__" = some none)
    (E3_PoolError : PySem.W.hasDictIn K c_PoolError = true)
    (E4_PoolError : PySem.W.findIn K (.ref c_PoolError) "__class__" = some (some (.builtin "object.__class__")))
    (s_PoolError : PySem.W.subIn K (.ref c_PoolError) (.ref c_PoolError) = some true)
    (E5_PoolError : PySem.W.mroIn K c_PoolError (.type "object") = some true)
    (a_InvalidArgument : PySem.W.nsIn K mainGlobals "InvalidArgument" = some (some (.ref c_InvalidArgument)))
    (x_InvalidArgument : PySem.W.excIn K c_InvalidArgument [.type "ValueError", .type "Exception", .type "BaseException", .type "object"] "ValueError.__new__" = true)
    (k_InvalidArgument : PySem.W.keepIn K (.ref c_InvalidArgument) = true)
    (b_InvalidArgument : PySem.W.subIn K (.ref c_InvalidArgument) (.type "BaseException") = some true)
    (t_InvalidArgument : PySem.W.typeIn K (.ref c_InvalidArgument) = some (.type "type"))
    (E1_InvalidArgument : PySem.W.findIn K (.ref c_InvalidArgument) "__getattribute__" = some (some (.builtin "BaseException.__getattribute__")))
    (E2_InvalidArgument : PySem.W.findIn K (.ref c_InvalidArgument) "__getattr__" = some none)
    (E3_InvalidArgument : PySem.W.hasDictIn K c_InvalidArgument = true)
    (E4_InvalidArgument : PySem.W.findIn K (.ref c_InvalidArgument) "__class__" = some (some (.builtin "object.__class__")))
    (s_InvalidArgument : PySem.W.subIn K (.ref c_InvalidArgument) (.ref c_InvalidArgument) = some true)
    (E5_InvalidArgument : PySem.W.mroIn K c_InvalidArgument (.type "object") = some true)
    (E6 : PySem.W.specialIn K (.builtin "object.__class__") "__get__" = some (some (.builtin "getset_descriptor.__get__")))
    (E7 : PySem.W.takesIn K (.builtin "object.__class__") = some true)
    (u_InvalidArgument_PoolError : PySem.W.subIn K (.ref c_InvalidArgument) (.ref c_PoolError) = some true) :
    ∃ fd : FuncData, (∀ (s : Shared) (v : Value), BindsTo s fd ⟨[v], []⟩ [("script", v)]) ∧ ∀ base : Heap, K.In base → base.Ns mainGlobals mg → EntryOk l.prog w K mg base fa fd "script" (sp_law0 K) := by
  have e := hfa.symm.trans (PySem.W.mg_of X G a_law)
  cases e
  have F_is_present := fun_mk (st := s_is_present) l_is_present q_is_present k_is_present
  have d_is_present := F_is_present.binds (ps := ["images", "disk"]) fun _ _ _ _ _ _ us hl => match us, hl with | [_, _], _ => rfl
  have F_sector_at := fun_mk (st := s_sector_at) l_sector_at q_sector_at k_sector_at
  have d_sector_at := F_sector_at.binds (ps := ["images", "disk", "row"]) fun _ _ _ _ _ _ us hl => match us, hl with | [_, _, _], _ => rfl
  have F_check_words := fun_mk (st := s_check_words) l_check_words q_check_words k_check_words
  have d_check_words := F_check_words.binds (ps := ["words"]) fun _ _ _ _ _ _ us hl => match us, hl with | [_], _ => rfl
  have F_is_place := fun_mk (st := s_is_place) l_is_place q_is_place k_is_place
  have d_is_place := F_is_place.binds (ps := ["kind", "disk", "row"]) fun _ _ _ _ _ _ us hl => match us, hl with | [_, _, _], _ => rfl
  have F_seal := fun_mk (st := s_seal) l_seal q_seal k_seal
  have d_seal := F_seal.binds (ps := ["kind", "disk", "row", "stamp", "payload"]) fun _ _ _ _ _ _ us hl => match us, hl with | [_, _, _, _, _], _ => rfl
  have F_unseal := fun_mk (st := s_unseal) l_unseal q_unseal k_unseal
  have d_unseal := F_unseal.binds (ps := ["sector", "kind", "disk", "row"]) fun _ _ _ _ _ _ us hl => match us, hl with | [_, _, _, _], _ => rfl
  have F_is_whole := fun_mk (st := s_is_whole) l_is_whole q_is_whole k_is_whole
  have d_is_whole := F_is_whole.binds (ps := ["sector"]) fun _ _ _ _ _ _ us hl => match us, hl with | [_], _ => rfl
  have F_note_places := fun_mk (st := s_note_places) l_note_places q_note_places k_note_places
  have d_note_places := F_note_places.binds (ps := ["words"]) fun _ _ _ _ _ _ us hl => match us, hl with | [_], _ => rfl
  have F_place_payloads := fun_mk (st := s_place_payloads) l_place_payloads q_place_payloads k_place_payloads
  have d_place_payloads := F_place_payloads.binds (ps := ["words"]) fun _ _ _ _ _ _ us hl => match us, hl with | [_], _ => rfl
  have F_note_requests := fun_mk (st := s_note_requests) l_note_requests q_note_requests k_note_requests
  have d_note_requests := F_note_requests.binds (ps := ["images", "disks", "stamp", "first", "words"]) fun _ _ _ _ _ _ us hl => match us, hl with | [_, _, _, _, _], _ => rfl
  have F_read_place := fun_mk (st := s_read_place) l_read_place q_read_place k_read_place
  have d_read_place := F_read_place.binds (ps := ["images", "disks", "stamp", "place"]) fun _ _ _ _ _ _ us hl => match us, hl with | [_, _, _, _], _ => rfl
  have F_read_notes := fun_mk (st := s_read_notes) l_read_notes q_read_notes k_read_notes
  have d_read_notes := F_read_notes.binds (ps := ["images", "disks", "stamp"]) fun _ _ _ _ _ _ us hl => match us, hl with | [_, _, _], _ => rfl
  have F_law_pot := fun_mk (st := s_law_pot) l_law_pot q_law_pot k_law_pot
  have d_law_pot := F_law_pot.binds (ps := ["script"]) fun _ _ _ _ _ _ us hl => match us, hl with | [_], _ => rfl
  have F_law_next := fun_mk (st := s_law_next) l_law_next q_law_next k_law_next
  have d_law_next := F_law_next.binds (ps := ["pot", "limit"]) fun _ _ _ _ _ _ us hl => match us, hl with | [_, _], _ => rfl
  have F_law_word := fun_mk (st := s_law_word) l_law_word q_law_word k_law_word
  have d_law_word := F_law_word.binds (ps := ["pot"]) fun _ _ _ _ _ _ us hl => match us, hl with | [_], _ => rfl
  have F_law_words := fun_mk (st := s_law_words) l_law_words q_law_words k_law_words
  have d_law_words := F_law_words.binds (ps := ["pot", "count"]) fun _ _ _ _ _ _ us hl => match us, hl with | [_, _], _ => rfl
  have F_law_seal := fun_mk (st := s_law_seal) l_law_seal q_law_seal k_law_seal
  have d_law_seal := F_law_seal.binds (ps := ["kind", "disk", "row", "stamp", "payload"]) fun _ _ _ _ _ _ us hl => match us, hl with | [_, _, _, _, _], _ => rfl
  have F_law_refused := fun_mk (st := s_law_refused) l_law_refused q_law_refused k_law_refused
  have d_law_refused := F_law_refused.binds (ps := ["images", "disks", "stamp", "first", "words"]) fun _ _ _ _ _ _ us hl => match us, hl with | [_, _, _, _, _], _ => rfl
  have F_law_note := fun_mk (st := s_law_note) l_law_note q_law_note k_law_note
  have d_law_note := F_law_note.binds (ps := ["pot"]) fun _ _ _ _ _ _ us hl => match us, hl with | [_], _ => rfl
  have F_law_fate := fun_mk (st := s_law_fate) l_law_fate q_law_fate k_law_fate
  have d_law_fate := F_law_fate.binds (ps := ["pot", "images", "request", "old"]) fun _ _ _ _ _ _ us hl => match us, hl with | [_, _, _, _], _ => rfl
  have F_law_write_all := fun_mk (st := s_law_write_all) l_law_write_all q_law_write_all k_law_write_all
  have d_law_write_all := F_law_write_all.binds (ps := ["pot", "images", "count", "stamp"]) fun _ _ _ _ _ _ us hl => match us, hl with | [_, _, _, _], _ => rfl
  have F_law := fun_mk (st := s_law) l_law q_law k_law
  have d_law := F_law.binds (ps := ["script"]) fun _ _ _ _ _ _ us hl => match us, hl with | [_], _ => rfl
  have T : Txt K mg ⟨f_is_present, _, f_sector_at, _, f_check_words, _, f_is_place, _, f_seal, _, f_unseal, _, f_is_whole, _, f_note_places, _, f_place_payloads, _, f_note_requests, _, f_read_place, _, f_read_notes, _, f_law_pot, _, f_law_next, _, f_law_word, _, f_law_words, _, f_law_seal, _, f_law_refused, _, f_law_note, _, f_law_fate, _, f_law_write_all, _, fa, _, c_PoolError, c_InvalidArgument⟩ := {
    F_is_present := F_is_present, g_is_present := PySem.W.mg_of X G a_is_present, d_is_present := d_is_present,
    F_sector_at := F_sector_at, g_sector_at := PySem.W.mg_of X G a_sector_at, d_sector_at := d_sector_at,
    F_check_words := F_check_words, g_check_words := PySem.W.mg_of X G a_check_words, d_check_words := d_check_words,
    F_is_place := F_is_place, g_is_place := PySem.W.mg_of X G a_is_place, d_is_place := d_is_place,
    F_seal := F_seal, g_seal := PySem.W.mg_of X G a_seal, d_seal := d_seal,
    F_unseal := F_unseal, g_unseal := PySem.W.mg_of X G a_unseal, d_unseal := d_unseal,
    F_is_whole := F_is_whole, g_is_whole := PySem.W.mg_of X G a_is_whole, d_is_whole := d_is_whole,
    F_note_places := F_note_places, g_note_places := PySem.W.mg_of X G a_note_places, d_note_places := d_note_places,
    F_place_payloads := F_place_payloads, g_place_payloads := PySem.W.mg_of X G a_place_payloads, d_place_payloads := d_place_payloads,
    F_note_requests := F_note_requests, g_note_requests := PySem.W.mg_of X G a_note_requests, d_note_requests := d_note_requests,
    F_read_place := F_read_place, g_read_place := PySem.W.mg_of X G a_read_place, d_read_place := d_read_place,
    F_read_notes := F_read_notes, g_read_notes := PySem.W.mg_of X G a_read_notes, d_read_notes := d_read_notes,
    F_law_pot := F_law_pot, g_law_pot := PySem.W.mg_of X G a_law_pot, d_law_pot := d_law_pot,
    F_law_next := F_law_next, g_law_next := PySem.W.mg_of X G a_law_next, d_law_next := d_law_next,
    F_law_word := F_law_word, g_law_word := PySem.W.mg_of X G a_law_word, d_law_word := d_law_word,
    F_law_words := F_law_words, g_law_words := PySem.W.mg_of X G a_law_words, d_law_words := d_law_words,
    F_law_seal := F_law_seal, g_law_seal := PySem.W.mg_of X G a_law_seal, d_law_seal := d_law_seal,
    F_law_refused := F_law_refused, g_law_refused := PySem.W.mg_of X G a_law_refused, d_law_refused := d_law_refused,
    F_law_note := F_law_note, g_law_note := PySem.W.mg_of X G a_law_note, d_law_note := d_law_note,
    F_law_fate := F_law_fate, g_law_fate := PySem.W.mg_of X G a_law_fate, d_law_fate := d_law_fate,
    F_law_write_all := F_law_write_all, g_law_write_all := PySem.W.mg_of X G a_law_write_all, d_law_write_all := d_law_write_all,
    F_law := F_law, g_law := PySem.W.mg_of X G a_law, d_law := d_law,
    g_PRIME := ⟨_, PySem.W.mg_of X G a_PRIME, ⟨_, rfl⟩⟩,
    g_MAX_DISKS := ⟨_, PySem.W.mg_of X G a_MAX_DISKS, ⟨_, rfl⟩⟩,
    g_MAX_PAYLOAD := ⟨_, PySem.W.mg_of X G a_MAX_PAYLOAD, ⟨_, rfl⟩⟩,
    g_MAX_ROWS := ⟨_, PySem.W.mg_of X G a_MAX_ROWS, ⟨_, rfl⟩⟩,
    g_LABEL_ROWS := ⟨_, PySem.W.mg_of X G a_LABEL_ROWS, ⟨_, rfl⟩⟩,
    g_JOURNAL_ROWS := ⟨_, PySem.W.mg_of X G a_JOURNAL_ROWS, ⟨_, rfl⟩⟩,
    g_LABEL := ⟨_, PySem.W.mg_of X G a_LABEL, ⟨_, rfl⟩⟩,
    g_NOTE := ⟨_, PySem.W.mg_of X G a_NOTE, ⟨_, rfl⟩⟩,
    g_PIECE := ⟨_, PySem.W.mg_of X G a_PIECE, ⟨_, rfl⟩⟩,
    g_HEADER_WORDS := ⟨_, PySem.W.mg_of X G a_HEADER_WORDS, ⟨_, rfl⟩⟩,
    g_CHECK_WORDS := ⟨_, PySem.W.mg_of X G a_CHECK_WORDS, ⟨_, rfl⟩⟩,
    g_PLACE_WORDS := ⟨_, PySem.W.mg_of X G a_PLACE_WORDS, ⟨_, rfl⟩⟩,
    n_len := PySem.W.mg_none_of X G n_len,
    n_enumerate := PySem.W.mg_none_of X G n_enumerate,
    n_sum := PySem.W.mg_none_of X G n_sum,
    n_tuple := PySem.W.mg_none_of X G n_tuple,
    n_min := PySem.W.mg_none_of X G n_min,
    n_max := PySem.W.mg_none_of X G n_max,
    n_range := PySem.W.mg_none_of X G n_range,
    n_list := PySem.W.mg_none_of X G n_list,
    n_int := PySem.W.mg_none_of X G n_int,
    n_abs := PySem.W.mg_none_of X G n_abs,
    n_isinstance := PySem.W.mg_none_of X G n_isinstance,
    n_any := PySem.W.mg_none_of X G n_any,
    n_repr := PySem.W.mg_none_of X G n_repr,
    g_PoolError := PySem.W.mg_of X G a_PoolError, x_PoolError := x_PoolError, k_PoolError := k_PoolError, b_PoolError := b_PoolError, t_PoolError := t_PoolError, E_PoolError := ⟨E1_PoolError, E2_PoolError, b_PoolError, E3_PoolError, E4_PoolError, E6, E7, E5_PoolError⟩,
    g_InvalidArgument := PySem.W.mg_of X G a_InvalidArgument, x_InvalidArgument := x_InvalidArgument, k_InvalidArgument := k_InvalidArgument, b_InvalidArgument := b_InvalidArgument, t_InvalidArgument := t_InvalidArgument, E_InvalidArgument := ⟨E1_InvalidArgument, E2_InvalidArgument, b_InvalidArgument, E3_InvalidArgument, E4_InvalidArgument, E6, E7, E5_InvalidArgument⟩,
    u_InvalidArgument_PoolError := PySem.W.exm_ref b_PoolError E3_PoolError t_PoolError u_InvalidArgument_PoolError,
    i_InvalidArgument_InvalidArgument := kit_self }
  exact ⟨PySem.W.fnOf "law" "law" (defArgs s_law) (defBody s_law) (defScope s_law) .none kV_law dc_law pm_law an_law cd_law ct_law, fun s v => .of_eq rfl, fun base _ _ => (ok_law T).imp fun vs H Q h => h⟩
theorem walk {l : PySem.W.OpenLaw} {q : Program} {loose : List Str} {XP : (Str → Option Value) → Heap → Prop} {YP : World → Heap → Prop} {d : DefRec} {K : Params → PySem.W.Frag} (hn : l.most = some 63) (hdf : d.params.defaults = [])
    (hY : ∀ (w : World) (h : Heap), YP w h → (K w.params).In h)
    (F : ∀ (w : World) (mg : Str → Option Value) (fa : Addr) (h : Heap), (K w.params).In h → h.Ns mainGlobals mg → mg d.name = some (.ref fa) →
      ∃ fd : FuncData, (∀ (s : Shared) (u : Value), BindsTo s fd ⟨[u], []⟩ [("script", u)]) ∧ ∀ base : Heap, (K w.params).In base → base.Ns mainGlobals mg → EntryOk l.prog w (K w.params) mg base fa fd "script" (sp_law0 (K w.params))) :
    PySem.W.WalkO q loose XP YP l.row.toRowW d [] (fun f vs => PySem.call f vs) :=
  L2.walk_entry (n := 63) (y := "script") (sp := fun w => sp_law0 (K w.params)) hn (by decide) hdf hY F (fun _ _ a ns hl _ hS => ⟨a, ns, rfl, hS, hl, fun _ => rfl⟩)
end PP
open PySem PySem.W PyProof.Rows
set_option maxRecDepth 100000 in
set_option maxHeartbeats 0 in
theorem PySem.Challenge.cw_paritypool_k24_whole_notes_and_cuts_holds : PySem.Challenge.rw_paritypool_k24_whole_notes_and_cuts.Holds := by
  w_on; o_law; k_head; (case hw => w_witness2)
  k_fill
  refine PP.walk (l := PySem.Challenge.rw_paritypool_k24_whole_notes_and_cuts) rfl rfl (fun w h Y => PySem.W.kIn_of Y) ?F
  case F =>
    intro w mg fa h KX G hmg
    refine' PP.all_mk KX G hmg ?a_is_present ?l_is_present ?q_is_present ?k_is_present ?a_sector_at ?l_sector_at ?q_sector_at ?k_sector_at ?a_check_words ?l_check_words ?q_check_words ?k_check_words ?a_is_place ?l_is_place ?q_is_place ?k_is_place ?a_seal ?l_seal ?q_seal ?k_seal ?a_unseal ?l_unseal ?q_unseal ?k_unseal ?a_is_whole ?l_is_whole ?q_is_whole ?k_is_whole ?a_note_places ?l_note_places ?q_note_places ?k_note_places ?a_place_payloads ?l_place_payloads ?q_place_payloads ?k_place_payloads ?a_note_requests ?l_note_requests ?q_note_requests ?k_note_requests ?a_read_place ?l_read_place ?q_read_place ?k_read_place ?a_read_notes ?l_read_notes ?q_read_notes ?k_read_notes ?a_law_pot ?l_law_pot ?q_law_pot ?k_law_pot ?a_law_next ?l_law_next ?q_law_next ?k_law_next ?a_law_word ?l_law_word ?q_law_word ?k_law_word ?a_law_words ?l_law_words ?q_law_words ?k_law_words ?a_law_seal ?l_law_seal ?q_law_seal ?k_law_seal ?a_law_refused ?l_law_refused ?q_law_refused ?k_law_refused ?a_law_note ?l_law_note ?q_law_note ?k_law_note ?a_law_fate ?l_law_fate ?q_law_fate ?k_law_fate ?a_law_write_all ?l_law_write_all ?q_law_write_all ?k_law_write_all ?a_law ?l_law ?q_law ?k_law ?a_PRIME ?a_MAX_DISKS ?a_MAX_PAYLOAD ?a_MAX_ROWS ?a_LABEL_ROWS ?a_JOURNAL_ROWS ?a_LABEL ?a_NOTE ?a_PIECE ?a_HEADER_WORDS ?a_CHECK_WORDS ?a_PLACE_WORDS ?n_len ?n_enumerate ?n_sum ?n_tuple ?n_min ?n_max ?n_range ?n_list ?n_int ?n_abs ?n_isinstance ?n_any ?n_repr ?a_PoolError ?x_PoolError ?k_PoolError ?b_PoolError ?t_PoolError ?E1_PoolError ?E2_PoolError ?E3_PoolError ?E4_PoolError ?s_PoolError ?E5_PoolError ?a_InvalidArgument ?x_InvalidArgument ?k_InvalidArgument ?b_InvalidArgument ?t_InvalidArgument ?E1_InvalidArgument ?E2_InvalidArgument ?E3_InvalidArgument ?E4_InvalidArgument ?s_InvalidArgument ?E5_InvalidArgument ?E6 ?E7 ?u_InvalidArgument_PoolError
    (case a_is_present => k_is)
    (case l_is_present => k_is)
    (case q_is_present => k_is)
    (case k_is_present => k_is)
    (case a_sector_at => k_is)
    (case l_sector_at => k_is)
    (case q_sector_at => k_is)
    (case k_sector_at => k_is)
    (case a_check_words => k_is)
    (case l_check_words => k_is)
    (case q_check_words => k_is)
    (case k_check_words => k_is)
    (case a_is_place => k_is)
    (case l_is_place => k_is)
    (case q_is_place => k_is)
    (case k_is_place => k_is)
    (case a_seal => k_is)
    (case l_seal => k_is)
    (case q_seal => k_is)
    (case k_seal => k_is)
    (case a_unseal => k_is)
    (case l_unseal => k_is)
    (case q_unseal => k_is)
    (case k_unseal => k_is)
    (case a_is_whole => k_is)
    (case l_is_whole => k_is)
    (case q_is_whole => k_is)
    (case k_is_whole => k_is)
    (case a_note_places => k_is)
    (case l_note_places => k_is)
    (case q_note_places => k_is)
    (case k_note_places => k_is)
    (case a_place_payloads => k_is)
    (case l_place_payloads => k_is)
    (case q_place_payloads => k_is)
    (case k_place_payloads => k_is)
    (case a_note_requests => k_is)
    (case l_note_requests => k_is)
    (case q_note_requests => k_is)
    (case k_note_requests => k_is)
    (case a_read_place => k_is)
    (case l_read_place => k_is)
    (case q_read_place => k_is)
    (case k_read_place => k_is)
    (case a_read_notes => k_is)
    (case l_read_notes => k_is)
    (case q_read_notes => k_is)
    (case k_read_notes => k_is)
    (case a_law_pot => k_is)
    (case l_law_pot => k_is)
    (case q_law_pot => k_is)
    (case k_law_pot => k_is)
    (case a_law_next => k_is)
    (case l_law_next => k_is)
    (case q_law_next => k_is)
    (case k_law_next => k_is)
    (case a_law_word => k_is)
    (case l_law_word => k_is)
    (case q_law_word => k_is)
    (case k_law_word => k_is)
    (case a_law_words => k_is)
    (case l_law_words => k_is)
    (case q_law_words => k_is)
    (case k_law_words => k_is)
    (case a_law_seal => k_is)
    (case l_law_seal => k_is)
    (case q_law_seal => k_is)
    (case k_law_seal => k_is)
    (case a_law_refused => k_is)
    (case l_law_refused => k_is)
    (case q_law_refused => k_is)
    (case k_law_refused => k_is)
    (case a_law_note => k_is)
    (case l_law_note => k_is)
    (case q_law_note => k_is)
    (case k_law_note => k_is)
    (case a_law_fate => k_is)
    (case l_law_fate => k_is)
    (case q_law_fate => k_is)
    (case k_law_fate => k_is)
    (case a_law_write_all => k_is)
    (case l_law_write_all => k_is)
    (case q_law_write_all => k_is)
    (case k_law_write_all => k_is)
    (case a_law => k_is)
    (case l_law => k_is)
    (case q_law => k_is)
    (case k_law => k_is)
    (case a_PRIME => k_is)
    (case a_MAX_DISKS => k_is)
    (case a_MAX_PAYLOAD => k_is)
    (case a_MAX_ROWS => k_is)
    (case a_LABEL_ROWS => k_is)
    (case a_JOURNAL_ROWS => k_is)
    (case a_LABEL => k_is)
    (case a_NOTE => k_is)
    (case a_PIECE => k_is)
    (case a_HEADER_WORDS => k_is)
    (case a_CHECK_WORDS => k_is)
    (case a_PLACE_WORDS => k_is)
    (case n_len => k_is)
    (case n_enumerate => k_is)
    (case n_sum => k_is)
    (case n_tuple => k_is)
    (case n_min => k_is)
    (case n_max => k_is)
    (case n_range => k_is)
    (case n_list => k_is)
    (case n_int => k_is)
    (case n_abs => k_is)
    (case n_isinstance => k_is)
    (case n_any => k_is)
    (case n_repr => k_is)
    (case a_PoolError => k_is)
    (case x_PoolError => k_exc)
    (case k_PoolError => k_is)
    (case b_PoolError => k_is)
    (case t_PoolError => k_is)
    (case E1_PoolError => k_is)
    (case E2_PoolError => k_is)
    (case E3_PoolError => k_is)
    (case E4_PoolError => k_is)
    (case s_PoolError => first | rfl | k_is)
    (case E5_PoolError => k_is)
    (case a_InvalidArgument => k_is)
    (case x_InvalidArgument => k_exc)
    (case k_InvalidArgument => k_is)
    (case b_InvalidArgument => k_is)
    (case t_InvalidArgument => k_is)
    (case E1_InvalidArgument => k_is)
    (case E2_InvalidArgument => k_is)
    (case E3_InvalidArgument => k_is)
    (case E4_InvalidArgument => k_is)
    (case s_InvalidArgument => first | rfl | k_is)
    (case E5_InvalidArgument => k_is)
    (case E6 => k_is)
    (case E7 => k_is)
    (case u_InvalidArgument_PoolError => k_is)
