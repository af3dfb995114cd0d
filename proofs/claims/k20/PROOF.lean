import PyProof.Rows.All
import Wide.All
import OpenK.AllK
import Wide.FinOn
import HandS.ForMost
import HandS.ForExc
import HandS.ExcIs
import HandS.IsInst
import HandS.Evl
import HandS.Walk
import HandS.Zip
import HandS.More
import HandS.Iter
import HandS.Star
import HandS.Conv
import HandS.Wide
import KE.GoesEnumKw
import HandS.TupLen
import HandS.Replace
import HandS.Text
import HandS.Rev
import HandS.TryOnly
import HandS.Style
import HandS.RaiseFrom
import HandS.HotCalls
import HandS.SuiteRaise
import HandS.WordsExc
import HandS.ExcCtx
import PySem.Challenge.RW_paritypool_k20_repair_stripe
set_option Elab.async false
set_option linter.all false
set_option maxRecDepth 100000
set_option maxHeartbeats 2000000
namespace PySem
open Sem (wp)
namespace ZS

abbrev ZOb (h : Heap) (z TI TO : Addr) (f0 f1 : Value) : Prop :=
  h.get? z = some { cls := .type "zip", dict := none, data := .fields #[f0, f1, .bool false, .ref TI, .ref TO], slots := #[] }
abbrev refs1 (ps : List (Addr × Addr × Bool)) : List Value := ps.map fun p => .ref p.1
abbrev ZTup (h : Heap) (T : Addr) (xs : List Value) : Prop := h.get? T = some { cls := .type "tuple", data := .seq xs.toArray }
structure ZApart (z TI TO : Addr) (ps : List (Addr × Addr × Bool)) : Prop where
  TIz : TI ≠ z
  TOz : TO ≠ z
  TITO : TI ≠ TO
  it : ∀ p ∈ ps, p.1 ≠ z ∧ p.1 ≠ TI ∧ p.1 ≠ TO
  ls : ∀ p ∈ ps, p.2.1 ≠ z ∧ p.2.1 ≠ TO ∧ ∀ q ∈ ps, p.2.1 ≠ q.1
  nd : (ps.map (·.1)).Nodup
abbrev F0 (f : Value) : Prop := f = .none ∨ ∃ (a : Int) (t : Tok), f = .int a t
abbrev Keep (z TO : Addr) (ps : List (Addr × Addr × Bool)) (h h' : Heap) : Prop := ∀ c o, c ≠ z → c ≠ TO → (∀ p ∈ ps, c ≠ p.1) → h.get? c = some o → h'.get? c = some o

def clsI (k : Bool) : String := if k then "tuple_iterator" else "list_iterator"
def clsS (k : Bool) : String := if k then "tuple" else "list"
/-- an iterator over the list or tuple l, at its i-th item -/
def It1 (h : Heap) (it : Addr) (l : Addr × Bool) (i : Nat) : Prop := ∃ o, h.get? it = some o ∧ o.cls = .type (clsI l.2) ∧ o.data = .fields #[.ref l.1, .int i 0]
def Sq1 (h : Heap) (l : Addr × Bool) (items : Array Value) : Prop := ∃ o, h.get? l.1 = some o ∧ o.cls = .type (clsS l.2) ∧ ∃ n, o.data = .seq items n
theorem It1.extBut {h h' : Heap} {a b : Addr} {l : Addr × Bool} {i : Nat} (x : It1 h a l i) (hs : Heap.ExtBut b h h') (hab : a ≠ b) : It1 h' a l i := let ⟨o, ho, r⟩ := x; ⟨o, hs a o hab ho, r⟩
theorem It1.at {h h' : Heap} {a : Addr} {l : Addr × Bool} {i : Nat} (x : It1 h a l i) (hs : ∀ o, h.get? a = some o → h'.get? a = some o) : It1 h' a l i := let ⟨o, ho, r⟩ := x; ⟨o, hs o ho, r⟩
theorem Sq1.extBut {h h' : Heap} {b : Addr} {l : Addr × Bool} {xs : Array Value} (x : Sq1 h l xs) (hs : Heap.ExtBut b h h') (hab : l.1 ≠ b) : Sq1 h' l xs := let ⟨o, ho, r⟩ := x; ⟨o, hs l.1 o hab ho, r⟩
theorem nd_mid {ps1 ps2 : List (Addr × Addr × Bool)} {p : Addr × Addr × Bool} (h : ((ps1 ++ p :: ps2).map (·.1)).Nodup) : (∀ q ∈ ps1, q.1 ≠ p.1) ∧ (∀ q ∈ ps2, q.1 ≠ p.1) := by
  rw [List.map_append, List.map_cons, List.nodup_append] at h
  obtain ⟨_, h2, h3⟩ := h
  rw [List.nodup_cons] at h2
  exact ⟨fun q hq e => h3 q.1 (List.mem_map_of_mem hq) p.1 (by simp) e, fun q hq e => h2.1 (by rw [← e]; exact List.mem_map_of_mem hq)⟩

section
variable {prog : Program} {w : World} {A : Around} {E : Value → Shared → Prop} {s : Shared}

theorem nextOf_item {it : Addr} {l : Addr × Bool} {i : Nat} {items : Array Value} {x : Value} {Q : Value → Shared → Prop} (hit : It1 s.heap it l i)
    (hl : Sq1 s.heap l items) (hx : items[i]? = some x) (hQ : ∀ h', It1 h' it l (i + 1) → Heap.SameBut it s.heap h' → Q x { s with heap := h' }) :
    wpAny (model prog w) A (Builtin.SmallTypes.nextOf (.ref it)) Q E s := by
  obtain ⟨l, k⟩ := l
  cases k with
  | false => exact wpAny_nextOf_list_item hit hl hx hQ
  | true => exact RZ.nextOf_tuple_item hit hl hx hQ
theorem nextOf_end {it : Addr} {l : Addr × Bool} {i : Nat} {items : Array Value} {Q : Value → Shared → Prop} (hh : A.handled = none) (hit : It1 s.heap it l i)
    (hl : Sq1 s.heap l items) (hx : items[i]? = none) (hE : ∀ h' e, Heap.ExtBut it s.heap h' → (∃ o, h'.get? e = some o ∧ o.cls = .type "StopIteration") → E (.ref e) { s with heap := h' }) :
    wpAny (model prog w) A (Builtin.SmallTypes.nextOf (.ref it)) Q E s := by
  obtain ⟨l, k⟩ := l
  cases k with
  | false => exact wpAny_nextOf_list_end hh hit hl hx hE
  | true => exact RZ.nextOf_tuple_end hh hit hl hx hE
theorem pyIter_sq {l : Addr × Bool} {items : Array Value} {Q : Value → Shared → Prop} (hl : Sq1 s.heap l items)
    (hQ : Q (.ref s.heap.objs.size) { s with heap := s.heap.push { cls := .type (clsI l.2), data := .fields #[.ref l.1, .int 0 0] } }) : wpAny (model prog w) A (pyIter (.ref l.1)) Q E s := by
  obtain ⟨l, k⟩ := l
  cases k with
  | false => exact wpAny_pyIter_list hl hQ
  | true => exact wpAny_pyIter_tuple hl hQ
theorem updTup {T : Addr} {xs : List Value} {k : Nat} {x : Value} {Q : Unit → Shared → Prop} (hT : ZTup s.heap T xs) (hz : xs.length ≤ sizeLine)
    (h : ∀ h', ZTup h' T (xs.set k x) → Heap.SameBut T s.heap h' → Q () { s with heap := h' }) :
    wpAny (model prog w) A (updateSeq T (·.setIfInBounds k x)) Q E s := by
  refine wpAny_updateSeq hT rfl (h _ ?_ (Heap.SameBut.update ..)) (by simpa using hz) (by simp; omega)
  rw [ZTup, Heap.get?_update_self _ hT rfl]
  simp [Obj.mapSeq]

theorem wpAny_loadIfAlive {M : Model} {a : Addr} {Q : Option Obj → Shared → Prop} (h : Q (s.heap.get? a) s) : wpAny M A (loadIfAlive a) Q E s := fun _ _ _ => h
/-- the check whether the tuple is free: it may mark the zip object -/
theorem freeCheck {z TI TO : Addr} {f0 f1 : Value} {Q : Bool → Shared → Prop} (hz : ZOb s.heap z TI TO f0 f1) (hf : F0 f0)
    (h1 : Q true s) (h2 : ∀ h' f1', ZOb h' z TI TO f0 f1' → Heap.SameBut z s.heap h' → Q false { s with heap := h' }) :
    wpAny (model prog w) A (Builtin.SmallTypes.ownedTupleIsFree (.ref z)) Q E s := by
  unfold Builtin.SmallTypes.ownedTupleIsFree
  refine wpAny_bind (wpAny_field hz rfl (x := f0) rfl ?_)
  rcases hf with rfl | ⟨a, t, rfl⟩
  · exact wpAny_pure h1
  · refine wpAny_bind (wpAny_loadIfAlive ?_)
    cases hg : s.heap.get? a.toNat with
    | none => exact wpAny_pure h1
    | some o =>
      show wpAny _ _ (field (.ref z) 1 >>= _) _ _ _
      refine wpAny_bind (wpAny_field hz rfl (x := f1) rfl ?_)
      dsimp only
      split
      · refine wpAny_bind (wpAny_setField_rec hz (by simp) fun h₁ hz₁ hs₁ => ?_)
        exact wpAny_pure (h2 h₁ _ hz₁ hs₁)
      · exact wpAny_pure (h2 s.heap f1 hz ⟨rfl, fun _ _ => rfl⟩)

/-- one turn of zip(*lists): each list has an item at i -/
theorem zipS_next_item {z TI TO : Addr} {ps : List (Addr × Addr × Bool)} {i : Nat} {val : Addr × Bool → Value} {f0 f1 : Value} {ts : List Value} {Q : Value → Shared → Prop} (D : ZApart z TI TO ps)
    (hz : ZOb s.heap z TI TO f0 f1) (hf : F0 f0) (hTI : ZTup s.heap TI (refs1 ps)) (hTO : ZTup s.heap TO ts) (hts : ts.length = ps.length) (hn : ps.length ≤ sizeLine) (hne : ps ≠ [])
    (hit : ∀ p ∈ ps, It1 s.heap p.1 p.2 i) (hv : ∀ p ∈ ps, ∃ items, Sq1 s.heap p.2 items ∧ items[i]? = some (val p.2))
    (hQ : ∀ h' f0' f1', ZOb h' z TI TO f0' f1' → F0 f0' → (∃ ts', ZTup h' TO ts' ∧ ts'.length = ps.length) → (∀ p ∈ ps, It1 h' p.1 p.2 (i + 1)) → ZTup h' s.heap.objs.size (ps.map fun p => val p.2) →
      Keep z TO ps s.heap h' → Q (.ref s.heap.objs.size) { s with heap := h' }) :
    wpAny (model prog w) A (Builtin.«zip.__next__» ⟨[.ref z], []⟩) (fun fin s' => ∃ v, fin = .done (.ret v) ∧ Q v s') E s := by
  show wpAny _ _ (field (.ref z) 2 >>= _) _ _ _
  refine wpAny_bind (wpAny_field hz rfl (x := .bool false) rfl ?_)
  show wpAny _ _ (field (.ref z) 3 >>= _) _ _ _
  refine wpAny_bind (wpAny_field hz rfl (x := .ref TI) rfl ?_)
  refine wpAny_bind (wpAny_seqItems hTI rfl ?_)
  have hem : (refs1 ps).toArray.isEmpty = false := by cases ps with | nil => exact absurd rfl hne | cons _ _ => rfl
  simp only [hem]
  have hzlt : z < s.heap.objs.size := Heap.lt_size hz
  have hTOlt : TO < s.heap.objs.size := Heap.lt_size hTO
  show wpAny _ _ (Builtin.SmallTypes.ownedTupleIsFree (.ref z) >>= _) _ _ _
  refine wpAny_bind (freeCheck hz hf ?_ fun hA f1A hzA hsA => ?_)
  · simp only [if_true]
    refine wpAny_bind (wpAny_rule ?_)
    refine wpAny_bind (wpAny_field hz rfl (x := .ref TO) rfl ?_)
    refine wpAny_bind (wpAny_setField_rec hz (by simp) fun h₁ hz₁ hs₁ => ?_)
    replace hz₁ : ZOb h₁ z TI TO .ellipsis f1 := hz₁
    refine wpAny_bind ?_
    refine wpAny_forIn_list _ (fun rest b s' => ∃ ps1 ps2, ps = ps1 ++ ps2 ∧ rest = (refs1 ps2).zipIdx ps1.length ∧ b = (none, ()) ∧ ∃ h', s' = { s with heap := h' } ∧ ZOb h' z TI TO .ellipsis f1 ∧
      (∃ ts', ZTup h' TO ((ps1.map fun p => val p.2) ++ ts') ∧ ts'.length = ps2.length) ∧ (∀ p ∈ ps1, It1 h' p.1 p.2 (i + 1)) ∧ (∀ p ∈ ps2, It1 h' p.1 p.2 i) ∧ h'.objs.size = s.heap.objs.size ∧ Keep z TO ps s.heap h') _ ?_ ?_ _ _ ?_
    · rintro ⟨u, k⟩ rest b s' ⟨ps1, ps2, e, er, rfl, h', rfl, hz', ⟨ts', hTO', hl'⟩, ha, hb, hsz, hk⟩
      cases ps2 with
      | nil => simp at er
      | cons p ps2 =>
        simp only [refs1, List.map_cons, List.zipIdx_cons, List.cons.injEq, Prod.mk.injEq] at er
        obtain ⟨⟨rfl, rfl⟩, rfl⟩ := er
        cases ts' with
        | nil => simp at hl'
        | cons y ts' =>
        have hmem : p ∈ ps := by rw [e]; simp
        obtain ⟨pz, pTI, pTO⟩ := D.it p hmem
        obtain ⟨lz, lTO, lit⟩ := D.ls p hmem
        obtain ⟨items, hli, hx⟩ := hv p hmem
        obtain ⟨nd1, nd2⟩ := nd_mid (by rw [← e]; exact D.nd)
        have hli' : Sq1 h' p.2 items := by obtain ⟨o, ho, r⟩ := hli; exact ⟨o, hk _ _ lz lTO (fun q hq => lit q hq) ho, r⟩
        refine wpAny_bind (wpAny_onRaise ?_)
        show wpAny _ _ (Builtin.SmallTypes.nextOf (.ref p.1) >>= _) _ _ _
        refine wpAny_bind (nextOf_item (s := { s with heap := h' }) (hb p (by simp)) hli' hx fun h₂ h1₂ hs₂ => wpAny_pure ?_)
        have hTO₂ : ZTup h₂ TO ((ps1.map fun p => val p.2) ++ y :: ts') := hs₂.extBut _ _ (Ne.symm pTO) hTO'
        refine wpAny_bind (wpAny_seqItems (s := { s with heap := h₂ }) hTO₂ rfl ?_)
        have hlen : ((ps1.map fun p => val p.2) ++ y :: ts').length ≤ sizeLine := by
          rw [e] at hn; simp at hn hl' ⊢; omega
        refine wpAny_bind (updTup (s := { s with heap := h₂ }) hTO₂ hlen fun h₃ hTO₃ hs₃ => ?_)
        refine wpAny_bind (wpAny_letGo (wpAny_pure ?_))
        refine ⟨ps1 ++ [p], ps2, by rw [e]; simp, by simp [refs1], rfl, h₃, rfl, hs₃.extBut _ _ (Ne.symm D.TOz) (hs₂.extBut _ _ (Ne.symm pz) hz'), ⟨ts', ?_, by simpa using hl'⟩, ?_, ?_, ?_, ?_⟩
        · have e3 : (((ps1.map fun p => val p.2) ++ y :: ts').set ps1.length (val p.2)) = ((ps1 ++ [p]).map fun p => val p.2) ++ ts' := by
            rw [List.set_append_right _ _ (by simp)]; simp
          rw [← e3]; exact hTO₃
        · intro q hq
          rcases List.mem_append.1 hq with hq | hq
          · have hqm : q ∈ ps := by rw [e]; simp [hq]
            exact ((ha q hq).extBut hs₂.extBut (nd1 q hq)).extBut hs₃.extBut (D.it q hqm).2.2
          · simp only [List.mem_singleton] at hq
            subst hq
            exact h1₂.extBut hs₃.extBut pTO
        · intro q hq
          have hqm : q ∈ ps := by rw [e]; simp [hq]
          exact ((hb q (by simp [hq])).extBut hs₂.extBut (nd2 q hq)).extBut hs₃.extBut (D.it q hqm).2.2
        · rw [hs₃.1, hs₂.1]; exact hsz
        · intro c o c1 c2 c3 e'
          exact hs₃.extBut _ _ c2 (hs₂.extBut _ _ (c3 p hmem) (hk c o c1 c2 c3 e'))
    · rintro b s' ⟨ps1, ps2, e, er, rfl, h', rfl, hz', ⟨ts', hTO', hl'⟩, ha, hb, hsz, hk⟩
      have e2 : ps2 = [] := by
        cases ps2 with
        | nil => rfl
        | cons p ps2 => simp [refs1] at er
      subst e2
      have e3 : ts' = [] := by simpa using hl'
      subst e3
      simp only [List.append_nil] at e hTO'
      subst e
      refine wpAny_bind (wpAny_seqItems (s := { s with heap := h' }) hTO' rfl ?_)
      refine wpAny_bind (wpAny_newTuple (s := { s with heap := h' }) ?_ (by simpa using hn))
      show wpAny _ _ (Builtin.SmallTypes.ownedTupleHandOut (.ref z) (.ref h'.objs.size) >>= _) _ _ _
      refine wpAny_bind ?_
      unfold Builtin.SmallTypes.ownedTupleHandOut
      have hz₆ : ZOb (h'.push { cls := .type "tuple", data := .seq (ps.map fun p => val p.2).toArray.toList.toArray }) z TI TO .ellipsis f1 := Heap.get?_push_of_some _ hz'
      refine wpAny_bind (wpAny_setField_rec hz₆ (by simp) fun h₇ hz₇ hs₇ => ?_)
      replace hz₇ : ZOb h₇ z TI TO (rawInt h'.objs.size) f1 := hz₇
      refine wpAny_setField_rec hz₇ (by simp) fun h₈ hz₈ hs₈ => ?_
      replace hz₈ : ZOb h₈ z TI TO (rawInt h'.objs.size) (.bool false) := hz₈
      have hzl' : z < h'.objs.size := by rw [hsz]; exact hzlt
      have up : ∀ c o, c ≠ z → h'.get? c = some o → h₈.get? c = some o := fun c o c1 e => hs₈.extBut _ _ c1 (hs₇.extBut _ _ c1 (Heap.get?_push_of_some _ e))
      have hT₈ : ZTup h₈ h'.objs.size (ps.map fun p => val p.2) := by
        have z0 := hs₈.extBut _ _ (Nat.ne_of_gt hzl') (hs₇.extBut _ _ (Nat.ne_of_gt hzl') (Heap.get?_push_size h' rfl))
        simpa using z0
      refine wpAny_pure ⟨_, rfl, ?_⟩
      show Q (.ref h'.objs.size) _
      rw [hsz] at hT₈ ⊢
      exact hQ h₈ _ _ hz₈ (.inr ⟨_, _, rfl⟩) ⟨_, up _ _ D.TOz hTO', by simp⟩ (fun p hp => (ha p hp).at fun o e => up _ o (D.it p hp).1 e) hT₈ fun c o c1 c2 c3 e => up c o c1 (hk c o c1 c2 c3 e)
    · refine ⟨[], ps, rfl, rfl, rfl, h₁, rfl, hz₁, ⟨ts, hs₁.extBut _ _ D.TOz hTO, hts⟩, by simp, fun p hp => (hit p hp).extBut hs₁.extBut (D.it p hp).1, hs₁.1, fun c o c1 _ _ e => hs₁.extBut _ _ c1 e⟩
  · simp only [Bool.false_eq_true, if_false]
    refine wpAny_bind ?_
    rw [← Array.forIn_toList]
    refine wpAny_forIn_list _ (fun rest b s' => ∃ ps1 ps2, ps = ps1 ++ ps2 ∧ rest = (refs1 ps2) ∧ b = (none, (ps1.map fun p => val p.2).toArray) ∧ ∃ h', s' = { s with heap := h' } ∧ ZOb h' z TI TO f0 f1A ∧ ZTup h' TO ts ∧
      (∀ p ∈ ps1, It1 h' p.1 p.2 (i + 1)) ∧ (∀ p ∈ ps2, It1 h' p.1 p.2 i) ∧ h'.objs.size = s.heap.objs.size ∧ Keep z TO ps s.heap h') _ ?_ ?_ _ _ ?_
    · rintro u rest b s' ⟨ps1, ps2, e, er, rfl, h', rfl, hz', hTO', ha, hb, hsz, hk⟩
      cases ps2 with
      | nil => simp at er
      | cons p ps2 =>
        simp only [refs1, List.map_cons, List.cons.injEq] at er
        obtain ⟨rfl, rfl⟩ := er
        have hmem : p ∈ ps := by rw [e]; simp
        obtain ⟨pz, pTI, pTO⟩ := D.it p hmem
        obtain ⟨lz, lTO, lit⟩ := D.ls p hmem
        obtain ⟨items, hli, hx⟩ := hv p hmem
        obtain ⟨nd1, nd2⟩ := nd_mid (by rw [← e]; exact D.nd)
        have hli' : Sq1 h' p.2 items := by obtain ⟨o, ho, r⟩ := hli; exact ⟨o, hk _ _ lz lTO (fun q hq => lit q hq) ho, r⟩
        refine wpAny_bind (wpAny_holding ?_)
        show wpAny _ _ (Builtin.SmallTypes.nextOf (.ref p.1) >>= _) _ _ _
        refine wpAny_bind (nextOf_item (s := { s with heap := h' }) (hb p (by simp)) hli' hx fun h₂ h1₂ hs₂ => wpAny_pure ?_)
        refine wpAny_pure ?_
        refine ⟨ps1 ++ [p], ps2, by rw [e]; simp, rfl, by simp, h₂, rfl, hs₂.extBut _ _ (Ne.symm pz) hz', hs₂.extBut _ _ (Ne.symm pTO) hTO', ?_, ?_, ?_, ?_⟩
        · intro q hq
          rcases List.mem_append.1 hq with hq | hq
          · exact (ha q hq).extBut hs₂.extBut (nd1 q hq)
          · simp only [List.mem_singleton] at hq
            subst hq
            exact h1₂
        · intro q hq
          exact (hb q (by simp [hq])).extBut hs₂.extBut (nd2 q hq)
        · rw [hs₂.1]; exact hsz
        · intro c o c1 c2 c3 e'
          exact hs₂.extBut _ _ (c3 p hmem) (hk c o c1 c2 c3 e')
    · rintro b s' ⟨ps1, ps2, e, er, rfl, h', rfl, hz', hTO', ha, hb, hsz, hk⟩
      have e2 : ps2 = [] := by
        cases ps2 with
        | nil => rfl
        | cons p ps2 => simp [refs1] at er
      subst e2
      simp only [List.append_nil] at e
      subst e
      refine wpAny_bind (wpAny_newTuple (s := { s with heap := h' }) ?_ (by simpa using hn))
      refine wpAny_pure ⟨_, rfl, ?_⟩
      show Q (.ref h'.objs.size) _
      have up : ∀ c o, h'.get? c = some o → (h'.push { cls := .type "tuple", data := .seq (ps.map fun p => val p.2).toArray.toList.toArray }).get? c = some o := fun c o e => Heap.get?_push_of_some _ e
      have hT : ZTup (h'.push { cls := .type "tuple", data := .seq (ps.map fun p => val p.2).toArray.toList.toArray }) h'.objs.size (ps.map fun p => val p.2) := by
        have z0 : (h'.push { cls := .type "tuple", data := .seq (ps.map fun p => val p.2).toArray.toList.toArray }).get? h'.objs.size = _ := Heap.get?_push_size h' rfl
        simpa using z0
      rw [hsz] at hT
      rw [hsz]
      exact hQ _ _ _ (up _ _ hz') hf ⟨_, up _ _ hTO', hts⟩ (fun p hp => (ha p hp).at fun o e => up _ o e) hT fun c o c1 c2 c3 e => up c o (hk c o c1 c2 c3 e)
    · refine ⟨[], ps, rfl, rfl, rfl, hA, rfl, hzA, hsA.extBut _ _ D.TOz hTO, by simp, fun p hp => (hit p hp).extBut hsA.extBut (D.it p hp).1, hsA.1, fun c o c1 _ _ e => hsA.extBut _ _ c1 e⟩

/-- the last turn of zip(*lists): the first list has ended -/
theorem zipS_next_end {z TI TO : Addr} {p : Addr × Addr × Bool} {ps : List (Addr × Addr × Bool)} {i : Nat} {f0 f1 : Value} {ts : List Value} {items : Array Value} {Q : Fin → Shared → Prop} (hh : A.handled = none) (D : ZApart z TI TO (p :: ps))
    (hz : ZOb s.heap z TI TO f0 f1) (hf : F0 f0) (hTI : ZTup s.heap TI (refs1 (p :: ps))) (hTO : ZTup s.heap TO ts)
    (hit : It1 s.heap p.1 p.2 i) (hl : Sq1 s.heap p.2 items) (hx : items[i]? = none)
    (hE : ∀ h' e, Keep z TO (p :: ps) s.heap h' → (∃ o, h'.get? e = some o ∧ o.cls = .type "StopIteration") → E (.ref e) { s with heap := h' }) :
    wpAny (model prog w) A (Builtin.«zip.__next__» ⟨[.ref z], []⟩) Q E s := by
  show wpAny _ _ (field (.ref z) 2 >>= _) _ _ _
  refine wpAny_bind (wpAny_field hz rfl (x := .bool false) rfl ?_)
  show wpAny _ _ (field (.ref z) 3 >>= _) _ _ _
  refine wpAny_bind (wpAny_field hz rfl (x := .ref TI) rfl ?_)
  refine wpAny_bind (wpAny_seqItems hTI rfl ?_)
  have hem : (refs1 (p :: ps)).toArray.isEmpty = false := rfl
  simp only [hem]
  obtain ⟨pz, pTI, pTO⟩ := D.it p (by simp)
  obtain ⟨lz, lTO, lit⟩ := D.ls p (by simp)
  show wpAny _ _ (Builtin.SmallTypes.ownedTupleIsFree (.ref z) >>= _) _ _ _
  refine wpAny_bind (freeCheck hz hf ?_ fun hA f1A hzA hsA => ?_)
  · simp only [if_true]
    refine wpAny_bind (wpAny_rule ?_)
    refine wpAny_bind (wpAny_field hz rfl (x := .ref TO) rfl ?_)
    refine wpAny_bind (wpAny_setField_rec hz (by simp) fun h₁ hz₁ hs₁ => ?_)
    replace hz₁ : ZOb h₁ z TI TO .ellipsis f1 := hz₁
    refine wpAny_bind ?_
    simp only [refs1, List.map_cons, List.zipIdx_cons, List.forIn_cons]
    refine wpAny_bind (wpAny_bind (wpAny_onRaise ?_))
    show wpAny _ _ (Builtin.SmallTypes.nextOf (.ref p.1) >>= _) _ _ _
    refine wpAny_bind (nextOf_end (s := { s with heap := h₁ }) hh (hit.extBut hs₁.extBut pz) (hl.extBut hs₁.extBut lz) hx fun h₂ e hs₂ he => ?_)
    obtain ⟨oe, hoe, hce⟩ := he
    have hz₂ : ZOb h₂ z TI TO .ellipsis f1 := hs₂ _ _ (Ne.symm pz) hz₁
    have hez : e ≠ z := fun x => by subst x; rw [hz₂] at hoe; cases hoe; simp at hce
    refine wpAny_setField_rec (s := { s with heap := h₂ }) hz₂ (by simp) fun h₃ _ hs₃ => hE h₃ e (fun c o c1 c2 c3 x => hs₃.extBut _ _ c1 (hs₂ _ _ (c3 p (by simp)) (hs₁.extBut _ _ c1 x))) ⟨oe, hs₃.extBut _ _ hez hoe, hce⟩
  · simp only [Bool.false_eq_true, if_false]
    refine wpAny_bind ?_
    rw [← Array.forIn_toList]
    simp only [refs1, List.map_cons, List.forIn_cons]
    refine wpAny_bind (wpAny_bind (wpAny_holding ?_))
    show wpAny _ _ (Builtin.SmallTypes.nextOf (.ref p.1) >>= _) _ _ _
    refine wpAny_bind (nextOf_end (s := { s with heap := hA }) hh (hit.extBut hsA.extBut pz) (hl.extBut hsA.extBut lz) hx fun h₂ e hs₂ he => ?_)
    exact hE h₂ e (fun c o c1 c2 c3 x => hs₂ _ _ (c3 p (by simp)) (hsA.extBut _ _ c1 x)) he

theorem pyNext_zipS_item {z TI TO : Addr} {ps : List (Addr × Addr × Bool)} {i : Nat} {val : Addr × Bool → Value} {f0 f1 : Value} {ts : List Value} {Q : Option Value → Shared → Prop} (D : ZApart z TI TO ps)
    (hz : ZOb s.heap z TI TO f0 f1) (hf : F0 f0) (hTI : ZTup s.heap TI (refs1 ps)) (hTO : ZTup s.heap TO ts) (hts : ts.length = ps.length) (hn : ps.length ≤ sizeLine) (hne : ps ≠ [])
    (hit : ∀ p ∈ ps, It1 s.heap p.1 p.2 i) (hv : ∀ p ∈ ps, ∃ items, Sq1 s.heap p.2 items ∧ items[i]? = some (val p.2))
    (hQ : ∀ h' f0' f1', ZOb h' z TI TO f0' f1' → F0 f0' → (∃ ts', ZTup h' TO ts' ∧ ts'.length = ps.length) → (∀ p ∈ ps, It1 h' p.1 p.2 (i + 1)) → ZTup h' s.heap.objs.size (ps.map fun p => val p.2) →
      Keep z TO ps s.heap h' → Q (some (.ref s.heap.objs.size)) { s with heap := h' }) :
    wpAny (model prog w) A (pyNext (.ref z)) Q E s := by
  have hT : s.TypeIs (.ref z) "zip" := ⟨_, hz, rfl⟩
  unfold pyNext
  exact wpAny_bind (wpAny_attempt (wpAny_callSpecial?_slot (name := Str.ofString "__next__") hT F.slot_zip_next
    (wpAny_call_entry F.slot_zip_next hT F.entry_zip_next
      (zipS_next_item D hz hf hTI hTO hts hn hne hit hv fun h' a b a1 a2 a3 a4 a5 a6 => wpAny_pure (hQ h' a b a1 a2 a3 a4 a5 a6)) (F.args_zip_next_1 _))))

theorem pyNext_zipS_end {z TI TO : Addr} {p : Addr × Addr × Bool} {ps : List (Addr × Addr × Bool)} {i : Nat} {f0 f1 : Value} {ts : List Value} {items : Array Value} {Q : Option Value → Shared → Prop} (hh : A.handled = none) (D : ZApart z TI TO (p :: ps))
    (hz : ZOb s.heap z TI TO f0 f1) (hf : F0 f0) (hTI : ZTup s.heap TI (refs1 (p :: ps))) (hTO : ZTup s.heap TO ts)
    (hit : It1 s.heap p.1 p.2 i) (hl : Sq1 s.heap p.2 items) (hx : items[i]? = none)
    (hQ : ∀ h', Keep z TO (p :: ps) s.heap h' → Q none { s with heap := h' }) : wpAny (model prog w) A (pyNext (.ref z)) Q E s := by
  have hT : s.TypeIs (.ref z) "zip" := ⟨_, hz, rfl⟩
  unfold pyNext
  refine wpAny_bind (wpAny_attempt (wpAny_callSpecial?_slot (name := Str.ofString "__next__") hT F.slot_zip_next
    (wpAny_call_entry F.slot_zip_next hT F.entry_zip_next (zipS_next_end hh D hz hf hTI hTO hit hl hx fun h' e hk he => ?_) (F.args_zip_next_1 _))))
  obtain ⟨o, ho, hc⟩ := he
  refine wpAny_bind (wpAny_isInstance (T := "StopIteration") (b := true) ⟨o, ho, hc⟩ isSubtype_stop ?_)
  exact wpAny_pure (hQ _ hk)

theorem pyIter_zipS {z TI TO : Addr} {f0 f1 : Value} {Q : Value → Shared → Prop} (hz : ZOb s.heap z TI TO f0 f1) (h : Q (.ref z) s) : wpAny (model prog w) A (pyIter (.ref z)) Q E s := by
  have hT : s.TypeIs (.ref z) "zip" := ⟨_, hz, rfl⟩
  refine wpAny_pyIter_slot hT F.slot_zip_iter (wpAny_call_entry F.slot_zip_iter hT F.entry_zip_iter ?_ (F.args_zip_iter_1 _))
  show wpAny _ _ (ret (.ref z)) _ _ s
  exact wpAny_pure ⟨_, rfl, "zip", _, hT, F.slot_zip_next.lookup, h⟩

/-- the iterators laid one behind the other -/
def laid (h : Heap) : List (Addr × Bool) → Heap
  | [] => h
  | l :: ls => laid (h.push { cls := .type (clsI l.2), data := .fields #[.ref l.1, .int 0 0] }) ls
abbrev refsL (ls : List (Addr × Bool)) : List Value := ls.map fun l => Value.ref l.1
def pairs (n : Nat) : List (Addr × Bool) → List (Addr × Addr × Bool)
  | [] => []
  | l :: ls => (n, l) :: pairs (n + 1) ls

theorem typeCall_zip (xs : List Value) : checkTypeCall "zip" ⟨xs, []⟩ = pure () := by kernel_rfl
theorem newCall_zip0 : checkBuiltinCall "zip.__new__" ⟨[.type "zip"], []⟩ = pure () := by kernel_rfl
theorem newCall_zip1 (a : Value) : checkBuiltinCall "zip.__new__" ⟨[.type "zip", a], []⟩ = pure () := by kernel_rfl
theorem newCall_zip2 (a b : Value) : checkBuiltinCall "zip.__new__" ⟨[.type "zip", a, b], []⟩ = pure () := by kernel_rfl
theorem newCall_zip3 (a b c : Value) : checkBuiltinCall "zip.__new__" ⟨[.type "zip", a, b, c], []⟩ = pure () := by kernel_rfl
theorem newCall_zip4 (a b c d : Value) : checkBuiltinCall "zip.__new__" ⟨[.type "zip", a, b, c, d], []⟩ = pure () := by kernel_rfl
theorem newCall_zip5 (a b c d e : Value) : checkBuiltinCall "zip.__new__" ⟨[.type "zip", a, b, c, d, e], []⟩ = pure () := by kernel_rfl
theorem newCall_zip6 (a b c d e f : Value) : checkBuiltinCall "zip.__new__" ⟨[.type "zip", a, b, c, d, e, f], []⟩ = pure () := by kernel_rfl
theorem newCall_zip7 (a b c d e f g : Value) : checkBuiltinCall "zip.__new__" ⟨[.type "zip", a, b, c, d, e, f, g], []⟩ = pure () := by kernel_rfl
theorem newCall_zip8 (a b c d e f g h : Value) : checkBuiltinCall "zip.__new__" ⟨[.type "zip", a, b, c, d, e, f, g, h], []⟩ = pure () := by kernel_rfl
theorem newCall_zip : ∀ xs : List Value, xs.length ≤ 8 → checkBuiltinCall "zip.__new__" ⟨.type "zip" :: xs, []⟩ = pure ()
  | [], _ => newCall_zip0 
  | [a], _ => newCall_zip1 a
  | [a, b], _ => newCall_zip2 a b
  | [a, b, c], _ => newCall_zip3 a b c
  | [a, b, c, d], _ => newCall_zip4 a b c d
  | [a, b, c, d, e], _ => newCall_zip5 a b c d e
  | [a, b, c, d, e, f], _ => newCall_zip6 a b c d e f
  | [a, b, c, d, e, f, g], _ => newCall_zip7 a b c d e f g
  | [a, b, c, d, e, f, g, h], _ => newCall_zip8 a b c d e f g h
  | _ :: _ :: _ :: _ :: _ :: _ :: _ :: _ :: _ :: r, h => absurd h (by simp only [List.length_cons]; omega)
theorem objInit_zip1 (o a : Value) : argsOk "object.__init__" ⟨[o, a], []⟩ := by
  unfold argsOk; rw [signature?_of (id := "object.__init__") (n := ['_', '_', 't', 'i', 'n', 'i', '_', '_']) (o := ['t', 'c', 'e', 'j', 'b', 'o']) (by kernel_rfl) F.owner_object]; kernel_rfl
theorem objInit_zip2 (o a b : Value) : argsOk "object.__init__" ⟨[o, a, b], []⟩ := by
  unfold argsOk; rw [signature?_of (id := "object.__init__") (n := ['_', '_', 't', 'i', 'n', 'i', '_', '_']) (o := ['t', 'c', 'e', 'j', 'b', 'o']) (by kernel_rfl) F.owner_object]; kernel_rfl
theorem objInit_zip3 (o a b c : Value) : argsOk "object.__init__" ⟨[o, a, b, c], []⟩ := by
  unfold argsOk; rw [signature?_of (id := "object.__init__") (n := ['_', '_', 't', 'i', 'n', 'i', '_', '_']) (o := ['t', 'c', 'e', 'j', 'b', 'o']) (by kernel_rfl) F.owner_object]; kernel_rfl
theorem objInit_zip4 (o a b c d : Value) : argsOk "object.__init__" ⟨[o, a, b, c, d], []⟩ := by
  unfold argsOk; rw [signature?_of (id := "object.__init__") (n := ['_', '_', 't', 'i', 'n', 'i', '_', '_']) (o := ['t', 'c', 'e', 'j', 'b', 'o']) (by kernel_rfl) F.owner_object]; kernel_rfl
theorem objInit_zip5 (o a b c d e : Value) : argsOk "object.__init__" ⟨[o, a, b, c, d, e], []⟩ := by
  unfold argsOk; rw [signature?_of (id := "object.__init__") (n := ['_', '_', 't', 'i', 'n', 'i', '_', '_']) (o := ['t', 'c', 'e', 'j', 'b', 'o']) (by kernel_rfl) F.owner_object]; kernel_rfl
theorem objInit_zip6 (o a b c d e f : Value) : argsOk "object.__init__" ⟨[o, a, b, c, d, e, f], []⟩ := by
  unfold argsOk; rw [signature?_of (id := "object.__init__") (n := ['_', '_', 't', 'i', 'n', 'i', '_', '_']) (o := ['t', 'c', 'e', 'j', 'b', 'o']) (by kernel_rfl) F.owner_object]; kernel_rfl
theorem objInit_zip7 (o a b c d e f g : Value) : argsOk "object.__init__" ⟨[o, a, b, c, d, e, f, g], []⟩ := by
  unfold argsOk; rw [signature?_of (id := "object.__init__") (n := ['_', '_', 't', 'i', 'n', 'i', '_', '_']) (o := ['t', 'c', 'e', 'j', 'b', 'o']) (by kernel_rfl) F.owner_object]; kernel_rfl
theorem objInit_zip8 (o a b c d e f g h : Value) : argsOk "object.__init__" ⟨[o, a, b, c, d, e, f, g, h], []⟩ := by
  unfold argsOk; rw [signature?_of (id := "object.__init__") (n := ['_', '_', 't', 'i', 'n', 'i', '_', '_']) (o := ['t', 'c', 'e', 'j', 'b', 'o']) (by kernel_rfl) F.owner_object]; kernel_rfl
theorem objInit_zip (o : Value) : ∀ xs : List Value, xs ≠ [] → xs.length ≤ 8 → argsOk "object.__init__" ⟨o :: xs, []⟩
  | [], h, _ => absurd rfl h
  | [a], _, _ => objInit_zip1 o a
  | [a, b], _, _ => objInit_zip2 o a b
  | [a, b, c], _, _ => objInit_zip3 o a b c
  | [a, b, c, d], _, _ => objInit_zip4 o a b c d
  | [a, b, c, d, e], _, _ => objInit_zip5 o a b c d e
  | [a, b, c, d, e, f], _, _ => objInit_zip6 o a b c d e f
  | [a, b, c, d, e, f, g], _, _ => objInit_zip7 o a b c d e f g
  | [a, b, c, d, e, f, g, h], _, _ => objInit_zip8 o a b c d e f g h
  | _ :: _ :: _ :: _ :: _ :: _ :: _ :: _ :: _ :: r, _, h => absurd h (by simp only [List.length_cons]; omega)

theorem laid_append (h : Heap) : ∀ (l1 l2 : List (Addr × Bool)), laid h (l1 ++ l2) = laid (laid h l1) l2
  | [], _ => rfl
  | l :: l1, l2 => laid_append _ l1 l2
theorem laid_size : ∀ (ls : List (Addr × Bool)) (h : Heap), (laid h ls).objs.size = h.objs.size + ls.length
  | [], _ => rfl
  | l :: ls, h => by rw [laid, laid_size ls, Heap.size_push, List.length_cons]; omega
theorem laid_keep : ∀ (ls : List (Addr × Bool)) (h : Heap) (c : Addr) (o : Obj), h.get? c = some o → (laid h ls).get? c = some o
  | [], _, _, _, e => e
  | _ :: ls, _, c, o, e => laid_keep ls _ c o (Heap.get?_push_of_some _ e)
theorem pairs_append (n : Nat) : ∀ (l1 l2 : List (Addr × Bool)), pairs n (l1 ++ l2) = pairs n l1 ++ pairs (n + l1.length) l2
  | [], _ => by simp [pairs]
  | l :: l1, l2 => by
    simp only [List.cons_append, pairs, pairs_append (n + 1) l1 l2, List.length_cons]
    rw [show n + 1 + l1.length = n + (l1.length + 1) by omega]
theorem pairs_snd : ∀ (ls : List (Addr × Bool)) (n : Nat), (pairs n ls).map (·.2) = ls
  | [], _ => rfl
  | l :: ls, n => by simp [pairs, pairs_snd ls]
theorem pairs_len (ls : List (Addr × Bool)) (n : Nat) : (pairs n ls).length = ls.length := by rw [← List.length_map (f := (·.2)), pairs_snd]
theorem pairs_ge : ∀ (ls : List (Addr × Bool)) (n : Nat) (p : Addr × Addr × Bool), p ∈ pairs n ls → n ≤ p.1 ∧ p.1 < n + ls.length ∧ p.2 ∈ ls
  | [], _, _, h => by simp [pairs] at h
  | l :: ls, n, p, h => by
    simp only [pairs, List.mem_cons] at h
    rcases h with rfl | h
    · simp
    · obtain ⟨a, b, c⟩ := pairs_ge ls _ p h
      simp only [List.length_cons, List.mem_cons]
      exact ⟨Nat.le_trans (Nat.le_succ n) a, Nat.lt_of_lt_of_eq (m := n + 1 + ls.length) b (by omega), .inr c⟩
theorem pairs_nd : ∀ (ls : List (Addr × Bool)) (n : Nat), ((pairs n ls).map (·.1)).Nodup
  | [], _ => by simp [pairs]
  | l :: ls, n => by
    simp only [pairs, List.map_cons, List.nodup_cons, List.mem_map]
    refine ⟨?_, pairs_nd ls _⟩
    rintro ⟨p, hp, e⟩
    have q := (pairs_ge ls _ p hp).1
    rw [e] at q
    exact absurd q (Nat.not_succ_le_self n)
theorem laid_iter : ∀ (ls : List (Addr × Bool)) (h : Heap) (p : Addr × Addr × Bool), p ∈ pairs h.objs.size ls → It1 (laid h ls) p.1 p.2 0
  | [], _, _, h => by simp [pairs] at h
  | l :: ls, h, p, hp => by
    simp only [pairs, List.mem_cons] at hp
    rcases hp with rfl | hp
    · exact ⟨_, laid_keep ls _ _ _ (Heap.get?_push_size _ rfl), rfl, rfl⟩
    · refine laid_iter ls _ p ?_
      rw [Heap.size_push]; exact hp

theorem wpAny_iterAll {ls : List (Addr × Bool)} {Q : List Value → Shared → Prop} (hl : ∀ l ∈ ls, ∃ items, Sq1 s.heap l items)
    (hQ : Q (refs1 (pairs s.heap.objs.size ls)) { s with heap := laid s.heap ls }) :
    wpAny (model prog w) A (Builtin.SmallTypes.iterAll ((refsL ls))) Q E s := by
  unfold Builtin.SmallTypes.iterAll
  refine wpAny_bind ?_
  refine wpAny_forIn_list _ (fun rest b s' => ∃ l1 l2, ls = l1 ++ l2 ∧ rest = (refsL l2) ∧ b = (refs1 (pairs s.heap.objs.size l1)).toArray ∧ s' = { s with heap := laid s.heap l1 }) _ ?_ ?_ _ _ ⟨[], ls, rfl, rfl, rfl, rfl⟩
  · rintro u rest b s' ⟨l1, l2, e, er, rfl, rfl⟩
    cases l2 with
    | nil => simp at er
    | cons l l2 =>
      simp only [List.map_cons, List.cons.injEq] at er
      obtain ⟨rfl, rfl⟩ := er
      obtain ⟨items, o, ho, r⟩ := hl l (by rw [e]; simp)
      refine wpAny_bind (wpAny_holding (pyIter_sq (l := l) (s := { s with heap := laid s.heap l1 }) (items := items) ⟨o, laid_keep l1 _ _ _ ho, r⟩ (wpAny_pure ?_)))
      refine ⟨l1 ++ [l], l2, by rw [e]; simp, rfl, ?_, ?_⟩
      · rw [pairs_append, laid_size]; simp [pairs, refs1]
      · rw [laid_append]; rfl
  · rintro b s' ⟨l1, l2, e, er, rfl, rfl⟩
    have e2 : l2 = [] := by simpa using er.symm
    subst e2
    simp only [List.append_nil] at e
    subst e
    exact wpAny_pure hQ

abbrev newH1 (h : Heap) (ls : List (Addr × Bool)) : Heap := (laid h ls).push { cls := .type "tuple", data := .seq (refs1 (pairs h.objs.size ls)).toArray }
abbrev newH2 (h : Heap) (ls : List (Addr × Bool)) : Heap := (newH1 h ls).push { cls := .type "tuple", data := .seq ((refs1 (pairs h.objs.size ls)).map fun _ => Value.none).toArray }
abbrev newH3 (h : Heap) (ls : List (Addr × Bool)) : Heap := (newH2 h ls).push { cls := .type "zip", data := .fields #[.none, .bool false, .bool false, .ref (laid h ls).objs.size, .ref (newH1 h ls).objs.size] }

theorem meets_zipS_new (ls : List (Addr × Bool)) (hn : ls.length ≤ sizeLine) :
    Meets (Builtin.«zip.__new__» ⟨.type "zip" :: (refsL ls), []⟩) (fun _ R s => (∀ l ∈ ls, ∃ items, Sq1 s.heap l items) ∧
      R (.ok (.ret (.ref (newH2 s.heap ls).objs.size))) { s with heap := newH3 s.heap ls }) :=
  .of_wp fun prog w A R s h => by
    obtain ⟨hp, g, d, tk, os⟩ := s; obtain ⟨hl, h⟩ := h
    have hsub := sub_zip
    have hn' : (refs1 (pairs hp.objs.size ls)).length ≤ sizeLine := by rw [List.length_map, pairs_len]; exact hn
    have hI : ∀ {A' : Around} {Q E}, Q (refs1 (pairs hp.objs.size ls)) ⟨laid hp ls, g, d, tk, os⟩ → wpAny (model prog w) A' (Builtin.SmallTypes.iterAll ((refsL ls))) Q E ⟨hp, g, d, tk, os⟩ := fun q => wpAny_iterAll hl q
    wp_walk using hI
    have z1 := @wpAny_newTuple (model prog w) A.in1 (fun e s' => R (Except.error e) s') ⟨laid hp ls, g, d, tk, os⟩ (refs1 (pairs hp.objs.size ls))
    refine z1 ?_ hn'
    refine wpAny_bind (wpAny_newTuple ?_ (by rw [List.length_map]; exact hn'))
    wp_walk using hI
    exact ⟨_, rfl, h⟩

theorem call_zipS {ls : List (Addr × Bool)} {Q : Value → Shared → Prop} (hne : ls ≠ []) (h8 : ls.length ≤ 8) (hl : ∀ l ∈ ls, ∃ items, Sq1 s.heap l items)
    (h : ∀ h', ZOb h' (s.heap.objs.size + ls.length + 2) (s.heap.objs.size + ls.length) (s.heap.objs.size + ls.length + 1) .none (.bool false) → ZTup h' (s.heap.objs.size + ls.length) (refs1 (pairs s.heap.objs.size ls)) →
      (∃ ts, ZTup h' (s.heap.objs.size + ls.length + 1) ts ∧ ts.length = ls.length) → (∀ p ∈ pairs s.heap.objs.size ls, It1 h' p.1 p.2 0) →
      (∀ c o, s.heap.get? c = some o → h'.get? c = some o) → Q (.ref (s.heap.objs.size + ls.length + 2)) { s with heap := h' }) :
    wpAny (model prog w) A (call (.type "zip") ((refsL ls))) Q E s := by
  have hne' : (refsL ls) ≠ [] := by cases ls with | nil => exact absurd rfl hne | cons _ _ => simp
  have h8' : ((refsL ls)).length ≤ 8 := by rw [List.length_map]; exact h8
  refine callType_new F.called_zip (by decide) (typeCall_zip _) (newCall_zip _ h8') (fun obj => objInit_zip obj _ hne' h8') F.entry_zip_new
    (meets_zipS_new ls (Nat.le_trans h8 (by decide))) ⟨hl, ?_⟩
  have z0 : (laid s.heap ls).objs.size = s.heap.objs.size + ls.length := laid_size ..
  have z1 : (newH1 s.heap ls).objs.size = s.heap.objs.size + ls.length + 1 := by rw [Heap.size_push, z0]
  have z2 : (newH2 s.heap ls).objs.size = s.heap.objs.size + ls.length + 2 := by rw [Heap.size_push, z1]
  have g3 : (newH3 s.heap ls).get? (newH2 s.heap ls).objs.size = some _ := Heap.get?_push_size _ rfl
  have g2 : (newH3 s.heap ls).get? (newH1 s.heap ls).objs.size = some _ := Heap.get?_push_of_some _ (Heap.get?_push_size _ rfl)
  have g1 : (newH3 s.heap ls).get? (laid s.heap ls).objs.size = some _ := Heap.get?_push_of_some _ (Heap.get?_push_of_some _ (Heap.get?_push_size _ rfl))
  have up : ∀ c o, (laid s.heap ls).get? c = some o → (newH3 s.heap ls).get? c = some o := fun c o e => Heap.get?_push_of_some _ (Heap.get?_push_of_some _ (Heap.get?_push_of_some _ e))
  show _ ∧ _
  rw [z0, z1, z2] at g3
  rw [z1] at g2
  rw [z0] at g1
  rw [z2]
  refine ⟨⟨_, g3, rfl⟩, h _ g3 g1 ⟨_, g2, ?_⟩ (fun p hp => (laid_iter ls _ p hp).at fun o e => up _ o e) fun c o e => up c o (laid_keep ls _ c o e)⟩
  simp [pairs_len]
end
end ZS
end PySem
namespace L2
open PySem PySem.Spec PyProof.Rows PySem.ZS

/-- a list or a tuple -/
def SqA (K : PySem.W.Frag) (H : Hp) (l : Addr × Bool) (xs : List V) : Prop := match l with
  | (a, true) => SqT K H a xs
  | (a, false) => SqL K H a xs
theorem Inv.sqA {X : Cx} {pins : List (Addr × Obj)} {σ : St} {H : Hp} {s : Shared} {l : Addr × Bool} {xs : List V} (I : Inv X pins σ H s) (h : SqA X.K H l xs) : ∃ its : List Value, Vals xs its ∧ Sq1 s.heap l its.toArray := by
  obtain ⟨a, k⟩ := l
  cases k with
  | false => obtain ⟨its, r, p, _⟩ := I.list h; exact ⟨its, r, p.isList⟩
  | true => obtain ⟨its, r, ⟨o, ho, hc, n, hd⟩, _⟩ := I.tuple h; exact ⟨its, r, ⟨o, ho, hc, n, hd⟩⟩
theorem Inv.sqA_inj {X : Cx} {pins : List (Addr × Obj)} {σ : St} {H : Hp} {s : Shared} {l : Addr × Bool} {xs ys : List V} (I : Inv X pins σ H s) (h : SqA X.K H l xs) (h' : SqA X.K H l ys) : xs = ys := by
  obtain ⟨a, k⟩ := l
  cases k with
  | false => exact I.list_inj h h'
  | true => exact I.tuple_inj h h'
theorem Sq1.lt {h : Heap} {l : Addr × Bool} {xs : Array Value} (x : Sq1 h l xs) : l.1 < h.objs.size := by obtain ⟨o, ho, _⟩ := x; exact Heap.lt_size ho
/-- the step ahead of the store -/
theorem letGo_zipS {A : Around} {E : Value → Shared → Prop} {s : Shared} {prog : Program} {w : World} {z TI TO T : Addr} {f0 f1 : Value} {Q : Unit → Shared → Prop} (tg : Expr) (hz : ZOb s.heap z TI TO f0 f1) (hf : F0 f0)
    (hQ : ∀ h' f0', ZOb h' z TI TO f0' f1 → F0 f0' → Heap.SameBut z s.heap h' → Q () { s with heap := h' }) : wpAny (model prog w) A (letOwnedTupleGo tg (.ref z) (.ref T)) Q E s := by
  have h0 : Q () s := hQ s.heap f0 hz hf ⟨rfl, fun _ _ => rfl⟩
  unfold letOwnedTupleGo
  cases tg <;> first
    | exact wpAny_pure h0
    | (refine wpAny_bind (wpAny_load hz ?_)
       show wpAny _ _ (if (["enumerate", "zip", "dict_itemiterator", "dict_reverseitemiterator", "odict_iterator", "itertools.zip_longest", "itertools.pairwise"].contains "zip" &&
          (#[f0, f1, .bool false, .ref TI, .ref TO] : Array Value)[0]? == some (rawInt T)) = true then _ else _) Q E s
       split
       · refine wpAny_bind (wpAny_rule ?_)
         show wpAny _ _ (setField (.ref z) 0 .none) Q E s
         exact wpAny_setField_rec hz (by simp) fun h' hz' hs' => hQ h' .none hz' (.inl rfl) hs'
       · exact wpAny_pure h0)

/-- what a turn of zip(*lists) hands out: the i-th items -/
def Cols (K : PySem.W.Frag) (H : Hp) (i : Nat) : List (Addr × Bool) → List V → Prop
  | [], [] => True
  | l :: ls, y :: ys => (∀ xs, SqA K H l xs → xs[i]? = some y) ∧ Cols K H i ls ys
  | _, _ => False
def Itn (K : PySem.W.Frag) (ls : List (Addr × Bool)) : It :=
  ⟨fun i H => ∀ l ∈ ls, ∃ (xs : List V) (x : V), SqA K H l xs ∧ xs[i]? = some x, fun i H v H' => ∃ T ys, v = .ref T ∧ H T = none ∧ H' = upd H T (.tup ys) ∧ Cols K H i ls ys,
    fun i H => ∃ l ls' xs, ls = l :: ls' ∧ SqA K H l xs ∧ xs.length ≤ i⟩
theorem cols_of {K : PySem.W.Frag} {H : Hp} {i : Nat} {val : Addr × Bool → Value} : ∀ (ls : List (Addr × Bool)), (∀ l ∈ ls, ∃ y, (∀ xs, SqA K H l xs → xs[i]? = some y) ∧ RelV y (val l)) → ∃ ys, Cols K H i ls ys ∧ Vals ys (ls.map val) ∧ ys.length = ls.length
  | [], _ => ⟨[], trivial, .nil, rfl⟩
  | l :: ls, h => by
    obtain ⟨y, hy, r⟩ := h l (by simp)
    obtain ⟨ys, c, rv, hl⟩ := cols_of ls fun l' hl => h l' (by simp [hl])
    exact ⟨y :: ys, ⟨hy, c⟩, .cons r rv, by simp [hl]⟩
def itemAt (h : Heap) (i : Nat) (l : Addr × Bool) : Value :=
  match h.get? l.1 with
  | some o => match o.data with
    | .seq a _ => a[i]?.getD .none
    | _ => .none
  | none => .none
theorem itemAt_of {h : Heap} {i : Nat} {l : Addr × Bool} {items : Array Value} {u : Value} (hl : Sq1 h l items) (hu : items[i]? = some u) : itemAt h i l = u := by
  obtain ⟨o, ho, _, n, hd⟩ := hl
  simp [itemAt, ho, hd, hu]

theorem turn_zipS {P : Program} {w : World} {K : PySem.W.Frag} {tg : Expr} {z TI TO : Addr} {ps : List (Addr × Addr × Bool)} (D : ZApart z TI TO ps) (hne : ps ≠ []) (hn : ps.length ≤ sizeLine) :
    Turn P w K tg (Itn K (ps.map (·.2))) (z :: TI :: TO :: ps.map (·.1)) z
      (fun i h => (∃ f0 f1, ZOb h z TI TO f0 f1 ∧ F0 f0) ∧ ZTup h TI (refs1 ps) ∧ (∃ ts, ZTup h TO ts ∧ ts.length = ps.length) ∧ ∀ p ∈ ps, It1 h p.1 p.2 i) where
  mem := by simp
  obj := fun i h st c hc => by
    obtain ⟨⟨f0, f1, hz, _⟩, hTI, ⟨ts, hTO, _⟩, hit⟩ := st
    rcases List.mem_cons.1 hc with q | hc
    · rw [q]; exact ⟨_, hz, fun v q => nomatch q⟩
    rcases List.mem_cons.1 hc with q | hc
    · rw [q]; exact ⟨_, hTI, fun v q => nomatch q⟩
    rcases List.mem_cons.1 hc with q | hc
    · rw [q]; exact ⟨_, hTO, fun v q => nomatch q⟩
    obtain ⟨p, hp, rfl⟩ := List.mem_map.1 hc
    obtain ⟨o, e, _, d⟩ := hit p hp
    exact ⟨o, e, fun v q => by rw [d] at q; cases q⟩
  keep := fun i h h' st k => by
    obtain ⟨⟨f0, f1, hz, hf⟩, hTI, ⟨ts, hTO, hts⟩, hit⟩ := st
    exact ⟨⟨f0, f1, k z (by simp) _ hz, hf⟩, k TI (by simp) _ hTI, ⟨ts, k TO (by simp) _ hTO, hts⟩, fun p hp => (hit p hp).at fun o e => k p.1 (by simp only [List.mem_cons, List.mem_map]; exact .inr (.inr (.inr ⟨p, hp, rfl⟩))) o e⟩
  item := by
    intro X hP hw hK hc i pins s σ H E I hf st hg
    subst hP hw hK
    obtain ⟨⟨f0, f1, hz, hf0⟩, hTI, ⟨ts, hTO, hts⟩, hit⟩ := st
    have hv0 : ∀ p ∈ ps, ∃ y items, (∀ xs, SqA X.K H p.2 xs → xs[i]? = some y) ∧ RelV y (itemAt s.heap i p.2) ∧ Sq1 s.heap p.2 items ∧ items[i]? = some (itemAt s.heap i p.2) := fun p hp => by
      obtain ⟨xs, y, hq, hy⟩ := hg p.2 (List.mem_map_of_mem hp)
      obtain ⟨its, rv, pl⟩ := I.sqA hq
      obtain ⟨u, hu, ru⟩ := rv.get hy
      have hu' : its.toArray[i]? = some u := by simpa using hu
      have e := itemAt_of pl hu'
      exact ⟨y, its.toArray, fun xs' h' => by rw [I.sqA_inj h' hq]; exact hy, by rw [e]; exact ru, pl, by rw [e]; exact hu'⟩
    obtain ⟨ys, hcols, hvals, hlen⟩ := cols_of (K := X.K) (H := H) (i := i) (val := itemAt s.heap i) (ps.map (·.2)) fun l hl => by
      obtain ⟨p, hp, rfl⟩ := List.mem_map.1 hl
      obtain ⟨y, _, a, b, _⟩ := hv0 p hp
      exact ⟨y, a, b⟩
    refine pyNext_zipS_item D hz hf0 hTI hTO hts hn hne hit (val := itemAt s.heap i) (fun p hp => by obtain ⟨_, items, _, _, a, b⟩ := hv0 p hp; exact ⟨items, a, b⟩) fun h' f0' f1' z' hf0' ⟨ts', TO', hts'⟩ hit' hT hk => ?_
    refine ⟨_, rfl, letGo_zipS (s := { s with heap := h' }) tg z' hf0' fun h2 f0'' z'' hf0'' sb => ?_⟩
    have hTz : s.heap.objs.size ≠ z := Nat.ne_of_gt (Heap.lt_size hz)
    replace hk : Keep z TO ps s.heap h2 := fun c o c1 c2 c3 e => (sb.2 c c1).trans (hk c o c1 c2 c3 e)
    replace hT : ZTup h2 s.heap.objs.size (ps.map fun p => itemAt s.heap i p.2) := (sb.2 _ hTz).trans hT
    replace TO' : ZTup h2 TO ts' := (sb.2 _ D.TOz).trans TO'
    replace hit' : ∀ p ∈ ps, It1 h2 p.1 p.2 (i + 1) := fun p hp => (hit' p hp).at fun o e => (sb.2 _ (D.it p hp).1).trans e
    have hT' : h2.get? s.heap.objs.size = some { cls := .type "tuple", data := .seq ((ps.map (·.2)).map (itemAt s.heap i)).toArray } := by rw [List.map_map]; exact hT
    have new : ObjOk X.prog X.w (upd H s.heap.objs.size (.tup ys)) h2 s.heap.objs.size (.tup ys) :=
      ⟨by show ys.length ≤ sizeLine; rw [hlen, List.length_map]; exact hn, _, hvals, ⟨_, hT', rfl, _, rfl⟩⟩
    have I1 : Inv X pins σ (upd H s.heap.objs.size (.tup ys)) { s with heap := h2 } :=
      I.turnedNew (t' := s.toks) (ch := z :: TI :: TO :: ps.map (·.1)) (fun c o hb q => hk c o (fun q' => hb (by simp [q'])) (fun q' => hb (by simp [q'])) (fun p hp q' => hb (by simp only [List.mem_cons, List.mem_map]; exact .inr (.inr (.inr ⟨p, hp, q'.symm⟩)))) q) hf (Nat.le_refl _) new
    refine ⟨.ref s.heap.objs.size, _, I1, rfl, ⟨_, ys, rfl, I.hok.fresh (Nat.le_refl _), rfl, hcols⟩, ⟨⟨f0'', f1', z'', hf0''⟩, hk _ _ D.TIz D.TITO (fun p hp => Ne.symm (D.it p hp).2.1) hTI, ⟨ts', TO', hts'⟩, hit'⟩, fun c hcm => ?_⟩
    have hlt : c < s.heap.objs.size := by
      rcases List.mem_cons.1 hcm with q | hcm
      · rw [q]; exact Heap.lt_size hz
      rcases List.mem_cons.1 hcm with q | hcm
      · rw [q]; exact Heap.lt_size hTI
      rcases List.mem_cons.1 hcm with q | hcm
      · rw [q]; exact Heap.lt_size hTO
      obtain ⟨p, hp, rfl⟩ := List.mem_map.1 hcm
      obtain ⟨_, e, _⟩ := hit p hp
      exact Heap.lt_size e
    rw [upd_ne (Nat.ne_of_lt hlt)]
    exact (hf c hcm).1
  done := by
    intro X hP hw hK hc i pins s σ H E I hf st hg
    subst hP hw hK
    obtain ⟨⟨f0, f1, hz, hf0⟩, hTI, ⟨ts, hTO, hts⟩, hit⟩ := st
    obtain ⟨l, ls', xs, el, hq, hend⟩ := hg
    cases ps with
    | nil => exact absurd rfl hne
    | cons p ps =>
      simp only [List.map_cons, List.cons.injEq] at el
      obtain ⟨rfl, _⟩ := el
      obtain ⟨its, rv, pl⟩ := I.sqA hq
      have hl := rv.length
      exact pyNext_zipS_end (I.ok.hd hc) D hz hf0 hTI hTO (hit p (by simp)) pl (by simp; omega) fun h' hk => ⟨rfl, I.turnedL (t' := s.toks) (ch := z :: TI :: TO :: (p :: ps).map (·.1)) (fun c o hb q =>
        hk c o (fun q' => hb (by simp [q'])) (fun q' => hb (by simp [q'])) (fun p' hp q' => hb (by simp only [List.mem_cons (a := c), List.mem_map]; exact .inr (.inr (.inr ⟨p', hp, q'.symm⟩)))) q) hf⟩
  self := fun A i s Q E st h => let ⟨⟨_, _, hz, _⟩, _⟩ := st; pyIter_zipS hz h

theorem callWith_typeS {M : Model} {A : Around} {E : Value → Shared → Prop} {s : Shared} {pos : Pos} {T : String} {x : Sem Value} {Q : Value → Shared → Prop}
    (h : wpAny M A x (fun v s₁ => PySem.W.StarOf M A E v (fun vs s₂ => wpAny M A (call (.type T) vs) Q E s₂) s₁) E s) :
    wpAny M A (callWith pos (.type T) [] (backTo pos [(true, x)]) []) Q E s := by
  unfold callWith
  refine wpAny_bind (wpAny_holding (wpAny_mono (PySem.W.ks_lone (Q := fun a s₂ => wpAny M A (call (.type T) a.pos a.kw) Q E s₂) (wpAny_mono h (fun v s₁ h₁ => h₁) fun _ _ x => x)) (fun a s₁ h₁ => wpAny_bind (wpAny_standAt ?_)) fun _ _ x => x))
  have z := wpAny_bind (m := operate ((.type T :: a.pos.reverse) ++ a.kw.map (·.2)) (call (.type T) a.pos a.kw)) (f := fun r => do holding [r] point; pure r) (wpAny_operate' (wpAny_mono h₁ (fun r s₂ hr => wpAny_bind (wpAny_holding (wpAny_point (wpAny_pure hr)))) fun _ _ x => x))
  exact wpAny_bind (wpAny_pure z)
/-- an iterator of zip over these, laid -/
theorem pie_zipS {X : Cx} {pins : List (Addr × Obj)} {σ : St} {H1 : Hp} {R : It → Hp → Prop} {tg : Expr} {s2 : Shared} {ls : List (Addr × Bool)} (I2 : Inv X pins σ H1 s2) (hne : ls ≠ []) (h8 : ls.length ≤ 8) (hls : ∀ l ∈ ls, ∃ xs, SqA X.K H1 l xs) (q : R (Itn X.K ls) H1) :
    wpAny (model X.prog X.w) X.A (call (.type "zip") (refsL ls)) (fun v s1 => wpAny (model X.prog X.w) X.A (pyIter v) (PIE X pins σ tg R) X.xe s1) X.xe s2 := by
  refine call_zipS hne h8 (fun l hl => by obtain ⟨xs, hx⟩ := hls l hl; obtain ⟨its, _, pl⟩ := I2.sqA hx; exact ⟨_, pl⟩) fun h' hz hTI hTO hit hk => pyIter_zipS hz ?_
  have I3 : Inv X pins σ H1 { s2 with heap := h' } := I2.kept (t' := s2.toks) hk
  have lt : ∀ l ∈ ls, l.1 < s2.heap.objs.size := fun l hl => by obtain ⟨xs, hx⟩ := hls l hl; obtain ⟨its, _, pl⟩ := I2.sqA hx; exact Sq1.lt pl
  have D : ZApart (s2.heap.objs.size + ls.length + 2) (s2.heap.objs.size + ls.length) (s2.heap.objs.size + ls.length + 1) (pairs s2.heap.objs.size ls) := by
    refine ⟨fun e => absurd (show (s2.heap.objs.size + ls.length : Nat) = s2.heap.objs.size + ls.length + 2 from e) (by omega), fun e => absurd (show (s2.heap.objs.size + ls.length + 1 : Nat) = s2.heap.objs.size + ls.length + 2 from e) (by omega), fun e => absurd (show (s2.heap.objs.size + ls.length : Nat) = s2.heap.objs.size + ls.length + 1 from e) (by omega), fun p hp => ?_, fun p hp => ?_, pairs_nd ..⟩
    · have a1 : p.1 < s2.heap.objs.size + ls.length := (pairs_ge ls _ p hp).2.1
      exact ⟨Nat.ne_of_lt (Nat.lt_of_lt_of_le a1 (by omega)), Nat.ne_of_lt a1, Nat.ne_of_lt (Nat.lt_of_lt_of_le a1 (by omega))⟩
    · have a1 : p.2.1 < s2.heap.objs.size := lt p.2 (pairs_ge ls _ p hp).2.2
      exact ⟨Nat.ne_of_lt (Nat.lt_of_lt_of_le a1 (by omega)), Nat.ne_of_lt (Nat.lt_of_lt_of_le a1 (by omega)), fun q hq => Nat.ne_of_lt (Nat.lt_of_lt_of_le a1 (pairs_ge ls _ q hq).1)⟩
  obtain ⟨ts, hTO, hts⟩ := hTO
  have hpne : pairs s2.heap.objs.size ls ≠ [] := fun e => hne (by rw [← pairs_snd ls s2.heap.objs.size, e]; rfl)
  have T := turn_zipS (P := X.prog) (w := X.w) (K := X.K) (tg := tg) D hpne (by rw [ZS.pairs_len]; exact Nat.le_trans h8 (by decide))
  rw [pairs_snd] at T
  refine ⟨_, _, _, _, H1, rfl, I3, T, ⟨⟨_, _, hz, .inl rfl⟩, hTI, ⟨ts, hTO, by rw [ZS.pairs_len]; exact hts⟩, hit⟩, fun c hcm => ?_, q⟩
  have hle : s2.heap.objs.size ≤ c := by
    rcases List.mem_cons.1 hcm with q | hcm
    · rw [q]; omega
    rcases List.mem_cons.1 hcm with q | hcm
    · rw [q]; omega
    rcases List.mem_cons.1 hcm with q | hcm
    · rw [q]; omega
    obtain ⟨p, hp, rfl⟩ := List.mem_map.1 hcm
    exact (pairs_ge ls _ p hp).1
  exact I2.fpOk hle (I2.hok.fresh hle)
/-- zip(*e), e a list of at most 8 lists -/
def iZipS (K : PySem.W.Frag) (te : TE) : TI := fun σ H R => te σ H fun v H1 => ∃ a ls, v = .ref a ∧ SqL K H1 a (ls.map V.ref) ∧ ls ≠ [] ∧ ls.length ≤ 8 ∧ (∀ l ∈ ls, ∃ xs, SqL K H1 l xs) ∧ R (Itn K (ls.map fun l => (l, false))) H1
theorem zs_vals_refs : ∀ {ls : List Addr} {us : List Value}, Vals (ls.map V.ref) us → us = refsL (ls.map fun l => (l, false))
  | [], _, .nil => rfl
  | l :: ls, _, .cons r rr => by
    cases r
    rw [zs_vals_refs rr]; rfl
theorem pi_zipS {X : Cx} {tg e : Expr} {te : TE} {p p2 pos : Pos} (hg : Gl X "zip") (hm : X.mg "zip" = none) (he : PE X e te)
    (hs : starEach [.Starred e p2] X.env = [(true, eval e X.env)] := by rfl) :
    PI X tg (.Call (.Name "zip" p) [.Starred e p2] [] pos) (iZipS X.K te) := by
  refine ⟨fun pins s σ H R I h => ?_⟩
  refine Call_ (ld_blt I hg hm PyProof.Rows.boot_zip ?_)
  rw [hs]
  refine callWith_typeS (thn (he.run pins s σ H _ I h) fun v s1 ⟨y, H1, I1, ry, a, ls, ey, hq, hne, h8, hls, q⟩ => ?_)
  subst ey
  obtain rfl : v = Value.ref a := ry
  refine StX.star_lst I1 hq fun us s2 I2 rv => ?_
  have e := zs_vals_refs rv
  subst e
  refine pie_zipS I2 (by simpa using hne) (by simpa using h8) (fun l hl => ?_) q
  obtain ⟨l', hl', rfl⟩ := List.mem_map.1 hl
  exact hls l' hl'
/-- zip(e, e2), e a list, e2 a tuple -/
def iZipM (K : PySem.W.Frag) (ta : TA) : TI := fun σ H R => ta σ H fun vs H1 => ∃ a b xs ys, vs = [.ref a, .ref b] ∧ SqL K H1 a xs ∧ SqT K H1 b ys ∧ R (Itn K [(a, false), (b, true)]) H1
theorem pi_zipM {X : Cx} {tg e e2 : Expr} {ta : TA} {p pos : Pos} (hg : Gl X "zip") (hm : X.mg "zip" = none) (ha : PA X [e, e2] ta)
    (hs : starEach [e, e2] X.env = (false, eval e X.env) :: starEach [e2] X.env := by rfl) (hpl : (backTo pos (starEach [e2] X.env)).any (·.1) = false := by rfl) :
    PI X tg (.Call (.Name "zip" p) [e, e2] [] pos) (iZipM X.K ta) := by
  refine ⟨fun pins s σ H R I h => ?_⟩
  refine Call_ (ld_blt I hg hm PyProof.Rows.boot_zip (PyProof.Rows.callWith_type1 (thn (ha.run pos pins s σ H _ I h) fun us s1 ⟨vs, H1, I1, r1, q1⟩ => ?_) hs hpl))
  obtain ⟨a, b, xs, ys, ex, hqx, hqy, q⟩ := q1
  subst ex
  cases r1 with
  | cons r rr =>
    cases rr with
    | cons r' rr =>
      cases rr
      cases r
      cases r'
      refine pie_zipS (ls := [(a, false), (b, true)]) I1 (by simp) (by simp) (fun l hl => ?_) q
      rcases List.mem_cons.1 hl with rfl | hl
      · exact ⟨xs, hqx⟩
      · rw [List.mem_singleton.1 hl]
        exact ⟨ys, hqy⟩
end L2
namespace PyProof.Rows
open PySem
theorem callWith_typeKw {M : Model} {A : Around} {E : Value → Shared → Prop} {s : Shared} {env : Env} {pos : Pos} {T : String} {e : Expr} {rest : List Expr} {kws : List Keyword} {Q : Value → Shared → Prop}
    (h : wpAny M A (spliced (backTo pos (starEach (e :: rest) env))) (fun vs s₁ => wpAny M A (evalAll ((backToKw pos (keywordEach kws env)).map (·.2)))
      (fun kvs s₂ => wpAny M A (call (.type T) vs (((backToKw pos (keywordEach kws env)).filterMap (·.1)).zip kvs)) Q E s₂) E s₁) E s)
    (he : backTo pos (starEach (e :: rest) env) = (false, eval e env) :: backTo pos (starEach rest env) := by rfl)
    (hplain : (backTo pos (starEach (e :: rest) env)).any (·.1) = false := by rfl)
    (hall : (backToKw pos (keywordEach kws env)).all (·.1.isSome) = true := by rfl)
    (hkw : (backToKw pos (keywordEach kws env)).any (·.1.isNone) = false := by rfl) :
    wpAny M A (callWith pos (.type T) [] (backTo pos (starEach (e :: rest) env)) (backToKw pos (keywordEach kws env))) Q E s := by
  unfold callWith
  rw [he] at h hplain ⊢
  refine wpAny_bind (wpAny_holding (wpAny_mono (evalArgs_kwB (Q := fun a s₁ => wpAny M A (call (.type T) ([] ++ a.pos) a.kw) Q E s₁) hall h) (fun a s₁ h₁ => wpAny_bind (wpAny_standAt ?_)) fun _ _ x => x))
  simp only [hplain, hkw, Bool.or_false]
  refine wpAny_bind (wpAny_pure ?_)
  exact wpAny_bind (wpAny_mono h₁ (fun r s₂ hr => wpAny_bind (wpAny_holding (wpAny_point (wpAny_pure hr)))) fun _ _ x => x)
end PyProof.Rows
namespace L2
open PySem PySem.Spec PyProof.Rows
theorem item_ltV {l : List V} {i : Nat} {x : V} (h : l[i]? = some x) : i < l.length := (List.getElem?_eq_some_iff.mp h).1
theorem enumS_end {prog : Program} {w : World} {A : Around} {E : Value → Shared → Prop} {s : Shared} {e it l : Addr} {i : Nat} {c : Int} {items : Array Value} {old : Value} {Q : Option Value → Shared → Prop}
    (hh : A.handled = none) (he : IsEnum s.heap e it c old) (hit : s.heap.IsListIter it l i) (hl : s.heap.IsList l items) (hx : items.size = i)
    (hQ : ∀ h', Heap.ExtBut it s.heap h' → Q none { s with heap := h' }) : wpAny (model prog w) A (pyNext (.ref e)) Q E s := by
  have hail : l ≠ it := fun z => by
    obtain ⟨o, q, c, d⟩ := hit
    obtain ⟨o2, q2, c2, n2, d2⟩ := hl
    rw [← z, q2] at q
    have := Option.some.inj q
    rw [← this, d2] at d
    cases d
  subst hx
  exact wpAny_pyNext_enum_endD (Draws.list (prog := prog) (w := w) (A := A.in1) hh it l hail items) he ⟨hit, hl⟩ hQ
/-- the list at a as it stands at each turn, each item in a new pair, counted from k -/
def IteS (K : PySem.W.Frag) (a : Addr) (k : Int) : It :=
  ⟨fun i H => ∃ (xs : List V) (x : V), SqL K H a xs ∧ xs[i]? = some x, fun i H v H' => ∃ T x, v = .ref T ∧ H T = none ∧ H' = upd H T (.tup [.int (k + (i : Nat)), x]) ∧ ∀ xs, SqL K H a xs → xs[i]? = some x, fun i H => ∃ xs : List V, SqL K H a xs ∧ xs.length = i⟩
theorem turn_enumS {P : Program} {w : World} {K : PySem.W.Frag} {elts : List Expr} {kk : Nat} {tpos : Pos} {k : Int} (a e it : Addr) :
    Turn P w K (.Tuple elts kk tpos) (IteS K a k) [e, it] e (fun i h => (∃ old, IsEnum h e it (k + ((i : Nat) : Int)) old) ∧ h.IsListIter it a i ∧ e ≠ it) where
  mem := by simp
  obj := fun i h st b hb => by
    obtain ⟨⟨old, he⟩, ⟨o, ho, hc, hd⟩, _⟩ := st
    have e' : b = e ∨ b = it := by simpa using hb
    rcases e' with z | z
    · rw [z]; exact ⟨_, he, fun v q => nomatch q⟩
    · rw [z]; exact ⟨o, ho, fun v q => by rw [hd] at q; cases q⟩
  keep := fun i h h' st k => let ⟨⟨old, he⟩, hi, hne⟩ := st; ⟨⟨old, k e (by simp) _ he⟩, hi.at fun o q => k it (by simp) o q, hne⟩
  item := by
    intro X hP hw hK hc i pins s σ H E I hf st hg
    subst hP hw hK
    obtain ⟨⟨old, he⟩, hit, hne⟩ := st
    obtain ⟨xs, x, hq, hx⟩ := hg
    obtain ⟨its, rv, p, hz⟩ := I.list hq
    obtain ⟨u, hu, ru⟩ := rv.get hx
    have hel : e < s.heap.objs.size := Heap.lt_size he
    have hil : it < s.heap.objs.size := by obtain ⟨_, q, _⟩ := hit; exact Heap.lt_size q
    have hail : a ≠ it := fun z => by
      obtain ⟨o, q, c, d⟩ := hit
      obtain ⟨o2, q2, c2, n2, d2⟩ := p.isList
      rw [← z, q2] at q
      have := Option.some.inj q
      rw [← this, d2] at d
      cases d
    have hae : e ≠ a := fun z => by
      obtain ⟨o2, q2, c2, n2, d2⟩ := p.isList
      have q : s.heap.get? e = _ := he
      rw [z, q2] at q
      have := Option.some.inj q
      rw [this] at d2
      cases d2
    have D := Draws.list (prog := X.prog) (w := X.w) (A := X.A.in1) (I.ok.hd hc) it a hail its.toArray
    refine wpAny_pyNext_enum_itemC D he ⟨hit, p.isList⟩ (by have := item_ltV hx; have := rv.length; simp; omega) hne (by simp [hne, hae]) fun y h' tk hP ho hs' hT hsz hk => ?_
    have ey : y = u := by
      have : its[i]? = some y := by simpa using hP
      rw [hu] at this
      exact (Option.some.inj this).symm
    subst ey
    refine ⟨_, rfl, wpAny_letOwnedTupleGo_enum (s := { s with heap := h', toks := tk + 1 }) ho fun h'' he' sb => ?_⟩
    have hT2 : h''.get? s.heap.objs.size = some { cls := .type "tuple", data := .seq #[.int (k + (i : Nat)) tk, y] } := (sb.2 _ (Nat.ne_of_gt hel)).trans hT
    have new : ObjOk X.prog X.w (upd H s.heap.objs.size (.tup [.int (k + (i : Nat)), x])) h'' s.heap.objs.size (.tup [.int (k + (i : Nat)), x]) :=
      ⟨by show 2 ≤ sizeLine; decide, [.int (k + (i : Nat)) tk, y], .cons ⟨_, rfl⟩ (.cons ru .nil), ⟨_, hT2, rfl, _, rfl⟩⟩
    have I1 : Inv X pins σ (upd H s.heap.objs.size (.tup [.int (k + (i : Nat)), x])) { s with heap := h'', toks := tk + 1 } :=
      I.turnedNew (ch := [e, it]) (fun b ob hb q => (sb.2 b (fun z => hb (by simp [z]))).trans (hk b ob (fun z => hb (by simp [z])) (fun z => hb (by simp [z])) q)) hf (Nat.le_refl _) new
    refine ⟨.ref s.heap.objs.size, _, I1, rfl, ⟨_, x, rfl, I.hok.fresh (Nat.le_refl _), rfl, fun ys hy => by rw [I.list_inj hy hq]; exact hx⟩, ⟨⟨y, ?_⟩, hs'.1.at fun o q => (sb.2 it (Ne.symm hne)).trans q, hne⟩, fun b hb => ?_⟩
    · have e1 : k + ((i + 1 : Nat) : Int) = k + (i : Int) + 1 := by omega
      rw [e1]; exact he'
    · have hb' : b < s.heap.objs.size := by
        have e' : b = e ∨ b = it := by simpa using hb
        rcases e' with z | z
        · rw [z]; exact hel
        · rw [z]; exact hil
      rw [upd_ne (Nat.ne_of_lt hb')]
      exact (hf b hb).1
  done := by
    intro X hP hw hK hc i pins s σ H E I hf st hg
    subst hP hw hK
    obtain ⟨⟨old, he⟩, hit, hne⟩ := st
    obtain ⟨xs, hq, hx⟩ := hg
    obtain ⟨its, rv, p, hz⟩ := I.list hq
    obtain ⟨f0, f1, f2, f3, f4, f5⟩ := hf it (by simp)
    have hl := rv.length
    exact enumS_end (I.ok.hd hc) he hit p.isList (by simp; omega) fun h' eb => ⟨rfl, I.turned (t' := s.toks) (fun b o hb q => eb b o hb q) f0 f1 f3 f4 f5⟩
  self := fun A i s Q E st h => let ⟨⟨_, he⟩, _⟩ := st; wpAny_pyIter_enum he h
def iEnumS (K : PySem.W.Frag) (ta tk : TA) : TI := fun σ H R => ta σ H fun vs H1 => tk σ H1 fun zs H2 => ∃ a xs k, vs = [.ref a] ∧ zs = [.int k] ∧ SqL K H2 a xs ∧ -(2 ^ 63) ≤ k ∧ k < 2 ^ 63 ∧ R (IteS K a k) H2
theorem pi_enumS {X : Cx} {e : Expr} {kws : List Keyword} {ta tk : TA} {p pos tpos : Pos} {elts : List Expr} {kk : Nat} (hg : Gl X "enumerate") (hm : X.mg "enumerate" = none) (ha : PA X [e] ta) (hkw : PK X kws tk)
    (hs : backTo pos (starEach [e] X.env) = (false, eval e X.env) :: backTo pos (starEach [] X.env) := by rfl) (hpl : (backTo pos (starEach [e] X.env)).any (·.1) = false := by rfl)
    (hall : (backToKw pos (keywordEach kws X.env)).all (·.1.isSome) = true := by rfl) (hnone : (backToKw pos (keywordEach kws X.env)).any (·.1.isNone) = false := by rfl) (hks : (backToKw pos (keywordEach kws X.env)).filterMap (·.1) = [("start" : Str)] := by rfl) :
    PI X (.Tuple elts kk tpos) (.Call (.Name "enumerate" p) [e] kws pos) (iEnumS X.K ta tk) := by
  refine ⟨fun pins s σ H R I h => ?_⟩
  refine wpAny_Call_Name_kw (ld_blt I hg hm boot_enumerate ?_)
  refine PyProof.Rows.callWith_typeKw (thn (ha.run pos pins s σ H _ I h) fun us s1 ⟨vs, H1, I1, r1, q1⟩ => thn (hkw.run pos pins s1 σ H1 _ I1 q1) fun ws s2 ⟨zs, H2, I2, r2, q2⟩ => ?_) hs hpl hall hnone
  rw [hks]
  obtain ⟨a, xs, k, ex, ez, hq, k0, k1, q⟩ := q2
  subst ex ez
  cases r1 with
  | cons r rr =>
    cases rr
    cases r
    cases r2 with
    | cons r rr =>
      cases rr
      obtain ⟨t, rfl⟩ := r
      obtain ⟨its, rv, p', hz⟩ := I2.list hq
      have hlt : a < s2.heap.objs.size := by obtain ⟨o, q, _⟩ := p'.isList; exact Heap.lt_size q
      refine enum_begins_start (begins_list a its.toArray) p'.isList k0 k1 fun h' he hit hsz hk => wpAny_pyIter_enum he ?_
      have I3 : Inv X pins σ H2 { s2 with heap := h' } := I2.kept (t' := s2.toks) hk
      refine ⟨s2.heap.objs.size + 1, [s2.heap.objs.size + 1, s2.heap.objs.size], _, _, H2, rfl, I3, turn_enumS a (s2.heap.objs.size + 1) s2.heap.objs.size, ⟨⟨.none, by simpa using he⟩, ⟨_, hit, rfl, rfl⟩, Nat.succ_ne_self _⟩, fun b hb => ?_, q⟩
      have e' : b = s2.heap.objs.size + 1 ∨ b = s2.heap.objs.size := by simpa using hb
      have hle : s2.heap.objs.size ≤ b := by
        rcases e' with z | z
        · rw [z]; exact Nat.le_add_right _ _
        · rw [z]; exact Nat.le_refl _
      exact I2.fpOk hle (I2.hok.fresh hle)
theorem walk_enumS {K : PySem.W.Frag} {a : Addr} {xs : List V} {k : Int} : Walk (IteS K a k) xs.length (fun H => SqL K H a xs) (YPair (fun i => some (.int (k + (i : Nat)))) (fun i => xs[i]?)) := by
  refine ⟨fun i _ hi q => ⟨xs, xs[i], q, by simp [hi]⟩, fun _ q => ⟨xs, q, rfl⟩, fun i H v H' _ q y => ?_⟩
  obtain ⟨T, x, h1, h2, h3, h4⟩ := y
  exact ⟨T, .int (k + (i : Nat)), x, h1, h2, h3, rfl, h4 xs q⟩
end L2
/-! the law's own entry: no repr is under way there, and the rules may use that -/
namespace L2
open PySem PySem.Spec PyProof.Rows
section
variable {P : Program} {w : World} {K : PySem.W.Frag} {mg : Str → Option Value}
/-- a promise of the def at f, for calls out of the outermost place alone -/
def EntryOk (P : Program) (w : World) (K : PySem.W.Frag) (mg : Str → Option Value) (base : Heap) (f : Addr) (fd : FuncData) (y : Str) (sp : Sp) : Prop :=
  ∀ (st : Shared) (G : Hp) (g : Value) (v : V) (W : VK), Env0 P w K mg base callerA [] st G → BindsTo st fd ⟨[g], []⟩ [(y, g)] → RelV v g → sp [v] G W E0 →
    codeAny (model P w) callerA (.call (.ref f) ⟨[g], []⟩) (CR CX0 [] P w G st W E0) st
theorem EntryOk.imp {base : Heap} {f : Addr} {fd : FuncData} {y : Str} {sp sp' : Sp} (F : EntryOk P w K mg base f fd y sp) (h : ∀ vs G W, sp' vs G W E0 → sp vs G W E0) : EntryOk P w K mg base f fd y sp' := fun st G g v W e b r q => F st G g v W e b r (h _ _ _ q)
theorem room_caller {k : Nat} (h : k ≤ 90) : Room k callerA := by
  have r : Room 90 callerA := ⟨rfl, by decide, by decide⟩
  exact r.mono h
theorem entry_of {base : Heap} {nm q : Str} {d : Stmt} {f : Addr} {fd : FuncData} {N : List Str} {y : Str} {k : Nat} {sp : Sp} (F : Fun K nm q d f fd) (S : FnScope N [y] (defScope d)) (hk : k ≤ 89)
    (read : ∀ (cdv : Value) (A : Around) (outer : List Env) (s : Shared) (H : Hp) (vs : List V) (Q : VK) (E : XK), A.guards = some [] → Room k (A.deeper (envOfC q (defScope d) s.heap.objs.size f cdv)) → sp vs H Q E →
      ∃ t, PSs (cxOf CX0 P w K mg base N q (defScope d) f cdv A outer s H E).nox (defBody d) t ∧ t { nx := fun _ G => Q .non G, rt := Q } (start N vs) H)
    : EntryOk P w K mg base f fd y sp := by
  intro st G g v W env bnd rel prom
  obtain ⟨c1, c2, c3, c4, c5, c6, cdv, c7, c8, same, found, code⟩ := F.ex
  subst same
  have inHeap : K.In st.heap := (env.mod.kin).keeps fun z u hz => (env.bs z u hz).1
  have free : st.heap.NoLimit := (env.mod.nolimit).keeps fun z u hz => (env.bs z u hz).1
  have room : Room (k + 1) callerA := room_caller (by omega)
  have kinds : ∀ z ∈ [y].zip [g], (defScope d).names.lookup z.1 = some .local ∨ ((defScope d).names.lookup z.1 = some .cell ∧ ((cellsFrom (st.heap.objs.size + 1) (defScope d).names []).lookup z.1).isSome = true) := by
    rintro ⟨z, u⟩ hz
    rcases S.par z (List.of_mem_zip hz).1 with o | o
    · exact Or.inl o
    · exact Or.inr ⟨o, PySem.W.cellsFrom_some _ _ _ (Or.inl o)⟩
  refine codeAny_call_function room.depth (inHeap _ _ found) rfl S.co S.gen rfl (PySem.W.codeRec_of inHeap code) (bnd _ _ _ _ ?_)
  refine wpAny_newFunctionEnv_cells S.kind kinds fun fr hfr s9 laid => ?_
  subst hfr
  refine ⟨free.keeps laid.toInCall.keep, codeAny_func ?_⟩
  obtain ⟨t, rule, reading⟩ := read cdv callerA [] st G [v] W E0 rfl (room.deeper _) prom
  have start0 : Inv (cxOf CX0 P w K mg base N q (defScope d) f cdv callerA [] st G E0) [] (start N [v]) G s9 := inv_start S room.hd env rfl (.cons rel .nil) laid
  refine wpAny_mono (rule.nox.run [] s9 (start N [v]) G _ start0 reading) (fun way s8 got => ?_) fun _ _ got => got
  have done : ∀ {σ9 : St} {G9 : Hp} {x : V} {u : Value}, Inv (cxOf CX0 P w K mg base N q (defScope d) f cdv callerA [] st G E0) [] σ9 G9 s8 → RelV x u → W x G9 → CE [] P w G st W u s8 := by
    intro σ9 G9 x u J rx hx
    exact ⟨x, G9, J.os, J.bare, J.base, J.hok, rx, hx⟩
  cases way with
  | brk => obtain ⟨_, _, _, no⟩ := got; exact no.elim
  | cont => obtain ⟨_, _, _, no⟩ := got; exact no.elim
  | next => obtain ⟨σ9, G9, J, hx⟩ := got; exact done (x := .non) (u := .none) J rfl hx
  | ret u => obtain ⟨x, σ9, G9, J, rx, hx⟩ := got; exact done J rx hx
/-- the law, called with its script -/
theorem entry_call {mb : Str → Option Value} {fa a : Addr} {fd : FuncData} {y : Str} {sp : Sp} {st : Shared} {us : List Value} {cells : List Int}
    (kin : K.In st.heap) (main : st.heap.Ns mainGlobals mg) (blt : st.heap.Ns builtinsNs mb) (boot : ∀ z : Str, z ≠ "__name__" → mb z = bootBuiltins z) (free : st.heap.NoLimit) (gens : st.gens = #[])
    (ho : st.heap.get? a = some { cls := .type "list", data := .seq us.toArray }) (nums : IntsAre us cells) (short : cells.length ≤ sizeLine)
    (F : ∀ base : Heap, K.In base → base.Ns mainGlobals mg → EntryOk P w K mg base fa fd y sp) (bnd : ∀ (z : Shared) (u : Value), BindsTo z fd ⟨[u], []⟩ [(y, u)])
    (prom : ∀ G : Hp, Only G → SqL K G a (cells.map V.int) → sp [.ref a] G (fun v _ => v = .bl true) E0) :
    codeAny (model P w) callerA (.call (.ref fa) ⟨[.ref a], []⟩) (fun r z => r = .ok (.ret (.bool true)) ∧ OldK st.heap z.heap ∧ z.os = st.os ∧ AllBare z.gens) st := by
  have vals := vals_ints nums
  have size := nums.length
  have main_part : ∀ G : Hp, Only G → SqL K G a (cells.map V.int) → HOk P w G st.heap → (∀ z, G z ≠ none → z = a ∧ K.lookup a = none) →
      codeAny (model P w) callerA (.call (.ref fa) ⟨[.ref a], []⟩) (fun r z => r = .ok (.ret (.bool true)) ∧ OldK st.heap z.heap ∧ z.os = st.os ∧ AllBare z.gens) st := by
    intro G only sq ok one
    have below : ∀ {z : Addr} {u : Obj}, st.heap.get? z = some u → G z = none → (hidT st.heap G).get? z = some u := fun h1 h2 => hidT_get h1 h2
    have dictOff : ∀ {z : Addr} {u : Obj} {es : Array DictEntry} {n : Nat}, st.heap.get? z = some u → u.data = .dict es n → G z = none := by
      intro z u es n h1 h2
      refine Classical.byContradiction fun no => ?_
      have e := (one z no).1
      rw [e, ho] at h1
      cases h1
      cases (show Data.seq us.toArray _ = Data.dict es n from h2)
    have names : ∀ {z : Addr} {m : Str → Option Value}, st.heap.Ns z m → (hidT st.heap G).Ns z m := by
      rintro z m ⟨u, es, n, h1, h2, h3⟩
      exact ⟨u, es, n, below h1 (dictOff h1 h2), h2, h3⟩
    have kbase : K.In (hidT st.heap G) := by
      intro z u hz
      refine below (kin z u hz) (Classical.byContradiction fun no => ?_)
      obtain ⟨e, k0⟩ := one z no
      rw [e, k0] at hz
      cases hz
    have mod : Mod K mg (hidT st.heap G) := by
      obtain ⟨m9, l1, l2⟩ := free
      exact ⟨kbase, names main, ⟨mb, names blt, boot⟩, ⟨m9, names l1, l2⟩⟩
    have env : Env0 P w K mg (hidT st.heap G) callerA [] st G := ⟨rfl, mod, fun z u hz => of_hidT hz, Nat.le_of_eq (hidT_size _ _), trivial, (fun z hz => absurd (show z ∈ ([] : List Addr) from hz) (by simp)), ok, .of_eq gens⟩
    refine codeAny_mono (F _ kbase (names main) st G (.ref a) (.ref a) _ env (bnd st (.ref a)) rfl (prom G only sq)) fun r z got => ?_
    match r, got with
    | .error _, got => exact got.elim
    | .ok .next, got => exact (show False from got).elim
    | .ok .brk, got => exact (show False from got).elim
    | .ok .cont, got => exact (show False from got).elim
    | .ok (.ret u), got =>
      obtain ⟨x, G9, hos, bare, un, ok9, rx, hx⟩ := got
      have hx : x = .bl true := hx
      subst hx
      obtain rfl : u = Value.bool true := rx
      refine ⟨rfl, OldK.of_keep fun q o hq => ?_, hos, bare⟩
      cases hG : G q with
      | none => exact un.keep q o hq hG (fun no => absurd (show q ∈ ([] : List Addr) from no) (by simp)) (by simp)
      | some u9 =>
        obtain no | ⟨o2, xs, e2⟩ := only q
        · rw [hG] at no
          cases no
        · obtain ⟨b1, _⟩ := ok q _ e2
          obtain ⟨b2, _⟩ := ok9 q _ (un.frzs q o2 _ e2)
          rw [hq] at b1
          cases b1
          exact b2
  cases hK : K.lookup a with
  | none =>
    let fz : HO := .frz { cls := .type "list", data := .seq us.toArray } (.lst (cells.map V.int))
    have at_a : (fun z : Addr => if z = a then some fz else none) a = some fz := if_pos rfl
    have off : ∀ z, z ≠ a → (fun z : Addr => if z = a then some fz else none) z = none := fun z hz => if_neg hz
    refine main_part (fun z => if z = a then some fz else none) (fun z => ?_) (Or.inl (Or.inr ⟨_, at_a⟩)) (fun z u hz => ?_) (fun z hz => ?_)
    · by_cases hz : z = a
      · subst hz
        exact Or.inr ⟨_, _, at_a⟩
      · exact Or.inl (off z hz)
    · by_cases e : z = a
      · subst e
        rw [at_a] at hz
        cases hz
        exact ⟨ho, by rw [List.length_map]; exact short, us, _, vals, ho⟩
      · rw [off z e] at hz
        cases hz
    · by_cases e : z = a
      · exact ⟨e, hK⟩
      · exact absurd (off z e) hz
  | some u =>
    have e := kin a u hK
    rw [ho] at e
    cases e
    exact main_part (fun _ => none) (fun _ => Or.inl rfl) (Or.inr ⟨_, us.toArray, _, hK, rfl, rfl, rfl, by rw [List.size_toArray, size]; exact short, by simpa using vals⟩) (fun z u hz => nomatch (show (none : Option HO) = some u from hz)) (fun z hz => absurd rfl hz)
end
/-- the goal behind the head, by a promise of this kind -/
theorem walk_entry {l : PySem.W.OpenLaw} {n : Nat} {q : Program} {loose : List Str} {XP : (Str → Option Value) → Heap → Prop} {YP : World → Heap → Prop} {d : DefRec} {K : Params → PySem.W.Frag} {sp : World → Sp} {y : Str}
    (most : l.most = some n) (short : n ≤ sizeLine) (plain : d.params.defaults = []) (kin : ∀ (w : World) (h : Heap), YP w h → (K w.params).In h)
    (F : ∀ (w : World) (mg : Str → Option Value) (fa : Addr) (h : Heap), (K w.params).In h → h.Ns mainGlobals mg → mg d.name = some (.ref fa) →
      ∃ fd : FuncData, (∀ (z : Shared) (u : Value), BindsTo z fd ⟨[u], []⟩ [(y, u)]) ∧ ∀ base : Heap, (K w.params).In base → base.Ns mainGlobals mg → EntryOk l.prog w (K w.params) mg base fa fd y (sp w))
    (prom : ∀ (w : World) (G : Hp) (a : Addr) (cells : List Int), cells.length ≤ n → Only G → SqL (K w.params) G a (cells.map V.int) → sp w [.ref a] G (fun v _ => v = .bl true) E0) :
    PySem.W.WalkO q loose XP YP l.row.toRowW d [] (fun f vs => PySem.call f vs) :=
  Att.attach_call most plain fun w s0 s1 mg mb fa o pm cd doc a us cells G Y _ _ _ named script nums len gens =>
    have k := kin w _ Y
    have ⟨_, bnd, prm⟩ := F w mg fa _ k G.T.g named
    entry_call k G.T.g G.T.b G.T.builtins G.T.nolimit gens script nums (Nat.le_trans len short) prm bnd fun H only sq => prom w H a cells len only sq
/-- repr(x), x read as data -/
def rRepr (K : PySem.W.Frag) : List V → Hp → VK → Prop := fun vs H Q => ∃ (a : Addr) (d : PyData), vs = [V.ref a] ∧ Dp K H (.ref a) d ∧ d.showable = true ∧ d.hasDict = false ∧ d.depth ≤ 40 ∧ d.shown.length ≤ sizeLine ∧ Q (.str d.shown) H
section
variable {X : Cx}
theorem cr_repr (hg : X.A.guards = some []) (hu : X.A.units + 64 < cLine) : CallR X (.builtin "repr") (rRepr X.K) := by
  intro pins s σ H vs us Q I r h
  obtain ⟨a, d, rfl, hd, sh, nd, dp, sz, q⟩ := h
  obtain ⟨u, rfl, ru⟩ := vals1 r
  obtain rfl : u = Value.ref a := ru
  obtain ⟨as, rd⟩ := Dp.reads I d (.ref a) (.ref a) hd rfl
  refine repr_of_reads' rd sh (fun z => by rw [nd] at z; cases z) hg (by omega) (fun _ _ e => e) (fun h' t tk hk => ?_) sz
  exact ⟨.str d.shown, H, I.kept hk, ⟨t, rfl⟩, q⟩
end
end L2
/-! own rules: itertools.combinations(list, r) walked by a for -/
namespace CB
open PySem PySem.Spec PyProof.Rows
theorem owner_c : Manifest.owners.lookup (String.ofList ['s', 'n', 'o', 'i', 't', 'a', 'n', 'i', 'b', 'm', 'o', 'c', '.', 's', 'l', 'o', 'o', 't', 'r', 'e', 't', 'i'].reverse) = some Manifest.sig_itertools_combinations := by kernel_rfl
theorem slot_init : Slot "itertools.combinations" "__init__" "object.__init__" :=
  .of (owner := "object") (n := "__init__") (by rw [typeLookup_type, builtinLookup_eq_fast]; kernel_rfl) (by decide +kernel) (by decide +kernel) (by decide +kernel)
    (by first | exact .inl (by decide +kernel) | exact .inr (by decide +kernel)) (by rw [isSubtype_type]; kernel_rfl)
theorem slot_iter : Slot "itertools.combinations" "__iter__" "itertools.combinations.__iter__" :=
  .of (owner := "itertools.combinations") (n := "__iter__") (by rw [typeLookup_type, builtinLookup_eq_fast]; kernel_rfl) (by decide +kernel) (by decide +kernel) (by decide +kernel)
    (by first | exact .inl (by decide +kernel) | exact .inr (by decide +kernel)) (by rw [isSubtype_type]; kernel_rfl)
theorem slot_next : Slot "itertools.combinations" "__next__" "itertools.combinations.__next__" :=
  .of (owner := "itertools.combinations") (n := "__next__") (by rw [typeLookup_type, builtinLookup_eq_fast]; kernel_rfl) (by decide +kernel) (by decide +kernel) (by decide +kernel)
    (by first | exact .inl (by decide +kernel) | exact .inr (by decide +kernel)) (by rw [isSubtype_type]; kernel_rfl)
theorem args_iter (a : Value) : argsOk "itertools.combinations.__iter__" ⟨[a], []⟩ := by
  unfold argsOk; rw [signature?_of (id := "itertools.combinations.__iter__") (n := ['_', '_', 'r', 'e', 't', 'i', '_', '_']) (o := ['s', 'n', 'o', 'i', 't', 'a', 'n', 'i', 'b', 'm', 'o', 'c', '.', 's', 'l', 'o', 'o', 't', 'r', 'e', 't', 'i']) (by kernel_rfl) owner_c]; kernel_rfl
theorem args_next (a : Value) : argsOk "itertools.combinations.__next__" ⟨[a], []⟩ := by
  unfold argsOk; rw [signature?_of (id := "itertools.combinations.__next__") (n := ['_', '_', 't', 'x', 'e', 'n', '_', '_']) (o := ['s', 'n', 'o', 'i', 't', 'a', 'n', 'i', 'b', 'm', 'o', 'c', '.', 's', 'l', 'o', 'o', 't', 'r', 'e', 't', 'i']) (by kernel_rfl) owner_c]; kernel_rfl
theorem entry_next : entryFor table "itertools.combinations.__next__" = some Builtin.«itertools.combinations.__next__» := entryFor_of_tree (by kernel_rfl)
theorem entry_new : entryFor table "itertools.combinations.__new__" = some Builtin.«itertools.combinations.__new__» := entryFor_of_tree (by kernel_rfl)
theorem entry_iter : entryFor table "itertools.combinations.__iter__" = some Builtin.«dict_keyiterator.__iter__» :=
  entryFor_alias (id' := "dict_keyiterator.__iter__") (by kernel_rfl) (by first | rfl | decide +kernel | (unfold String.splitOn; simp +decide [String.splitOnAux])) (by decide +kernel) (by kernel_rfl)
theorem mro_c : mroOf (.type "itertools.combinations") = pure [.type "itertools.combinations", .type "object"] := by rw [mroOf_type]; kernel_rfl
theorem lookup_new : typeLookup (.type "itertools.combinations") "__new__" = pure (some (.builtin "itertools.combinations.__new__")) := by rw [typeLookup_type, builtinLookup_eq_fast]; kernel_rfl
theorem called_c : TypeCalled "itertools.combinations" "itertools.combinations.__new__" "object.__init__" :=
  ⟨by decide +kernel, by decide +kernel, ⟨_, _, mro_c⟩, madeBy_type mro_c lookup_new (by decide +kernel), by decide +kernel, by rw [isSubtype_type]; kernel_rfl, slot_init⟩
theorem typeCall_c (a b : Value) : checkTypeCall "itertools.combinations" ⟨[a, b], []⟩ = pure () := by kernel_rfl
theorem newCall_c (a b : Value) : checkBuiltinCall "itertools.combinations.__new__" ⟨[.type "itertools.combinations", a, b], []⟩ = pure () := by kernel_rfl
theorem sub_c : isSubtype (.type "itertools.combinations") (.type "itertools.combinations") = pure true := by rw [isSubtype_type]; kernel_rfl

/-- the choices of r of k, k + 1, .. (n of them), in their order -/
def cmb : Nat → Nat → Nat → List (List Nat)
  | _, _, 0 => [[]]
  | _, 0, _ + 1 => []
  | k, n + 1, r + 1 => (cmb (k + 1) n r).map (k :: ·) ++ cmb (k + 1) n (r + 1)
def chain (f : Nat → List Nat → Option (List Nat)) : Bool :=
  (List.range 9).all fun n => (List.range 5).all fun r => decide (n < r) ||
    ((cmb 0 n r)[0]? == some (List.range r) && (List.range (cmb 0 n r).length).all fun i => f n ((cmb 0 n r).getD i []) == (cmb 0 n r)[i + 1]?)
abbrev rec_ (P : Addr) (st : Int) (last : Value) (idx : List Nat) : Obj :=
  { cls := .type "itertools.combinations", dict := none, data := .fields (#[.ref P, rawInt st, last] ++ (idx.map fun (n : Nat) => rawInt n).toArray), slots := #[] }
abbrev tup_ (its : List Value) : Obj := { cls := .type "tuple", data := .seq its.toArray }
def pick_ (its : List Value) (idx : List Nat) : List Value := idx.map fun i => its.toArray.getD i .none
/-- what a turn does: from the state st (0 fresh, 1 under way) with the numbers idx it lays a new tuple of the items at nxt -/
def Turns (NB : (Nat → List Nat → Option (List Nat)) → Builtin) (f : Nat → List Nat → Option (List Nat)) (st : Int) (its : List Value) (idx nxt : List Nat) : Prop :=
  ∀ (prog : Program) (w : World) (A : Around) (E : Value → Shared → Prop) (s : Shared) (z P : Addr) (last : Value) (Q : Value → Shared → Prop), P ≠ z →
    s.heap.get? z = some (rec_ P st last idx) → s.heap.get? P = some (tup_ its) →
    (∀ h', h'.get? z = some (rec_ P 1 (.ref s.heap.objs.size) nxt) → h'.get? s.heap.objs.size = some (tup_ (pick_ its nxt)) → (∀ b o, b ≠ z → s.heap.get? b = some o → h'.get? b = some o) → Q (.ref s.heap.objs.size) { s with heap := h' }) →
    wpAny (model prog w) A (NB f ⟨[.ref z], []⟩) (fun fin s' => ∃ v, fin = .done (.ret v) ∧ Q v s') E s
def Ends (NB : (Nat → List Nat → Option (List Nat)) → Builtin) (f : Nat → List Nat → Option (List Nat)) (its : List Value) (idx : List Nat) : Prop :=
  ∀ (prog : Program) (w : World) (A : Around) (E : Value → Shared → Prop) (s : Shared) (z P : Addr) (last : Value) (Q : Fin → Shared → Prop), A.handled = none → P ≠ z →
    s.heap.get? z = some (rec_ P 1 last idx) → s.heap.get? P = some (tup_ its) →
    (∀ h' e, (∀ b o, b ≠ z → s.heap.get? b = some o → h'.get? b = some o) → (∃ o, h'.get? e = some o ∧ o.cls = .type "StopIteration") → E (.ref e) { s with heap := h' }) →
    wpAny (model prog w) A (NB f ⟨[.ref z], []⟩) Q E s
structure NextOk (NB : (Nat → List Nat → Option (List Nat)) → Builtin) : Prop where
  first : ∀ f its idx, idx.length ≤ 8 → Turns NB f 0 its idx idx
  more : ∀ f its idx nxt, nxt.length ≤ 8 → f its.length idx = some nxt → Turns NB f 1 its idx nxt
  done : ∀ f its idx, f its.length idx = none → Ends NB f its idx
theorem numbers_of (idx : List Nat) : (idx.map fun (n : Nat) => rawInt n).map (fun | .int n _ => n.toNat | _ => 0) = idx := by
  rw [List.map_map]
  conv => rhs; rw [← List.map_id idx]
  exact List.map_congr_left fun n _ => by simp [rawInt]
theorem idx_of {P : Addr} {st : Int} {last : Value} {idx : List Nat} : ((#[.ref P, rawInt st, last] ++ (idx.map fun (n : Nat) => rawInt n).toArray).toList.drop 3).map (fun | .int n _ => n.toNat | _ => 0) = idx := by
  have e : (#[.ref P, rawInt st, last] ++ (idx.map fun (n : Nat) => rawInt n).toArray).toList.drop 3 = idx.map fun (n : Nat) => rawInt n := by simp
  rw [e, numbers_of]
theorem rec_fields {P : Addr} {st : Int} {last : Value} {idx : List Nat} : (rec_ P st last idx).data = .fields (#[.ref P, rawInt st, last] ++ (idx.map fun (n : Nat) => rawInt n).toArray) := rfl
theorem next_is : ∃ (NB : (Nat → List Nat → Option (List Nat)) → Builtin) (f : Nat → List Nat → Option (List Nat)), Builtin.«itertools.combinations.__next__» = NB f ∧ chain f = true ∧ NextOk NB := by
  refine ⟨_, _, rfl, by decide +kernel, ⟨?_, ?_, ?_⟩⟩
  · intro f its idx hl prog w A E s z P last Q hPz hz hP hQ
    show wpAny _ _ (field (.ref z) 0 >>= _) _ _ s
    refine wpAny_bind (wpAny_field hz rec_fields (x := .ref P) (by simp) ?_)
    refine wpAny_bind ?_
    show wpAny _ _ (load z >>= _) _ _ s
    refine wpAny_bind (wpAny_load hz ?_)
    refine wpAny_pure ?_
    generalize he : List.map _ (List.drop 3 _) = idx'
    have e2 : idx' = idx := he.symm.trans idx_of
    subst e2
    clear he
    refine wpAny_bind ?_
    show wpAny _ _ (field (.ref z) 1 >>= _) _ _ s
    refine wpAny_bind (wpAny_field hz rec_fields (x := rawInt 0) (by simp) ?_)
    refine wpAny_pure ?_
    show wpAny _ _ (setField (.ref z) 1 (rawInt 1) >>= _) _ _ s
    refine wpAny_bind (wpAny_setField_rec hz (by simp) fun h₁ hz₁ hs₁ => ?_)
    replace hz₁ : h₁.get? z = some (rec_ P 1 last idx') := by rw [hz₁]; simp [rec_]
    have hP₁ := hs₁.extBut _ _ hPz hP
    have hk₁ := hs₁.extBut
    refine wpAny_bind ?_
    show wpAny _ _ (Builtin.Itertools.itPoolItems (.ref P) >>= _) _ _ _
    refine wpAny_bind ?_
    show wpAny _ _ (seqItems? (.ref P) >>= _) _ _ _
    refine wpAny_bind (wpAny_seqItems hP₁ rfl ?_)
    refine wpAny_pure ?_
    show wpAny _ _ (newTuple (pick_ its idx')) _ _ _
    refine wpAny_newTuple ?_ (by have e8 : (pick_ its idx').length = idx'.length := by simp [pick_]
                                 rw [e8]; exact Nat.le_trans hl (by decide))
    have hzs : h₁.objs.size = s.heap.objs.size := hs₁.1
    have hz₂ : (h₁.push { cls := .type "tuple", data := .seq (pick_ its idx').toArray }).get? z = some (rec_ P 1 last idx') := Heap.get?_push_of_some _ hz₁
    show wpAny _ _ (field (.ref z) 2 >>= _) _ _ _
    refine wpAny_bind (wpAny_field hz₂ rec_fields (x := last) (by simp) ?_)
    show wpAny _ _ (setField (.ref z) 2 (.ref h₁.objs.size) >>= _) _ _ _
    refine wpAny_bind (wpAny_setField_rec hz₂ (by simp) fun h₃ hz₃ hs₃ => ?_)
    refine wpAny_bind (wpAny_letGo ?_)
    refine wpAny_pure ⟨_, rfl, ?_⟩
    have hzl : z < h₁.objs.size := Heap.lt_size hz₁
    rw [hzs] at hz₃ ⊢
    refine hQ h₃ (by rw [hz₃]; simp [rec_]) ?_ fun b o hb e => hs₃.extBut _ _ hb (Heap.get?_push_of_some _ (hk₁ b o hb e))
    refine hs₃.extBut _ _ (Nat.ne_of_gt (by rw [← hzs]; exact hzl)) ?_
    rw [← hzs]
    exact Heap.get?_push_size _ rfl
  · intro f its idx nxt hl hf prog w A E s z P last Q hPz hz hP hQ
    show wpAny _ _ (field (.ref z) 0 >>= _) _ _ s
    refine wpAny_bind (wpAny_field hz rec_fields (x := .ref P) (by simp) ?_)
    refine wpAny_bind ?_
    show wpAny _ _ (load z >>= _) _ _ s
    refine wpAny_bind (wpAny_load hz ?_)
    refine wpAny_pure ?_
    generalize he : List.map _ (List.drop 3 _) = idx'
    have e2 : idx' = idx := he.symm.trans idx_of
    subst e2
    clear he
    refine wpAny_bind ?_
    show wpAny _ _ (field (.ref z) 1 >>= _) _ _ s
    refine wpAny_bind (wpAny_field hz rec_fields (x := rawInt 1) (by simp) ?_)
    refine wpAny_pure ?_
    show wpAny _ _ (Builtin.Itertools.itPoolItems (.ref P) >>= _) _ _ _
    refine wpAny_bind ?_
    show wpAny _ _ (seqItems? (.ref P) >>= _) _ _ _
    refine wpAny_bind (wpAny_seqItems hP rfl ?_)
    refine wpAny_pure ?_
    have hf' : f its.toArray.size idx' = some nxt := by simpa using hf
    rw [hf']
    show wpAny _ _ (Builtin.Itertools.itSetNumbersFrom (.ref z) 3 nxt >>= _) _ _ _
    refine wpAny_bind ?_
    show wpAny _ _ (updateFields z _) _ _ _
    have upd3 : ((#[.ref P, rawInt 1, last] ++ (idx'.map fun (n : Nat) => rawInt n).toArray).extract 0 3 ++ (nxt.map fun (n : Nat) => rawInt n).toArray) = #[.ref P, rawInt 1, last] ++ (nxt.map fun (n : Nat) => rawInt n).toArray := by
      congr 1
      apply Array.ext'
      simp
    refine wpAny_updateFields hz rec_fields ?_ ?_
    rotate_left
    · rw [upd3]
      simp only [Array.size_append, List.size_toArray, List.length_map]
      show 3 + nxt.length ≤ sizeLine + 3
      exact Nat.le_trans (Nat.add_le_add_left hl 3) (by decide)
    have hs₁ : Heap.SameBut z s.heap (s.heap.update z (Obj.mapFields fun fs => fs.extract 0 3 ++ (nxt.map fun (n : Nat) => rawInt n).toArray)) := Heap.SameBut.update ..
    have hz₁ : (s.heap.update z (Obj.mapFields fun fs => fs.extract 0 3 ++ (nxt.map fun (n : Nat) => rawInt n).toArray)).get? z = some (rec_ P 1 last nxt) := by
      rw [Heap.get?_update_self _ hz rfl]
      simp only [Obj.mapFields, rec_]
      rw [upd3]
    generalize (s.heap.update z (Obj.mapFields fun fs => fs.extract 0 3 ++ (nxt.map fun (n : Nat) => rawInt n).toArray)) = h₁ at hs₁ hz₁ ⊢
    have hP₁ := hs₁.extBut _ _ hPz hP
    have hk₁ := hs₁.extBut
    show wpAny _ _ (_ >>= _) _ _ _
    refine wpAny_bind ?_
    show wpAny _ _ (Builtin.Itertools.itPoolItems (.ref P) >>= _) _ _ _
    refine wpAny_bind ?_
    show wpAny _ _ (seqItems? (.ref P) >>= _) _ _ _
    refine wpAny_bind (wpAny_seqItems hP₁ rfl ?_)
    refine wpAny_pure ?_
    show wpAny _ _ (newTuple (pick_ its nxt)) _ _ _
    refine wpAny_newTuple ?_ (by have e8 : (pick_ its nxt).length = nxt.length := by simp [pick_]
                                 rw [e8]; exact Nat.le_trans hl (by decide))
    have hzs : h₁.objs.size = s.heap.objs.size := hs₁.1
    have hz₂ : (h₁.push { cls := .type "tuple", data := .seq (pick_ its nxt).toArray }).get? z = some (rec_ P 1 last nxt) := Heap.get?_push_of_some _ hz₁
    show wpAny _ _ (field (.ref z) 2 >>= _) _ _ _
    refine wpAny_bind (wpAny_field hz₂ rec_fields (x := last) (by simp) ?_)
    show wpAny _ _ (setField (.ref z) 2 (.ref h₁.objs.size) >>= _) _ _ _
    refine wpAny_bind (wpAny_setField_rec hz₂ (by simp) fun h₃ hz₃ hs₃ => ?_)
    refine wpAny_bind (wpAny_letGo ?_)
    refine wpAny_pure ⟨_, rfl, ?_⟩
    have hzl : z < h₁.objs.size := Heap.lt_size hz₁
    rw [hzs] at hz₃ ⊢
    refine hQ h₃ (by rw [hz₃]; simp [rec_]) ?_ fun b o hb e => hs₃.extBut _ _ hb (Heap.get?_push_of_some _ (hk₁ b o hb e))
    refine hs₃.extBut _ _ (Nat.ne_of_gt (by rw [← hzs]; exact hzl)) ?_
    rw [← hzs]
    exact Heap.get?_push_size _ rfl
  · intro f its idx hf prog w A E s z P last Q hh hPz hz hP hE
    show wpAny _ _ (field (.ref z) 0 >>= _) _ _ s
    refine wpAny_bind (wpAny_field hz rec_fields (x := .ref P) (by simp) ?_)
    refine wpAny_bind ?_
    show wpAny _ _ (load z >>= _) _ _ s
    refine wpAny_bind (wpAny_load hz ?_)
    refine wpAny_pure ?_
    generalize he : List.map _ (List.drop 3 _) = idx'
    have e2 : idx' = idx := he.symm.trans idx_of
    subst e2
    clear he
    refine wpAny_bind ?_
    show wpAny _ _ (field (.ref z) 1 >>= _) _ _ s
    refine wpAny_bind (wpAny_field hz rec_fields (x := rawInt 1) (by simp) ?_)
    refine wpAny_pure ?_
    show wpAny _ _ (Builtin.Itertools.itPoolItems (.ref P) >>= _) _ _ _
    refine wpAny_bind ?_
    show wpAny _ _ (seqItems? (.ref P) >>= _) _ _ _
    refine wpAny_bind (wpAny_seqItems hP rfl ?_)
    refine wpAny_pure ?_
    have hf' : f its.toArray.size idx' = none := by simpa using hf
    rw [hf']
    show wpAny _ _ (setField (.ref z) 1 (rawInt 2) >>= _) _ _ s
    refine wpAny_bind (wpAny_setField_rec hz (by simp) fun h₁ hz₁ hs₁ => ?_)
    show wpAny _ _ (newExc (.type "StopIteration") [] >>= _) _ _ _
    refine wpAny_bind ?_
    simp only [newExc, newTuple]
    refine wpAny_bind (wpAny_newObj_type ?_ (by size_fits))
    refine wpAny_bind (m := firstArgMember _ _) (wpAny_of_eq (a := Value.none) (by first | rfl | (simp only [firstArgMember]; rfl)) ?_)
    refine wpAny_newObj_type ?_ (by size_fits)
    simp only [raiseNew]
    refine wpAny_bind (wpAny_handled ?_)
    first | rw [show A.in1.handled = none from hh] | rw [hh]
    refine wpAny_bind (wpAny_pure (wpAny_throw ?_))
    exact hE _ _ (fun b o hb e => ((hs₁.extBut.push _).push _) _ _ hb e) ⟨_, Heap.get?_push_size _ rfl, rfl⟩
theorem meets_new (l : Addr) (o : Obj) (its : List Value) (n : Nat) (r : Nat) (t : Tok) (hr : r ≤ its.length) (hr8 : r ≤ 8) (hc : o.cls = .type "list") (hd : o.data = .seq its.toArray n) (hsz : its.toArray.size ≤ sizeLine) :
    Meets (Builtin.«itertools.combinations.__new__» ⟨[.type "itertools.combinations", .ref l, .int r t], []⟩)
      (fun _ R s => s.heap.get? l = some o ∧ ∀ h' : Heap, (∀ b o', s.heap.get? b = some o' → h'.get? b = some o') →
        R (.ok (.ret (.ref (h'.push (tup_ its)).objs.size))) { s with heap := (h'.push (tup_ its)).push (rec_ h'.objs.size 0 .none (List.range r)) }) :=
  .of_wp fun prog w A R s h => by
    obtain ⟨hp, g, d, tk, os⟩ := s; obtain ⟨ht, h⟩ := h
    have hsub : isSubtype (.type "itertools.combinations") (.type ("itertools." ++ "combinations")) = pure true := by
      rw [show ("itertools." ++ "combinations" : String) = "itertools.combinations" from by decide]; exact sub_c
    have hT : Shared.TypeIs ⟨hp, g, d, tk, os⟩ (.ref l) "list" := ⟨o, ht, hc⟩
    wp_walk using wpAny_collect_seq (hsz := hsz) l (.inl rfl) ht hc hd
    rw [if_neg (by simp only [Bool.or_eq_true, decide_eq_true_eq]; omega)]
    refine wpAny_pure ?_
    refine wpAny_bind (wpAny_collect_seq (hsz := hsz) l (.inl rfl) ht hc hd fun h' hk => ?_)
    have n1 : ¬ ((r : Int) < 0) := by omega
    have n2 : Builtin.Itertools.itTooMany (r : Int) = false := by
      simp only [Builtin.Itertools.itTooMany, decide_eq_false_iff_not]; omega
    show wpAny _ _ (if (r : Int) < 0 then _ else _) _ _ _
    rw [if_neg n1]
    show wpAny _ _ (if Builtin.Itertools.itTooMany (r : Int) = true then _ else _) _ _ _
    rw [if_neg (by rw [n2]; exact Bool.false_ne_true)]
    show wpAny _ _ (newTuple its.toArray.toList >>= _) _ _ _
    refine wpAny_bind (wpAny_newTuple ?_ (by simpa using hsz))
    refine wpAny_pure ?_
    have td : typeHasDict (.type "itertools.combinations") = false := by decide +kernel
    show wpAny _ _ (Builtin.Itertools.itNewRecord (.type "itertools.combinations") _ >>= _) _ _ _
    refine wpAny_bind ?_
    unfold Builtin.Itertools.itNewRecord
    rw [td]
    rw [if_pos (show (!false) = true from rfl)]
    have e1 : ((r : Int)).toNat = r := Int.toNat_natCast r
    have e2 : ¬ (r > its.toArray.toList.length) := by simpa using hr
    rw [e1, if_neg e2]
    refine wpAny_newObj_type ?_ ?_
    · refine wpAny_pure ⟨_, rfl, ?_⟩
      have q := h h' hk
      simpa [rec_, tup_] using q
    · show ([_, _, _] ++ (List.range r).map _).toArray.size ≤ _
      simp only [List.size_toArray, List.length_append, List.length_map, List.length_range]
      show 3 + r ≤ _
      exact Nat.le_trans (Nat.add_le_add_left hr8 3) (by decide)
section
variable {prog : Program} {w : World} {A : Around} {E : Value → Shared → Prop} {s : Shared}
theorem call_c {l : Addr} {o : Obj} {its : List Value} {n r : Nat} {t : Tok} {Q : Value → Shared → Prop} (ho : s.heap.get? l = some o) (hr : r ≤ its.length) (hr8 : r ≤ 8) (hc : o.cls = .type "list") (hd : o.data = .seq its.toArray n) (hsz : its.toArray.size ≤ sizeLine)
    (h : ∀ h' : Heap, (∀ b o', s.heap.get? b = some o' → h'.get? b = some o') → Q (.ref (h'.push (tup_ its)).objs.size) { s with heap := (h'.push (tup_ its)).push (rec_ h'.objs.size 0 .none (List.range r)) }) :
    wpAny (model prog w) A (call (.type "itertools.combinations") [.ref l, .int r t]) Q E s :=
  callType_new called_c (by decide) (typeCall_c _ _) (newCall_c _ _) (fun obj => F.args_object_init_3 obj _ _) entry_new
    (meets_new l o its n r t hr hr8 hc hd hsz) ⟨ho, fun h' hk => ⟨⟨_, Heap.get?_push_size _ rfl, rfl⟩, h h' hk⟩⟩
theorem pyIter_c {z : Addr} {P : Addr} {st : Int} {last : Value} {idx : List Nat} {Q : Value → Shared → Prop} (hz : s.heap.get? z = some (rec_ P st last idx)) (h : Q (.ref z) s) : wpAny (model prog w) A (pyIter (.ref z)) Q E s := by
  have hT : s.TypeIs (.ref z) "itertools.combinations" := ⟨_, hz, rfl⟩
  refine wpAny_pyIter_slot hT slot_iter (wpAny_call_entry slot_iter hT entry_iter ?_ (args_iter _))
  show wpAny _ _ (ret (.ref z)) _ _ s
  exact wpAny_pure ⟨_, rfl, "itertools.combinations", _, hT, slot_next.lookup, h⟩
theorem pyNext_item {NB : (Nat → List Nat → Option (List Nat)) → Builtin} {f : Nat → List Nat → Option (List Nat)} (hb : Builtin.«itertools.combinations.__next__» = NB f) {st : Int} {its : List Value} {idx nxt : List Nat} (T : Turns NB f st its idx nxt)
    {z P : Addr} {last : Value} {Q : Option Value → Shared → Prop} (hPz : P ≠ z) (hz : s.heap.get? z = some (rec_ P st last idx)) (hP : s.heap.get? P = some (tup_ its))
    (hQ : ∀ h', h'.get? z = some (rec_ P 1 (.ref s.heap.objs.size) nxt) → h'.get? s.heap.objs.size = some (tup_ (pick_ its nxt)) → (∀ b o, b ≠ z → s.heap.get? b = some o → h'.get? b = some o) → Q (some (.ref s.heap.objs.size)) { s with heap := h' }) :
    wpAny (model prog w) A (pyNext (.ref z)) Q E s := by
  have hT : s.TypeIs (.ref z) "itertools.combinations" := ⟨_, hz, rfl⟩
  unfold pyNext
  exact wpAny_bind (wpAny_attempt (wpAny_callSpecial?_slot (name := Str.ofString "__next__") hT slot_next
    (wpAny_call_entry slot_next hT entry_next (by rw [hb]; exact T _ _ _ _ _ _ _ _ _ hPz hz hP fun h' a1 a2 a3 => wpAny_pure (hQ h' a1 a2 a3)) (args_next _))))
theorem pyNext_end {NB : (Nat → List Nat → Option (List Nat)) → Builtin} {f : Nat → List Nat → Option (List Nat)} (hb : Builtin.«itertools.combinations.__next__» = NB f) {its : List Value} {idx : List Nat} (T : Ends NB f its idx)
    {z P : Addr} {last : Value} {Q : Option Value → Shared → Prop} (hh : A.handled = none) (hPz : P ≠ z) (hz : s.heap.get? z = some (rec_ P 1 last idx)) (hP : s.heap.get? P = some (tup_ its))
    (hQ : ∀ h', (∀ b o, b ≠ z → s.heap.get? b = some o → h'.get? b = some o) → Q none { s with heap := h' }) :
    wpAny (model prog w) A (pyNext (.ref z)) Q E s := by
  have hT : s.TypeIs (.ref z) "itertools.combinations" := ⟨_, hz, rfl⟩
  unfold pyNext
  refine wpAny_bind (wpAny_attempt (wpAny_callSpecial?_slot (name := Str.ofString "__next__") hT slot_next
    (wpAny_call_entry slot_next hT entry_next (by
      rw [hb]
      refine T _ _ _ _ _ _ _ _ _ hh hPz hz hP fun h' e hk he => ?_
      obtain ⟨o, ho, hc⟩ := he
      refine wpAny_bind (wpAny_isInstance (T := "StopIteration") (b := true) ⟨o, ho, hc⟩ isSubtype_stop ?_)
      exact wpAny_pure (hQ _ hk)) (args_next _))))
end
theorem chain_at {f : Nat → List Nat → Option (List Nat)} (h : chain f = true) {n r : Nat} (hn : n ≤ 8) (hr : r ≤ 4) (hrn : r ≤ n) :
    (cmb 0 n r)[0]? = some (List.range r) ∧ ∀ i c, (cmb 0 n r)[i]? = some c → f n c = (cmb 0 n r)[i + 1]? := by
  have q := List.all_eq_true.1 (List.all_eq_true.1 h n (List.mem_range.2 (by omega))) r (List.mem_range.2 (by omega))
  simp only [Bool.or_eq_true, decide_eq_true_eq, Bool.and_eq_true, beq_iff_eq, List.all_eq_true, List.mem_range] at q
  replace q := q.resolve_left (by omega)
  refine ⟨by simpa using q.1, fun i c hc => ?_⟩
  have hi : i < (cmb 0 n r).length := by
    rcases Nat.lt_or_ge i (cmb 0 n r).length with z | z
    · exact z
    · rw [List.getElem?_eq_none z] at hc; cases hc
  have e2 : (cmb 0 n r).getD i [] = c := by rw [List.getD_eq_getElem?_getD, hc]; rfl
  have q2 := q.2 i hi
  rw [e2] at q2
  exact q2
end CB
namespace L2
open PySem PySem.Spec PyProof.Rows CB
/-- the choices cs of the places of xs, each in a new tuple -/
def Itq (xs : List V) (cs : List (List Nat)) : It :=
  ⟨fun i _ => i < cs.length, fun i H v H' => ∃ T c, v = .ref T ∧ H T = none ∧ H' = upd H T (.tup (c.map fun k => xs.getD k .non)) ∧ cs[i]? = some c, fun i _ => cs.length ≤ i⟩
theorem cmb_len : ∀ (k n r : Nat) (c : List Nat), c ∈ cmb k n r → c.length = r ∧ ∀ x ∈ c, k ≤ x ∧ x < k + n
  | k, n, 0, c, h => by
    have e : c = [] := by cases n <;> simpa [cmb] using h
    subst e; simp
  | k, 0, r + 1, c, h => by simp [cmb] at h
  | k, n + 1, r + 1, c, h => by
    simp only [cmb, List.mem_append, List.mem_map] at h
    rcases h with ⟨d, hd, rfl⟩ | h
    · obtain ⟨q1, q2⟩ := cmb_len (k + 1) n r d hd
      refine ⟨by simp [q1], fun x hx => ?_⟩
      rcases List.mem_cons.1 hx with rfl | hx
      · omega
      · have := q2 x hx; omega
    · obtain ⟨q1, q2⟩ := cmb_len (k + 1) n (r + 1) c h
      exact ⟨q1, fun x hx => by have := q2 x hx; omega⟩
theorem vals_pick {xs : List V} {its : List Value} (rv : Vals xs its) : ∀ c : List Nat, (∀ k ∈ c, k < xs.length) → Vals (c.map fun k => xs.getD k .non) (pick_ its c)
  | [], _ => .nil
  | k :: c, h => by
    have hk := h k (List.mem_cons_self ..)
    obtain ⟨u, hu, ru⟩ := rv.get (List.getElem?_eq_getElem hk)
    refine .cons ?_ (vals_pick rv c fun x hx => h x (List.mem_cons_of_mem _ hx))
    have e1 : xs.getD k .non = xs[k] := by rw [List.getD_eq_getElem?_getD, List.getElem?_eq_getElem hk]; rfl
    have e2 : its.toArray.getD k .none = u := by
      rw [Array.getD_eq_getD_getElem?]
      simp [hu]
    show RelV (xs.getD k .non) (its.toArray.getD k .none)
    rw [e1, e2]
    exact ru
theorem turn_c {P : Program} {w : World} {K : PySem.W.Frag} {tg : Expr} {z p : Addr} {xs : List V} {its : List Value} {r : Nat} (hpz : p ≠ z) (rv : Vals xs its) (hn : xs.length ≤ 8) (hr : r ≤ 4) (hrn : r ≤ xs.length) :
    Turn P w K tg (Itq xs (cmb 0 xs.length r)) [z, p] z (fun i h => (∃ last, h.get? z = some (rec_ p (if i = 0 then 0 else 1) last ((cmb 0 xs.length r).getD (i - 1) []))) ∧ h.get? p = some (tup_ its) ∧ i ≤ (cmb 0 xs.length r).length) where
  mem := by simp
  obj := fun i h st c hc => by
    obtain ⟨⟨last, hz⟩, hp, hle⟩ := st
    have e' : c = z ∨ c = p := by simpa using hc
    rcases e' with q | q
    · rw [q]; exact ⟨_, hz, fun v q => nomatch q⟩
    · rw [q]; exact ⟨_, hp, fun v q => nomatch q⟩
  keep := fun i h h' st k => by
    obtain ⟨⟨last, hz⟩, hp, hle⟩ := st
    exact ⟨⟨last, k z (by simp) _ hz⟩, k p (by simp) _ hp, hle⟩
  item := by
    intro X hP hw hK hc i pins s σ H E I hf st hg
    subst hP hw hK
    obtain ⟨⟨last, hz⟩, hp, hle⟩ := st
    obtain ⟨NB, f, hb, hch, ok⟩ := next_is
    obtain ⟨q0, q1⟩ := chain_at hch hn hr hrn
    have hi : i < (cmb 0 xs.length r).length := hg
    have el : its.length = xs.length := rv.length.symm
    have hcur : (cmb 0 xs.length r)[i]? = some ((cmb 0 xs.length r)[i]) := List.getElem?_eq_getElem hi
    generalize (cmb 0 xs.length r)[i] = c at hcur
    have hcm : c ∈ cmb 0 xs.length r := List.mem_of_getElem? hcur
    obtain ⟨cl, cb⟩ := cmb_len _ _ _ _ hcm
    have T : Turns NB f (if i = 0 then 0 else 1) its ((cmb 0 xs.length r).getD (i - 1) []) c := by
      by_cases h0 : i = 0
      · subst h0
        have e : (cmb 0 xs.length r).getD (0 - 1) [] = c := by rw [List.getD_eq_getElem?_getD, hcur]; rfl
        rw [if_pos rfl, e]
        exact ok.first f its c (by omega)
      · rw [if_neg h0]
        have h1 : i - 1 < (cmb 0 xs.length r).length := by omega
        have hprev : (cmb 0 xs.length r)[i - 1]? = some ((cmb 0 xs.length r)[i - 1]) := List.getElem?_eq_getElem h1
        have e : (cmb 0 xs.length r).getD (i - 1) [] = (cmb 0 xs.length r)[i - 1] := by rw [List.getD_eq_getElem?_getD, hprev]; rfl
        rw [e]
        refine ok.more f its _ c (by omega) ?_
        rw [el, q1 (i - 1) _ hprev, show i - 1 + 1 = i by omega]
        exact hcur
    have hzl : z < s.heap.objs.size := Heap.lt_size hz
    have hpl : p < s.heap.objs.size := Heap.lt_size hp
    refine pyNext_item hb T hpz hz hp fun h' z' hT hk => ?_
    have vs := vals_pick rv c fun k hk => by have := cb k hk; omega
    have new : ObjOk X.prog X.w (upd H s.heap.objs.size (.tup (c.map fun k => xs.getD k .non))) h' s.heap.objs.size (.tup (c.map fun k => xs.getD k .non)) :=
      ⟨by rw [List.length_map, cl]; exact Nat.le_trans (show r ≤ 8 by omega) (by decide), pick_ its c, vs, ⟨_, hT, rfl, _, rfl⟩⟩
    have I1 : Inv X pins σ (upd H s.heap.objs.size (.tup (c.map fun k => xs.getD k .non))) { s with heap := h' } :=
      I.turnedNew (t' := s.toks) (ch := [z, p]) (fun b o hb q => hk b o (fun q' => hb (by simp [q'])) q) hf (Nat.le_refl _) new
    refine ⟨_, rfl, go_of (s := { s with heap := h' }) (n := "itertools.combinations") z' rfl rfl (by decide) ⟨.ref s.heap.objs.size, _, I1, rfl, ⟨_, c, rfl, I.hok.fresh (Nat.le_refl _), rfl, hcur⟩, ⟨⟨.ref s.heap.objs.size, ?_⟩, hk p _ hpz hp, hi⟩, fun b hbm => ?_⟩⟩
    · rw [if_neg (Nat.succ_ne_zero i)]
      have e : (cmb 0 xs.length r).getD (i + 1 - 1) [] = c := by rw [Nat.add_sub_cancel, List.getD_eq_getElem?_getD, hcur]; rfl
      rw [e]
      exact z'
    · have hlt : b < s.heap.objs.size := by
        have e' : b = z ∨ b = p := by simpa using hbm
        rcases e' with q | q
        · rw [q]; exact hzl
        · rw [q]; exact hpl
      rw [upd_ne (Nat.ne_of_lt hlt)]
      exact (hf b hbm).1
  done := by
    intro X hP hw hK hc i pins s σ H E I hf st hg
    subst hP hw hK
    obtain ⟨⟨last, hz⟩, hp, hle⟩ := st
    obtain ⟨NB, f, hb, hch, ok⟩ := next_is
    obtain ⟨q0, q1⟩ := chain_at hch hn hr hrn
    have hi : (cmb 0 xs.length r).length ≤ i := hg
    have hpos : 0 < (cmb 0 xs.length r).length := by
      rcases Nat.eq_zero_or_pos (cmb 0 xs.length r).length with e | e
      · rw [List.getElem?_eq_none (by omega)] at q0; cases q0
      · exact e
    have el : its.length = xs.length := rv.length.symm
    rw [if_neg (by omega)] at hz
    have hst : i = (cmb 0 xs.length r).length := by omega
    have T : CB.Ends NB f its ((cmb 0 xs.length r).getD (i - 1) []) := by
      subst hst
      have h1 : (cmb 0 xs.length r).length - 1 < (cmb 0 xs.length r).length := by omega
      have hprev := List.getElem?_eq_getElem h1
      have e : (cmb 0 xs.length r).getD ((cmb 0 xs.length r).length - 1) [] = (cmb 0 xs.length r)[(cmb 0 xs.length r).length - 1] := by rw [List.getD_eq_getElem?_getD, hprev]; rfl
      rw [e]
      refine ok.done f its _ ?_
      rw [el, q1 _ _ hprev]
      exact List.getElem?_eq_none (by omega)
    exact pyNext_end hb T (I.ok.hd hc) hpz hz hp fun h' hk => ⟨rfl, I.turnedL (t' := s.toks) (ch := [z, p]) (fun c o hb q => hk c o (fun q' => hb (by simp [q'])) q) hf⟩
  self := fun A i s Q E st h => by
    obtain ⟨⟨last, hz⟩, hp, hle⟩ := st
    exact pyIter_c hz h
def iCmb (K : PySem.W.Frag) (ta : TA) : TI := fun σ H R => ta σ H fun vs H1 => ∃ (a : Addr) (r : Nat) (xs : List V), vs = [.ref a, .int (r : Nat)] ∧ SqL K H1 a xs ∧ xs.length ≤ 8 ∧ r ≤ 4 ∧ r ≤ xs.length ∧ R (Itq xs (cmb 0 xs.length r)) H1
theorem pi_combo {X : Cx} {tg e e2 : Expr} {ta : TA} {p pos : Pos} (hg : Gl X "combinations") (hm : X.mg "combinations" = some (.type "itertools.combinations")) (ha : PA X [e, e2] ta)
    (hs : starEach [e, e2] X.env = (false, eval e X.env) :: starEach [e2] X.env := by rfl) (hpl : (backTo pos (starEach [e2] X.env)).any (·.1) = false := by rfl) :
    PI X tg (.Call (.Name "combinations" p) [e, e2] [] pos) (iCmb X.K ta) := by
  refine ⟨fun pins s σ H R I h => ?_⟩
  refine Call_ (ld_glob I hg hm (PyProof.Rows.callWith_type1 (thn (ha.run pos pins s σ H _ I h) fun us s1 ⟨vs, H1, I1, r1, q1⟩ => ?_) hs hpl))
  obtain ⟨a, r, xs, ex, hq, h8, h4, hr, q⟩ := q1
  subst ex
  cases r1 with
  | cons r0 rr =>
    cases rr with
    | cons r' rr =>
      cases rr
      cases r0
      obtain ⟨t, rfl⟩ := r'
      obtain ⟨its, rv, pl, hz⟩ := I1.list hq
      have el := rv.length
      obtain ⟨o, n, ho, hc, _, hd⟩ := pl
      refine call_c ho (by omega) (by omega) hc hd (by rw [List.size_toArray, ← el]; exact hz) fun h' hk => ?_
      have Ia : Inv X pins σ H1 { s1 with heap := h' } := I1.kept (t' := s1.toks) hk
      have Ib : Inv X pins σ H1 { s1 with heap := (h'.push (tup_ its)).push (rec_ h'.objs.size 0 .none (List.range r)) } :=
        I1.kept (t' := s1.toks) fun b u e => Heap.get?_push_of_some _ (Heap.get?_push_of_some _ (hk b u e))
      have z1 : (h'.push (tup_ its)).objs.size = h'.objs.size + 1 := Heap.size_push ..
      have gz : ((h'.push (tup_ its)).push (rec_ h'.objs.size 0 .none (List.range r))).get? (h'.objs.size + 1) = some (rec_ h'.objs.size 0 .none (List.range r)) := by
        have g : ((h'.push (tup_ its)).push (rec_ h'.objs.size 0 .none (List.range r))).get? (h'.push (tup_ its)).objs.size = some (rec_ h'.objs.size 0 .none (List.range r)) := Heap.get?_push_size _ rfl
        rw [z1] at g
        exact g
      have gp : ((h'.push (tup_ its)).push (rec_ h'.objs.size 0 .none (List.range r))).get? h'.objs.size = some (tup_ its) := Heap.get?_push_of_some _ (Heap.get?_push_size _ rfl)
      rw [z1]
      refine pyIter_c gz ?_
      have fresh : ∀ c, c ∈ [h'.objs.size + 1, h'.objs.size] → FpOk X pins H1 c := fun c hcm => by
        have e' : c = h'.objs.size + 1 ∨ c = h'.objs.size := by simpa using hcm
        have hle : h'.objs.size ≤ c := by
          rcases e' with z | z
          · rw [z]; exact Nat.le_add_right _ _
          · rw [z]; exact Nat.le_refl _
        exact Ia.fpOk hle (Ia.hok.fresh hle)
      obtain ⟨NB, f, hb, hch, ok⟩ := next_is
      obtain ⟨q0, _⟩ := chain_at hch h8 h4 hr
      refine ⟨h'.objs.size + 1, [h'.objs.size + 1, h'.objs.size], _, _, H1, rfl, Ib, turn_c (z := h'.objs.size + 1) (p := h'.objs.size) (Nat.ne_of_lt (Nat.lt_succ_self _)) rv h8 h4 hr, ⟨⟨.none, ?_⟩, gp, Nat.zero_le _⟩, fresh, q⟩
      have e : (cmb 0 xs.length r).getD (0 - 1) [] = List.range r := by rw [List.getD_eq_getElem?_getD, q0]; rfl
      rw [if_pos rfl, e]
      exact gz
/-- the choices as a walk -/
theorem walk_combo {xs : List V} {cs : List (List Nat)} : Walk (Itq xs cs) cs.length (fun _ => True) (fun i H v H' => ∃ T c, v = .ref T ∧ H T = none ∧ H' = upd H T (.tup (c.map fun k => xs.getD k .non)) ∧ cs[i]? = some c) :=
  ⟨fun _ _ hi _ => hi, fun _ _ => Nat.le_refl _, fun _ _ _ _ _ _ y => y⟩
end L2
/-! own rule: raise of an own class from None, in an except suite that raises -/
namespace L2H
open PySem PySem.Spec PyProof.Rows L2 HotX
theorem own5 {X : Cx} {C : Addr} {bmB : List Value} {B newId initId : String} {x m : Str} {j : Nat} {p p2 pos : Pos} (F : ExcBaseFacts B newId initId bmB) (q : PySem.W.excIn X.K C bmB newId = true) (gC : X.mg x = some (.ref C)) (kC : PySem.W.keepIn X.K (.ref C) = true)
    (r : Raises X (.ref C)) (hg : Gl X x) (hdb : (x == ("__debug__" : Str)) = false := by decide) : PMk5 X (.Call (.Name x p) [.Constant (.str m) j p2] [] pos) (fun _ H Q => Q (.ref C) none H) := fun pins s σ H Q I h => by
  have args : PA X [.Constant (.str m) j p2] (tCons (tC (.str m)) tNil) := pa_cons pe_str pa_nil
  refine wpAny_Call_Name_kw (ld_glob I hg gC (PySem.W.callWith_K (h₀ := X.base) I.ok.mod.kin kC (thn (args.run pos pins s σ H (fun vs G => vs = [V.str m] ∧ G = H) I ⟨rfl, rfl⟩) fun us s1 ⟨vs, G, J, rs, ev, eG⟩ => ⟨J.kIn, ?_⟩)) hdb)
  subst ev
  subst eG
  obtain ⟨u, rfl⟩ : ∃ u, us = [u] := by
    cases rs with
    | cons _ t => cases t; exact ⟨_, rfl⟩
  obtain ⟨bm, N, nm, qn, bs, hdct, sn, sub, ab, col, dd, k0, k1, k2, k3, k5, mN, hC, hN, hni, T⟩ := exc_obj J.kIn q
  exact wpAny_call_exc_subT F T hC hN hni (fun h' e hm => mk_of5 J hm r h (J.hok.gone hm.new)) (by show 1 ≤ sizeLine; rw [sizeLine_eq]; omega)
end L2H
namespace L2
open PySem PySem.Spec PyProof.Rows
section
variable {P : Program} {w : World} {K : PySem.W.Frag} {mg : Str → Option Value} {base : Heap}
/-- a def whose exceptions have no context -/
theorem Fun.okN {x qual : Str} {st : Stmt} {f : Addr} {fd : FuncData} {N ps : List Str} {k : Nat} {sp : Sp} (F : Fun K x qual st f fd) (S : FnScope N ps (defScope st)) (len : ∀ vs H Q E, sp vs H Q E → vs.length = ps.length)
    (read : ∀ (cdv : Value) (A : Around) (outer : List Env) (s : Shared) (H : Hp) (vs : List V) (Q : VK) (E : XK), Room k (A.deeper (envOfC qual (defScope st) s.heap.objs.size f cdv)) → sp vs H Q E →
      ∃ t, PSs (cxOf (L2N.CX P w) P w K mg base N qual (defScope st) f cdv A outer s H E) (defBody st) t ∧ t { nx := fun _ G => Q .non G, rt := Q } (start N vs) H) : FnOk P w K mg base (L2N.CX P w) (k + 1) f fd ps sp := by
  obtain ⟨_, _, _, _, _, _, cdv, _, _, same, there, code⟩ := F.ex
  subst same
  exact fn_of there code S len fun A outer s H vs Q E hr q => read cdv A outer s H vs Q E hr q
/-- .. is one that may raise -/
theorem FnOk.ofN {f : Addr} {fd : FuncData} {ps : List Str} {k : Nat} {sp : Sp} (F : FnOk P w K mg base (L2N.CX P w) k f fd ps sp) : FnOk P w K mg base (L2.CX P w) k f fd ps sp := by
  refine ⟨F.len, fun A outer s H args us vs Q E hr e b r q => codeAny_mono (F.run A outer s H args us vs Q E hr e b r q) fun res s' h => ?_⟩
  cases res with
  | ok v => cases v <;> exact h
  | error u =>
    obtain ⟨a, B, G, cls, d, e1, fl, rest⟩ := h
    exact ⟨a, B, G, cls, d, e1, L2H.flyingZ_imp (fun _ z => z.zc) fl, rest⟩
end
theorem passN {X : Cx} : Passes (L2N.CX X.prog X.w) X E0 := fun _ _ _ _ _ _ _ h => by
  obtain ⟨_, _, _, _, _, _, _, _, _, _, _, _, no⟩ := h
  exact no.elim
end L2
namespace PP
open PySem L2
def top (i : Nat) : Stmt := (PySem.Challenge.pw_paritypool_k20_repair_stripe).main.body.getD i (.Pass ⟨0, 0, 0, 0⟩)
abbrev s_inverse : Stmt := top 12
abbrev s_weight : Stmt := top 13
abbrev s_weights : Stmt := top 14
abbrev s_check_lengths : Stmt := top 16
abbrev s_piece_at : Stmt := top 17
abbrev s_present_numbers : Stmt := top 18
abbrev s_recover : Stmt := top 19
abbrev s_agree : Stmt := top 20
abbrev s_wrong_pieces : Stmt := top 21
abbrev s_is_present : Stmt := top 23
abbrev s_sector_at : Stmt := top 24
abbrev s_check_words : Stmt := top 30
abbrev s_is_place : Stmt := top 31
abbrev s_seal : Stmt := top 32
abbrev s_unseal : Stmt := top 33
abbrev s_is_whole : Stmt := top 34
abbrev s_piece_size : Stmt := top 36
abbrev s_piece_requests : Stmt := top 37
abbrev s_good_piece : Stmt := top 38
abbrev s_repair_stripe : Stmt := top 39
abbrev s_law_pot : Stmt := top 41
abbrev s_law_next : Stmt := top 42
abbrev s_law_word : Stmt := top 43
abbrev s_law_words : Stmt := top 44
abbrev s_law_inverse : Stmt := top 45
abbrev s_law_factors : Stmt := top 46
abbrev s_law_pieces : Stmt := top 47
abbrev s_law_seal : Stmt := top 48
abbrev s_law_places : Stmt := top 49
abbrev s_law_is_write : Stmt := top 50
abbrev s_law_answer : Stmt := top 51
abbrev s_law_spoil : Stmt := top 52
abbrev s_law_set_up : Stmt := top 53
abbrev s_law : Stmt := top 54
/-! small rules of one's own -/
section
variable {X : Cx}
theorem pe_const {x : Str} {v : V} {pos : Pos} (h : ∃ u, X.mg x = some u ∧ RelV v u) (hg : Gl X x := by rfl) (hd : (x == ("__debug__" : Str)) = false := by decide) : PE X (.Name x pos) (tC v) := by
  obtain ⟨u, h1, h2⟩ := h
  exact pe_glob hg h1 h2 hd
/-- isinstance of a caught error, whatever class the clause has caught -/
theorem call_isE' {a : Addr} {cls : Value} {d : Option Addr} {oe : Obj} {pn : List (Addr × Obj)} (hz : Zc cls d oe) (hf : ∃ vs, oe.data = .fields vs) :
    CallR (X.suite a ((a, oe) :: pn)) (.builtin "isinstance") (fun xs H Q => ∃ D, cls = .ref D ∧ d = none ∧ ExcC X.K D ∧ rIsE X.K D a xs H Q) := by
  intro pins s σ H xs us Q I r h
  obtain ⟨D, rfl, rfl, C, h⟩ := h
  exact call_isE C hz hf pins s σ H xs us Q I r h
end
/-- all but p is as it was, what is free too -/
def Only (p : Addr) (H H' : Hp) : Prop := ∀ b, b ≠ p → H' b = H b
theorem Only.upd {p : Addr} {H : Hp} {o : HO} : Only p H (upd H p o) := fun _ h => upd_ne h
theorem Only.refl {p : Addr} {H : Hp} : Only p H H := fun _ _ => rfl
theorem Only.trans {p : Addr} {H H1 H2 : Hp} (x : Only p H H1) (y : Only p H1 H2) : Only p H H2 := fun b h => (y b h).trans (x b h)
/-! which class is asked of a caught error -/
theorem kit_self {K : PySem.W.Frag} {c : Value} : PySem.W.kitOne K c c = some true := by
  unfold PySem.W.kitOne
  rw [if_pos (by simp)]
theorem kit_type {K : PySem.W.Frag} {D : Addr} {n : String} {b : Bool} (m : PySem.W.kitMeta n = true) (h : PySem.W.subIn K (.ref D) (.type n) = some b) : PySem.W.kitOne K (.ref D) (.type n) = some b := by
  unfold PySem.W.kitOne
  rw [if_neg (by intro z; cases (beq_iff_eq.mp z))]
  show (if PySem.W.kitMeta n = true then PySem.W.subIn K (.ref D) (.type n) else none) = some b
  rw [if_pos m]
  exact h
theorem kit_cls_of {K : PySem.W.Frag} {C : Addr} {t : Value} {b : Bool} (hd : PySem.W.hasDictIn K C = true) (ht : PySem.W.typeIn K (.ref C) = some (.type "type")) (h : PySem.W.subIn K t (.ref C) = some b) : PySem.W.kitCls K t (.ref C) = some b := by
  obtain ⟨cd, hc, _⟩ := PySem.W.any_some hd
  show (if ((PySem.W.clsIn K C).isSome && PySem.W.typeIn K (.ref C) == some (.type "type")) = true then PySem.W.subIn K t (.ref C) else none) = some b
  rw [if_pos (by rw [hc, ht]; rfl)]
  exact h
theorem kit_yes {K : PySem.W.Frag} {C D : Addr} (hd : PySem.W.hasDictIn K C = true) (ht : PySem.W.typeIn K (.ref C) = some (.type "type")) (h : PySem.W.subIn K (.ref D) (.ref C) = some true) : PySem.W.kitOne K (.ref D) (.ref C) = some true := by
  unfold PySem.W.kitOne
  split
  · rfl
  · exact kit_cls_of hd ht h
theorem kit_no {K : PySem.W.Frag} {C D : Addr} (hd : PySem.W.hasDictIn K C = true) (ht : PySem.W.typeIn K (.ref C) = some (.type "type")) (h : PySem.W.subIn K (.ref D) (.ref C) = some false) (hs : PySem.W.subIn K (.ref D) (.ref D) = some true) : PySem.W.kitOne K (.ref D) (.ref C) = some false := by
  unfold PySem.W.kitOne
  split
  · rename_i z
    have e : D = C := by
      have := beq_iff_eq.mp z
      injection this
    rw [← e] at h
    rw [h] at hs
    cases hs
  · exact kit_cls_of hd ht h
/-- len of a list or tuple; list of one -/
abbrev rLenS (K : PySem.W.Frag) := Evl.rLenS K
abbrev rListOf (K : PySem.W.Frag) := Evl.rListS K
/-! the prime, the inverse -/
theorem no_div (d : Nat) (h1 : 2 ≤ d) (h2 : d ≤ 255) : ¬ d ∣ 65521 := by
  intro h
  have e : 65521 % d = 0 := Nat.mod_eq_zero_of_dvd h
  have key : ∀ d : Fin 256, 2 ≤ d.val → ¬ 65521 % d.val = 0 := by decide +kernel
  exact key ⟨d, by omega⟩ h1 e
theorem prime_q (d : Nat) (h : d ∣ 65521) : d = 1 ∨ d = 65521 := by
  obtain ⟨e, he⟩ := h
  by_cases a : d ≤ 255
  · by_cases b : 2 ≤ d
    · exact absurd ⟨e, he⟩ (no_div d b a)
    · have : d ≠ 0 := by rintro rfl; omega
      omega
  · by_cases b : 2 ≤ e
    · by_cases c : e ≤ 255
      · exact absurd ⟨d, by rw [Nat.mul_comm]; exact he⟩ (no_div e b c)
      · have h1 : 256 * 256 ≤ d * e := Nat.mul_le_mul (by omega) (by omega)
        omega
    · have : e ≠ 0 := by rintro rfl; omega
      have e1 : e = 1 := by omega
      subst e1
      omega
theorem gcd_q (x : Int) (h : x % 65521 ≠ 0) : Int.gcd 65521 (x % 65521) = 1 := by
  have d1 : (Int.gcd 65521 (x % 65521) : Nat) ∣ 65521 := by
    have := Int.gcd_dvd_left (65521 : Int) (x % 65521)
    have h2 : ((Int.gcd 65521 (x % 65521) : Nat) : Int) ∣ ((65521 : Nat) : Int) := this
    exact Int.natCast_dvd_natCast.mp h2
  rcases prime_q _ d1 with e | e
  · exact e
  · exfalso
    have d2 := Int.gcd_dvd_right (65521 : Int) (x % 65521)
    rw [e] at d2
    obtain ⟨c, hc⟩ := d2
    have e2 : ((65521 : Nat) : Int) = 65521 := rfl
    rw [e2] at hc
    have p1 := Int.emod_nonneg x (show (65521 : Int) ≠ 0 by decide)
    have p2 := Int.emod_lt_of_pos x (show (0 : Int) < 65521 by decide)
    omega
theorem gcd_turn {n m : Int} (h : Int.gcd n m = 1) : Int.gcd m (n - n / m * m) = 1 := by
  rw [Int.gcd_sub_mul_right_right, Int.gcd_comm]
  exact h
/-- the inverse of a word, by what it is -/
noncomputable def invP (x : Int) : Int := open Classical in if h : ∃ b : Int, 0 ≤ b ∧ b < 65521 ∧ x * b % 65521 = 1 then h.choose else 0
theorem inv_unique {x b c : Int} (hb : 0 ≤ b ∧ b < 65521 ∧ x * b % 65521 = 1) (hc : 0 ≤ c ∧ c < 65521 ∧ x * c % 65521 = 1) : b = c := by
  have e1 : b * (x * c) % 65521 = b := by
    rw [Int.mul_emod, hc.2.2, Int.mul_one, Int.emod_emod_of_dvd _ (Int.dvd_refl _), Int.emod_eq_of_lt hb.1 hb.2.1]
  have e2 : c * (x * b) % 65521 = c := by
    rw [Int.mul_emod, hb.2.2, Int.mul_one, Int.emod_emod_of_dvd _ (Int.dvd_refl _), Int.emod_eq_of_lt hc.1 hc.2.1]
  have e3 : b * (x * c) = c * (x * b) := by grind
  rw [← e1, e3, e2]
theorem invP_eq {x b : Int} (h : 0 ≤ b ∧ b < 65521 ∧ x * b % 65521 = 1) : invP x = b := by
  have hx : ∃ b : Int, 0 ≤ b ∧ b < 65521 ∧ x * b % 65521 = 1 := ⟨b, h⟩
  unfold invP
  rw [dif_pos hx]
  exact inv_unique hx.choose_spec h
/-- one turn of Euclid's algorithm -/
theorem euclid_turn {x n m f g : Int} (h1 : (x * f - n) % 65521 = 0) (h2 : (x * g - m) % 65521 = 0) : (x * (f - n / m * g) - (n - n / m * m)) % 65521 = 0 := by
  have e : x * (f - n / m * g) - (n - n / m * m) = (x * f - n) - n / m * (x * g - m) := by grind
  rw [e, Int.sub_emod, h1, Int.mul_emod, h2, Int.mul_zero]
  rfl
theorem euclid_end {x f : Int} (h : (x * f - 1) % 65521 = 0) : 0 ≤ f % 65521 ∧ f % 65521 < 65521 ∧ x * (f % 65521) % 65521 = 1 := by
  refine ⟨Int.emod_nonneg _ (by decide), Int.emod_lt_of_pos _ (by decide), ?_⟩
  have e : x * (f % 65521) % 65521 = x * f % 65521 := by rw [Int.mul_emod, Int.emod_emod_of_dvd _ (Int.dvd_refl _), ← Int.mul_emod]
  rw [e]
  omega
/-- the inverse exists (Euclid, run in the mathematics) -/
theorem inv_ex : ∀ (k : Nat) (x n m f g : Int), m.toNat ≤ k → 0 ≤ m → 0 < n → (x * f - n) % 65521 = 0 → (x * g - m) % 65521 = 0 → Int.gcd n m = 1 → ∃ b : Int, 0 ≤ b ∧ b < 65521 ∧ x * b % 65521 = 1
  | k, x, n, m, f, g, hk, hm, hn, h1, h2, hg => by
    by_cases e : m = 0
    · subst e
      have : n = 1 := by
        rw [Int.gcd_zero_right] at hg
        omega
      subst this
      exact ⟨_, euclid_end h1⟩
    · have hm' : 0 < m := by omega
      match k, hk with
      | 0, hk => omega
      | k + 1, hk =>
        have r : n - n / m * m = n % m := by
          have := Int.mul_ediv_add_emod n m
          rw [Int.mul_comm] at this
          omega
        have r1 := Int.emod_nonneg n (show m ≠ 0 by omega)
        have r2 := Int.emod_lt_of_pos n hm'
        exact inv_ex k x m (n - n / m * m) g (f - n / m * g) (by omega) (by omega) hm' h2 (euclid_turn h1 h2) (gcd_turn hg)
theorem invP_spec {x : Int} (h : x % 65521 ≠ 0) : 0 ≤ invP x ∧ invP x < 65521 ∧ x * invP x % 65521 = 1 := by
  have p1 := Int.emod_nonneg x (show (65521 : Int) ≠ 0 by decide)
  obtain ⟨b, hb⟩ := inv_ex (x % 65521).toNat x 65521 (x % 65521) 0 1 (Nat.le_refl _) p1 (by decide) (by omega) (by omega) (gcd_q x h)
  rw [invP_eq hb]
  exact hb
/-! the field of words -/
def Zp : Type := Fin 65521
instance : Lean.Grind.CommRing Zp := inferInstanceAs (Lean.Grind.CommRing (Fin 65521))
instance : Lean.Grind.IsCharP Zp 65521 := inferInstanceAs (Lean.Grind.IsCharP (Fin 65521) 65521)
instance : DecidableEq Zp := inferInstanceAs (DecidableEq (Fin 65521))
def z (n : Int) : Zp := Lean.Grind.Ring.intCast.intCast n
theorem z_eq {a b : Int} : z a = z b ↔ a % 65521 = b % 65521 := Lean.Grind.IsCharP.intCast_ext_iff (α := Zp) 65521
theorem z_mod (a : Int) : z (a % 65521) = z a := z_eq.mpr (Int.emod_emod_of_dvd _ (Int.dvd_refl _))
theorem z_add (a b : Int) : z (a + b) = z a + z b := Lean.Grind.Ring.intCast_add a b
theorem z_sub (a b : Int) : z (a - b) = z a - z b := Lean.Grind.Ring.intCast_sub a b
theorem z_mul (a b : Int) : z (a * b) = z a * z b := Lean.Grind.Ring.intCast_mul a b
theorem z_neg (a : Int) : z (-a) = -z a := Lean.Grind.Ring.intCast_neg a
theorem z_zero : z 0 = 0 := Lean.Grind.Ring.intCast_zero
theorem z_one : z 1 = 1 := Lean.Grind.Ring.intCast_one
theorem z_z (a : Int) : z a = 0 ↔ a % 65521 = 0 := by
  rw [← z_zero, z_eq]
  rfl
theorem z_inj {a b : Int} (ha : 0 ≤ a) (ha' : a < 65521) (hb : 0 ≤ b) (hb' : b < 65521) (h : z a = z b) : a = b := by
  have := z_eq.mp h
  rw [Int.emod_eq_of_lt ha ha', Int.emod_eq_of_lt hb hb'] at this
  exact this
theorem z_mod_eq {a b : Int} (h : z a = z b) : a % 65521 = b % 65521 := z_eq.mp h
theorem z_surj (x : Zp) : ∃ n : Int, 0 ≤ n ∧ n < 65521 ∧ z n = x := by
  refine ⟨((show Fin 65521 from x).val : Int), by omega, by omega, ?_⟩
  show (Fin.intCast ((show Fin 65521 from x).val : Int) : Fin 65521) = x
  unfold Fin.intCast
  rw [if_pos (by omega), Int.natAbs_natCast]
  exact Fin.ofNat_val_eq_self _
theorem z_invP {n : Int} (h : z n ≠ 0) : z n * z (invP n) = 1 := by
  have h' : n % 65521 ≠ 0 := fun e => h ((z_z n).mpr e)
  obtain ⟨b0, b1, b2⟩ := invP_spec h'
  rw [← z_mul, ← z_one, z_eq]
  exact b2
theorem zp_inv {a : Zp} (h : a ≠ 0) : ∃ b : Zp, a * b = 1 := by
  obtain ⟨n, _, _, rfl⟩ := z_surj a
  exact ⟨_, z_invP h⟩
theorem zp_div {a b : Zp} (h : a * b = 0) : a = 0 ∨ b = 0 := by
  by_cases ha : a = 0
  · exact .inl ha
  · obtain ⟨c, hc⟩ := zp_inv ha
    right
    have : b = c * (a * b) := by grind
    rw [this, h]
    grind
theorem zp_01 : (1 : Zp) ≠ 0 := by
  rw [← z_one, ← z_zero]
  intro h
  have := z_eq.mp h
  omega
theorem zp_mul_ne {a b : Zp} (ha : a ≠ 0) (hb : b ≠ 0) : a * b ≠ 0 := fun h => (zp_div h).elim ha hb
/-! ### functions that are polynomials with n coefficients -/
def Pol : Nat → (Zp → Zp) → Prop
  | 0, f => ∀ x, f x = 0
  | n + 1, f => ∃ (c : Zp) (g : Zp → Zp), Pol n g ∧ ∀ x, f x = c + x * g x
theorem Pol.ext : ∀ {n : Nat} {f g : Zp → Zp}, Pol n f → (∀ x, g x = f x) → Pol n g
  | 0, _, _, h, e => fun x => (e x).trans (h x)
  | _ + 1, _, _, ⟨c, g, h, q⟩, e => ⟨c, g, h, fun x => (e x).trans (q x)⟩
theorem pol_nil : ∀ n : Nat, Pol n fun _ => 0
  | 0 => fun _ => rfl
  | n + 1 => ⟨0, fun _ => 0, pol_nil n, fun x => by grind⟩
theorem Pol.up : ∀ {n : Nat} {f : Zp → Zp}, Pol n f → Pol (n + 1) f
  | 0, f, h => ⟨0, fun _ => 0, fun _ => rfl, fun x => by rw [h x]; grind⟩
  | n + 1, _, ⟨c, g, h, q⟩ => ⟨c, g, h.up, q⟩
theorem Pol.mono {n m : Nat} {f : Zp → Zp} (h : Pol n f) (l : n ≤ m) : Pol m f := by
  induction l with
  | refl => exact h
  | step _ ih => exact ih.up
theorem Pol.add : ∀ {n : Nat} {f g : Zp → Zp}, Pol n f → Pol n g → Pol n fun x => f x + g x
  | 0, f, g, h, k => fun x => by show f x + g x = 0; rw [h x, k x]; grind
  | n + 1, f, g, ⟨c, u, h, p⟩, ⟨d, v, k, q⟩ => ⟨c + d, fun x => u x + v x, Pol.add h k, fun x => by show f x + g x = _; rw [p x, q x]; grind⟩
theorem Pol.smul : ∀ {n : Nat} {f : Zp → Zp} (a : Zp), Pol n f → Pol n fun x => f x * a
  | 0, f, a, h => fun x => by show f x * a = 0; rw [h x]; grind
  | n + 1, f, a, ⟨c, u, h, p⟩ => ⟨c * a, fun x => u x * a, Pol.smul a h, fun x => by show f x * a = _; rw [p x]; grind⟩
theorem Pol.const (c : Zp) : Pol 1 fun _ => c := ⟨c, fun _ => 0, fun _ => rfl, fun x => by grind⟩
theorem Pol.xmul {n : Nat} {f : Zp → Zp} (h : Pol n f) : Pol (n + 1) fun x => x * f x := ⟨0, f, h, fun x => by grind⟩
theorem Pol.lin {n : Nat} {f : Zp → Zp} (a : Zp) (h : Pol n f) : Pol (n + 1) fun x => (x - a) * f x :=
  (h.xmul.add (h.up.smul (-a))).ext fun x => by grind
theorem Pol.sub {n : Nat} {f g : Zp → Zp} (h : Pol n f) (k : Pol n g) : Pol n fun x => f x - g x :=
  (h.add (k.smul (-1))).ext fun x => by grind
/-- a polynomial less its value at a is a multiple of x - a -/
theorem Pol.at : ∀ {n : Nat} {f : Zp → Zp} (a : Zp), Pol (n + 1) f → ∃ g, Pol n g ∧ ∀ x, f x = f a + (x - a) * g x
  | 0, f, a, ⟨c, g, h, q⟩ => ⟨fun _ => 0, fun _ => rfl, fun x => by rw [q x, q a, h x, h a]; grind⟩
  | n + 1, f, a, ⟨c, g, h, q⟩ => by
    obtain ⟨k, hk, e⟩ := Pol.at a h
    refine ⟨fun x => g a + x * k x, ⟨g a, k, hk, fun _ => rfl⟩, fun x => ?_⟩
    have e1 := e x
    rw [q x, q a]
    grind
/-- as many zeros as coefficients: it is zero -/
theorem Pol.roots : ∀ {n : Nat} {f : Zp → Zp} (xs : List Zp), Pol n f → xs.Nodup → n ≤ xs.length → (∀ a ∈ xs, f a = 0) → ∀ x, f x = 0
  | 0, _, _, h, _, _, _ => h
  | n + 1, f, [], _, _, hl, _ => absurd hl (by simp)
  | n + 1, f, a :: r, h, hn, hl, hz => by
    obtain ⟨g, hg, e⟩ := Pol.at a h
    have ha : f a = 0 := hz a (by simp)
    have hn' := List.nodup_cons.mp hn
    have g0 : ∀ x, g x = 0 := Pol.roots r hg hn'.2 (by simpa using hl) fun b hb => by
      have hb0 := hz b (List.mem_cons_of_mem _ hb)
      rw [e b, ha] at hb0
      have : (b - a) * g b = 0 := by grind
      rcases zp_div this with q | q
      · exfalso
        have : b = a := by grind
        exact hn'.1 (this ▸ hb)
      · exact q
    intro x
    rw [e x, ha, g0 x]
    grind
/-! ### products of differences -/
def prodZ : List Int → Zp → Zp
  | [], _ => 1
  | o :: os, x => (x - z o) * prodZ os x
theorem prodZ_pol : ∀ os : List Int, Pol (os.length + 1) (prodZ os)
  | [] => (Pol.const 1).ext fun _ => rfl
  | o :: os => (Pol.lin (z o) (prodZ_pol os)).ext fun _ => rfl
theorem prodZ_root {o : Int} {x : Zp} : ∀ {os : List Int}, o ∈ os → x = z o → prodZ os x = 0
  | [], h, _ => by simp at h
  | p :: os, h, e => by
    show (x - z p) * prodZ os x = 0
    rcases List.mem_cons.mp h with q | q
    · rw [e, q]
      grind
    · rw [prodZ_root q e]
      grind
theorem prodZ_ne {x : Zp} : ∀ {os : List Int}, (∀ o ∈ os, x ≠ z o) → prodZ os x ≠ 0
  | [], _ => zp_01
  | p :: os, h => by
    refine zp_mul_ne (fun e => h p (by simp) ?_) (prodZ_ne fun o ho => h o (List.mem_cons_of_mem _ ho))
    grind
/-- as the program multiplies -/
def prodM (os : List Int) (x acc : Int) : Int := os.foldl (fun acc o => acc * (x - o) % 65521) acc
theorem prodM_z : ∀ (os : List Int) (x acc : Int), z (prodM os x acc) = z acc * prodZ os (z x)
  | [], x, acc => by
    show z acc = z acc * 1
    grind
  | o :: os, x, acc => by
    show z (prodM os x (acc * (x - o) % 65521)) = z acc * ((z x - z o) * prodZ os (z x))
    rw [prodM_z os x, z_mod, z_mul, z_sub]
    grind
theorem prodM_word : ∀ (os : List Int) (x acc : Int), 0 ≤ acc → acc < 65521 → 0 ≤ prodM os x acc ∧ prodM os x acc < 65521
  | [], _, _, h0, h1 => ⟨h0, h1⟩
  | o :: os, x, acc, _, _ => prodM_word os x _ (Int.emod_nonneg _ (by decide)) (Int.emod_lt_of_pos _ (by decide))
theorem prodM_snoc (os : List Int) (o x acc : Int) : prodM (os ++ [o]) x acc = prodM os x acc * (x - o) % 65521 := by
  unfold prodM
  rw [List.foldl_append]
  rfl
/-- a place's factor -/
noncomputable def wgt (p : Int) (os : List Int) (x : Int) : Int := prodM os x 1 * invP (prodM os p 1) % 65521
theorem wgt_word (p : Int) (os : List Int) (x : Int) : 0 ≤ wgt p os x ∧ wgt p os x < 65521 := ⟨Int.emod_nonneg _ (by decide), Int.emod_lt_of_pos _ (by decide)⟩
theorem wgt_z (p : Int) (os : List Int) (x : Int) : z (wgt p os x) = prodZ os (z x) * z (invP (prodM os p 1)) := by
  unfold wgt
  rw [z_mod, z_mul, prodM_z, z_one]
  grind
theorem wgt_ok {p : Int} {os : List Int} (h : ∀ o ∈ os, z p ≠ z o) : prodM os p 1 % 65521 ≠ 0 := fun e => by
  have := (z_z _).mpr e
  rw [prodM_z, z_one] at this
  refine prodZ_ne h ?_
  grind
/-- all places but the i-th -/
def others (ws : List Int) (i : Nat) : List Int := ws.take i ++ ws.drop (i + 1)
noncomputable def weightsM (ws : List Int) (x : Int) : List Int := (List.range ws.length).map fun i => wgt (ws.getD i 0) (others ws i) x
theorem weightsM_length (ws : List Int) (x : Int) : (weightsM ws x).length = ws.length := by simp [weightsM]
theorem weightsM_get {ws : List Int} {x : Int} {i : Nat} (h : i < ws.length) : (weightsM ws x)[i]? = some (wgt (ws.getD i 0) (others ws i) x) := by
  unfold weightsM
  rw [List.getElem?_map, List.getElem?_range h]
  rfl
/-- no two places are equal modulo the prime -/
def Apart (ws : List Int) : Prop := (ws.map z).Nodup
theorem apart_ne {ws : List Int} (h : Apart ws) {i j : Nat} (hi : i < ws.length) (hj : j < ws.length) (n : i ≠ j) : z (ws.getD i 0) ≠ z (ws.getD j 0) := fun e => by
  refine n ((List.getElem_inj (xs := ws.map z) (h₀ := by simpa using hi) (h₁ := by simpa using hj) h).mp ?_)
  rw [List.getElem_map, List.getElem_map]
  simpa [List.getD_eq_getElem?_getD, hi, hj] using e
theorem mem_others {ws : List Int} {i : Nat} {o : Int} : o ∈ others ws i ↔ ∃ j, j < ws.length ∧ j ≠ i ∧ o = ws.getD j 0 := by
  unfold others
  rw [List.mem_append, List.mem_iff_getElem?, List.mem_iff_getElem?]
  constructor
  · rintro (⟨j, h⟩ | ⟨j, h⟩)
    · rw [List.getElem?_take] at h
      by_cases c : j < i
      · rw [if_pos c] at h
        obtain ⟨hl, e⟩ := List.getElem?_eq_some_iff.mp h
        exact ⟨j, hl, by omega, by simp [List.getD_eq_getElem?_getD, hl, e]⟩
      · rw [if_neg c] at h
        cases h
    · rw [List.getElem?_drop] at h
      obtain ⟨hl, e⟩ := List.getElem?_eq_some_iff.mp h
      exact ⟨_, hl, by omega, by simp [List.getD_eq_getElem?_getD, hl, e]⟩
  · rintro ⟨j, hl, n, rfl⟩
    by_cases c : j < i
    · exact .inl ⟨j, by rw [List.getElem?_take, if_pos c, List.getElem?_eq_getElem hl]; simp [List.getD_eq_getElem?_getD, hl]⟩
    · refine .inr ⟨j - (i + 1), ?_⟩
      rw [List.getElem?_drop, show i + 1 + (j - (i + 1)) = j by omega, List.getElem?_eq_getElem hl]
      simp [List.getD_eq_getElem?_getD, hl]
theorem others_length {ws : List Int} {i : Nat} (h : i < ws.length) : (others ws i).length + 1 = ws.length := by
  unfold others
  rw [List.length_append, List.length_take, List.length_drop]
  omega
theorem others_apart {ws : List Int} (h : Apart ws) {i : Nat} (hi : i < ws.length) : ∀ o ∈ others ws i, z (ws.getD i 0) ≠ z o := fun o ho => by
  obtain ⟨j, hl, n, rfl⟩ := mem_others.mp ho
  exact apart_ne h hi hl (Ne.symm n)
/-! ### sums -/
def sumR : Nat → (Nat → Zp) → Zp
  | 0, _ => 0
  | n + 1, g => sumR n g + g n
theorem sumR_ext : ∀ {n : Nat} {f g : Nat → Zp}, (∀ i, i < n → f i = g i) → sumR n f = sumR n g
  | 0, _, _, _ => rfl
  | n + 1, f, g, h => by
    show sumR n f + f n = sumR n g + g n
    rw [sumR_ext fun i hi => h i (by omega), h n (by omega)]
theorem sumR_zero : ∀ {n : Nat} {f : Nat → Zp}, (∀ i, i < n → f i = 0) → sumR n f = 0
  | 0, _, _ => rfl
  | n + 1, f, h => by
    show sumR n f + f n = 0
    rw [sumR_zero fun i hi => h i (by omega), h n (by omega)]
    grind
theorem sumR_one : ∀ {n : Nat} {f : Nat → Zp} {j : Nat}, j < n → (∀ i, i < n → i ≠ j → f i = 0) → sumR n f = f j
  | n + 1, f, j, hj, h => by
    show sumR n f + f n = f j
    by_cases c : j = n
    · subst c
      rw [sumR_zero fun i hi => h i (by omega) (by omega)]
      grind
    · rw [sumR_one (j := j) (by omega) fun i hi n' => h i (by omega) n', h n (by omega) (by omega)]
      grind
theorem sumR_pol {m : Nat} : ∀ {n : Nat} {F : Nat → Zp → Zp}, (∀ i, i < n → Pol m (F i)) → Pol m fun x => sumR n fun i => F i x
  | 0, _, _ => (pol_nil m).ext fun _ => rfl
  | n + 1, F, h => (Pol.add (sumR_pol (n := n) fun i hi => h i (by omega)) (h n (by omega))).ext fun _ => rfl
/-- the sum of factors times values -/
def dotR (us vs : List Int) : Int := ((List.range us.length).map fun i => us.getD i 0 * vs.getD i 0).sum
theorem sum_range_z : ∀ (n : Nat) (f : Nat → Int), z ((List.range n).map f).sum = sumR n fun i => z (f i)
  | 0, _ => z_zero
  | n + 1, f => by
    rw [List.range_succ, List.map_append, List.sum_append, z_add, sum_range_z n f]
    show _ + z ((f n) + 0) = _
    rw [Int.add_zero]
    rfl
theorem dotR_z (us vs : List Int) : z (dotR us vs) = sumR us.length fun i => z (us.getD i 0) * z (vs.getD i 0) := by
  unfold dotR
  rw [sum_range_z]
  exact sumR_ext fun i _ => z_mul _ _
/-- the value at x, as the program reckons it -/
noncomputable def valM (ws ys : List Int) (x : Int) : Int := dotR (weightsM ws x) ys % 65521
theorem valM_word (ws ys : List Int) (x : Int) : 0 ≤ valM ws ys x ∧ valM ws ys x < 65521 := ⟨Int.emod_nonneg _ (by decide), Int.emod_lt_of_pos _ (by decide)⟩
theorem valM_z (ws ys : List Int) (x : Int) : z (valM ws ys x) = sumR ws.length fun i => prodZ (others ws i) (z x) * (z (invP (prodM (others ws i) (ws.getD i 0) 1)) * z (ys.getD i 0)) := by
  unfold valM
  rw [z_mod, dotR_z, weightsM_length]
  refine sumR_ext fun i hi => ?_
  have e : (weightsM ws x).getD i 0 = wgt (ws.getD i 0) (others ws i) x := by rw [List.getD_eq_getElem?_getD, weightsM_get hi]; rfl
  rw [e, wgt_z]
  grind
/-- at a place it is the point's own value -/
theorem valM_node {ws ys : List Int} (h : Apart ws) {x : Int} {j : Nat} (hj : j < ws.length) (e : z x = z (ws.getD j 0)) : z (valM ws ys x) = z (ys.getD j 0) := by
  rw [valM_z, sumR_one hj fun i hi n => ?_]
  · have p := others_apart h hj
    have q := wgt_ok p
    have r : z (prodM (others ws j) (ws.getD j 0) 1) * z (invP (prodM (others ws j) (ws.getD j 0) 1)) = 1 := z_invP fun e => q ((z_z _).mp e)
    rw [prodM_z, z_one] at r
    rw [e]
    grind
  · rw [prodZ_root (mem_others.mpr ⟨j, hj, Ne.symm n, rfl⟩) e]
    grind
/-- the values of a polynomial at the places give its value anywhere -/
theorem valM_pol {ws ys : List Int} (h : Apart ws) {f : Zp → Zp} (hf : Pol ws.length f) (hy : ∀ i, i < ws.length → z (ys.getD i 0) = f (z (ws.getD i 0))) (x : Int) : z (valM ws ys x) = f (z x) := by
  have P : Pol ws.length fun x => (sumR ws.length fun i => prodZ (others ws i) x * (z (invP (prodM (others ws i) (ws.getD i 0) 1)) * z (ys.getD i 0))) - f x := by
    refine Pol.sub (sumR_pol fun i hi => Pol.smul _ ?_) hf
    have := prodZ_pol (others ws i)
    rw [others_length hi] at this
    exact this
  have R := Pol.roots (ws.map z) P h (by simp) (fun a ha => ?_) (z x)
  · rw [valM_z]
    have R' : (sumR ws.length fun i => prodZ (others ws i) (z x) * (z (invP (prodM (others ws i) (ws.getD i 0) 1)) * z (ys.getD i 0))) - f (z x) = 0 := R
    grind
  · obtain ⟨p, hp, rfl⟩ := List.mem_map.mp ha
    obtain ⟨j, hj⟩ := List.mem_iff_getElem?.mp hp
    obtain ⟨hl, e⟩ := List.getElem?_eq_some_iff.mp hj
    have ep : ws.getD j 0 = p := by simp [List.getD_eq_getElem?_getD, hl, e]
    have v := valM_node (ys := ys) h (x := p) hl (by rw [ep])
    rw [valM_z, hy j hl, ep] at v
    show (sumR ws.length fun i => prodZ (others ws i) (z p) * (z (invP (prodM (others ws i) (ws.getD i 0) 1)) * z (ys.getD i 0))) - f (z p) = 0
    rw [v]
    grind
theorem z_small {n : Int} (h0 : 0 < n) (h1 : n < 65521) : z n ≠ 0 := fun e => by
  have := (z_z n).mp e
  omega
/-! a polynomial's value -/
def pev : List Int → Zp → Zp
  | [], _ => 0
  | c :: r, x => z c + x * pev r x
theorem pev_pol : ∀ ns : List Int, Pol ns.length (pev ns)
  | [] => fun _ => rfl
  | c :: r => ⟨z c, pev r, pev_pol r, fun _ => rfl⟩
/-- as it is reckoned: from the highest coefficient down -/
def horn : List Int → Int → Int
  | [], _ => 0
  | c :: r, x => (horn r x * x + c) % 65521
theorem horn_z : ∀ (ns : List Int) (x : Int), z (horn ns x) = pev ns (z x)
  | [], _ => z_zero
  | c :: r, x => by
    show z ((horn r x * x + c) % 65521) = z c + z x * pev r (z x)
    rw [z_mod, z_add, z_mul, horn_z r x]
    grind
theorem horn_word : ∀ (ns : List Int) (x : Int), 0 ≤ horn ns x ∧ horn ns x < 65521
  | [], _ => by show (0 : Int) ≤ 0 ∧ (0 : Int) < 65521; omega
  | _ :: _, _ => ⟨Int.emod_nonneg _ (by decide), Int.emod_lt_of_pos _ (by decide)⟩
theorem horn_drop {ns : List Int} {x c : Int} {i : Nat} (h : ns[i]? = some c) : horn (ns.drop i) x = (horn (ns.drop (i + 1)) x * x + c) % 65521 := by
  obtain ⟨hl, e⟩ := List.getElem?_eq_some_iff.mp h
  rw [List.drop_eq_getElem_cons hl, e]
  rfl
/-! polynomials by their values: degree, normal forms -/
def Wd (w : Int) : Prop := 0 ≤ w ∧ w < 65521
/-- a list of words whose last one is not 0 -/
def Norm (r : List Int) : Prop := (∀ w ∈ r, Wd w) ∧ (r = [] ∨ r.getD (r.length - 1) 0 ≠ 0)
def pw (x : Zp) : Nat → Zp
  | 0 => 1
  | n + 1 => x * pw x n
theorem pev_append : ∀ (a b : List Int) (x : Zp), pev (a ++ b) x = pev a x + pw x a.length * pev b x
  | [], b, x => by
    show pev b x = 0 + 1 * pev b x
    grind
  | c :: a, b, x => by
    show z c + x * pev (a ++ b) x = (z c + x * pev a x) + (x * pw x a.length) * pev b x
    rw [pev_append a b x]
    grind
theorem pev_zeros : ∀ {a : List Int}, (∀ w ∈ a, z w = 0) → ∀ x, pev a x = 0
  | [], _, _ => rfl
  | c :: a, h, x => by
    show z c + x * pev a x = 0
    rw [h c (by simp), pev_zeros (fun w m => h w (List.mem_cons_of_mem _ m))]
    grind
theorem pev_mod : ∀ (a : List Int) (x : Zp), pev (a.map (· % 65521)) x = pev a x
  | [], _ => rfl
  | c :: a, x => by
    show z (c % 65521) + x * pev (a.map (· % 65521)) x = z c + x * pev a x
    rw [z_mod, pev_mod a x]
/-- one place of the list gets another number -/
theorem pev_set : ∀ {a : List Int} {i : Nat} {c d : Int} (x : Zp), a[i]? = some c → pev (a.set i d) x = pev a x + pw x i * (z d - z c)
  | [], _, _, _, _, h => by simp at h
  | b :: a, 0, c, d, x, h => by
    have e : b = c := Option.some.inj h
    subst e
    show z d + x * pev a x = (z b + x * pev a x) + 1 * (z d - z b)
    grind
  | b :: a, i + 1, c, d, x, h => by
    show z b + x * pev (a.set i d) x = (z b + x * pev a x) + (x * pw x i) * (z d - z c)
    rw [pev_set (i := i) (c := c) x h]
    grind
theorem pw_add (x : Zp) : ∀ n m : Nat, pw x (n + m) = pw x n * pw x m
  | 0, m => by
    rw [Nat.zero_add]
    show pw x m = 1 * pw x m
    grind
  | n + 1, m => by
    rw [Nat.succ_add]
    show x * pw x (n + m) = (x * pw x n) * pw x m
    rw [pw_add x n m]
    grind
theorem pev_snoc (a : List Int) (c : Int) (x : Zp) : pev (a ++ [c]) x = pev a x + pw x a.length * z c := by
  rw [pev_append]
  show _ + _ * (z c + x * 0) = _
  grind
/-! all words as places -/
def allZ (n : Nat) : List Zp := (List.range n).map fun (k : Nat) => z ((k : Int) + 1)
theorem allZ_nodup {n : Nat} (h : n ≤ 65520) : (allZ n).Nodup := by
  unfold allZ List.Nodup
  rw [List.pairwise_map]
  refine (List.nodup_range (n := n)).imp_of_mem fun {a b} ha hb ne e => ?_
  have h1 := List.mem_range.mp ha
  have h2 := List.mem_range.mp hb
  have := z_eq.mp e
  omega
theorem allZ_ne {n : Nat} (h : n ≤ 65520) : ∀ a ∈ allZ n, a ≠ 0 := fun a ha e => by
  obtain ⟨k, hk, rfl⟩ := List.mem_map.mp ha
  have h1 := List.mem_range.mp hk
  have := (z_z _).mp e
  omega
/-- zero but perhaps at 0: zero -/
theorem Pol.punct {n : Nat} {f : Zp → Zp} (h : Pol n f) (hn : n ≤ 65520) (hz : ∀ x, x ≠ 0 → f x = 0) : ∀ x, f x = 0 :=
  Pol.roots (allZ n) h (allZ_nodup hn) (by simp [allZ]) fun a ha => hz a (allZ_ne hn a ha)
theorem Pol.pw : ∀ (n : Nat) (c : Zp), Pol (n + 1) fun x => c * PP.pw x n
  | 0, c => (Pol.const c).ext fun x => by show c * 1 = c; grind
  | n + 1, c => ((Pol.pw n c).xmul).ext fun x => by show c * (x * PP.pw x n) = x * (c * PP.pw x n); grind
/-- a power beyond the coefficients has the factor 0 -/
theorem lead_zero : ∀ (n : Nat) {c : Zp} {h : Zp → Zp}, n ≤ 60000 → Pol n h → (∀ x, c * pw x n = h x) → c = 0
  | 0, c, h, _, hp, e => by
    have := e 0
    rw [hp 0] at this
    have : c * 1 = 0 := this
    grind
  | n + 1, c, h, hn, ⟨d, g, hg, q⟩, e => by
    have e0 : d = 0 := by
      have h0 := e 0
      rw [q 0] at h0
      have : c * (0 * pw 0 n) = d + 0 * g 0 := h0
      grind
    have F : ∀ x, c * pw x n - g x = 0 := Pol.punct (n := n + 1) (Pol.sub (Pol.pw n c) hg.up) (by omega) fun x hx => by
      have h1 := e x
      rw [q x, e0] at h1
      have h2 : c * (x * pw x n) = 0 + x * g x := h1
      have h3 : x * (c * pw x n - g x) = 0 := by grind
      exact (zp_div h3).resolve_left hx
    exact lead_zero n (by omega) hg fun x => by
      have := F x
      grind
/-- a normal list has no more words than its values need -/
theorem norm_le {r : List Int} {n : Nat} (h : Norm r) (hn : n ≤ 60000) (hp : Pol n (pev r)) (hr : r.length ≤ 60000) : r.length ≤ n := by
  refine Classical.byContradiction fun c => ?_
  obtain ⟨hw, hl⟩ := h
  have rne : r ≠ [] := fun e => by rw [e] at c; simp at c
  have hl := hl.resolve_left rne
  have e : r = r.take (r.length - 1) ++ [r.getD (r.length - 1) 0] := by
    have hlt : r.length - 1 < r.length := by
      have := List.length_pos_iff.mpr rne
      omega
    conv => lhs; rw [← List.take_append_drop (r.length - 1) r]
    rw [List.drop_eq_getElem_cons hlt, show r.length - 1 + 1 = r.length by omega, List.drop_length]
    simp [List.getD_eq_getElem?_getD, hlt]
  have P1 : Pol (r.length - 1) (pev (r.take (r.length - 1))) := (pev_pol _).mono (by rw [List.length_take]; omega)
  have P2 : Pol (r.length - 1) (pev r) := hp.mono (by omega)
  have z0 := lead_zero (r.length - 1) (c := z (r.getD (r.length - 1) 0)) (by omega) (Pol.sub P2 P1) fun x => by
    have := pev_snoc (r.take (r.length - 1)) (r.getD (r.length - 1) 0) x
    rw [← e, List.length_take, Nat.min_eq_left (by omega)] at this
    show _ = pev r x - pev (r.take (r.length - 1)) x
    grind
  have w := hw (r.getD (r.length - 1) 0) (by
    have hlt : r.length - 1 < r.length := by
      have := List.length_pos_iff.mpr rne
      omega
    rw [List.getD_eq_getElem?_getD, List.getElem?_eq_getElem hlt]
    exact List.getElem_mem hlt)
  have := (z_z _).mp z0
  obtain ⟨w0, w1⟩ := w
  omega
/-- the same values everywhere: the same words -/
theorem pev_inj : ∀ {a b : List Int}, a.length = b.length → a.length ≤ 60000 → (∀ w ∈ a, Wd w) → (∀ w ∈ b, Wd w) → (∀ x, pev a x = pev b x) → a = b
  | [], [], _, _, _, _, _ => rfl
  | [], _ :: _, h, _, _, _, _ => by simp at h
  | _ :: _, [], h, _, _, _, _ => by simp at h
  | c :: a, d :: b, hl, hz, ha, hb, e => by
    have e0 : z c = z d := by
      have : z c + 0 * pev a 0 = z d + 0 * pev b 0 := e 0
      grind
    have wc := ha c (by simp)
    have wd := hb d (by simp)
    have ecd : c = d := z_inj wc.1 wc.2 wd.1 wd.2 e0
    have hl' : a.length = b.length := by simpa using hl
    have hz' : a.length + 1 ≤ 60000 := by simpa using hz
    have F : ∀ x, pev a x - pev b x = 0 := Pol.punct (n := a.length) (Pol.sub (pev_pol a) ((pev_pol b).mono (by omega))) (by omega) fun x hx => by
      have h1 : z c + x * pev a x = z d + x * pev b x := e x
      have h3 : x * (pev a x - pev b x) = 0 := by grind
      exact (zp_div h3).resolve_left hx
    rw [ecd, pev_inj hl' (by omega) (fun w m => ha w (List.mem_cons_of_mem _ m)) (fun w m => hb w (List.mem_cons_of_mem _ m)) fun x => by have := F x; grind]
theorem norm_inj {a b : List Int} (ha : Norm a) (hb : Norm b) (la : a.length ≤ 60000) (lb : b.length ≤ 60000) (e : ∀ x, pev a x = pev b x) : a = b := by
  have h1 := norm_le ha lb ((pev_pol b).ext e) la
  have h2 := norm_le hb la ((pev_pol a).ext fun x => (e x).symm) lb
  exact pev_inj (by omega) la ha.1 hb.1 e
/-! products -/
theorem Pol.mul : ∀ {n m : Nat} {f g : Zp → Zp}, Pol n f → Pol m g → Pol (n + m) fun x => f x * g x
  | 0, m, f, g, h, _ => (pol_nil (0 + m)).ext fun x => by show f x * g x = 0; rw [h x]; grind
  | n + 1, m, f, g, ⟨c, u, h, q⟩, k => by
    have A := (Pol.mul h k).xmul
    have B := (k.smul c).mono (show m ≤ n + m + 1 by omega)
    rw [show n + 1 + m = n + m + 1 by omega]
    exact (B.add A).ext fun x => by show f x * g x = g x * c + x * (u x * g x); rw [q x]; grind
/-- the highest coefficient -/
theorem norm_lead {a : List Int} (h : Norm a) (ne : a ≠ []) : ∃ (c : Zp) (g : Zp → Zp), c ≠ 0 ∧ Pol (a.length - 1) g ∧ ∀ x, pev a x = g x + c * pw x (a.length - 1) := by
  have hlt : a.length - 1 < a.length := by
    have := List.length_pos_iff.mpr ne
    omega
  refine ⟨z (a.getD (a.length - 1) 0), pev (a.take (a.length - 1)), fun e => ?_, (pev_pol _).mono (by rw [List.length_take]; omega), fun x => ?_⟩
  · have w : Wd (a.getD (a.length - 1) 0) := h.1 _ (by rw [List.getD_eq_getElem?_getD, List.getElem?_eq_getElem hlt]; exact List.getElem_mem hlt)
    have := (z_z _).mp e
    have ne0 := h.2.resolve_left ne
    obtain ⟨w0, w1⟩ := w
    omega
  · have e : a = a.take (a.length - 1) ++ [a.getD (a.length - 1) 0] := by
      conv => lhs; rw [← List.take_append_drop (a.length - 1) a]
      rw [List.drop_eq_getElem_cons hlt, show a.length - 1 + 1 = a.length by omega, List.drop_length]
      simp [List.getD_eq_getElem?_getD, hlt]
    have := pev_snoc (a.take (a.length - 1)) (a.getD (a.length - 1) 0) x
    rw [← e, List.length_take, Nat.min_eq_left (by omega)] at this
    rw [this]
    grind
theorem norm_mul {a b r : List Int} (ha : Norm a) (hb : Norm b) (hr : Norm r) (na : a ≠ []) (nb : b ≠ []) (la : a.length ≤ 1000) (lb : b.length ≤ 1000) (lr : r.length ≤ 60000) (e : ∀ x, pev r x = pev a x * pev b x) : r.length = a.length + b.length - 1 := by
  obtain ⟨c, g, hc, hg, eg⟩ := norm_lead ha na
  obtain ⟨d, k, hd, hk, ek⟩ := norm_lead hb nb
  have pa := List.length_pos_iff.mpr na
  have pb := List.length_pos_iff.mpr nb
  -- what is below the highest power
  have low : Pol (a.length - 1 + (b.length - 1)) fun x => pev r x - (c * d) * pw x (a.length - 1 + (b.length - 1)) := by
    have A := (hg.mul ((Pol.pw (b.length - 1) d).add hk.up)).mono (show a.length - 1 + (b.length - 1 + 1) ≤ a.length - 1 + (b.length - 1) + 1 by omega)
    have B : ∀ n m : Nat, ∀ u : Zp → Zp, Pol m u → Pol (n + m) fun x => pw x n * u x := by
      intro n
      induction n with
      | zero => exact fun m u hu => by rw [Nat.zero_add]; exact hu.ext fun x => by show 1 * u x = u x; grind
      | succ n ih => exact fun m u hu => by rw [Nat.succ_add]; exact ((ih m u hu).xmul).ext fun x => by show (x * pw x n) * u x = x * (pw x n * u x); grind
    have C := (B (a.length - 1) (b.length - 1) k hk).smul c
    have D := (B (b.length - 1) (a.length - 1) g hg).smul d
    have G : Pol (a.length - 1 + (b.length - 1)) fun x => g x * k x := hg.mul hk
    rw [Nat.add_comm (b.length - 1)] at D
    refine ((C.add D).add G).ext fun x => ?_
    show pev r x - (c * d) * pw x (a.length - 1 + (b.length - 1)) = (pw x (a.length - 1) * k x * c + pw x (b.length - 1) * g x * d) + g x * k x
    rw [e x, eg x, ek x, pw_add]
    grind
  have up : Pol (a.length - 1 + (b.length - 1) + 1) (pev r) := (low.up.add (Pol.pw _ (c * d))).ext fun x => by
    show pev r x = (pev r x - (c * d) * pw x _) + (c * d) * pw x _
    grind
  have h1 := norm_le hr (by omega) up lr
  by_cases q : r.length ≤ a.length - 1 + (b.length - 1)
  · exfalso
    have P := (pev_pol r).mono q
    have := lead_zero (a.length - 1 + (b.length - 1)) (c := c * d) (by omega) (P.sub low) fun x => by
      show _ = pev r x - (pev r x - (c * d) * pw x _)
      grind
    exact zp_mul_ne hc hd this
  · omega
theorem norm_snoc {a : List Int} {c : Int} (h : ∀ w ∈ a, Wd w) (hc : Wd c) (n : c ≠ 0) : Norm (a ++ [c]) := by
  refine ⟨fun w m => ?_, .inr ?_⟩
  · rcases List.mem_append.mp m with m | m
    · exact h w m
    · have : w = c := by simpa using m
      rw [this]
      exact hc
  · rw [List.length_append, List.length_singleton, Nat.add_sub_cancel, List.getD_eq_getElem?_getD]
    simpa using n
theorem norm_nil : Norm [] := ⟨fun _ m => (nomatch m), .inl rfl⟩
theorem pev_smul (fa : Int) : ∀ (b : List Int) (x : Zp), pev (b.map fun c => fa * c) x = z fa * pev b x
  | [], x => by show (0 : Zp) = _ * 0; grind
  | c :: r, x => by
    show z (fa * c) + x * pev (r.map fun c => fa * c) x = z fa * (z c + x * pev r x)
    rw [pev_smul fa r x, z_mul]
    grind
/-! heaps, slices, points -/
theorem _root_.L2.Same.tup {K : PySem.W.Frag} {H H' : Hp} {a : Addr} {xs : List V} (e : Same H H') (h : SqT K H a xs) : SqT K H' a xs := by
  rcases h with (h | ⟨o, h⟩) | h
  · exact .inl (.inl (e _ _ h))
  · exact .inl (.inr ⟨o, e _ _ h⟩)
  · exact .inr h
theorem _root_.L2.Same.new {H : Hp} {p : Addr} {o : HO} (h : H p = none) : Same H (upd H p o) := fun _ _ e => by
  rw [upd_ne (ne_of_none e h)]
  exact e
/-- what was tracked is as it was, but for p -/
def But (p : Addr) (H H' : Hp) : Prop := ∀ b o, H b = some o → b ≠ p → H' b = some o
theorem Only.but {p : Addr} {H H' : Hp} (h : Only p H H') : But p H H' := fun b _ e n => (h b n).trans e
theorem _root_.L2.Same.but {p : Addr} {H H' : Hp} (h : Same H H') : But p H H' := fun b o e _ => h b o e
theorem But.trans {p : Addr} {H H1 H2 : Hp} (x : But p H H1) (y : But p H1 H2) : But p H H2 := fun b o e n => y b o (x b o e n) n
theorem But.same {p : Addr} {H0 H H' : Hp} (y : But p H H') (x : Same H0 H) (h : H0 p = none) : Same H0 H' := fun b o e => y b o (x b o e) (ne_of_none e h)
theorem But.new {p q : Addr} {H H' : Hp} {o : HO} (x : But p H H') (h : H' q = none) : But p H (upd H' q o) := x.trans (Same.new h).but
theorem _root_.L2.Same.at {H H' : Hp} {b : Addr} {o : HO} (s : Same H H') (e : H b = some o) : H' b = some o := s b o e
theorem cut_take (xs : List V) (i : Nat) : cutV xs none (some (i : Int)) = xs.take i := by
  unfold cutV
  rw [HT.sIx_none, HT.sIx_nat, List.drop_zero, Nat.sub_zero]
  by_cases h : i ≤ xs.length
  · rw [Nat.min_eq_left h]
  · rw [Nat.min_eq_right (by omega), List.take_of_length_le (by omega), List.take_of_length_le (by omega)]
theorem cut_drop (xs : List V) (i : Nat) : cutV xs (some (i : Int)) none = xs.drop i := by
  unfold cutV
  rw [HT.sIx_none, HT.sIx_nat]
  by_cases h : i ≤ xs.length
  · rw [Nat.min_eq_left h, List.take_of_length_le (by rw [List.length_drop]; omega)]
  · rw [Nat.min_eq_right (by omega), List.drop_of_length_le (by omega), List.drop_of_length_le (by omega), List.take_nil]
theorem take_snoc {α : Type} {l : List α} {i : Nat} {x : α} (h : l[i]? = some x) : l.take (i + 1) = l.take i ++ [x] := by
  rw [List.take_add_one, h]
  rfl
theorem item_lt {α : Type} {l : List α} {i : Nat} {x : α} (h : l[i]? = some x) : i < l.length := (List.getElem?_eq_some_iff.mp h).1
theorem small (n : Nat) (h : n ≤ 60000) : n < sizeLine := Nat.lt_of_le_of_lt h (by decide)
theorem getD_item {α : Type} {l : List α} {i : Nat} {x d : α} (h : l[i]? = some x) : l.getD i d = x := by rw [List.getD_eq_getElem?_getD, h]; rfl
theorem seq_off {K : PySem.W.Frag} {H : Hp} {a b : Addr} {xs : List V} {o : HO} (h : SqL K H a xs) (n : a ≠ b) : SqL K (upd H b o) a xs := by
  rcases h with (h | ⟨u, h⟩) | h
  · exact .inl (.inl (by rw [upd_ne n]; exact h))
  · exact .inl (.inr ⟨u, by rw [upd_ne n]; exact h⟩)
  · exact .inr h
/-- one more thing at a place that was free at the entry -/
theorem same_put {H H' : Hp} {p : Addr} {o : HO} (s : Same H H') (n : H p = none) : Same H (upd H' p o) := fun b u e => by
  rw [upd_ne (ne_of_none e n)]
  exact s b u e
theorem item_set {α : Type} {l : List α} {i j : Nat} {x y : α} (h : (l.set i x)[j]? = some y) : (i = j ∧ y = x ∧ j < l.length) ∨ (i ≠ j ∧ l[j]? = some y) := by
  rw [List.getElem?_set] at h
  by_cases e : i = j
  · subst e
    rw [if_pos rfl] at h
    split at h
    · exact .inl ⟨rfl, (Option.some.inj h).symm, by assumption⟩
    · cases h
  · rw [if_neg e] at h
    exact .inr ⟨e, h⟩
theorem same_none {H H' : Hp} {b : Addr} (s : Same H H') (n : H' b = none) : H b = none := by
  cases q : H b with
  | none => rfl
  | some o => rw [s _ _ q] at n; cases n
theorem getD_set {w : List Int} {i k : Nat} {v : Int} (h : k < w.length) : (w.set i v).getD k 0 = if i = k then v else w.getD k 0 := by
  rw [List.getD_eq_getElem?_getD, List.getElem?_set]
  split
  · next e =>
    subst e
    rw [if_pos h]
    rfl
  · rw [List.getD_eq_getElem?_getD]
/-! data: == of lists of ints, of pairs -/
theorem eqvAll_ints : ∀ xs ys : List Int, PyData.eqvAll (xs.map .int) (ys.map .int) = decide (xs = ys)
  | [], [] => by simp [PyData.eqvAll]
  | [], _ :: _ => by simp [PyData.eqvAll]
  | _ :: _, [] => by simp [PyData.eqvAll]
  | x :: xs, y :: ys => by
    simp only [List.map_cons, PyData.eqvAll, PyData.eqv, eqvAll_ints xs ys]
    by_cases h : x = y <;> by_cases k : xs = ys <;> simp [h, k]
theorem canLayAll_ints : ∀ xs : List Int, PyData.canLayAll0 (xs.map .int) = true
  | [] => rfl
  | x :: xs => by simp [PyData.canLayAll0, PyData.canLay0, canLayAll_ints xs]
theorem depthAll_ints : ∀ xs : List Int, PyData.depthAll (xs.map .int) = 0
  | [] => rfl
  | x :: xs => by simp [PyData.depthAll, PyData.depth, depthAll_ints xs]
theorem shaped_ints (xs : List Int) : SeqAt.shaped (.list (xs.map .int)) = true := by
  simp [SeqAt.shaped, PyData.canLay0, canLayAll_ints, PyData.depth, depthAll_ints]
theorem dpAll_ints {K : PySem.W.Frag} {H : Hp} : ∀ xs : List Int, DpAll K H (xs.map V.int) (xs.map .int)
  | [] => .nil
  | x :: xs => .cons (.int x) (dpAll_ints xs)
theorem dp_ints {K : PySem.W.Frag} {H : Hp} {a : Addr} {xs : List Int} (h : SqL K H a (xs.map V.int)) : Dp K H (.ref a) (.list (xs.map .int)) := .lst h (dpAll_ints xs)
theorem eqv_ints (xs ys : List Int) : PyData.eqv (.list (xs.map .int)) (.list (ys.map .int)) = decide (xs = ys) := by
  simp only [PyData.eqv]
  exact eqvAll_ints xs ys
/-- rows of ints -/
def rowD (xs : List Int) : PyData := .list (xs.map .int)
theorem rows_data : ∀ xss : List (List Int), PyData.canLayAll0 (xss.map rowD) = true ∧ PyData.depthAll (xss.map rowD) ≤ 1
  | [] => ⟨rfl, Nat.zero_le _⟩
  | xs :: xss => by
    obtain ⟨h1, h2⟩ := rows_data xss
    refine ⟨by simp [PyData.canLayAll0, PyData.canLay0, rowD, canLayAll_ints, h1], ?_⟩
    simp only [List.map_cons, PyData.depthAll, rowD, PyData.depth, depthAll_ints]
    omega
theorem rows_shaped (xss : List (List Int)) : SeqAt.shaped (.list (xss.map rowD)) = true := by
  obtain ⟨h1, h2⟩ := rows_data xss
  have e : PyData.depth (.list (xss.map rowD)) = PyData.depthAll (xss.map rowD) + 1 := by simp only [PyData.depth]
  unfold SeqAt.shaped
  rw [Bool.and_eq_true]
  exact ⟨by simp only [PyData.canLay0]; exact h1, decide_eq_true (by rw [e]; omega)⟩
theorem eqvAll_rows : ∀ xss yss : List (List Int), PyData.eqvAll (xss.map rowD) (yss.map rowD) = decide (xss = yss)
  | [], [] => by simp [PyData.eqvAll]
  | [], _ :: _ => by simp [PyData.eqvAll]
  | _ :: _, [] => by simp [PyData.eqvAll]
  | x :: xs, y :: ys => by
    have h := eqv_ints x y
    simp only [List.map_cons, PyData.eqvAll, rowD, eqvAll_rows xs ys, h]
    by_cases h : x = y <;> by_cases k : xs = ys <;> simp [h, k]
theorem eqv_rows (xss yss : List (List Int)) : PyData.eqv (.list (xss.map rowD)) (.list (yss.map rowD)) = decide (xss = yss) := by
  simp only [PyData.eqv]
  exact eqvAll_rows xss yss
theorem dp_two {K : PySem.W.Frag} {H : Hp} {a b c : Addr} {xs ys : List Int} (h : SqL K H a [V.ref b, V.ref c]) (hb : SqL K H b (xs.map V.int)) (hc : SqL K H c (ys.map V.int)) : Dp K H (.ref a) (.list ([xs, ys].map rowD)) :=
  .lst h (.cons (dp_ints hb) (.cons (dp_ints hc) .nil))
/-! xs[i] op= e, i not below 0 -/
def rGetL (K : PySem.W.Frag) : V → V → Hp → VK → Prop := fun x y H Q => ∃ (p : Addr) (xs : List V) (i : Int) (j : Nat) (v : V), x = .ref p ∧ y = .int i ∧ i = (j : Int) ∧ SqL K H p xs ∧ xs[j]? = some v ∧ Q v H
theorem pget_list {X : Cx} : PGet X (rGetL X.K) := by
  intro pins s σ H o i ov iv Q I ro ri h
  obtain ⟨p, xs, _, j, v, rfl, rfl, rfl, hS, hv, q⟩ := h
  cases ro
  obtain ⟨t, rfl⟩ := ri
  obtain ⟨its, r, pl, hz⟩ := I.list hS
  obtain ⟨u, hu, ru⟩ := r.get hv
  have hl : j < xs.length := (List.getElem?_eq_some_iff.mp hv).1
  have hn := line63
  exact PySem.wpAny_getItem_list pl.isList (by omega) (by omega) (by rw [Int.toNat_natCast]; simpa using hu) ⟨v, H, I, ru, q⟩
theorem rep_zero (n : Nat) : (List.replicate n [V.int 0]).flatten = (List.replicate n (0 : Int)).map V.int := by
  induction n with
  | zero => rfl
  | succ n ih => rw [List.replicate_succ, List.flatten_cons, ih, List.replicate_succ]; rfl
theorem pev_rep (n : Nat) (x : Zp) : pev (List.replicate n (0 : Int)) x = 0 := pev_zeros (fun w m => by rw [(List.mem_replicate.mp m).2]; exact z_zero) x
theorem ixN_nat {n j : Nat} (h : j < n) : ixN n (j : Int) = some j := by
  unfold ixN
  rw [if_pos (by omega), if_pos (by omega), Int.toNat_natCast]
/-- a list of pairs of ints stands at p -/
def PtsAt (K : PySem.W.Frag) (H : Hp) (p : Addr) (ps : List (Int × Int)) : Prop := ∃ L : List (Addr × Int × Int), SqL K H p (L.map fun e => V.ref e.1) ∧ L.map (·.2) = ps ∧ ∀ e ∈ L, SqT K H e.1 [.int e.2.1, .int e.2.2]
theorem PtsAt.same {K : PySem.W.Frag} {H H' : Hp} {p : Addr} {ps : List (Int × Int)} (h : PtsAt K H p ps) (s : Same H H') : PtsAt K H' p ps := by
  obtain ⟨L, h1, h2, h3⟩ := h
  exact ⟨L, s.seq h1, h2, fun e m => s.tup (h3 e m)⟩
theorem PtsAt.old {K : PySem.W.Frag} {H : Hp} {p : Addr} {ps : List (Int × Int)} (h : PtsAt K H p ps) : ∃ as : List Addr, SqL K H p (as.map V.ref) ∧ as.length = ps.length ∧
    ∀ (i : Nat) (t : Addr) (q : Int × Int), as[i]? = some t → ps[i]? = some q → SqT K H t [.int q.1, .int q.2] := by
  obtain ⟨L, h1, rfl, h3⟩ := h
  refine ⟨L.map (·.1), by rw [List.map_map]; exact h1, by simp, fun i t q a b => ?_⟩
  rw [List.getElem?_map] at a b
  cases e : L[i]? with
  | none => rw [e] at a; cases a
  | some u =>
    rw [e] at a b
    cases a
    cases b
    exact h3 u (List.mem_of_getElem? e)
/-- an item of the list: a pair -/
theorem pts_item {K : PySem.W.Frag} {H : Hp} {as : List Addr} {ps : List (Int × Int)} (hl : as.length = ps.length) (h : ∀ (i : Nat) (t : Addr) (q : Int × Int), as[i]? = some t → ps[i]? = some q → SqT K H t [.int q.1, .int q.2])
    {i : Nat} {y : V} (hi : (as.map V.ref)[i]? = some y) : ∃ t q, y = .ref t ∧ as[i]? = some t ∧ ps[i]? = some q ∧ SqT K H t [.int q.1, .int q.2] := by
  rw [List.getElem?_map] at hi
  cases e : as[i]? with
  | none => rw [e] at hi; cases hi
  | some t =>
    rw [e] at hi
    have lt := item_lt e
    have e2 : ps[i]? = some ps[i] := List.getElem?_eq_getElem (by omega)
    exact ⟨t, _, (Option.some.inj hi).symm, rfl, e2, h i t _ e e2⟩
theorem words_apart {ps : List Int} : (ps.map (· % 65521)).Nodup ↔ Apart ps := by
  unfold Apart List.Nodup
  rw [List.pairwise_map, List.pairwise_map]
  constructor
  · intro h
    exact h.imp fun {a b} n e => n (z_mod_eq e)
  · intro h
    exact h.imp fun {a b} n e => n (z_eq.mpr e)
theorem apart_words {ps : List Int} : Apart (ps.map (· % 65521)) ↔ Apart ps := by
  unfold Apart
  rw [List.map_map, show (z ∘ fun x : Int => x % 65521) = z from funext fun a => z_mod a]
/-- data of pairs -/
def pairD (q : Int × Int) : PyData := .tuple [.int q.1, .int q.2]
theorem pairs_data : ∀ ps : List (Int × Int), PyData.canLayAll0 (ps.map pairD) = true ∧ PyData.depthAll (ps.map pairD) ≤ 1 ∧ PyData.eqvAll (ps.map pairD) (ps.map pairD) = true
  | [] => ⟨rfl, Nat.zero_le _, by simp [PyData.eqvAll]⟩
  | q :: ps => by
    obtain ⟨h1, h2, h3⟩ := pairs_data ps
    refine ⟨by simp [PyData.canLayAll0, PyData.canLay0, pairD, h1], ?_, by simp [PyData.eqvAll, PyData.eqv, pairD, h3]⟩
    simp only [List.map_cons, PyData.depthAll, pairD, PyData.depth]
    omega
theorem pairs_shaped (ps : List (Int × Int)) : SeqAt.shaped (.list (ps.map pairD)) = true := by
  obtain ⟨h1, h2, _⟩ := pairs_data ps
  have e : PyData.depth (.list (ps.map pairD)) = PyData.depthAll (ps.map pairD) + 1 := by simp only [PyData.depth]
  unfold SeqAt.shaped
  rw [Bool.and_eq_true]
  exact ⟨by simp only [PyData.canLay0]; exact h1, decide_eq_true (by rw [e]; omega)⟩
theorem pairs_eqv (ps : List (Int × Int)) : PyData.eqv (.list (ps.map pairD)) (.list (ps.map pairD)) = true := by
  simp only [PyData.eqv]
  exact (pairs_data ps).2.2
theorem PtsAt.dp {K : PySem.W.Frag} {H : Hp} {p : Addr} {ps : List (Int × Int)} (h : PtsAt K H p ps) : Dp K H (.ref p) (.list (ps.map pairD)) := by
  obtain ⟨L, h1, rfl, h3⟩ := h
  refine .lst h1 ?_
  have : ∀ M : List (Addr × Int × Int), (∀ e ∈ M, SqT K H e.1 [.int e.2.1, .int e.2.2]) → DpAll K H (M.map fun e => V.ref e.1) ((M.map (·.2)).map pairD) := by
    intro M
    induction M with
    | nil => intro _; exact .nil
    | cons e M ih => exact fun g => .cons (.tup (g e (by simp)) (.cons (.int _) (.cons (.int _) .nil))) (ih fun u m => g u (List.mem_cons_of_mem _ m))
  exact this L h3
theorem rev_ind {α : Type} {P : List α → Prop} (h0 : P []) (hs : ∀ l a, P l → P (l ++ [a])) (l : List α) : P l := by
  have h : ∀ l : List α, P l.reverse := fun l => by
    induction l with
    | nil => exact h0
    | cons a l ih => rw [List.reverse_cons]; exact hs _ _ ih
  have := h l.reverse
  rw [List.reverse_reverse] at this
  exact this
/-- where things stand -/
structure Ad where
  f_inverse : Addr
  d_inverse : FuncData
  f_weight : Addr
  d_weight : FuncData
  f_weights : Addr
  d_weights : FuncData
  f_check_lengths : Addr
  d_check_lengths : FuncData
  f_piece_at : Addr
  d_piece_at : FuncData
  f_present_numbers : Addr
  d_present_numbers : FuncData
  f_recover : Addr
  d_recover : FuncData
  f_agree : Addr
  d_agree : FuncData
  f_wrong_pieces : Addr
  d_wrong_pieces : FuncData
  f_is_present : Addr
  d_is_present : FuncData
  f_sector_at : Addr
  d_sector_at : FuncData
  f_check_words : Addr
  d_check_words : FuncData
  f_is_place : Addr
  d_is_place : FuncData
  f_seal : Addr
  d_seal : FuncData
  f_unseal : Addr
  d_unseal : FuncData
  f_is_whole : Addr
  d_is_whole : FuncData
  f_piece_size : Addr
  d_piece_size : FuncData
  f_piece_requests : Addr
  d_piece_requests : FuncData
  f_good_piece : Addr
  d_good_piece : FuncData
  f_repair_stripe : Addr
  d_repair_stripe : FuncData
  f_law_pot : Addr
  d_law_pot : FuncData
  f_law_next : Addr
  d_law_next : FuncData
  f_law_word : Addr
  d_law_word : FuncData
  f_law_words : Addr
  d_law_words : FuncData
  f_law_inverse : Addr
  d_law_inverse : FuncData
  f_law_factors : Addr
  d_law_factors : FuncData
  f_law_pieces : Addr
  d_law_pieces : FuncData
  f_law_seal : Addr
  d_law_seal : FuncData
  f_law_places : Addr
  d_law_places : FuncData
  f_law_is_write : Addr
  d_law_is_write : FuncData
  f_law_answer : Addr
  d_law_answer : FuncData
  f_law_spoil : Addr
  d_law_spoil : FuncData
  f_law_set_up : Addr
  d_law_set_up : FuncData
  f_law : Addr
  d_law : FuncData
  c_PoolError : Addr
  c_InvalidArgument : Addr
  c_NotEnoughPieces : Addr
  c_Damaged : Addr
/-- what the top has written -/
structure Txt (K : PySem.W.Frag) (mg : Str → Option Value) (a : Ad) : Prop where
  F_inverse : Fun K "inverse" "inverse" s_inverse a.f_inverse a.d_inverse
  g_inverse : mg "inverse" = some (.ref a.f_inverse)
  d_inverse : Binds K a.d_inverse ["a"] []
  F_weight : Fun K "weight" "weight" s_weight a.f_weight a.d_weight
  g_weight : mg "weight" = some (.ref a.f_weight)
  d_weight : Binds K a.d_weight ["place", "others", "x"] []
  F_weights : Fun K "weights" "weights" s_weights a.f_weights a.d_weights
  g_weights : mg "weights" = some (.ref a.f_weights)
  d_weights : Binds K a.d_weights ["places", "x"] []
  F_check_lengths : Fun K "check_lengths" "check_lengths" s_check_lengths a.f_check_lengths a.d_check_lengths
  g_check_lengths : mg "check_lengths" = some (.ref a.f_check_lengths)
  d_check_lengths : Binds K a.d_check_lengths ["pieces"] []
  F_piece_at : Fun K "piece_at" "piece_at" s_piece_at a.f_piece_at a.d_piece_at
  g_piece_at : mg "piece_at" = some (.ref a.f_piece_at)
  d_piece_at : Binds K a.d_piece_at ["known", "places", "number"] []
  F_present_numbers : Fun K "present_numbers" "present_numbers" s_present_numbers a.f_present_numbers a.d_present_numbers
  g_present_numbers : mg "present_numbers" = some (.ref a.f_present_numbers)
  d_present_numbers : Binds K a.d_present_numbers ["pieces", "data"] []
  F_recover : Fun K "recover" "recover" s_recover a.f_recover a.d_recover
  g_recover : mg "recover" = some (.ref a.f_recover)
  d_recover : Binds K a.d_recover ["pieces", "data"] []
  F_agree : Fun K "agree" "agree" s_agree a.f_agree a.d_agree
  g_agree : mg "agree" = some (.ref a.f_agree)
  d_agree : Binds K a.d_agree ["pieces", "numbers", "data"] []
  F_wrong_pieces : Fun K "wrong_pieces" "wrong_pieces" s_wrong_pieces a.f_wrong_pieces a.d_wrong_pieces
  g_wrong_pieces : mg "wrong_pieces" = some (.ref a.f_wrong_pieces)
  d_wrong_pieces : Binds K a.d_wrong_pieces ["pieces", "data"] []
  F_is_present : Fun K "is_present" "is_present" s_is_present a.f_is_present a.d_is_present
  g_is_present : mg "is_present" = some (.ref a.f_is_present)
  d_is_present : Binds K a.d_is_present ["images", "disk"] []
  F_sector_at : Fun K "sector_at" "sector_at" s_sector_at a.f_sector_at a.d_sector_at
  g_sector_at : mg "sector_at" = some (.ref a.f_sector_at)
  d_sector_at : Binds K a.d_sector_at ["images", "disk", "row"] []
  F_check_words : Fun K "check_words" "check_words" s_check_words a.f_check_words a.d_check_words
  g_check_words : mg "check_words" = some (.ref a.f_check_words)
  d_check_words : Binds K a.d_check_words ["words"] []
  F_is_place : Fun K "is_place" "is_place" s_is_place a.f_is_place a.d_is_place
  g_is_place : mg "is_place" = some (.ref a.f_is_place)
  d_is_place : Binds K a.d_is_place ["kind", "disk", "row"] []
  F_seal : Fun K "seal" "seal" s_seal a.f_seal a.d_seal
  g_seal : mg "seal" = some (.ref a.f_seal)
  d_seal : Binds K a.d_seal ["kind", "disk", "row", "stamp", "payload"] []
  F_unseal : Fun K "unseal" "unseal" s_unseal a.f_unseal a.d_unseal
  g_unseal : mg "unseal" = some (.ref a.f_unseal)
  d_unseal : Binds K a.d_unseal ["sector", "kind", "disk", "row"] []
  F_is_whole : Fun K "is_whole" "is_whole" s_is_whole a.f_is_whole a.d_is_whole
  g_is_whole : mg "is_whole" = some (.ref a.f_is_whole)
  d_is_whole : Binds K a.d_is_whole ["sector"] []
  F_piece_size : Fun K "piece_size" "piece_size" s_piece_size a.f_piece_size a.d_piece_size
  g_piece_size : mg "piece_size" = some (.ref a.f_piece_size)
  d_piece_size : Binds K a.d_piece_size ["length", "data"] []
  F_piece_requests : Fun K "piece_requests" "piece_requests" s_piece_requests a.f_piece_requests a.d_piece_requests
  g_piece_requests : mg "piece_requests" = some (.ref a.f_piece_requests)
  d_piece_requests : Binds K a.d_piece_requests ["images", "places", "stamp", "pieces", "numbers"] []
  F_good_piece : Fun K "good_piece" "good_piece" s_good_piece a.f_good_piece a.d_good_piece
  g_good_piece : mg "good_piece" = some (.ref a.f_good_piece)
  d_good_piece : Binds K a.d_good_piece ["images", "place", "stamp", "size"] []
  F_repair_stripe : Fun K "repair_stripe" "repair_stripe" s_repair_stripe a.f_repair_stripe a.d_repair_stripe
  g_repair_stripe : mg "repair_stripe" = some (.ref a.f_repair_stripe)
  d_repair_stripe : Binds K a.d_repair_stripe ["images", "places", "stamp", "length", "data"] []
  F_law_pot : Fun K "_law_pot" "_law_pot" s_law_pot a.f_law_pot a.d_law_pot
  g_law_pot : mg "_law_pot" = some (.ref a.f_law_pot)
  d_law_pot : Binds K a.d_law_pot ["script"] []
  F_law_next : Fun K "_law_next" "_law_next" s_law_next a.f_law_next a.d_law_next
  g_law_next : mg "_law_next" = some (.ref a.f_law_next)
  d_law_next : Binds K a.d_law_next ["pot", "limit"] []
  F_law_word : Fun K "_law_word" "_law_word" s_law_word a.f_law_word a.d_law_word
  g_law_word : mg "_law_word" = some (.ref a.f_law_word)
  d_law_word : Binds K a.d_law_word ["pot"] []
  F_law_words : Fun K "_law_words" "_law_words" s_law_words a.f_law_words a.d_law_words
  g_law_words : mg "_law_words" = some (.ref a.f_law_words)
  d_law_words : Binds K a.d_law_words ["pot", "count"] []
  F_law_inverse : Fun K "_law_inverse" "_law_inverse" s_law_inverse a.f_law_inverse a.d_law_inverse
  g_law_inverse : mg "_law_inverse" = some (.ref a.f_law_inverse)
  d_law_inverse : Binds K a.d_law_inverse ["number"] []
  F_law_factors : Fun K "_law_factors" "_law_factors" s_law_factors a.f_law_factors a.d_law_factors
  g_law_factors : mg "_law_factors" = some (.ref a.f_law_factors)
  d_law_factors : Binds K a.d_law_factors ["places", "x"] []
  F_law_pieces : Fun K "_law_pieces" "_law_pieces" s_law_pieces a.f_law_pieces a.d_law_pieces
  g_law_pieces : mg "_law_pieces" = some (.ref a.f_law_pieces)
  d_law_pieces : Binds K a.d_law_pieces ["words", "data", "count"] []
  F_law_seal : Fun K "_law_seal" "_law_seal" s_law_seal a.f_law_seal a.d_law_seal
  g_law_seal : mg "_law_seal" = some (.ref a.f_law_seal)
  d_law_seal : Binds K a.d_law_seal ["kind", "disk", "row", "stamp", "payload"] []
  F_law_places : Fun K "_law_places" "_law_places" s_law_places a.f_law_places a.d_law_places
  g_law_places : mg "_law_places" = some (.ref a.f_law_places)
  d_law_places : Binds K a.d_law_places ["pot", "count", "rows"] []
  F_law_is_write : Fun K "_law_is_write" "_law_is_write" s_law_is_write a.f_law_is_write a.d_law_is_write
  g_law_is_write : mg "_law_is_write" = some (.ref a.f_law_is_write)
  d_law_is_write : Binds K a.d_law_is_write ["request", "disk", "row", "sector"] []
  F_law_answer : Fun K "_law_answer" "_law_answer" s_law_answer a.f_law_answer a.d_law_answer
  g_law_answer : mg "_law_answer" = some (.ref a.f_law_answer)
  d_law_answer : Binds K a.d_law_answer ["images", "places", "stamp", "length", "data"] []
  F_law_spoil : Fun K "_law_spoil" "_law_spoil" s_law_spoil a.f_law_spoil a.d_law_spoil
  g_law_spoil : mg "_law_spoil" = some (.ref a.f_law_spoil)
  d_law_spoil : Binds K a.d_law_spoil ["pot", "images", "place", "stamp"] []
  F_law_set_up : Fun K "_law_set_up" "_law_set_up" s_law_set_up a.f_law_set_up a.d_law_set_up
  g_law_set_up : mg "_law_set_up" = some (.ref a.f_law_set_up)
  d_law_set_up : Binds K a.d_law_set_up ["pot", "places", "stamp", "pieces"] []
  F_law : Fun K "law" "law" s_law a.f_law a.d_law
  g_law : mg "law" = some (.ref a.f_law)
  d_law : Binds K a.d_law ["script"] []
  g_PRIME : ∃ u, mg "PRIME" = some u ∧ RelV (.int 65521) u
  g_MAX_PIECES : ∃ u, mg "MAX_PIECES" = some u ∧ RelV (.int 8) u
  g_MAX_DISKS : ∃ u, mg "MAX_DISKS" = some u ∧ RelV (.int 8) u
  g_MAX_PAYLOAD : ∃ u, mg "MAX_PAYLOAD" = some u ∧ RelV (.int 1000) u
  g_MAX_ROWS : ∃ u, mg "MAX_ROWS" = some u ∧ RelV (.int 4000) u
  g_LABEL : ∃ u, mg "LABEL" = some u ∧ RelV (.int 1) u
  g_PIECE : ∃ u, mg "PIECE" = some u ∧ RelV (.int 3) u
  g_HEADER_WORDS : ∃ u, mg "HEADER_WORDS" = some u ∧ RelV (.int 6) u
  g_CHECK_WORDS : ∃ u, mg "CHECK_WORDS" = some u ∧ RelV (.int 2) u
  n_enumerate : mg "enumerate" = none
  n_len : mg "len" = none
  n_sum : mg "sum" = none
  n_zip : mg "zip" = none
  n_list : mg "list" = none
  n_range : mg "range" = none
  n_tuple : mg "tuple" = none
  n_min : mg "min" = none
  n_max : mg "max" = none
  n_int : mg "int" = none
  n_abs : mg "abs" = none
  n_isinstance : mg "isinstance" = none
  n_repr : mg "repr" = none
  n_sorted : mg "sorted" = none
  n_combinations : mg "combinations" = some (.type "itertools.combinations")
  g_PoolError : mg "PoolError" = some (.ref a.c_PoolError)
  x_PoolError : PySem.W.excIn K a.c_PoolError [.type "ValueError", .type "Exception", .type "BaseException", .type "object"] "ValueError.__new__" = true
  k_PoolError : PySem.W.keepIn K (.ref a.c_PoolError) = true
  b_PoolError : PySem.W.subIn K (.ref a.c_PoolError) (.type "BaseException") = some true
  t_PoolError : PySem.W.typeIn K (.ref a.c_PoolError) = some (.type "type")
  E_PoolError : ExcC K a.c_PoolError
  g_InvalidArgument : mg "InvalidArgument" = some (.ref a.c_InvalidArgument)
  x_InvalidArgument : PySem.W.excIn K a.c_InvalidArgument [.type "ValueError", .type "Exception", .type "BaseException", .type "object"] "ValueError.__new__" = true
  k_InvalidArgument : PySem.W.keepIn K (.ref a.c_InvalidArgument) = true
  b_InvalidArgument : PySem.W.subIn K (.ref a.c_InvalidArgument) (.type "BaseException") = some true
  t_InvalidArgument : PySem.W.typeIn K (.ref a.c_InvalidArgument) = some (.type "type")
  E_InvalidArgument : ExcC K a.c_InvalidArgument
  g_NotEnoughPieces : mg "NotEnoughPieces" = some (.ref a.c_NotEnoughPieces)
  x_NotEnoughPieces : PySem.W.excIn K a.c_NotEnoughPieces [.type "ValueError", .type "Exception", .type "BaseException", .type "object"] "ValueError.__new__" = true
  k_NotEnoughPieces : PySem.W.keepIn K (.ref a.c_NotEnoughPieces) = true
  b_NotEnoughPieces : PySem.W.subIn K (.ref a.c_NotEnoughPieces) (.type "BaseException") = some true
  t_NotEnoughPieces : PySem.W.typeIn K (.ref a.c_NotEnoughPieces) = some (.type "type")
  E_NotEnoughPieces : ExcC K a.c_NotEnoughPieces
  g_Damaged : mg "Damaged" = some (.ref a.c_Damaged)
  x_Damaged : PySem.W.excIn K a.c_Damaged [.type "ValueError", .type "Exception", .type "BaseException", .type "object"] "ValueError.__new__" = true
  k_Damaged : PySem.W.keepIn K (.ref a.c_Damaged) = true
  b_Damaged : PySem.W.subIn K (.ref a.c_Damaged) (.type "BaseException") = some true
  t_Damaged : PySem.W.typeIn K (.ref a.c_Damaged) = some (.type "type")
  E_Damaged : ExcC K a.c_Damaged
  u_Damaged_PoolError : PySem.W.exmOne K (.ref a.c_Damaged) (.ref a.c_PoolError) = some true
  u_NotEnoughPieces_NotEnoughPieces : PySem.W.exmOne K (.ref a.c_NotEnoughPieces) (.ref a.c_NotEnoughPieces) = some true
  i_Damaged_Damaged : PySem.W.kitOne K (.ref a.c_Damaged) (.ref a.c_Damaged) = some true
/-! the promises -/
/-! the draws: a list of the script, a place in it, a rest, a seed -/
/-- at p stands a pot, its script's list at l -/
def Pot (H : Hp) (p l : Addr) : Prop := ∃ (ns : List Int) (i acc seed : Int), H p = some (.lst [.ref l, .int i, .int acc, .int seed]) ∧ H l = some (.lst (ns.map V.int)) ∧ 0 ≤ i ∧ 0 ≤ acc ∧ 0 ≤ seed ∧ seed < 2147483647
theorem Pot.ne {H : Hp} {p l : Addr} (h : Pot H p l) : l ≠ p := by
  obtain ⟨ns, i, acc, seed, h1, h2, _⟩ := h
  refine ne_of h2 h1 fun e => ?_
  have e1 := HO.lst.inj e
  cases ns with
  | nil => cases e1
  | cons a r => rw [List.map_cons] at e1; injection e1 with e2 _; cases e2
theorem Pot.same {H H' : Hp} {p l : Addr} (h : Pot H p l) (s : Same H H') : Pot H' p l := by
  obtain ⟨ns, i, acc, seed, h1, h2, h3⟩ := h
  exact ⟨ns, i, acc, seed, s _ _ h1, s _ _ h2, h3⟩
theorem Pot.only {H H' : Hp} {p l q : Addr} (h : Pot H p l) (s : Only q H H') (n1 : p ≠ q) (n2 : l ≠ q) : Pot H' p l := by
  obtain ⟨ns, i, acc, seed, h1, h2, h3⟩ := h
  exact ⟨ns, i, acc, seed, by rw [s _ n1]; exact h1, by rw [s _ n2]; exact h2, h3⟩
/-- a draw's answer below the limit -/
def sp_law_next (K : PySem.W.Frag) (a : Ad) : Sp := fun vs H Q _ => ∃ (p l : Addr) (m : Int), vs = [.ref p, .int m] ∧ Pot H p l ∧ 0 < m ∧ m < 1099511627776 ∧
  ∀ (v : Int) (H' : Hp), 0 ≤ v → v < m → Pot H' p l → Only p H H' → Q (.int v) H'
theorem sp_law_next_len {K : PySem.W.Frag} {a : Ad} {vs : List V} {H : Hp} {Q : VK} {E : XK} (h : sp_law_next K a vs H Q E) : vs.length = 2 := by
  obtain ⟨p, l, m, rfl, _⟩ := h
  rfl
def sp_law_pot (K : PySem.W.Frag) (a : Ad) : Sp := fun vs H Q _ => ∃ (s : Addr) (ns : List Int), vs = [.ref s] ∧ SqL K H s (ns.map V.int) ∧ ns.length ≤ 1000 ∧
  ∀ (p l : Addr) (H' : Hp), H p = none → H l = none → Same H H' → Pot H' p l → Q (.ref p) H'
theorem sp_law_pot_len {K : PySem.W.Frag} {a : Ad} {vs : List V} {H : Hp} {Q : VK} {E : XK} (h : sp_law_pot K a vs H Q E) : vs.length = 1 := by
  obtain ⟨s, ns, rfl, _⟩ := h
  rfl
/-- the law itself: True at every script -/
def sp_law0 (K : PySem.W.Frag) : Sp := fun vs H Q _ => ∃ (s : Addr) (ns : List Int), vs = [.ref s] ∧ SqL K H s (ns.map V.int) ∧ ns.length ≤ 63 ∧ ∀ H', Q (.bl true) H'
def sp_law (K : PySem.W.Frag) (a : Ad) : Sp := sp_law0 K
theorem sp_law_len {K : PySem.W.Frag} {a : Ad} {vs : List V} {H : Hp} {Q : VK} {E : XK} (h : sp_law K a vs H Q E) : vs.length = 1 := by
  obtain ⟨s, ns, rfl, _⟩ := h
  rfl
theorem int_item {ns : List Int} {i : Nat} {y : V} (h : (ns.map V.int)[i]? = some y) : ∃ z, ns[i]? = some z ∧ y = V.int z := by
  rw [List.getElem?_map] at h
  cases e : ns[i]? with
  | none => rw [e] at h; cases h
  | some z => rw [e] at h; exact ⟨z, rfl, (Option.some.inj h).symm⟩
/-- the pot's own object is no list of refs alone, no tuple -/
theorem Pot.list {H : Hp} {p l : Addr} (h : Pot H p l) : ∃ i acc seed : Int, H p = some (.lst [.ref l, .int i, .int acc, .int seed]) := by
  obtain ⟨ns, i, acc, seed, h1, _⟩ := h
  exact ⟨i, acc, seed, h1⟩
theorem But.seq {K : PySem.W.Frag} {H H' : Hp} {p a : Addr} {xs : List V} (b : But p H H') (n : a ≠ p) (h : SqL K H a xs) : SqL K H' a xs := by
  rcases h with (h | ⟨o, h⟩) | h
  · exact .inl (.inl (b _ _ h n))
  · exact .inl (.inr ⟨o, b _ _ h n⟩)
  · exact .inr h
theorem But.tup {K : PySem.W.Frag} {H H' : Hp} {p l a : Addr} {xs : List V} (P : Pot H p l) (b : But p H H') (h : SqT K H a xs) : SqT K H' a xs := by
  obtain ⟨i, acc, seed, hp⟩ := P.list
  rcases h with (h | ⟨o, h⟩) | h
  · exact .inl (.inl (b _ _ h (ne_of h hp (by intro q; cases q))))
  · exact .inl (.inr ⟨o, b _ _ h (ne_of h hp (by intro q; cases q))⟩)
  · exact .inr h
theorem Pot.noList {H : Hp} {p l a : Addr} (P : Pot H p l) {xs : List V} (h : H a = some (.lst xs)) (hx : ∀ i acc seed : Int, xs ≠ [.ref l, .int i, .int acc, .int seed]) : a ≠ p := by
  obtain ⟨i, acc, seed, hp⟩ := P.list
  exact ne_of h hp fun q => hx i acc seed (HO.lst.inj q)
theorem Pot.off {H : Hp} {p l q : Addr} (P : Pot H p l) (h : H q = none) : p ≠ q ∧ l ≠ q := by
  obtain ⟨_, _, _, _, g1, g2, _⟩ := P
  exact ⟨ne_of_none g1 h, ne_of_none g2 h⟩
theorem Pot.new {H : Hp} {p l q : Addr} {o : HO} (P : Pot H p l) (h : H q = none) : Pot (upd H q o) p l := P.same (Same.new h)
def sp_inverse (K : PySem.W.Frag) (a : Ad) : Sp := fun vs H Q E => ∃ x : Int, vs = [.int x] ∧ (x % 65521 = 0 → ∀ H', Same H H' → E (.ref a.c_InvalidArgument) none H') ∧ (x % 65521 ≠ 0 → ∀ H', Same H H' → Q (.int (invP x)) H')
theorem sp_inverse_len {K : PySem.W.Frag} {a : Ad} {vs : List V} {H : Hp} {Q : VK} {E : XK} (h : sp_inverse K a vs H Q E) : vs.length = 1 := by
  obtain ⟨x, rfl, _⟩ := h
  rfl
/-! words drawn, a polynomial's value -/
def sp_law_word (K : PySem.W.Frag) (a : Ad) : Sp := fun vs H Q _ => ∃ (p l : Addr), vs = [.ref p] ∧ Pot H p l ∧ ∀ (v : Int) (H' : Hp), Wd v → Pot H' p l → Only p H H' → Q (.int v) H'
theorem sp_law_word_len {K : PySem.W.Frag} {a : Ad} {vs : List V} {H : Hp} {Q : VK} {E : XK} (h : sp_law_word K a vs H Q E) : vs.length = 1 := by
  obtain ⟨p, l, rfl, _⟩ := h
  rfl
def sp_law_words (K : PySem.W.Frag) (a : Ad) : Sp := fun vs H Q _ => ∃ (p l : Addr) (n : Int), vs = [.ref p, .int n] ∧ Pot H p l ∧ 0 ≤ n ∧ n ≤ 5000 ∧
  ∀ (D : Addr) (ws : List Int) (H' : Hp), ws.length = n.toNat → (∀ w ∈ ws, Wd w) → H D = none → H' D = some (.lst (ws.map V.int)) → But p H H' → Pot H' p l → Q (.ref D) H'
theorem sp_law_words_len {K : PySem.W.Frag} {a : Ad} {vs : List V} {H : Hp} {Q : VK} {E : XK} (h : sp_law_words K a vs H Q E) : vs.length = 2 := by
  obtain ⟨p, l, n, rfl, _⟩ := h
  rfl
def sp_law_horner (K : PySem.W.Frag) (a : Ad) : Sp := fun vs H Q _ => ∃ (d : Addr) (ns : List Int) (x : Int), vs = [.ref d, .int x] ∧ SqL K H d (ns.map V.int) ∧ ns.length ≤ 500 ∧ Q (.int (horn ns x)) H
theorem sp_law_horner_len {K : PySem.W.Frag} {a : Ad} {vs : List V} {H : Hp} {Q : VK} {E : XK} (h : sp_law_horner K a vs H Q E) : vs.length = 2 := by
  obtain ⟨d, ns, x, rfl, _⟩ := h
  rfl
def BadPts (ps : List (Int × Int)) : Prop := ps = [] ∨ ¬ Apart (ps.map (·.1))
def placesM (ps : List (Int × Int)) : List Int := (ps.map (·.1)).map (· % 65521)
def sp_distinct_places (K : PySem.W.Frag) (a : Ad) : Sp := fun vs H Q E => ∃ (p : Addr) (ps : List (Int × Int)), vs = [.ref p] ∧ PtsAt K H p ps ∧ ps.length ≤ 500 ∧
  (BadPts ps → ∀ H', Same H H' → E (.ref a.c_InvalidArgument) none H') ∧
  (¬ BadPts ps → ∀ (D : Addr) (H' : Hp), Same H H' → H D = none → H' D = some (.lst ((placesM ps).map V.int)) → Q (.ref D) H')
def sp_weight (K : PySem.W.Frag) (a : Ad) : Sp := fun vs H Q _ => ∃ (p : Int) (o : Addr) (os : List Int) (x : Int), vs = [.int p, .ref o, .int x] ∧ SqL K H o (os.map V.int) ∧ prodM os p 1 % 65521 ≠ 0 ∧
  ∀ H', Same H H' → Q (.int (wgt p os x)) H'
def sp_weights (K : PySem.W.Frag) (a : Ad) : Sp := fun vs H Q _ => ∃ (l : Addr) (ws : List Int) (x : Int), vs = [.ref l, .int x] ∧ H l = some (.lst (ws.map V.int)) ∧ Apart ws ∧ ws.length ≤ 500 ∧
  ∀ (D : Addr) (H' : Hp), Same H H' → H D = none → H' D = some (.lst ((weightsM ws x).map V.int)) → Q (.ref D) H'
def sp_value_at (K : PySem.W.Frag) (a : Ad) : Sp := fun vs H Q E => ∃ (p : Addr) (ps : List (Int × Int)) (x : Int), vs = [.ref p, .int x] ∧ PtsAt K H p ps ∧ ps.length ≤ 500 ∧
  (BadPts ps → ∀ H', Same H H' → E (.ref a.c_InvalidArgument) none H') ∧
  (¬ BadPts ps → ∀ H', Same H H' → Q (.int (valM (placesM ps) (ps.map (·.2)) x)) H')
theorem sp_distinct_places_len {K : PySem.W.Frag} {a : Ad} {vs : List V} {H : Hp} {Q : VK} {E : XK} (h : sp_distinct_places K a vs H Q E) : vs.length = 1 := by
  obtain ⟨p, ps, rfl, _⟩ := h
  rfl
theorem sp_weight_len {K : PySem.W.Frag} {a : Ad} {vs : List V} {H : Hp} {Q : VK} {E : XK} (h : sp_weight K a vs H Q E) : vs.length = 3 := by
  obtain ⟨p, o, os, x, rfl, _⟩ := h
  rfl
theorem sp_weights_len {K : PySem.W.Frag} {a : Ad} {vs : List V} {H : Hp} {Q : VK} {E : XK} (h : sp_weights K a vs H Q E) : vs.length = 2 := by
  obtain ⟨l, ws, x, rfl, _⟩ := h
  rfl
theorem sp_value_at_len {K : PySem.W.Frag} {a : Ad} {vs : List V} {H : Hp} {Q : VK} {E : XK} (h : sp_value_at K a vs H Q E) : vs.length = 2 := by
  obtain ⟨p, ps, x, rfl, _⟩ := h
  rfl
def sp_law_is_words (K : PySem.W.Frag) (a : Ad) : Sp := fun vs H Q _ => ∃ (d : Addr) (r : List Int) (n : Int), vs = [.ref d, .int n] ∧ H d = some (.lst (r.map V.int)) ∧ (∀ w ∈ r, Wd w) ∧ (r.length : Int) = n ∧ Q (.bl true) H
theorem sp_law_is_words_len {K : PySem.W.Frag} {a : Ad} {vs : List V} {H : Hp} {Q : VK} {E : XK} (h : sp_law_is_words K a vs H Q E) : vs.length = 2 := by
  obtain ⟨d, r, n, rfl, _⟩ := h
  rfl
/-! rows, lines: lists of lists -/
def refs (E : List (Addr × List Int)) : List V := E.map fun e => V.ref e.1
theorem refs_len (E : List (Addr × List Int)) : (refs E).length = E.length := by simp [refs]
theorem refs_get {E : List (Addr × List Int)} {i : Nat} {e : Addr × List Int} (h : E[i]? = some e) : (refs E)[i]? = some (V.ref e.1) := by unfold refs; rw [List.getElem?_map, h]; rfl
theorem refs_item {E : List (Addr × List Int)} {i : Nat} {y : V} (h : (refs E)[i]? = some y) : ∃ e, E[i]? = some e ∧ y = V.ref e.1 := by
  unfold refs at h
  rw [List.getElem?_map] at h
  cases q : E[i]? with
  | none => rw [q] at h; cases h
  | some e => rw [q] at h; exact ⟨e, rfl, (Option.some.inj h).symm⟩
/-- rows that are read -/
def RL (K : PySem.W.Frag) (H : Hp) (R : Addr) (E : List (Addr × List Int)) : Prop := SqL K H R (refs E) ∧ ∀ e ∈ E, SqL K H e.1 (e.2.map V.int)
theorem RL.same {K : PySem.W.Frag} {H H' : Hp} {R : Addr} {E : List (Addr × List Int)} (h : RL K H R E) (s : Same H H') : RL K H' R E := ⟨s.seq h.1, fun e m => s.seq (h.2 e m)⟩
/-- lines that are changed -/
def LA (H : Hp) (L : Addr) (E : List (Addr × List Int)) : Prop := H L = some (.lst (refs E)) ∧ ∀ e ∈ E, H e.1 = some (.lst (e.2.map V.int)) ∧ e.1 ≠ L
theorem LA.same {H H' : Hp} {L : Addr} {E : List (Addr × List Int)} (h : LA H L E) (s : Same H H') : LA H' L E := ⟨s _ _ h.1, fun e m => ⟨s _ _ (h.2 e m).1, (h.2 e m).2⟩⟩
theorem LA.put {H : Hp} {L : Addr} {E' : List (Addr × List Int)} (h : ∀ e ∈ E', H e.1 = some (.lst (e.2.map V.int)) ∧ e.1 ≠ L) : LA (upd H L (.lst (refs E'))) L E' := ⟨upd_same, fun e m => ⟨by rw [upd_ne (h e m).2]; exact (h e m).1, (h e m).2⟩⟩
theorem LA.rl {K : PySem.W.Frag} {H : Hp} {L : Addr} {E : List (Addr × List Int)} (h : LA H L E) : RL K H L E := ⟨SqL.of h.1, fun e m => SqL.of (h.2 e m).1⟩
abbrev snds (E : List (Addr × List Int)) : List (List Int) := E.map (·.2)
theorem snds_get {E : List (Addr × List Int)} {i : Nat} {e : Addr × List Int} (h : E[i]? = some e) : (snds E).getD i [] = e.2 := getD_item (by rw [List.getElem?_map, h]; rfl)
theorem snds_len (E : List (Addr × List Int)) : (snds E).length = E.length := List.length_map _
theorem ints_pot {l : Addr} {xs : List Int} {i acc seed : Int} : xs.map V.int ≠ [.ref l, .int i, .int acc, .int seed] := fun e => by
  cases xs with
  | nil => cases e
  | cons a r => rw [List.map_cons] at e; injection e with e1 _; cases e1
theorem LA.but {H H' : Hp} {p l L : Addr} {F : List (Addr × List Int)} (h : LA H L F) (P : Pot H p l) (n : L ≠ p) (b : But p H H') : LA H' L F :=
  ⟨b _ _ h.1 n, fun e m => ⟨b _ _ (h.2 e m).1 (P.noList (h.2 e m).1 fun _ _ _ => ints_pot), (h.2 e m).2⟩⟩
/-! pieces of a stripe -/
def BadLen (rows : List (List Int)) : Prop := ∃ r ∈ rows, r.length ≠ (rows.getD 0 []).length
noncomputable def pieceM (ws : List Int) (rows : List (List Int)) (x : Int) (n : Nat) : List Int := (List.range n).map fun i => valM ws (rows.map fun r => r.getD i 0) x
def upto (n : Nat) : List Int := (List.range n).map fun (i : Nat) => (i : Int)
theorem upto_len (n : Nat) : (upto n).length = n := by simp [upto]
theorem upto_get {n i : Nat} (h : i < n) : (upto n).getD i 0 = (i : Int) := by
  apply getD_item
  simp [upto, h]
theorem upto_apart {n : Nat} (h : n ≤ 60000) : Apart (upto n) := by
  unfold Apart
  unfold upto List.Nodup
  rw [List.map_map, List.pairwise_map]
  refine List.Pairwise.imp_of_mem (fun {a b} ha hb hab e => ?_) (List.pairwise_lt_range (n := n))
  have h1 := List.mem_range.mp ha
  have h2 := List.mem_range.mp hb
  have this : (a : Int) % 65521 = (b : Int) % 65521 := z_mod_eq e
  have hab' : a < b := hab
  omega
/-- the i-th column of the rows, as a new tuple -/
def YCol (F : List (Addr × List Int)) : Nat → Hp → V → Hp → Prop := fun i H v H' => ∃ T, v = .ref T ∧ H T = none ∧ H' = upd H T (.tup (((snds F).map fun r => r.getD i 0).map V.int))
theorem cols_rows {K : PySem.W.Frag} {H : Hp} {i : Nat} : ∀ (F : List (Addr × List Int)) (ys : List V), (∀ e ∈ F, SqL K H e.1 (e.2.map V.int) ∧ i < e.2.length) → Cols K H i ((F.map (·.1)).map fun l => (l, false)) ys → ys = ((snds F).map fun r => r.getD i 0).map V.int
  | [], [], _, _ => rfl
  | [], _ :: _, _, h => False.elim h
  | _ :: _, [], _, h => False.elim h
  | e :: F, y :: ys, h, ⟨h1, h2⟩ => by
    obtain ⟨a, b⟩ := h e (by simp)
    have q : (e.2.map V.int)[i]? = some y := h1 _ a
    rw [List.getElem?_map, List.getElem?_eq_getElem b] at q
    have e1 : e.2.getD i 0 = e.2[i] := getD_item (List.getElem?_eq_getElem b)
    rw [cols_rows F ys (fun e' m => h e' (by simp [m])) h2]
    simp only [snds, List.map_cons, e1]
    rw [← Option.some.inj q]
theorem walk_cols {K : PySem.W.Frag} {F : List (Addr × List Int)} {n : Nat} (hne : F ≠ []) (hrow : ∀ e ∈ F, e.2.length = n) :
    Walk (Itn K ((F.map (·.1)).map fun l => (l, false))) n (fun H => ∀ e ∈ F, SqL K H e.1 (e.2.map V.int)) (YCol F) := by
  refine ⟨fun i H hi q l hl => ?_, fun H q => ?_, fun i H v H' hi q y => ?_⟩
  · obtain ⟨l', hl', rfl⟩ := List.mem_map.1 hl
    obtain ⟨e, me, rfl⟩ := List.mem_map.1 hl'
    have := hrow e me
    exact ⟨_, _, q e me, List.getElem?_eq_getElem (by rw [List.length_map]; omega)⟩
  · cases F with
    | nil => exact absurd rfl hne
    | cons e F => exact ⟨(e.1, false), _, _, rfl, q e (by simp), by rw [List.length_map, hrow e (by simp)]; exact Nat.le_refl _⟩
  · obtain ⟨T, ys, h1, h2, h3, h4⟩ := y
    have := cols_rows F ys (fun e m => ⟨q e m, by have := hrow e m; omega⟩) h4
    exact ⟨T, h1, h2, by rw [h3, this]⟩
theorem walk_zipM {K : PySem.W.Frag} {a b : Addr} {xs ys : List V} {n : Nat} (h1 : xs.length = n) (h2 : ys.length = n) :
    Walk (Itn K [(a, false), (b, true)]) n (fun H => SqL K H a xs ∧ SqT K H b ys) (YPair (fun i => xs[i]?) (fun i => ys[i]?)) := by
  refine ⟨fun i H hi q l hl => ?_, fun H q => ⟨(a, false), _, xs, rfl, q.1, by omega⟩, fun i H v H' hi q y => ?_⟩
  · rcases List.mem_cons.1 hl with rfl | hl
    · exact ⟨xs, _, q.1, List.getElem?_eq_getElem (by omega)⟩
    · rw [List.mem_singleton.1 hl]
      exact ⟨ys, _, q.2, List.getElem?_eq_getElem (by omega)⟩
  · obtain ⟨T, zs, e1, e2, e3, e4⟩ := y
    match zs, e4 with
    | [x, y], ⟨c1, c2, _⟩ => exact ⟨T, x, y, e1, e2, e3, c1 xs q.1, c2 ys q.2⟩
def sp_check_lengths (K : PySem.W.Frag) (a : Ad) : Sp := fun vs H Q E => ∃ (R : Addr) (F : List (Addr × List Int)), vs = [.ref R] ∧ RL K H R F ∧
  (BadLen (snds F) → ∀ H', Same H H' → E (.ref a.c_InvalidArgument) none H') ∧ (¬ BadLen (snds F) → ∀ H', Same H H' → Q .non H')
theorem sp_check_lengths_len {K : PySem.W.Frag} {a : Ad} {vs : List V} {H : Hp} {Q : VK} {E : XK} (h : sp_check_lengths K a vs H Q E) : vs.length = 1 := by
  obtain ⟨R, F, rfl, _⟩ := h
  rfl
def sp_piece_at (K : PySem.W.Frag) (a : Ad) : Sp := fun vs H Q _ => ∃ (R P : Addr) (F : List (Addr × List Int)) (ws : List Int) (x : Int) (n : Nat), vs = [.ref R, .ref P, .int x] ∧ RL K H R F ∧ H P = some (.lst (ws.map V.int)) ∧ Apart ws ∧ ws.length = F.length ∧ F ≠ [] ∧ F.length ≤ 8 ∧ n ≤ 500 ∧
  (∀ e ∈ F, e.2.length = n) ∧ ∀ (D : Addr) (H' : Hp), Same H H' → H D = none → H' D = some (.lst ((pieceM ws (snds F) x n).map V.int)) → Q (.ref D) H'
theorem sp_piece_at_len {K : PySem.W.Frag} {a : Ad} {vs : List V} {H : Hp} {Q : VK} {E : XK} (h : sp_piece_at K a vs H Q E) : vs.length = 3 := by
  obtain ⟨R, P, F, ws, x, n, rfl, _⟩ := h
  rfl
theorem but_none {p : Addr} {H H' : Hp} {b : Addr} (s : But p H H') (nb : b ≠ p) (n : H' b = none) : H b = none := by
  cases q : H b with
  | none => rfl
  | some o => rw [s _ _ q nb] at n; cases n
def sp_law_stripe (K : PySem.W.Frag) (a : Ad) : Sp := fun vs H Q _ => ∃ (p l : Addr) (d c n : Nat), vs = [.ref p, .int (d : Int), .int (c : Int), .int (n : Int)] ∧ Pot H p l ∧ d ≤ 20 ∧ c ≤ 20 ∧ n ≤ 20 ∧
  ∀ (D : Addr) (F : List (Addr × List Int)) (ps : List (List Int)) (H' : Hp), But p H H' → Pot H' p l → H D = none → LA H' D F → F.length = c → ps.length = n → (∀ ws ∈ ps, ws.length = d ∧ ∀ w ∈ ws, Wd w) → (∀ k < c, (snds F).getD k [] = ps.map fun ws => horn ws (k : Int)) → Q (.ref D) H'
theorem sp_law_stripe_len {K : PySem.W.Frag} {a : Ad} {vs : List V} {H : Hp} {Q : VK} {E : XK} (h : sp_law_stripe K a vs H Q E) : vs.length = 4 := by
  obtain ⟨p, l, d, c, n, rfl, _⟩ := h
  rfl
def BadEnc (rows : List (List Int)) (par : Int) : Prop := rows = [] ∨ par < 0 ∨ (rows.length : Int) + par > 8 ∨ BadLen rows
def sp_encode (K : PySem.W.Frag) (a : Ad) : Sp := fun vs H Q E => ∃ (R : Addr) (F : List (Addr × List Int)) (par : Int), vs = [.ref R, .int par] ∧ RL K H R F ∧ F.length ≤ 20 ∧ ((snds F).getD 0 []).length ≤ 500 ∧ -500 ≤ par ∧ par ≤ 500 ∧
  (BadEnc (snds F) par → ∀ H', Same H H' → E (.ref a.c_InvalidArgument) none H') ∧
  (¬ BadEnc (snds F) par → ∀ (D : Addr) (G : List (Addr × List Int)) (H' : Hp), Same H H' → H D = none → LA H' D G → snds G = (List.range par.toNat).map (fun k => pieceM (upto F.length) (snds F) ((F.length + k : Nat) : Int) ((snds F).getD 0 []).length) → Q (.ref D) H')
theorem sp_encode_len {K : PySem.W.Frag} {a : Ad} {vs : List V} {H : Hp} {Q : VK} {E : XK} (h : sp_encode K a vs H Q E) : vs.length = 2 := by
  obtain ⟨R, F, par, rfl, _⟩ := h
  rfl
/-! sealed sectors -/
def wts (ws : List Int) : List Int := (List.range ws.length).map fun (i : Nat) => (1 + (i : Int)) * ws.getD i 0
def ck1 (ws : List Int) : Int := ws.sum % 65521
def ck2 (ws : List Int) : Int := (wts ws).sum % 65521
def hdM (k d r e s : Int) (ws : List Int) : List Int := [k, d, r, e, s / 65521, s % 65521] ++ ws
def sealM (k d r e s : Int) (ws : List Int) : List Int := hdM k d r e s ws ++ [ck1 (hdM k d r e s ws), ck2 (hdM k d r e s ws)]
def Plc (k d r : Int) : Prop := (1 ≤ k ∧ k ≤ 3) ∧ (0 ≤ d ∧ d < 8) ∧ (0 ≤ r ∧ r < 4000)
def Stp (e s : Int) : Prop := (0 ≤ e ∧ e < 65521) ∧ (0 ≤ s ∧ s < 4293001441)
def BadSeal (k d r e s : Int) (ws : List Int) : Prop := ¬ Plc k d r ∨ ¬ Stp e s ∨ 1000 < ws.length
theorem range_getD (ws : List Int) : (List.range ws.length).map (fun (i : Nat) => ws.getD i 0) = ws := by
  refine List.ext_getElem (by simp) fun i h1 h2 => ?_
  simp [h2]
/-- the sums as they grow -/
def sm1 (ws : List Int) (i : Nat) : Int := ((List.range i).map fun (j : Nat) => ws.getD j 0).sum
def sm2 (ws : List Int) (i : Nat) : Int := ((List.range i).map fun (j : Nat) => (1 + (j : Int)) * ws.getD j 0).sum
theorem sum_snoc (xs : List Int) (x : Int) : (xs ++ [x]).sum = xs.sum + x := by rw [List.sum_append]; simp
theorem sm1_succ (ws : List Int) (i : Nat) : sm1 ws (i + 1) = sm1 ws i + ws.getD i 0 := by
  unfold sm1
  rw [List.range_succ, List.map_append]
  exact sum_snoc _ _
theorem sm2_succ (ws : List Int) (i : Nat) : sm2 ws (i + 1) = sm2 ws i + (1 + (i : Int)) * ws.getD i 0 := by
  unfold sm2
  rw [List.range_succ, List.map_append]
  exact sum_snoc _ _
theorem ck1_sm (ws : List Int) : ck1 ws = sm1 ws ws.length % 65521 := by unfold ck1 sm1; rw [range_getD]
theorem ck2_sm (ws : List Int) : ck2 ws = sm2 ws ws.length % 65521 := rfl
theorem hdM_length (k d r e s : Int) (ws : List Int) : (hdM k d r e s ws).length = ws.length + 6 := by simp [hdM]
theorem sealM_length (k d r e s : Int) (ws : List Int) : (sealM k d r e s ws).length = ws.length + 8 := by simp [sealM, hdM]
theorem ck1_word (ws : List Int) : Wd (ck1 ws) := ⟨Int.emod_nonneg _ (by decide), Int.emod_lt_of_pos _ (by decide)⟩
theorem ck2_word (ws : List Int) : Wd (ck2 ws) := ⟨Int.emod_nonneg _ (by decide), Int.emod_lt_of_pos _ (by decide)⟩
theorem hdM_words {k d r e s : Int} {ws : List Int} (hp : Plc k d r) (hs : Stp e s) (hw : ∀ w ∈ ws, Wd w) : ∀ w ∈ hdM k d r e s ws, Wd w := fun w m => by
  obtain ⟨⟨k0, k1⟩, ⟨d0, d1⟩, ⟨r0, r1⟩⟩ := hp
  obtain ⟨⟨e0, e1⟩, ⟨s0, s1⟩⟩ := hs
  rcases List.mem_append.mp m with m | m
  · simp only [List.mem_cons, List.not_mem_nil, or_false] at m
    unfold Wd
    rcases m with rfl | rfl | rfl | rfl | rfl | rfl <;> omega
  · exact hw w m
theorem sealM_words {k d r e s : Int} {ws : List Int} (hp : Plc k d r) (hs : Stp e s) (hw : ∀ w ∈ ws, Wd w) : ∀ w ∈ sealM k d r e s ws, Wd w := fun w m => by
  rcases List.mem_append.mp m with m | m
  · exact hdM_words hp hs hw w m
  · simp only [List.mem_cons, List.not_mem_nil, or_false] at m
    rcases m with rfl | rfl
    · exact ck1_word _
    · exact ck2_word _
def sp_check_words (K : PySem.W.Frag) (a : Ad) : Sp := fun vs H Q _ => ∃ (l : Addr) (ws : List Int), vs = [.ref l] ∧ SqL K H l (ws.map V.int) ∧ ws.length ≤ 5000 ∧
  ∀ (D : Addr) (H' : Hp), Same H H' → H D = none → H' D = some (.tup [.int (ck1 ws), .int (ck2 ws)]) → Q (.ref D) H'
theorem sp_check_words_len {K : PySem.W.Frag} {a : Ad} {vs : List V} {H : Hp} {Q : VK} {E : XK} (h : sp_check_words K a vs H Q E) : vs.length = 1 := by
  obtain ⟨l, ws, rfl, _⟩ := h
  rfl
def sp_is_place (K : PySem.W.Frag) (a : Ad) : Sp := fun vs H Q _ => ∃ (k d r : Int), vs = [.int k, .int d, .int r] ∧ (Plc k d r → Q (.bl true) H) ∧ (¬ Plc k d r → Q (.bl false) H)
theorem sp_is_place_len {K : PySem.W.Frag} {a : Ad} {vs : List V} {H : Hp} {Q : VK} {E : XK} (h : sp_is_place K a vs H Q E) : vs.length = 3 := by
  obtain ⟨k, d, r, rfl, _⟩ := h
  rfl
def sp_seal (K : PySem.W.Frag) (a : Ad) : Sp := fun vs H Q E => ∃ (k d r : Int) (st pl : Addr) (e s : Int) (ws : List Int), vs = [.int k, .int d, .int r, .ref st, .ref pl] ∧ SqT K H st [.int e, .int s] ∧ SqL K H pl (ws.map V.int) ∧ ws.length ≤ 4000 ∧
  (BadSeal k d r e s ws → ∀ H', Same H H' → E (.ref a.c_InvalidArgument) none H') ∧
  (¬ BadSeal k d r e s ws → ∀ (D : Addr) (H' : Hp), Same H H' → H D = none → H' D = some (.lst ((sealM k d r e s ws).map V.int)) → Q (.ref D) H')
theorem sp_seal_len {K : PySem.W.Frag} {a : Ad} {vs : List V} {H : Hp} {Q : VK} {E : XK} (h : sp_seal K a vs H Q E) : vs.length = 5 := by
  obtain ⟨k, d, r, st, pl, e, s, ws, rfl, _⟩ := h
  rfl
theorem seal_take (k d r e s : Int) (ws : List Int) : (sealM k d r e s ws).take (ws.length + 6) = hdM k d r e s ws := by
  unfold sealM
  rw [List.take_append_of_le_length (by rw [hdM_length]; exact Nat.le_refl _), List.take_of_length_le (by rw [hdM_length]; exact Nat.le_refl _)]
theorem seal_drop (k d r e s : Int) (ws : List Int) : (sealM k d r e s ws).drop (ws.length + 6) = [ck1 (hdM k d r e s ws), ck2 (hdM k d r e s ws)] := by
  unfold sealM
  rw [List.drop_append_of_le_length (by rw [hdM_length]; exact Nat.le_refl _), List.drop_of_length_le (by rw [hdM_length]; exact Nat.le_refl _)]
  rfl
/-! images, requests, blocks -/
theorem cut_mid (xs : List V) (i j : Nat) : cutV xs (some (i : Int)) (some (j : Int)) = (xs.drop i).take (j - i) := by
  unfold cutV
  rw [HT.sIx_nat, HT.sIx_nat]
  by_cases h : i ≤ xs.length
  · rw [Nat.min_eq_left h]
    by_cases g : j ≤ xs.length
    · rw [Nat.min_eq_left g]
    · rw [Nat.min_eq_right (by omega), List.take_of_length_le (by rw [List.length_drop]; omega), List.take_of_length_le (by rw [List.length_drop]; omega)]
  · rw [Nat.min_eq_right (show xs.length ≤ i by omega), List.drop_of_length_le (by omega), List.drop_of_length_le (by omega), List.take_nil, List.take_nil]
theorem erase_map {α β : Type} (f : α → β) : ∀ (l : List α) (i : Nat), (l.map f).eraseIdx i = (l.eraseIdx i).map f
  | [], _ => rfl
  | _ :: _, 0 => rfl
  | a :: l, i + 1 => by
    show f a :: (l.map f).eraseIdx i = f a :: (l.eraseIdx i).map f
    rw [erase_map f l i]
theorem erase_perm : ∀ (l : List Int) (i : Nat) (h : i < l.length), (l[i] :: l.eraseIdx i).Perm l
  | _ :: _, 0, _ => List.Perm.refl _
  | a :: l, i + 1, h => by
    have h' : i < l.length := Nat.lt_of_succ_lt_succ h
    show (l[i] :: a :: l.eraseIdx i).Perm (a :: l)
    exact (List.Perm.swap _ _ _).trans (List.Perm.cons _ (erase_perm l i (Nat.lt_of_succ_lt_succ h)))
theorem seqIx_nat {i n : Nat} (h : i < n) : seqIndex? (i : Int) n = some i := by
  rw [seqIndex_of (by omega) (by omega), Int.toNat_natCast]
theorem cut_ints (W : List Int) (i j : Nat) : cutV (W.map V.int) (some (i : Int)) (some (j : Int)) = ((W.drop i).take (j - i)).map V.int := by rw [cut_mid, List.map_take, List.map_drop]
def refI : Option Addr → V
  | none => .non
  | some a => .ref a
def presentM (ims : List (Option Addr)) (d : Nat) : Bool := (ims.getD d none).isSome
theorem imgs_get {ims : List (Option Addr)} {i : Nat} {o : Option Addr} (h : ims[i]? = some o) : (ims.map refI)[i]? = some (refI o) := by rw [List.getElem?_map, h]; rfl
structure Rq where
  t : Addr
  s : Addr
  d : Int
  r : Int
  ws : List Int
abbrev rqV (e : Rq) : V := .ref e.t
abbrev rqM (e : Rq) : Int × Int × List Int := (e.d, e.r, e.ws)
/-- a list of write requests -/
def WRq (H : Hp) (D : Addr) (L : List Rq) : Prop := H D = some (.lst (L.map rqV)) ∧ ∀ e ∈ L, (H e.t = some (.tup [.str "write", .int e.d, .int e.r, .ref e.s]) ∧ e.t ≠ D) ∧ H e.s = some (.lst (e.ws.map V.int)) ∧ e.s ≠ D
theorem WRq.same {H H' : Hp} {D : Addr} {L : List Rq} (h : WRq H D L) (s : Same H H') : WRq H' D L := ⟨s _ _ h.1, fun e m => ⟨⟨s _ _ (h.2 e m).1.1, (h.2 e m).1.2⟩, s _ _ (h.2 e m).2.1, (h.2 e m).2.2⟩⟩
theorem WRq.put {H : Hp} {D : Addr} {L : List Rq} (h : ∀ e ∈ L, (H e.t = some (.tup [.str "write", .int e.d, .int e.r, .ref e.s]) ∧ e.t ≠ D) ∧ H e.s = some (.lst (e.ws.map V.int)) ∧ e.s ≠ D) : WRq (upd H D (.lst (L.map rqV))) D L :=
  ⟨upd_same, fun e m => ⟨⟨by rw [upd_ne (h e m).1.2]; exact (h e m).1.1, (h e m).1.2⟩, by rw [upd_ne (h e m).2.2]; exact (h e m).2.1, (h e m).2.2⟩⟩
def sizeM (n d : Nat) : Nat := (n + d - 1) / d
def fillM (ws : List Int) (d : Nat) : List Int := ws ++ List.replicate (sizeM ws.length d * d - ws.length) 0
def cutsM (ws : List Int) (d : Nat) : List (List Int) := (List.range d).map fun j => ((fillM ws d).drop (j * sizeM ws.length d)).take (sizeM ws.length d)
noncomputable def stripeM (ws : List Int) (d c : Nat) : List (List Int) := cutsM ws d ++ (List.range (c - d)).map fun k => pieceM (upto d) (cutsM ws d) ((d + k : Nat) : Int) (sizeM ws.length d)
def PlOk (pls : List (Int × Int)) : Prop := ∀ q ∈ pls, (0 ≤ q.1 ∧ q.1 < 8) ∧ (0 ≤ q.2 ∧ q.2 < 4000)
def oneM (ims : List (Option Addr)) (pls : List (Int × Int)) (e s : Int) (rows : List (List Int)) (n : Nat) : List (Int × Int × List Int) :=
  if presentM ims (pls.getD n (0, 0)).1.toNat then [((pls.getD n (0, 0)).1, (pls.getD n (0, 0)).2, sealM 3 (pls.getD n (0, 0)).1 (pls.getD n (0, 0)).2 e s (rows.getD n []))] else []
def reqM (ims : List (Option Addr)) (pls : List (Int × Int)) (e s : Int) (rows : List (List Int)) (ns : List Nat) : List (Int × Int × List Int) := ns.flatMap (oneM ims pls e s rows)
theorem req_len (ims : List (Option Addr)) (pls : List (Int × Int)) (e s : Int) (rows : List (List Int)) : ∀ ns : List Nat, (reqM ims pls e s rows ns).length ≤ ns.length
  | [] => Nat.le_refl _
  | n :: ns => by
    have h := req_len ims pls e s rows ns
    have h1 : (oneM ims pls e s rows n).length ≤ 1 := by unfold oneM; split <;> simp
    have e1 : reqM ims pls e s rows (n :: ns) = oneM ims pls e s rows n ++ reqM ims pls e s rows ns := rfl
    rw [e1, List.length_append, List.length_cons]
    omega
theorem size_le (n d : Nat) (hd : 1 ≤ d) : n ≤ sizeM n d * d := by
  unfold sizeM
  have h := Nat.div_add_mod (n + d - 1) d
  have h2 := Nat.mod_lt (n + d - 1) (show 0 < d by omega)
  rw [Nat.mul_comm] at h
  omega
theorem size_lt (n d : Nat) (hd : 1 ≤ d) : sizeM n d ≤ n := by
  unfold sizeM
  rcases Nat.eq_zero_or_pos n with z | z
  · subst z
    rw [Nat.div_eq_of_lt (by omega)]
    exact Nat.le_refl _
  · exact (Nat.div_le_iff_le_mul_add_pred (by omega)).mpr (by
      have : n * 1 ≤ n * d := Nat.mul_le_mul_left _ hd
      have e : d * n = n * d := Nat.mul_comm _ _
      have : d ≤ d * n := Nat.le_mul_of_pos_right _ z
      have : n ≤ d * n := Nat.le_mul_of_pos_left _ (by omega)
      omega)
theorem fill_len (ws : List Int) (d : Nat) (hd : 1 ≤ d) : (fillM ws d).length = sizeM ws.length d * d := by
  have := size_le ws.length d hd
  simp [fillM]
  omega
theorem cuts_len (ws : List Int) (d : Nat) : (cutsM ws d).length = d := by simp [cutsM]
theorem cuts_row {ws : List Int} {d : Nat} (hd : 1 ≤ d) : ∀ r ∈ cutsM ws d, r.length = sizeM ws.length d := fun r m => by
  obtain ⟨j, hj, rfl⟩ := List.mem_map.mp m
  have hj' := List.mem_range.mp hj
  rw [List.length_take, List.length_drop, fill_len ws d hd]
  have h1 : (j + 1) * sizeM ws.length d ≤ d * sizeM ws.length d := Nat.mul_le_mul_right _ hj'
  rw [Nat.succ_mul] at h1
  have h2 : sizeM ws.length d * d = d * sizeM ws.length d := Nat.mul_comm _ _
  omega
theorem stripe_len {ws : List Int} {d c : Nat} (h : d ≤ c) : (stripeM ws d c).length = c := by simp [stripeM, cuts_len]; omega
theorem stripe_row {ws : List Int} {d c : Nat} (hd : 1 ≤ d) : ∀ r ∈ stripeM ws d c, r.length = sizeM ws.length d := fun r m => by
  rcases List.mem_append.mp m with m | m
  · exact cuts_row hd r m
  · obtain ⟨k, _, rfl⟩ := List.mem_map.mp m
    simp [pieceM]
def sp_is_present (K : PySem.W.Frag) (a : Ad) : Sp := fun vs H Q _ => ∃ (I : Addr) (ims : List (Option Addr)) (d : Nat), vs = [.ref I, .int (d : Int)] ∧ SqL K H I (ims.map refI) ∧ ims.length ≤ 100 ∧ Q (.bl (presentM ims d)) H
theorem sp_is_present_len {K : PySem.W.Frag} {a : Ad} {vs : List V} {H : Hp} {Q : VK} {E : XK} (h : sp_is_present K a vs H Q E) : vs.length = 2 := by
  obtain ⟨I, ims, d, rfl, _⟩ := h
  rfl
def sp_piece_size (K : PySem.W.Frag) (a : Ad) : Sp := fun vs H Q _ => ∃ (n d : Nat), vs = [.int (n : Int), .int (d : Int)] ∧ 1 ≤ d ∧ d ≤ 100 ∧ Q (.int (sizeM n d : Nat)) H
theorem sp_piece_size_len {K : PySem.W.Frag} {a : Ad} {vs : List V} {H : Hp} {Q : VK} {E : XK} (h : sp_piece_size K a vs H Q E) : vs.length = 2 := by
  obtain ⟨n, d, rfl, _⟩ := h
  rfl
def sp_data_pieces (K : PySem.W.Frag) (a : Ad) : Sp := fun vs H Q _ => ∃ (W : Addr) (ws : List Int) (d : Nat), vs = [.ref W, .int (d : Int)] ∧ SqL K H W (ws.map V.int) ∧ ws.length ≤ 400 ∧ 1 ≤ d ∧ d ≤ 8 ∧
  ∀ (D : Addr) (F : List (Addr × List Int)) (H' : Hp), Same H H' → H D = none → LA H' D F → snds F = cutsM ws d → Q (.ref D) H'
theorem sp_data_pieces_len {K : PySem.W.Frag} {a : Ad} {vs : List V} {H : Hp} {Q : VK} {E : XK} (h : sp_data_pieces K a vs H Q E) : vs.length = 2 := by
  obtain ⟨W, ws, d, rfl, _⟩ := h
  rfl
def sp_piece_requests (K : PySem.W.Frag) (a : Ad) : Sp := fun vs H Q _ => ∃ (I P st R N : Addr) (ims : List (Option Addr)) (pls : List (Int × Int)) (e s : Int) (F : List (Addr × List Int)) (ns : List Nat), vs = [.ref I, .ref P, .ref st, .ref R, .ref N] ∧
  SqL K H I (ims.map refI) ∧ ims.length ≤ 100 ∧ PtsAt K H P pls ∧ PlOk pls ∧ SqT K H st [.int e, .int s] ∧ Stp e s ∧ RL K H R F ∧ (∀ r ∈ F, r.2.length ≤ 1000) ∧ F.length = pls.length ∧ SqL K H N ((ns.map fun (i : Nat) => (i : Int)).map V.int) ∧ (∀ n ∈ ns, n < pls.length) ∧ ns.length ≤ 100 ∧
  ∀ (D : Addr) (L : List Rq) (H' : Hp), Same H H' → H D = none → WRq H' D L → L.map rqM = reqM ims pls e s (snds F) ns → Q (.ref D) H'
theorem sp_piece_requests_len {K : PySem.W.Frag} {a : Ad} {vs : List V} {H : Hp} {Q : VK} {E : XK} (h : sp_piece_requests K a vs H Q E) : vs.length = 5 := by
  obtain ⟨I, P, st, R, N, ims, pls, e, s, F, ns, rfl, _⟩ := h
  rfl
def sp_write_stripe (K : PySem.W.Frag) (a : Ad) : Sp := fun vs H Q E => ∃ (I P st W : Addr) (ims : List (Option Addr)) (pls : List (Int × Int)) (e s : Int) (ws : List Int) (d : Nat), vs = [.ref I, .ref P, .ref st, .ref W, .int (d : Int)] ∧
  SqL K H I (ims.map refI) ∧ ims.length ≤ 100 ∧ PtsAt K H P pls ∧ PlOk pls ∧ SqT K H st [.int e, .int s] ∧ Stp e s ∧ SqL K H W (ws.map V.int) ∧ 1 ≤ d ∧ d ≤ pls.length ∧ pls.length ≤ 8 ∧ (ws.length ≤ 400 ∨ (1000 * d < ws.length ∧ ws.length ≤ 9000)) ∧
  (1000 * d < ws.length → ∀ H', Same H H' → E (.ref a.c_InvalidArgument) none H') ∧
  (ws.length ≤ 400 → ∀ (D : Addr) (L : List Rq) (H' : Hp), Same H H' → H D = none → WRq H' D L → L.map rqM = reqM ims pls e s (stripeM ws d pls.length) (List.range pls.length) → Q (.ref D) H')
theorem sp_write_stripe_len {K : PySem.W.Frag} {a : Ad} {vs : List V} {H : Hp} {Q : VK} {E : XK} (h : sp_write_stripe K a vs H Q E) : vs.length = 5 := by
  obtain ⟨I, P, st, W, ims, pls, e, s, ws, d, rfl, _⟩ := h
  rfl
/-! what a law computes of a stripe -/
def bitsM : List Int := [1, 1, 1, 1, 1, 1, 1, 1, 1, 1, 1, 0, 1, 1, 1, 1]
def powS (n p b : Int) : Int := if b = 1 then p * p % 65521 * n % 65521 else p * p % 65521
def powM (n : Int) : Int := bitsM.foldl (powS n) 1
theorem powS_word (n p b : Int) : 0 ≤ powS n p b ∧ powS n p b < 65521 := by
  unfold powS
  split
  · exact ⟨Int.emod_nonneg _ (by decide), Int.emod_lt_of_pos _ (by decide)⟩
  · exact ⟨Int.emod_nonneg _ (by decide), Int.emod_lt_of_pos _ (by decide)⟩
theorem powF_word (n : Int) (bs : List Int) : 0 ≤ bs.foldl (powS n) 1 ∧ bs.foldl (powS n) 1 < 65521 := by
  rcases List.eq_nil_or_concat bs with h | ⟨l, x, h⟩
  · rw [h]
    exact ⟨by show (0:Int) ≤ 1; decide, by show (1:Int) < 65521; decide⟩
  · rw [h, List.concat_eq_append, List.foldl_append]
    exact powS_word _ _ _
def facA (i : Nat) (x : Int) (d : Nat) : Int := (List.range d).foldl (fun a j => if i = j then a else a * (x - (j : Int)) % 65521) 1
theorem facA_succ (i : Nat) (x : Int) (j : Nat) : facA i x (j + 1) = if i = j then facA i x j else facA i x j * (x - (j : Int)) % 65521 := by
  unfold facA
  rw [List.range_succ, List.foldl_append]
  rfl
theorem facA_word (i : Nat) (x : Int) : ∀ j, 0 ≤ facA i x j ∧ facA i x j < 65521
  | 0 => ⟨by show (0 : Int) ≤ 1; decide, by show (1 : Int) < 65521; decide⟩
  | j + 1 => by
    rw [facA_succ]
    split
    · exact facA_word i x j
    · exact ⟨Int.emod_nonneg _ (by decide), Int.emod_lt_of_pos _ (by decide)⟩
def facM (d : Nat) (x : Int) : List Int := (List.range d).map fun i => facA i x d * powM (facA i (i : Int) d) % 65521
theorem facM_len (d : Nat) (x : Int) : (facM d x).length = d := by simp [facM]
theorem facM_key : ∀ d : Fin 7, ∀ x : Fin 9, ∀ i : Fin 7, i.val < d.val → facA i.val (x.val : Int) d.val = prodM (others (upto d.val) i.val) (x.val : Int) 1 ∧ facA i.val (i.val : Int) d.val = prodM (others (upto d.val) i.val) (i.val : Int) 1 ∧
    0 ≤ powM (facA i.val (i.val : Int) d.val) ∧ powM (facA i.val (i.val : Int) d.val) < 65521 ∧ facA i.val (i.val : Int) d.val * powM (facA i.val (i.val : Int) d.val) % 65521 = 1 := by decide +kernel
theorem facM_eq {d x : Nat} (hd : d ≤ 6) (hx : x ≤ 8) : facM d (x : Int) = weightsM (upto d) (x : Int) := by
  unfold facM weightsM
  rw [upto_len]
  refine List.map_congr_left fun i hi => ?_
  have hi' := List.mem_range.mp hi
  obtain ⟨h1, h2, h3, h4, h5⟩ := facM_key ⟨d, by omega⟩ ⟨x, by omega⟩ ⟨i, by omega⟩ hi'
  dsimp only at h1 h2 h3 h4 h5
  unfold wgt
  rw [upto_get hi', ← h1, ← h2, invP_eq ⟨h3, h4, h5⟩]
def sp_law_inverse (K : PySem.W.Frag) (a : Ad) : Sp := fun vs H Q _ => ∃ (n : Int), vs = [.int n] ∧ ∀ H', Same H H' → Q (.int (powM n)) H'
theorem sp_law_inverse_len {K : PySem.W.Frag} {a : Ad} {vs : List V} {H : Hp} {Q : VK} {E : XK} (h : sp_law_inverse K a vs H Q E) : vs.length = 1 := by
  obtain ⟨n, rfl, _⟩ := h
  rfl
def sp_law_factors (K : PySem.W.Frag) (a : Ad) : Sp := fun vs H Q _ => ∃ (L : Addr) (d : Nat) (x : Int), vs = [.ref L, .int x] ∧ SqL K H L ((upto d).map V.int) ∧ d ≤ 8 ∧
  ∀ (D : Addr) (H' : Hp), Same H H' → H D = none → H' D = some (.lst ((facM d x).map V.int)) → Q (.ref D) H'
theorem sp_law_factors_len {K : PySem.W.Frag} {a : Ad} {vs : List V} {H : Hp} {Q : VK} {E : XK} (h : sp_law_factors K a vs H Q E) : vs.length = 2 := by
  obtain ⟨L, d, x, rfl, _⟩ := h
  rfl
def sp_law_pieces (K : PySem.W.Frag) (a : Ad) : Sp := fun vs H Q _ => ∃ (W : Addr) (ws : List Int) (d c : Nat), vs = [.ref W, .int (d : Int), .int (c : Int)] ∧ H W = some (.lst (ws.map V.int)) ∧ ws.length ≤ 400 ∧ 1 ≤ d ∧ d ≤ c ∧ c ≤ 6 ∧
  ∀ (D : Addr) (F : List (Addr × List Int)) (H' : Hp), Same H H' → H D = none → LA H' D F → snds F = stripeM ws d c → Q (.ref D) H'
theorem sp_law_pieces_len {K : PySem.W.Frag} {a : Ad} {vs : List V} {H : Hp} {Q : VK} {E : XK} (h : sp_law_pieces K a vs H Q E) : vs.length = 3 := by
  obtain ⟨W, ws, d, c, rfl, _⟩ := h
  rfl
def sp_law_seal (K : PySem.W.Frag) (a : Ad) : Sp := fun vs H Q _ => ∃ (k d r : Int) (st pl : Addr) (e s : Int) (ws : List Int), vs = [.int k, .int d, .int r, .ref st, .ref pl] ∧ SqT K H st [.int e, .int s] ∧ H pl = some (.lst (ws.map V.int)) ∧ ws.length ≤ 1000 ∧
  ∀ (D : Addr) (H' : Hp), Same H H' → H D = none → H' D = some (.lst ((sealM k d r e s ws).map V.int)) → Q (.ref D) H'
theorem sp_law_seal_len {K : PySem.W.Frag} {a : Ad} {vs : List V} {H : Hp} {Q : VK} {E : XK} (h : sp_law_seal K a vs H Q E) : vs.length = 5 := by
  obtain ⟨k, d, r, st, pl, e, s, ws, rfl, _⟩ := h
  rfl
/-- a list of pairs, each a tuple of the program's own -/
def PtsO (H : Hp) (D : Addr) (L : List (Addr × Int × Int)) : Prop := H D = some (.lst (L.map fun e => V.ref e.1)) ∧ ∀ e ∈ L, H e.1 = some (.tup [.int e.2.1, .int e.2.2])
theorem PtsO.at {K : PySem.W.Frag} {H : Hp} {D : Addr} {L : List (Addr × Int × Int)} (h : PtsO H D L) : PtsAt K H D (L.map (·.2)) := ⟨L, SqL.of h.1, rfl, fun e m => SqT.of (h.2 e m)⟩
theorem PtsO.same {H H' : Hp} {D : Addr} {L : List (Addr × Int × Int)} (h : PtsO H D L) (s : Same H H') : PtsO H' D L := ⟨s _ _ h.1, fun e m => s _ _ (h.2 e m)⟩
theorem PtsO.but {H H' : Hp} {p l D : Addr} {L : List (Addr × Int × Int)} (h : PtsO H D L) (P : Pot H p l) (n : D ≠ p) (b : But p H H') : PtsO H' D L := by
  obtain ⟨i, acc, seed, hp⟩ := P.list
  exact ⟨b _ _ h.1 n, fun e m => b _ _ (h.2 e m) (ne_of (h.2 e m) hp (by intro q; cases q))⟩
def sp_law_places (K : PySem.W.Frag) (a : Ad) : Sp := fun vs H Q _ => ∃ (p l : Addr) (c : Nat) (m : Int), vs = [.ref p, .int (c : Int), .int m] ∧ Pot H p l ∧ c ≤ 8 ∧ 0 < m ∧ m ≤ 4000 ∧
  ∀ (D : Addr) (L : List (Addr × Int × Int)) (H' : Hp), But p H H' → Pot H' p l → H D = none → PtsO H' D L → L.length = c → (∀ e ∈ L, (0 ≤ e.2.1 ∧ e.2.1 < 8) ∧ (0 ≤ e.2.2 ∧ e.2.2 < m)) → (L.map fun e => e.2.1).Nodup → Q (.ref D) H'
theorem sp_law_places_len {K : PySem.W.Frag} {a : Ad} {vs : List V} {H : Hp} {Q : VK} {E : XK} (h : sp_law_places K a vs H Q E) : vs.length = 3 := by
  obtain ⟨p, l, c, m, rfl, _⟩ := h
  rfl
def sp_law_is_write (K : PySem.W.Frag) (a : Ad) : Sp := fun vs H Q _ => ∃ (t s s2 : Addr) (d r : Int) (ws : List Int), vs = [.ref t, .int d, .int r, .ref s2] ∧ H t = some (.tup [.str "write", .int d, .int r, .ref s]) ∧ H s = some (.lst (ws.map V.int)) ∧ SqL K H s2 (ws.map V.int) ∧ Q (.bl true) H
theorem sp_law_is_write_len {K : PySem.W.Frag} {a : Ad} {vs : List V} {H : Hp} {Q : VK} {E : XK} (h : sp_law_is_write K a vs H Q E) : vs.length = 4 := by
  obtain ⟨t, s, s2, d, r, ws, rfl, _⟩ := h
  rfl
/-! any pieces determine the others -/
theorem piece_of {ws : List Int} {rows ps : List (List Int)} (ha : Apart ws) (hr : rows.length = ws.length) (hps : ∀ w ∈ ps, w.length ≤ ws.length) (h : ∀ j, j < ws.length → rows.getD j [] = ps.map fun w => horn w (ws.getD j 0)) (x : Int) :
    pieceM ws rows x ps.length = ps.map fun w => horn w x := by
  refine List.ext_getElem (by simp [pieceM]) fun i h1 h2 => ?_
  have hi : i < ps.length := by simpa using h2
  have e1 : (pieceM ws rows x ps.length)[i] = valM ws (rows.map fun r => r.getD i 0) x := by simp [pieceM]
  have e2 : (ps.map fun w => horn w x)[i] = horn ps[i] x := by simp
  rw [e1, e2]
  have w1 := valM_word ws (rows.map fun r => r.getD i 0) x
  have w2 := horn_word ps[i] x
  refine z_inj w1.1 w1.2 w2.1 w2.2 ?_
  rw [horn_z]
  have hp := (pev_pol ps[i]).mono (hps _ (List.getElem_mem hi))
  refine valM_pol ha hp (fun j hj => ?_) x
  have hj' : j < rows.length := by omega
  have g1 : (rows.map fun r => r.getD i 0).getD j 0 = (rows.getD j []).getD i 0 := by
    rw [List.getD_eq_getElem?_getD, List.getElem?_map, List.getElem?_eq_getElem hj', List.getD_eq_getElem?_getD (l := rows), List.getElem?_eq_getElem hj']
    rfl
  rw [g1, h j hj]
  have g2 : (ps.map fun w => horn w (ws.getD j 0)).getD i 0 = horn ps[i] (ws.getD j 0) := getD_item (by rw [List.getElem?_map, List.getElem?_eq_getElem hi]; rfl)
  rw [g2, horn_z]
theorem dp_rows {K : PySem.W.Frag} {H : Hp} {R : Addr} {F : List (Addr × List Int)} (h : RL K H R F) : Dp K H (.ref R) (.list ((snds F).map rowD)) := by
  refine .lst h.1 ?_
  have : ∀ G : List (Addr × List Int), (∀ e ∈ G, SqL K H e.1 (e.2.map V.int)) → DpAll K H (refs G) ((snds G).map rowD) := by
    intro G
    induction G with
    | nil => intro _; exact .nil
    | cons e G ih => exact fun g => .cons (dp_ints (g e (by simp))) (ih fun u m => g u (List.mem_cons_of_mem _ m))
  exact this F h.2
theorem refs_take (F : List (Addr × List Int)) (n : Nat) : (refs F).take n = refs (F.take n) := by simp [refs, List.map_take]
theorem snds_take (F : List (Addr × List Int)) (n : Nat) : (snds F).take n = snds (F.take n) := by simp [snds, List.map_take]
theorem RL.take {K : PySem.W.Frag} {H : Hp} {S : Addr} {F : List (Addr × List Int)} {n : Nat} (h : SqL K H S ((refs F).take n)) (g : ∀ e ∈ F, SqL K H e.1 (e.2.map V.int)) : RL K H S (F.take n) :=
  ⟨by rw [← refs_take]; exact h, fun e m => g e (List.mem_of_mem_take m)⟩
/-! pieces that may be lost -/
abbrev ORow := Option (Addr × List Int)
def refO : ORow → V
  | none => .non
  | some e => .ref e.1
abbrev refsO (F : List ORow) : List V := F.map refO
theorem refsO_get {F : List ORow} {i : Nat} {o : ORow} (h : F[i]? = some o) : (refsO F)[i]? = some (refO o) := by rw [List.getElem?_map, h]; rfl
theorem refsO_item {F : List ORow} {i : Nat} {y : V} (h : (refsO F)[i]? = some y) : ∃ o, F[i]? = some o ∧ y = refO o := by
  rw [List.getElem?_map] at h
  cases q : F[i]? with
  | none => rw [q] at h; cases h
  | some o => rw [q] at h; exact ⟨o, rfl, (Option.some.inj h).symm⟩
def RO (K : PySem.W.Frag) (H : Hp) (R : Addr) (F : List ORow) : Prop := SqL K H R (refsO F) ∧ ∀ e, some e ∈ F → SqL K H e.1 (e.2.map V.int)
theorem RO.same {K : PySem.W.Frag} {H H' : Hp} {R : Addr} {F : List ORow} (h : RO K H R F) (s : Same H H') : RO K H' R F := ⟨s.seq h.1, fun e m => s.seq (h.2 e m)⟩
/-- the numbers of those that are there -/
def presM (F : List ORow) : List Nat := (List.range F.length).filter fun i => (F.getD i none).isSome
def rowAt (F : List ORow) (i : Nat) : Addr × List Int := (F.getD i none).getD ((0 : Nat), [])
theorem rowAt_of {F : List ORow} {i : Nat} {e : Addr × List Int} (h : F[i]? = some (some e)) : rowAt F i = e := by
  unfold rowAt
  rw [getD_item h]
  rfl
def intsN (is : List Nat) : List Int := is.map fun (i : Nat) => (i : Int)
abbrev rowsP (F : List ORow) : List (Addr × List Int) := (presM F).map (rowAt F)
theorem presM_lt {F : List ORow} {i : Nat} (h : i ∈ presM F) : i < F.length ∧ F[i]? = some (some (rowAt F i)) := by
  obtain ⟨h1, h2⟩ := List.mem_filter.mp h
  have l := List.mem_range.mp h1
  refine ⟨l, ?_⟩
  have e : F.getD i none = F[i] := getD_item (List.getElem?_eq_getElem l)
  have q : F[i].isSome = true := by rw [← e]; exact h2
  unfold rowAt
  rw [e, List.getElem?_eq_getElem l]
  cases z : F[i] with
  | none => rw [z] at q; cases q
  | some r => rfl
theorem presM_iff {F : List ORow} {i : Nat} : i ∈ presM F ↔ ∃ e, F[i]? = some (some e) := by
  constructor
  · exact fun h => ⟨_, (presM_lt h).2⟩
  · rintro ⟨e, h⟩
    refine List.mem_filter.mpr ⟨List.mem_range.mpr (item_lt h), ?_⟩
    show (F.getD i none).isSome = true
    rw [getD_item h]
    rfl
theorem presM_len (F : List ORow) : (presM F).length ≤ F.length := Nat.le_trans (List.length_filter_le _ _) (by rw [List.length_range]; exact Nat.le_refl _)
theorem presM_pair (F : List ORow) : (presM F).Pairwise (· < ·) := List.Pairwise.filter _ List.pairwise_lt_range
theorem intsN_apart {is : List Nat} (h : is.Pairwise (· < ·)) (hl : ∀ i ∈ is, i < 60000) : Apart (intsN is) := by
  unfold Apart
  unfold intsN List.Nodup
  rw [List.map_map, List.pairwise_map]
  refine List.Pairwise.imp_of_mem (fun {a b} ha hb hab e => ?_) h
  have h1 := hl _ ha
  have h2 := hl _ hb
  have this : (a : Int) % 65521 = (b : Int) % 65521 := z_mod_eq e
  omega
theorem RO.rows {K : PySem.W.Frag} {H : Hp} {R : Addr} {F : List ORow} (h : RO K H R F) : ∀ i ∈ presM F, SqL K H (rowAt F i).1 ((rowAt F i).2.map V.int) := fun i m => h.2 _ (List.mem_of_getElem? (presM_lt m).2)
def BadP (F : List ORow) (data : Int) : Prop := 8 < F.length ∨ data < 1 ∨ (F.length : Int) < data ∨ BadLen (snds (rowsP F))
def Few (F : List ORow) (data : Int) : Prop := ((presM F).length : Int) < data
noncomputable def recM (F : List ORow) (d n : Nat) : List (List Int) := (List.range F.length).map fun i => match F.getD i none with
  | some e => e.2
  | none => pieceM (intsN ((presM F).take d)) (snds (((presM F).take d).map (rowAt F))) (i : Int) n
def sp_present_numbers (K : PySem.W.Frag) (a : Ad) : Sp := fun vs H Q E => ∃ (R : Addr) (F : List ORow) (data : Int), vs = [.ref R, .int data] ∧ RO K H R F ∧ F.length ≤ 50 ∧
  (BadP F data → ∀ H', Same H H' → E (.ref a.c_InvalidArgument) none H') ∧
  (¬ BadP F data → Few F data → ∀ H', Same H H' → E (.ref a.c_NotEnoughPieces) none H') ∧
  (¬ BadP F data → ¬ Few F data → ∀ (D : Addr) (H' : Hp), Same H H' → H D = none → H' D = some (.lst ((intsN (presM F)).map V.int)) → Q (.ref D) H')
theorem sp_present_numbers_len {K : PySem.W.Frag} {a : Ad} {vs : List V} {H : Hp} {Q : VK} {E : XK} (h : sp_present_numbers K a vs H Q E) : vs.length = 2 := by
  obtain ⟨R, F, data, rfl, _⟩ := h
  rfl
def sp_recover (K : PySem.W.Frag) (a : Ad) : Sp := fun vs H Q E => ∃ (R : Addr) (F : List ORow) (data : Int), vs = [.ref R, .int data] ∧ RO K H R F ∧ F.length ≤ 50 ∧ ((snds (rowsP F)).getD 0 []).length ≤ 500 ∧
  (BadP F data → ∀ H', Same H H' → E (.ref a.c_InvalidArgument) none H') ∧
  (¬ BadP F data → Few F data → ∀ H', Same H H' → E (.ref a.c_NotEnoughPieces) none H') ∧
  (¬ BadP F data → ¬ Few F data → ∀ (D : Addr) (G : List (Addr × List Int)) (H' : Hp), Same H H' → H D = none → LA H' D G → (G.map (·.1)).Nodup → (∀ e ∈ G, H e.1 = none) → snds G = recM F data.toNat ((snds (rowsP F)).getD 0 []).length → Q (.ref D) H')
theorem sp_recover_len {K : PySem.W.Frag} {a : Ad} {vs : List V} {H : Hp} {Q : VK} {E : XK} (h : sp_recover K a vs H Q E) : vs.length = 2 := by
  obtain ⟨R, F, data, rfl, _⟩ := h
  rfl
/-- data of such rows -/
def optD : ORow → PyData
  | none => .none
  | some e => rowD e.2
theorem opts_data : ∀ F : List ORow, PyData.canLayAll0 (F.map optD) = true ∧ PyData.depthAll (F.map optD) ≤ 1 ∧ PyData.eqvAll (F.map optD) (F.map optD) = true
  | [] => ⟨rfl, Nat.zero_le _, by simp [PyData.eqvAll]⟩
  | none :: F => by
    obtain ⟨h1, h2, h3⟩ := opts_data F
    refine ⟨by simp [PyData.canLayAll0, PyData.canLay0, optD, h1], ?_, by simp [PyData.eqvAll, PyData.eqv, optD, h3]⟩
    simp only [List.map_cons, PyData.depthAll, optD, PyData.depth]
    omega
  | some e :: F => by
    obtain ⟨h1, h2, h3⟩ := opts_data F
    have q := eqv_ints e.2 e.2
    rw [decide_eq_true rfl] at q
    refine ⟨by simp [PyData.canLayAll0, PyData.canLay0, optD, rowD, canLayAll_ints, h1], ?_, ?_⟩
    · simp only [List.map_cons, PyData.depthAll, optD, rowD, PyData.depth, depthAll_ints]
      omega
    · simp only [List.map_cons, PyData.eqvAll, optD, rowD, q, h3, Bool.and_true]
theorem opts_shaped (F : List ORow) : SeqAt.shaped (.list (F.map optD)) = true := by
  obtain ⟨h1, h2, _⟩ := opts_data F
  have e : PyData.depth (.list (F.map optD)) = PyData.depthAll (F.map optD) + 1 := by simp only [PyData.depth]
  unfold SeqAt.shaped
  rw [Bool.and_eq_true]
  exact ⟨by simp only [PyData.canLay0]; exact h1, decide_eq_true (by rw [e]; omega)⟩
theorem opts_eqv (F : List ORow) : PyData.eqv (.list (F.map optD)) (.list (F.map optD)) = true := by
  simp only [PyData.eqv]
  exact (opts_data F).2.2
theorem dp_opts {K : PySem.W.Frag} {H : Hp} {R : Addr} {F : List ORow} (h : RO K H R F) : Dp K H (.ref R) (.list (F.map optD)) := by
  refine .lst h.1 ?_
  have : ∀ G : List ORow, (∀ e, some e ∈ G → SqL K H e.1 (e.2.map V.int)) → DpAll K H (refsO G) (G.map optD) := by
    intro G
    induction G with
    | nil => intro _; exact .nil
    | cons o G ih =>
      cases o with
      | none => exact fun g => .cons .non (ih fun u m => g u (List.mem_cons_of_mem _ m))
      | some e => exact fun g => .cons (dp_ints (g e (by simp))) (ih fun u m => g u (List.mem_cons_of_mem _ m))
  exact this F h.2
theorem row_in {F : List ORow} {i : Nat} {e : Addr × List Int} (h : F[i]? = some (some e)) : e.2 ∈ snds (rowsP F) := by
  have m : i ∈ presM F := presM_iff.mpr ⟨e, h⟩
  have q := (presM_lt m).2
  rw [h] at q
  have q' := Option.some.inj (Option.some.inj q)
  exact List.mem_map.mpr ⟨e, List.mem_map.mpr ⟨i, m, q'.symm⟩, rfl⟩
theorem in_row {F : List ORow} {r : List Int} (h : r ∈ snds (rowsP F)) : ∃ (i : Nat) (e : Addr × List Int), F[i]? = some (some e) ∧ e.2 = r := by
  obtain ⟨e, me, rfl⟩ := List.mem_map.mp h
  obtain ⟨i, mi, rfl⟩ := List.mem_map.mp me
  exact ⟨i, _, (presM_lt mi).2, rfl⟩
theorem first_len {F : List ORow} {N : Nat} (h : ∀ e, some e ∈ F → e.2.length ≤ N) : ((snds (rowsP F)).getD 0 []).length ≤ N := by
  cases q : (snds (rowsP F))[0]? with
  | none => rw [List.getD_eq_getElem?_getD, q]; exact Nat.zero_le _
  | some r =>
    rw [getD_item q]
    obtain ⟨i, e, he, rfl⟩ := in_row (List.mem_of_getElem? q)
    exact h e (List.mem_of_getElem? he)
theorem first_eq {F : List ORow} {n i : Nat} {e0 : Addr × List Int} (h : ∀ e, some e ∈ F → e.2.length = n) (hi : F[i]? = some (some e0)) : ((snds (rowsP F)).getD 0 []).length = n := by
  have m := row_in hi
  have l : 0 < (snds (rowsP F)).length := List.length_pos_of_mem m
  have q : (snds (rowsP F))[0]? = some (snds (rowsP F))[0] := List.getElem?_eq_getElem l
  rw [getD_item q]
  obtain ⟨i, e, he, e2⟩ := in_row (List.mem_of_getElem? q)
  rw [← e2]
  exact h e (List.mem_of_getElem? he)
theorem good_rows {F : List ORow} {n : Nat} {data : Int} (h8 : F.length ≤ 8) (d1 : 1 ≤ data) (d2 : data ≤ F.length) (h : ∀ e, some e ∈ F → e.2.length = n) : ¬ BadP F data := by
  rintro (q | q | q | ⟨r, m, q⟩)
  · omega
  · omega
  · omega
  · obtain ⟨i, e, he, rfl⟩ := in_row m
    rw [first_eq h he] at q
    exact q (h e (List.mem_of_getElem? he))
/-- what is recovered is the stripe -/
theorem rec_all {F : List ORow} {ps : List (List Int)} {d : Nat} (h8 : F.length ≤ 60000) (hd : d ≤ (presM F).length) (hps : ∀ w ∈ ps, w.length ≤ d) (hF : ∀ (i : Nat) (e : Addr × List Int), F[i]? = some (some e) → e.2 = ps.map fun w => horn w (i : Int)) :
    recM F d ps.length = (List.range F.length).map fun (i : Nat) => ps.map fun w => horn w (i : Int) := by
  unfold recM
  refine List.map_congr_left fun i mi => ?_
  have li := List.mem_range.mp mi
  have hi : F[i]? = some F[i] := List.getElem?_eq_getElem li
  rw [getD_item hi]
  cases q : F[i] with
  | some e => exact hF i e (by rw [hi, q])
  | none =>
    have tl : ((presM F).take d).length = d := by rw [List.length_take]; omega
    have il : (intsN ((presM F).take d)).length = d := by unfold intsN; rw [List.length_map, tl]
    have pw := (presM_pair F).sublist (List.take_sublist d _)
    refine piece_of (intsN_apart pw fun j m => by have := (presM_lt (List.mem_of_mem_take m)).1; omega) (by rw [il, snds_len, List.length_map, tl]) (fun w m => by rw [il]; exact hps w m) (fun j hj => ?_) _
    rw [il] at hj
    have hj' : ((presM F).take d)[j]? = some (((presM F).take d)[j]'(by omega)) := List.getElem?_eq_getElem (by omega)
    generalize ((presM F).take d)[j]'(by omega) = m at hj'
    have e1 : (snds (((presM F).take d).map (rowAt F))).getD j [] = (rowAt F m).2 := getD_item (by rw [List.getElem?_map, List.getElem?_map, hj']; rfl)
    have e2 : (intsN ((presM F).take d)).getD j 0 = (m : Int) := getD_item (by unfold intsN; rw [List.getElem?_map, hj']; rfl)
    rw [e1, e2]
    exact hF m _ (presM_lt (List.mem_of_mem_take (List.mem_of_getElem? hj'))).2
theorem rep_none (n : Nat) : (List.replicate n [V.non]).flatten = refsO (List.replicate n none) := by
  induction n with
  | zero => rfl
  | succ n ih => rw [List.replicate_succ, List.flatten_cons, ih, List.replicate_succ]; rfl
/-! what is good -/
def Whole (ws : List Int) : Prop := (8 ≤ ws.length ∧ ws.length ≤ 1008) ∧ (∀ w ∈ ws, Wd w) ∧ ws.drop (ws.length - 2) = [ck1 (ws.take (ws.length - 2)), ck2 (ws.take (ws.length - 2))]
def Good (ws : List Int) (k d r : Int) : Prop := Plc k d r ∧ ws.take 3 = [k, d, r] ∧ Whole ws
def payM (ws : List Int) : List Int := (ws.drop 6).take (ws.length - 8)
theorem sIx_neg {n d k : Nat} (h : k ≤ n) (h0 : 0 < k) : HT.sIx n d (some (-(k : Int))) = n - k := by
  show (if (-(k : Int)) < 0 then ((-(k : Int)) + (n : Int)).toNat else min (-(k : Int)).toNat n) = n - k
  rw [if_pos (by omega)]
  omega
theorem cut_last {xs : List V} (h : 2 ≤ xs.length) : cutV xs (some (-2)) none = xs.drop (xs.length - 2) := by
  unfold cutV
  rw [HT.sIx_none, show (-2 : Int) = -((2 : Nat) : Int) from rfl, sIx_neg h (by decide), List.take_of_length_le (by rw [List.length_drop]; exact Nat.le_refl _)]
theorem cut_but {xs : List V} (h : 2 ≤ xs.length) : cutV xs none (some (-2)) = xs.take (xs.length - 2) := by
  unfold cutV
  rw [HT.sIx_none, show (-2 : Int) = -((2 : Nat) : Int) from rfl, sIx_neg h (by decide), List.drop_zero, Nat.sub_zero]
theorem cut_pay {xs : List V} (h : 8 ≤ xs.length) : cutV xs (some 6) (some (-2)) = (xs.drop 6).take (xs.length - 8) := by
  unfold cutV
  rw [show (-2 : Int) = -((2 : Nat) : Int) from rfl, sIx_neg (by omega) (by decide), show (6 : Int) = ((6 : Nat) : Int) from rfl, HT.sIx_nat, Nat.min_eq_left (by omega), show xs.length - 2 - 6 = xs.length - 8 by omega]
theorem cut_mid36 {xs : List V} (h : 6 ≤ xs.length) : cutV xs (some 3) (some 6) = (xs.drop 3).take 3 := by
  unfold cutV
  rw [show (3 : Int) = ((3 : Nat) : Int) from rfl, show (6 : Int) = ((6 : Nat) : Int) from rfl, HT.sIx_nat, HT.sIx_nat, Nat.min_eq_left (by omega), Nat.min_eq_left (by omega)]
def sp_is_whole (K : PySem.W.Frag) (a : Ad) : Sp := fun vs H Q _ => ∃ (l : Addr) (ws : List Int), vs = [.ref l] ∧ SqL K H l (ws.map V.int) ∧ ws.length ≤ 5000 ∧
  (Whole ws → ∀ H', Same H H' → Q (.bl true) H') ∧ (¬ Whole ws → ∀ H', Same H H' → Q (.bl false) H')
theorem sp_is_whole_len {K : PySem.W.Frag} {a : Ad} {vs : List V} {H : Hp} {Q : VK} {E : XK} (h : sp_is_whole K a vs H Q E) : vs.length = 1 := by
  obtain ⟨l, ws, rfl, _⟩ := h
  rfl
def sp_unseal (K : PySem.W.Frag) (a : Ad) : Sp := fun vs H Q _ => ∃ (sv : V) (k d r : Int), vs = [sv, .int k, .int d, .int r] ∧ ((sv = .non ∧ ∀ H', Same H H' → Q .non H') ∨ ∃ (l : Addr) (ws : List Int), sv = .ref l ∧ SqL K H l (ws.map V.int) ∧ ws.length ≤ 5000 ∧
  (¬ Good ws k d r → ∀ H', Same H H' → Q .non H') ∧
  (Good ws k d r → ∀ (T S D : Addr) (H' : Hp), Same H H' → H T = none → H D = none → H' T = some (.tup [.ref S, .ref D]) → H' S = some (.tup [.int (ws.getD 3 0), .int (ws.getD 4 0 * 65521 + ws.getD 5 0)]) → H' D = some (.lst ((payM ws).map V.int)) → Q (.ref T) H'))
theorem sp_unseal_len {K : PySem.W.Frag} {a : Ad} {vs : List V} {H : Hp} {Q : VK} {E : XK} (h : sp_unseal K a vs H Q E) : vs.length = 4 := by
  obtain ⟨sv, k, d, r, rfl, _⟩ := h
  rfl
theorem mid_items {ws : List Int} (h : 6 ≤ ws.length) : ((ws.map V.int).drop 3).take 3 = [.int (ws.getD 3 0), .int (ws.getD 4 0), .int (ws.getD 5 0)] :=
  match ws, h with
  | _ :: _ :: _ :: _ :: _ :: _ :: _, _ => rfl
theorem eqv_tints (xs ys : List Int) : PyData.eqv (.tuple (xs.map .int)) (.tuple (ys.map .int)) = decide (xs = ys) := by
  simp only [PyData.eqv]
  exact eqvAll_ints xs ys
theorem shaped_tints (xs : List Int) : SeqAt.shaped (.tuple (xs.map .int)) = true := by
  simp [SeqAt.shaped, PyData.canLay0, canLayAll_ints, PyData.depth, depthAll_ints]
theorem dp_tints {K : PySem.W.Frag} {H : Hp} {a : Addr} {xs : List Int} (h : SqT K H a (xs.map V.int)) : Dp K H (.ref a) (.tuple (xs.map .int)) := .tup h (dpAll_ints xs)
theorem seal_good {k d r e s : Int} {ws : List Int} (hp : Plc k d r) (hs : Stp e s) (hw : ∀ w ∈ ws, Wd w) (hl : ws.length ≤ 1000) : Good (sealM k d r e s ws) k d r := by
  have l := sealM_length k d r e s ws
  refine ⟨hp, rfl, ⟨by omega, by omega⟩, sealM_words hp hs hw, ?_⟩
  rw [show (sealM k d r e s ws).length - 2 = ws.length + 6 by omega, seal_take, seal_drop]
theorem seal_pay (k d r e s : Int) (ws : List Int) : payM (sealM k d r e s ws) = ws := by
  unfold payM
  rw [sealM_length, Nat.add_sub_cancel]
  show (ws ++ _).take ws.length = ws
  rw [List.take_append_of_le_length (Nat.le_refl _), List.take_of_length_le (Nat.le_refl _)]
/-! one or two changed words are found -/
theorem sm1_set {w : List Int} {i : Nat} {v : Int} : ∀ {n : Nat}, n ≤ w.length → z (sm1 (w.set i v) n) = z (sm1 w n) + if i < n then z v - z (w.getD i 0) else 0
  | 0, _ => by
    rw [if_neg (by omega)]
    show z 0 = z 0 + 0
    grind
  | n + 1, h => by
    rw [sm1_succ, sm1_succ, z_add, z_add, sm1_set (n := n) (by omega), getD_set (by omega)]
    by_cases e : i = n
    · subst e
      rw [if_neg (by omega), if_pos rfl, if_pos (by omega)]
      grind
    · by_cases l : i < n
      · rw [if_pos l, if_neg e, if_pos (by omega)]
        grind
      · rw [if_neg l, if_neg e, if_neg (by omega)]
        grind
theorem sm2_set {w : List Int} {i : Nat} {v : Int} : ∀ {n : Nat}, n ≤ w.length → z (sm2 (w.set i v) n) = z (sm2 w n) + if i < n then z (1 + (i : Int)) * (z v - z (w.getD i 0)) else 0
  | 0, _ => by
    rw [if_neg (by omega)]
    show z 0 = z 0 + 0
    grind
  | n + 1, h => by
    rw [sm2_succ, sm2_succ, z_add, z_add, sm2_set (n := n) (by omega), getD_set (by omega), z_mul, z_mul]
    by_cases e : i = n
    · subst e
      rw [if_neg (by omega), if_pos rfl, if_pos (by omega)]
      grind
    · by_cases l : i < n
      · rw [if_pos l, if_neg e, if_pos (by omega)]
        grind
      · rw [if_neg l, if_neg e, if_neg (by omega)]
        grind
theorem sm1_take {w : List Int} {n : Nat} : sm1 (w.take n) n = sm1 w n := by
  unfold sm1
  congr 1
  refine List.map_congr_left fun j hj => ?_
  have := List.mem_range.mp hj
  rw [List.getD_eq_getElem?_getD, List.getElem?_take, if_pos this, List.getD_eq_getElem?_getD]
theorem sm2_take {w : List Int} {n : Nat} : sm2 (w.take n) n = sm2 w n := by
  unfold sm2
  congr 1
  refine List.map_congr_left fun j hj => ?_
  have := List.mem_range.mp hj
  rw [List.getD_eq_getElem?_getD, List.getElem?_take, if_pos this, List.getD_eq_getElem?_getD]
theorem whole_lin {w : List Int} (h : Whole w) : ∃ n, w.length = n + 2 ∧ z (sm1 w n) = z (w.getD n 0) ∧ z (sm2 w n) = z (w.getD (n + 1) 0) := by
  obtain ⟨⟨h1, h2⟩, _, h4⟩ := h
  refine ⟨w.length - 2, by omega, ?_, ?_⟩
  · have e : (w.drop (w.length - 2))[0]? = some (ck1 (w.take (w.length - 2))) := by rw [h4]; rfl
    rw [List.getElem?_drop] at e
    have e' : w.getD (w.length - 2) 0 = ck1 (w.take (w.length - 2)) := getD_item e
    have l : (w.take (w.length - 2)).length = w.length - 2 := by rw [List.length_take]; omega
    rw [e', ck1_sm, z_mod, l, sm1_take]
  · have e : (w.drop (w.length - 2))[1]? = some (ck2 (w.take (w.length - 2))) := by rw [h4]; rfl
    rw [List.getElem?_drop] at e
    have e' : w.getD (w.length - 2 + 1) 0 = ck2 (w.take (w.length - 2)) := getD_item e
    have l : (w.take (w.length - 2)).length = w.length - 2 := by rw [List.length_take]; omega
    rw [e', ck2_sm, z_mod, l, sm2_take]
theorem two_changed {w : List Int} {i j : Nat} {v u : Int} (hw : Whole w) (hi : i < w.length) (hj : j < w.length) (hij : i ≠ j) (hv : z v ≠ z (w.getD i 0)) : ¬ Whole ((w.set i v).set j u) := fun hg => by
  obtain ⟨n, hn, a1, a2⟩ := whole_lin hw
  obtain ⟨n', hn', b1, b2⟩ := whole_lin hg
  have en : n' = n := by
    rw [List.length_set, List.length_set] at hn'
    omega
  subst en
  have hl := hw.1.2
  have g1 : ((w.set i v).set j u).getD n' 0 = if j = n' then u else if i = n' then v else w.getD n' 0 := by rw [getD_set (by rw [List.length_set]; omega), getD_set (by omega)]
  have g2 : ((w.set i v).set j u).getD (n' + 1) 0 = if j = n' + 1 then u else if i = n' + 1 then v else w.getD (n' + 1) 0 := by rw [getD_set (by rw [List.length_set]; omega), getD_set (by omega)]
  have g3 : (w.set i v).getD j 0 = w.getD j 0 := by rw [getD_set hj, if_neg hij]
  rw [sm1_set (by rw [List.length_set]; omega), sm1_set (by omega), g1, g3] at b1
  rw [sm2_set (by rw [List.length_set]; omega), sm2_set (by omega), g2, g3] at b2
  have hA : z v - z (w.getD i 0) ≠ 0 := fun e => hv (by grind)
  have div : ∀ x y : Zp, x * y = 0 → y ≠ 0 → x = 0 := fun x y e n => (zp_div e).resolve_right n
  have i1 : z (1 + (i : Int)) ≠ 0 := z_small (by omega) (by omega)
  have j1 : z (1 + (j : Int)) ≠ 0 := z_small (by omega) (by omega)
  rcases Nat.lt_or_ge i n' with hi1 | hi1
  · rw [if_pos hi1] at b1 b2
    rw [if_neg (show i ≠ n' by omega)] at b1
    rw [if_neg (show i ≠ n' + 1 by omega)] at b2
    rcases Nat.lt_or_ge j n' with hj1 | hj1
    · rw [if_pos hj1] at b1 b2
      rw [if_neg (show j ≠ n' by omega)] at b1
      rw [if_neg (show j ≠ n' + 1 by omega)] at b2
      have e : (z (1 + (i : Int)) - z (1 + (j : Int))) * (z v - z (w.getD i 0)) = 0 := by grind
      have e2 := div _ _ e hA
      have e3 : z (1 + (i : Int)) = z (1 + (j : Int)) := by grind
      have := z_inj (by omega) (by omega) (by omega) (by omega) e3
      omega
    · rw [if_neg (by omega)] at b1 b2
      by_cases q : j = n'
      · rw [if_pos q] at b1
        rw [if_neg (by omega)] at b2
        have e : (z v - z (w.getD i 0)) * z (1 + (i : Int)) = 0 := by grind
        exact hA (div _ _ e i1)
      · rw [if_neg q] at b1
        exact hA (by grind)
  · rw [if_neg (by omega)] at b1 b2
    by_cases p : i = n'
    · subst p
      rw [if_neg (show i ≠ i + 1 by omega)] at b2
      rcases Nat.lt_or_ge j i with hj1 | hj1
      · rw [if_pos hj1] at b1 b2
        rw [if_neg (show j ≠ i by omega), if_pos rfl] at b1
        rw [if_neg (show j ≠ i + 1 by omega)] at b2
        have e : (z u - z (w.getD j 0)) * z (1 + (j : Int)) = 0 := by grind
        have e2 := div _ _ e j1
        exact hA (by grind)
      · rw [if_neg (by omega)] at b1 b2
        rw [if_neg (show j ≠ i by omega), if_pos rfl] at b1
        exact hA (by grind)
    · have p2 : i = n' + 1 := by omega
      rw [if_neg p] at b1
      rw [if_pos p2] at b2
      have jn : j ≠ n' + 1 := by omega
      rw [if_neg jn] at b2
      rw [← p2] at a2
      rcases Nat.lt_or_ge j n' with hj1 | hj1
      · rw [if_pos hj1] at b1 b2
        rw [if_neg (show j ≠ n' by omega)] at b1
        exact hA (by grind)
      · rw [if_neg (by omega)] at b1 b2
        exact hA (by grind)
theorem one_changed {w : List Int} {i : Nat} {v : Int} (hw : Whole w) (hi : i < w.length) (hv : z v ≠ z (w.getD i 0)) : ¬ Whole (w.set i v) := by
  have hl := hw.1.1
  obtain ⟨j, hj, hij⟩ : ∃ j, j < w.length ∧ i ≠ j := by
    by_cases q : i = 0
    · exact ⟨1, by omega, by omega⟩
    · exact ⟨0, by omega, q⟩
  have := two_changed (u := w.getD j 0) hw hi hj hij hv
  have e : (w.set i v).set j (w.getD j 0) = w.set i v := by
    refine List.ext_getElem? fun k => ?_
    rw [List.getElem?_set]
    split
    · next q =>
      subst q
      rw [List.length_set, if_pos hj, List.getElem?_set, if_neg hij, List.getElem?_eq_getElem hj]
      congr 1
      exact getD_item (List.getElem?_eq_getElem hj)
    · rfl
  rwa [e] at this
/-! images whose rows are known -/
structure DkO where
  A : Addr
  rows : List (Option (Addr × List Int))
abbrev Sts := List (Option DkO)
def rowV : Option (Addr × List Int) → V
  | none => .non
  | some s => .ref s.1
def dkV : Option DkO → V
  | none => .non
  | some d => .ref d.A
def mutS (X : Addr → Prop) (I : Addr) (st : Sts) (q : Addr) : Prop := X q ∨ q = I ∨ ∃ (i : Nat) (dk : DkO), st[i]? = some (some dk) ∧ q = dk.A
structure ImM (H : Hp) (X : Addr → Prop) (I : Addr) (st : Sts) : Prop where
  hI : H I = some (.lst (st.map dkV))
  ip : ¬ X I
  hD : ∀ (i : Nat) (dk : DkO), st[i]? = some (some dk) → H dk.A = some (.lst (dk.rows.map rowV)) ∧ dk.A ≠ I ∧ ¬ X dk.A
  hU : ∀ (i j : Nat) (dk dk' : DkO), st[i]? = some (some dk) → st[j]? = some (some dk') → dk.A = dk'.A → i = j
  hR : ∀ (i : Nat) (dk : DkO) (r : Nat) (s : Addr × List Int), st[i]? = some (some dk) → dk.rows[r]? = some (some s) → H s.1 = some (.lst (s.2.map V.int)) ∧ ¬ mutS X I st s.1 ∧ s.2.length ≤ 1008
def secS (st : Sts) (d r : Nat) : Option (Addr × List Int) := match st[d]? with
  | some (some dk) => (dk.rows[r]?).join
  | _ => none
def Pres (st : Sts) (d : Nat) : Prop := ∃ dk, st[d]? = some (some dk)
theorem dk_get {st : Sts} {i : Nat} {o : Option DkO} (h : st[i]? = some o) : (st.map dkV)[i]? = some (dkV o) := by rw [List.getElem?_map, h]; rfl
theorem row_get {rs : List (Option (Addr × List Int))} {i : Nat} {o : Option (Addr × List Int)} (h : rs[i]? = some o) : (rs.map rowV)[i]? = some (rowV o) := by rw [List.getElem?_map, h]; rfl
def adrs (st : Sts) : List (Option Addr) := st.map (Option.map DkO.A)
theorem adrs_refI (st : Sts) : (adrs st).map refI = st.map dkV := by
  unfold adrs
  rw [List.map_map]
  refine List.map_congr_left fun o _ => ?_
  cases o <;> rfl
theorem adrs_pres (st : Sts) (d : Nat) : presentM (adrs st) d = true ↔ Pres st d := by
  unfold presentM Pres adrs
  rw [List.getD_eq_getElem?_getD, List.getElem?_map]
  cases e : st[d]? with
  | none => simp
  | some o => cases o with
    | none => simp
    | some dk => simp
theorem ImM.but {H H' : Hp} {X : Addr → Prop} {I : Addr} {st : Sts} (h : ImM H X I st) (b : ∀ q o, H q = some o → ¬ X q → H' q = some o) : ImM H' X I st :=
  ⟨b _ _ h.hI h.ip, h.ip, fun i dk e => ⟨b _ _ (h.hD i dk e).1 (h.hD i dk e).2.2, (h.hD i dk e).2⟩, h.hU, fun i dk r s e1 e2 => ⟨b _ _ (h.hR i dk r s e1 e2).1 fun z => (h.hR i dk r s e1 e2).2.1 (.inl z), (h.hR i dk r s e1 e2).2⟩⟩
theorem ImM.same {H H' : Hp} {X : Addr → Prop} {I : Addr} {st : Sts} (h : ImM H X I st) (s : Same H H') : ImM H' X I st := h.but fun _ _ e _ => s _ _ e
theorem ImM.draw {H H' : Hp} {X : Addr → Prop} {p I : Addr} {st : Sts} (h : ImM H X I st) (b : But p H H') (hp : X p) : ImM H' X I st := h.but fun q o e n => b q o e fun z => n (by rw [z]; exact hp)
/-- one place more that may change, which is none of these -/
theorem ImM.more {H : Hp} {X X' : Addr → Prop} {I : Addr} {st : Sts} (h : ImM H X I st) (hx : ∀ q o, H q = some o → X' q → X q) : ImM H X' I st :=
  ⟨h.hI, fun z => h.ip (hx _ _ h.hI z), fun i dk e => ⟨(h.hD i dk e).1, (h.hD i dk e).2.1, fun z => (h.hD i dk e).2.2 (hx _ _ (h.hD i dk e).1 z)⟩, h.hU, fun i dk r s e1 e2 => ⟨(h.hR i dk r s e1 e2).1, fun z => (h.hR i dk r s e1 e2).2.1 (z.imp (hx _ _ (h.hR i dk r s e1 e2).1) id), (h.hR i dk r s e1 e2).2.2⟩⟩
def stampM (ws : List Int) : Int × Int := (ws.getD 3 0, ws.getD 4 0 * 65521 + ws.getD 5 0)
/-- a disk has this label in its row -/
def HasL (st : Sts) (d : Nat) (ep gr : Int) : Prop := ∃ s, secS st d (gr % 2).toNat = some s ∧ Good s.2 1 (d : Int) (gr % 2) ∧ stampM s.2 = (ep, gr)
theorem seal_stamp (k d r e s : Int) (ws : List Int) : stampM (sealM k d r e s ws) = (e, s) := by
  show (e, s / 65521 * 65521 + s % 65521) = (e, s)
  rw [show s / 65521 * 65521 + s % 65521 = s by omega]
def secV (st : Sts) (d r : Nat) : V := rowV (secS st d r)
def sp_sector_at (K : PySem.W.Frag) (a : Ad) : Sp := fun vs H Q _ => ∃ (X : Addr → Prop) (I : Addr) (st : Sts) (d r : Nat), vs = [.ref I, .int (d : Int), .int (r : Int)] ∧ ImM H X I st ∧ st.length ≤ 100 ∧ (∀ (i : Nat) (dk : DkO), st[i]? = some (some dk) → dk.rows.length ≤ 100) ∧ Q (secV st d r) H
theorem sp_sector_at_len {K : PySem.W.Frag} {a : Ad} {vs : List V} {H : Hp} {Q : VK} {E : XK} (h : sp_sector_at K a vs H Q E) : vs.length = 3 := by
  obtain ⟨X, I, st, d, r, rfl, _⟩ := h
  rfl
theorem sec_some {st : Sts} {d r : Nat} {s : Addr × List Int} (h : secS st d r = some s) : ∃ dk, st[d]? = some (some dk) ∧ dk.rows[r]? = some (some s) := by
  unfold secS at h
  split at h
  · next dk e =>
    cases g : dk.rows[r]? with
    | none => rw [g] at h; cases h
    | some o =>
      rw [g] at h
      exact ⟨dk, e, by rw [g]; exact congrArg some h⟩
  · cases h
/-! changing rows -/
def dkS (st : Sts) (b : Addr) : Prop := ∃ (i : Nat) (dk : DkO), st[i]? = some (some dk) ∧ b = dk.A
def putS (st : Sts) (d r : Nat) (o : Option (Addr × List Int)) : Sts := match st[d]? with
  | some (some dk) => st.set d (some ⟨dk.A, dk.rows.set r o⟩)
  | _ => st
theorem putS_at {st : Sts} {d r : Nat} {o : Option (Addr × List Int)} {dk : DkO} (h : st[d]? = some (some dk)) : putS st d r o = st.set d (some ⟨dk.A, dk.rows.set r o⟩) := by
  unfold putS
  rw [h]
theorem putS_get {st : Sts} {d r : Nat} {o : Option (Addr × List Int)} (i : Nat) : (putS st d r o)[i]? = if i = d then (match st[d]? with
    | some (some dk) => some (some ⟨dk.A, dk.rows.set r o⟩)
    | x => x) else st[i]? := by
  by_cases e : i = d
  · subst e
    rw [if_pos rfl]
    unfold putS
    cases h : st[i]? with
    | none => simp [h]
    | some x => cases x with
      | none => simp [h]
      | some dk =>
        have := item_lt h
        simp [List.getElem?_set, this]
  · rw [if_neg e]
    unfold putS
    split
    · rw [List.getElem?_set, if_neg (fun z => e z.symm)]
    · rfl
theorem putS_len (st : Sts) (d r : Nat) (o : Option (Addr × List Int)) : (putS st d r o).length = st.length := by
  unfold putS
  split
  · rw [List.length_set]
  · rfl
/-- what stands in a changed state -/
theorem putS_some {st : Sts} {d r i : Nat} {o : Option (Addr × List Int)} {dk : DkO} (h : (putS st d r o)[i]? = some (some dk)) : ∃ dk0, st[i]? = some (some dk0) ∧ dk.A = dk0.A ∧ dk.rows = if i = d then dk0.rows.set r o else dk0.rows := by
  rw [putS_get] at h
  by_cases e : i = d
  · subst e
    rw [if_pos rfl] at h
    cases g : st[i]? with
    | none => rw [g] at h; cases h
    | some x => cases x with
      | none => rw [g] at h; cases h
      | some dk0 =>
        rw [g] at h
        cases h
        exact ⟨dk0, rfl, rfl, (if_pos rfl).symm⟩
  · rw [if_neg e] at h
    exact ⟨dk, h, rfl, (if_neg e).symm⟩
theorem putS_back {st : Sts} {d r i : Nat} {o : Option (Addr × List Int)} {dk : DkO} (h : st[i]? = some (some dk)) : (putS st d r o)[i]? = some (some ⟨dk.A, if i = d then dk.rows.set r o else dk.rows⟩) := by
  rw [putS_get]
  by_cases e : i = d
  · subst e
    rw [if_pos rfl, if_pos rfl, h]
  · rw [if_neg e, if_neg e, h]
theorem putS_pres {st : Sts} {d r i : Nat} {o : Option (Addr × List Int)} : Pres (putS st d r o) i ↔ Pres st i := by
  constructor
  · rintro ⟨dk, h⟩
    obtain ⟨dk0, h, _⟩ := putS_some h
    exact ⟨dk0, h⟩
  · rintro ⟨dk, h⟩
    exact ⟨_, putS_back h⟩
theorem putS_dkS {st : Sts} {d r : Nat} {o : Option (Addr × List Int)} {b : Addr} : dkS (putS st d r o) b ↔ dkS st b := by
  constructor
  · rintro ⟨i, dk, h, e⟩
    obtain ⟨dk0, h, e2, _⟩ := putS_some h
    exact ⟨i, dk0, h, e.trans e2⟩
  · rintro ⟨i, dk, h, e⟩
    exact ⟨i, _, putS_back h, e⟩
theorem putS_mut {X : Addr → Prop} {I : Addr} {st : Sts} {d r : Nat} {o : Option (Addr × List Int)} {b : Addr} : mutS X I (putS st d r o) b ↔ mutS X I st b := by
  show (X b ∨ b = I ∨ dkS (putS st d r o) b) ↔ (X b ∨ b = I ∨ dkS st b)
  rw [putS_dkS]
theorem putS_sec {st : Sts} {d r : Nat} {o : Option (Addr × List Int)} {dk : DkO} (h : st[d]? = some (some dk)) (hr : r < dk.rows.length) : secS (putS st d r o) d r = o := by
  unfold secS
  rw [putS_back h, if_pos rfl]
  show ((dk.rows.set r o)[r]?).join = o
  rw [List.getElem?_set, if_pos rfl, if_pos hr]
  rfl
theorem putS_sec_ne {st : Sts} {d r d' r' : Nat} {o : Option (Addr × List Int)} (n : d ≠ d' ∨ r ≠ r') : secS (putS st d r o) d' r' = secS st d' r' := by
  unfold secS
  rw [putS_get]
  by_cases e : d' = d
  · subst e
    rw [if_pos rfl]
    cases g : st[d']? with
    | none => rfl
    | some x => cases x with
      | none => rfl
      | some dk =>
        show ((dk.rows.set r o)[r']?).join = ((dk.rows)[r']?).join
        rw [List.getElem?_set, if_neg (n.resolve_left fun z => z rfl)]
  · rw [if_neg e]
theorem putS_rows {st : Sts} {d r : Nat} {o : Option (Addr × List Int)} {n : Nat} (h : ∀ (i : Nat) (dk : DkO), st[i]? = some (some dk) → dk.rows.length = n) : ∀ (i : Nat) (dk : DkO), (putS st d r o)[i]? = some (some dk) → dk.rows.length = n := fun i dk g => by
  obtain ⟨dk0, g, _, e⟩ := putS_some g
  rw [e]
  split
  · rw [List.length_set]; exact h i dk0 g
  · exact h i dk0 g
theorem map_set_row (rs : List (Option (Addr × List Int))) (r : Nat) (o : Option (Addr × List Int)) : (rs.map rowV).set r (rowV o) = (rs.set r o).map rowV := by rw [List.map_set]
theorem ImM.put {H : Hp} {X : Addr → Prop} {I : Addr} {st : Sts} (h : ImM H X I st) {d r : Nat} {dk : DkO} (hd : st[d]? = some (some dk)) {o : Option (Addr × List Int)} (ho : ∀ s, o = some s → H s.1 = some (.lst (s.2.map V.int)) ∧ ¬ mutS X I st s.1 ∧ s.2.length ≤ 1008) :
    ImM (upd H dk.A (.lst ((dk.rows.set r o).map rowV))) X I (putS st d r o) := by
  have hD := h.hD d dk hd
  have kp : ∀ b o', H b = some o' → b ≠ dk.A → upd H dk.A (.lst ((dk.rows.set r o).map rowV)) b = some o' := fun b o' e n => by rw [upd_ne n]; exact e
  have nm : ∀ b, ¬ mutS X I st b → b ≠ dk.A := fun b n z => n (.inr (.inr ⟨d, dk, hd, z⟩))
  refine ⟨?_, h.ip, fun i dk' g => ?_, fun i j dk1 dk2 g1 g2 e => ?_, fun i dk' r' s g1 g2 => ?_⟩
  · have e : (putS st d r o).map dkV = st.map dkV := by
      rw [putS_at hd]
      refine List.ext_getElem? fun i => ?_
      rw [List.getElem?_map, List.getElem?_map, List.getElem?_set]
      by_cases z : d = i
      · subst z
        rw [if_pos rfl, if_pos (item_lt hd), hd]
        rfl
      · rw [if_neg z]
    rw [e]
    exact kp _ _ h.hI hD.2.1.symm
  · obtain ⟨dk0, g0, e1, e2⟩ := putS_some g
    have h0 := h.hD i dk0 g0
    rw [e1]
    refine ⟨?_, h0.2⟩
    by_cases z : i = d
    · subst z
      have : dk0 = dk := Option.some.inj (Option.some.inj (g0.symm.trans hd))
      subst this
      rw [e2, if_pos rfl]
      exact upd_same
    · rw [e2, if_neg z]
      exact kp _ _ h0.1 fun y => z (h.hU i d dk0 dk g0 hd y)
  · obtain ⟨k1, b1, a1, _⟩ := putS_some g1
    obtain ⟨k2, b2, a2, _⟩ := putS_some g2
    exact h.hU i j k1 k2 b1 b2 (by rw [← a1, ← a2]; exact e)
  · obtain ⟨dk0, g0, e1, e2⟩ := putS_some g1
    rw [putS_mut]
    rw [e2] at g2
    by_cases z : i = d
    · subst z
      have : dk0 = dk := Option.some.inj (Option.some.inj (g0.symm.trans hd))
      subst this
      rw [if_pos rfl] at g2
      rcases item_set g2 with ⟨_, e3, _⟩ | ⟨_, g3⟩
      · have := ho s e3.symm
        exact ⟨kp _ _ this.1 (nm _ this.2.1), this.2⟩
      · have := h.hR i dk0 r' s g0 g3
        exact ⟨kp _ _ this.1 (nm _ this.2.1), this.2⟩
    · rw [if_neg z] at g2
      have := h.hR i dk0 r' s g0 g2
      exact ⟨kp _ _ this.1 (nm _ this.2.1), this.2⟩
def carryM (st : Sts) (rs : List Rq) : Sts := rs.foldl (fun st e => putS st e.d.toNat e.r.toNat (some (e.s, e.ws))) st
theorem carry_snoc (st : Sts) (rs : List Rq) (e : Rq) : carryM st (rs ++ [e]) = putS (carryM st rs) e.d.toNat e.r.toNat (some (e.s, e.ws)) := by unfold carryM; rw [List.foldl_append]; rfl
theorem carry_len (st : Sts) (rs : List Rq) : (carryM st rs).length = st.length := by
  refine rev_ind (P := fun rs : List Rq => (carryM st rs).length = st.length) rfl (fun rs e ih => ?_) rs
  rw [carry_snoc, putS_len, ih]
theorem carry_pres (st : Sts) (rs : List Rq) (i : Nat) : Pres (carryM st rs) i ↔ Pres st i := by
  refine rev_ind (P := fun rs : List Rq => Pres (carryM st rs) i ↔ Pres st i) Iff.rfl (fun rs e ih => ?_) rs
  rw [carry_snoc, putS_pres, ih]
theorem carry_dkS (st : Sts) (rs : List Rq) (b : Addr) : dkS (carryM st rs) b ↔ dkS st b := by
  refine rev_ind (P := fun rs : List Rq => dkS (carryM st rs) b ↔ dkS st b) Iff.rfl (fun rs e ih => ?_) rs
  rw [carry_snoc, putS_dkS, ih]
theorem carry_mut {X : Addr → Prop} {I : Addr} (st : Sts) (rs : List Rq) (b : Addr) : mutS X I (carryM st rs) b ↔ mutS X I st b := by
  show (X b ∨ b = I ∨ dkS (carryM st rs) b) ↔ (X b ∨ b = I ∨ dkS st b)
  rw [carry_dkS]
theorem carry_rows {st : Sts} {n : Nat} (h : ∀ (i : Nat) (dk : DkO), st[i]? = some (some dk) → dk.rows.length = n) (rs : List Rq) : ∀ (i : Nat) (dk : DkO), (carryM st rs)[i]? = some (some dk) → dk.rows.length = n := by
  refine rev_ind (P := fun rs : List Rq => ∀ (i : Nat) (dk : DkO), (carryM st rs)[i]? = some (some dk) → dk.rows.length = n) h (fun rs e ih => ?_) rs
  rw [carry_snoc]
  exact putS_rows ih
def sp_law_carry (K : PySem.W.Frag) (a : Ad) : Sp := fun vs H Q _ => ∃ (X : Addr → Prop) (I R : Addr) (st : Sts) (rs : List Rq) (n : Nat), vs = [.ref I, .ref R] ∧ ImM H X I st ∧ st.length ≤ 100 ∧ n ≤ 100 ∧ (∀ (i : Nat) (dk : DkO), st[i]? = some (some dk) → dk.rows.length = n) ∧ WRq H R rs ∧ rs.length ≤ 100 ∧ ¬ mutS X I st R ∧
  (∀ e ∈ rs, ¬ mutS X I st e.s ∧ e.ws.length ≤ 1008 ∧ 0 ≤ e.d ∧ e.d < (st.length : Nat) ∧ 0 ≤ e.r ∧ e.r < (n : Nat)) ∧
  ∀ H', ImM H' X I (carryM st rs) → (∀ b o, H b = some o → ¬ dkS st b → H' b = some o) → (∀ b, H' b = none → H b = none) → Q .non H'
theorem sp_law_carry_len {K : PySem.W.Frag} {a : Ad} {vs : List V} {H : Hp} {Q : VK} {E : XK} (h : sp_law_carry K a vs H Q E) : vs.length = 2 := by
  obtain ⟨X, I, R, st, rs, n, rfl, _⟩ := h
  rfl
/-- a list of whole numbers is none of these lists -/
theorem ints_ne {H : Hp} {a b : Addr} {ws : List Int} {xs : List V} (h : H a = some (.lst (ws.map V.int))) (h2 : H b = some (.lst xs)) (hx : ∃ x ∈ xs, ∀ i, x ≠ V.int i) : a ≠ b := ne_of h h2 fun z => by
  obtain ⟨x, m, hx⟩ := hx
  rw [← HO.lst.inj z] at m
  obtain ⟨i, _, e⟩ := List.mem_map.mp m
  exact hx i e.symm
/-! a disk away, a blank disk -/
def blk4 : List (Option (Addr × List Int)) := [none, none, none, none]
theorem set_dk (st : Sts) (d : Nat) (o : Option DkO) : (st.map dkV).set d (dkV o) = (st.set d o).map dkV := by rw [List.map_set]
theorem setS_some {st : Sts} {d i : Nat} {o : Option DkO} {dk : DkO} (h : (st.set d o)[i]? = some (some dk)) : (i = d ∧ o = some dk) ∨ (i ≠ d ∧ st[i]? = some (some dk)) := by
  rcases item_set h with ⟨e, h, _⟩ | ⟨n, h⟩
  · exact .inl ⟨e.symm, h.symm⟩
  · exact .inr ⟨fun z => n z.symm, h⟩
theorem setS_sec {st : Sts} {d i r : Nat} {o : Option DkO} (n : i ≠ d) : secS (st.set d o) i r = secS st i r := by
  unfold secS
  rw [List.getElem?_set, if_neg fun z => n z.symm]
theorem setS_pres {st : Sts} {d i : Nat} {o : Option DkO} (n : i ≠ d) : Pres (st.set d o) i ↔ Pres st i := by
  unfold Pres
  rw [List.getElem?_set, if_neg fun z => n z.symm]
theorem setS_gone {st : Sts} {d : Nat} : ¬ Pres (st.set d none) d := by
  rintro ⟨dk, h⟩
  rcases setS_some h with ⟨_, h⟩ | ⟨n, _⟩
  · cases h
  · exact n rfl
theorem setS_blank {st : Sts} {d r : Nat} {B : Addr} : secS (st.set d (some ⟨B, blk4⟩)) d r = none := by
  unfold secS
  rw [List.getElem?_set, if_pos rfl]
  split
  · next dk e =>
    split at e
    · cases e
      rcases r with _ | _ | _ | _ | r <;> rfl
    · cases e
  · rfl
theorem setS_dkS {st : Sts} {d : Nat} {o : Option DkO} {b : Addr} (h : dkS (st.set d o) b) : dkS st b ∨ ∃ dk, o = some dk ∧ b = dk.A := by
  obtain ⟨i, dk, g, e⟩ := h
  rcases setS_some g with ⟨_, h⟩ | ⟨_, h⟩
  · exact .inr ⟨dk, h, e⟩
  · exact .inl ⟨i, dk, h, e⟩
theorem ImM.drop {H : Hp} {X : Addr → Prop} {I : Addr} {st : Sts} (h : ImM H X I st) (d : Nat) : ImM (upd H I (.lst ((st.set d none).map dkV))) X I (st.set d none) := by
  have kp : ∀ b o', H b = some o' → b ≠ I → upd H I (.lst ((st.set d none).map dkV)) b = some o' := fun b o' e n => by rw [upd_ne n]; exact e
  have old : ∀ {i : Nat} {dk : DkO}, (st.set d none)[i]? = some (some dk) → st[i]? = some (some dk) := fun {i dk} g => by
    rcases setS_some g with ⟨_, z⟩ | ⟨_, z⟩
    · cases z
    · exact z
  refine ⟨upd_same, h.ip, fun i dk g => ?_, fun i j dk dk' g1 g2 e => h.hU i j dk dk' (old g1) (old g2) e, fun i dk r s g1 g2 => ?_⟩
  · have := h.hD i dk (old g)
    exact ⟨kp _ _ this.1 this.2.1, this.2⟩
  · obtain ⟨a1, a2, a3⟩ := h.hR i dk r s (old g1) g2
    refine ⟨kp _ _ a1 fun z => a2 (.inr (.inl z)), fun z => a2 ?_, a3⟩
    rcases z with z | z | ⟨j, dj, g, z⟩
    · exact .inl z
    · exact .inr (.inl z)
    · exact .inr (.inr ⟨j, dj, old g, z⟩)
theorem ImM.blank {H : Hp} {X : Addr → Prop} {I B : Addr} {st : Sts} (h : ImM H X I st) (d : Nat) (nB : H B = none) (Bx : ¬ X B) : ImM (upd (upd H B (.lst (blk4.map rowV))) I (.lst ((st.set d (some ⟨B, blk4⟩)).map dkV))) X I (st.set d (some ⟨B, blk4⟩)) := by
  have IB : I ≠ B := ne_of_none h.hI nB
  have kp : ∀ b o', H b = some o' → b ≠ I → upd (upd H B (.lst (blk4.map rowV))) I (.lst ((st.set d (some ⟨B, blk4⟩)).map dkV)) b = some o' := fun b o' e n => by rw [upd_ne n, upd_ne (ne_of_none e nB)]; exact e
  refine ⟨upd_same, h.ip, fun i dk g => ?_, fun i j dk dk' g1 g2 e => ?_, fun i dk r s g1 g2 => ?_⟩
  · rcases setS_some g with ⟨_, z⟩ | ⟨_, z⟩
    · cases z
      exact ⟨by rw [upd_ne IB.symm]; exact upd_same, IB.symm, Bx⟩
    · have := h.hD i dk z
      exact ⟨kp _ _ this.1 this.2.1, this.2⟩
  · rcases setS_some g1 with ⟨e1, z1⟩ | ⟨n1, z1⟩
    · rcases setS_some g2 with ⟨e2, z2⟩ | ⟨n2, z2⟩
      · rw [e1, e2]
      · cases z1
        exact absurd e.symm (ne_of_none (h.hD j dk' z2).1 nB)
    · rcases setS_some g2 with ⟨e2, z2⟩ | ⟨n2, z2⟩
      · cases z2
        exact absurd e (ne_of_none (h.hD i dk z1).1 nB)
      · exact h.hU i j dk dk' z1 z2 e
  · rcases setS_some g1 with ⟨_, z⟩ | ⟨_, z⟩
    · cases z
      rcases r with _ | _ | _ | _ | r <;> cases g2
    · obtain ⟨a1, a2, a3⟩ := h.hR i dk r s z g2
      refine ⟨kp _ _ a1 (fun y => a2 (.inr (.inl y))), fun y => ?_, a3⟩
      rcases y with y | y | y
      · exact a2 (.inl y)
      · exact a2 (.inr (.inl y))
      · rcases setS_dkS y with y | ⟨dk', y, y2⟩
        · exact a2 (.inr (.inr y))
        · cases y
          exact ne_of_none a1 nB y2
/-- a list of whole numbers is no disk and not the images -/
theorem ImM.ints {H : Hp} {X : Addr → Prop} {I b : Addr} {st : Sts} {n : Nat} {ws : List Int} (h : ImM H X I st) (hn : ∀ (i : Nat) (dk : DkO), st[i]? = some (some dk) → dk.rows.length = n) (n1 : 1 ≤ n) (l1 : 1 ≤ st.length) (hb : H b = some (.lst (ws.map V.int))) : ¬ dkS st b ∧ b ≠ I := by
  constructor
  · rintro ⟨i, dk, g, e⟩
    have hl := hn i dk g
    refine ints_ne hb (h.hD i dk g).1 ?_ e
    cases hr : dk.rows with
    | nil => rw [hr] at hl; simp at hl; omega
    | cons o rs => exact ⟨rowV o, by simp, fun i => by cases o <;> exact fun z => nomatch z⟩
  · refine ints_ne hb h.hI ?_
    cases hs : st with
    | nil => rw [hs] at l1; simp at l1
    | cons o rs => exact ⟨dkV o, by simp, fun i => by cases o <;> exact fun z => nomatch z⟩
/-- what a carry leaves in a row -/
theorem carry_sec {st : Sts} {n rr : Nat} (hn : ∀ (i : Nat) (dk : DkO), st[i]? = some (some dk) → dk.rows.length = n) (hr : rr < n) : ∀ rs : List Rq, (∀ e ∈ rs, e.r = (rr : Int) ∧ 0 ≤ e.d ∧ Pres st e.d.toNat) →
    ∀ d : Nat, (∃ e ∈ rs, e.d = (d : Int) ∧ secS (carryM st rs) d rr = some (e.s, e.ws)) ∨ ((∀ e ∈ rs, e.d ≠ (d : Int)) ∧ secS (carryM st rs) d rr = secS st d rr) := by
  refine rev_ind (P := fun rs : List Rq => (∀ e ∈ rs, e.r = (rr : Int) ∧ 0 ≤ e.d ∧ Pres st e.d.toNat) → ∀ d : Nat, (∃ e ∈ rs, e.d = (d : Int) ∧ secS (carryM st rs) d rr = some (e.s, e.ws)) ∨ ((∀ e ∈ rs, e.d ≠ (d : Int)) ∧ secS (carryM st rs) d rr = secS st d rr)) (fun _ d => .inr ⟨fun _ m => (nomatch m), rfl⟩) fun rs e ih h d => ?_
  have he := h e (by simp)
  have ih := ih (fun x m => h x (List.mem_append_left _ m)) d
  rw [carry_snoc, he.1, Int.toNat_natCast]
  by_cases c : e.d = (d : Int)
  · left
    refine ⟨e, by simp, c, ?_⟩
    obtain ⟨dk, g⟩ := (carry_pres st rs e.d.toNat).mpr he.2.2
    have e2 : e.d.toNat = d := by omega
    rw [e2] at g ⊢
    exact putS_sec g (by rw [carry_rows hn rs d dk g]; exact hr)
  · have ne : secS (putS (carryM st rs) e.d.toNat rr (some (e.s, e.ws))) d rr = secS (carryM st rs) d rr := putS_sec_ne (.inl (by omega))
    rw [ne]
    rcases ih with ⟨x, m, e1, e2⟩ | ⟨a1, a2⟩
    · exact .inl ⟨x, List.mem_append_left _ m, e1, e2⟩
    · refine .inr ⟨fun x m => ?_, a2⟩
      rcases List.mem_append.mp m with m | m
      · exact a1 x m
      · rw [List.mem_singleton.mp m]
        exact c
theorem sorted_ext : ∀ {xs ys : List Int}, xs.Pairwise (· < ·) → ys.Pairwise (· < ·) → (∀ u, u ∈ xs ↔ u ∈ ys) → xs = ys
  | [], [], _, _, _ => rfl
  | [], y :: ys, _, _, h => absurd ((h y).mpr (by simp)) (by simp)
  | x :: xs, [], _, _, h => absurd ((h x).mp (by simp)) (by simp)
  | x :: xs, y :: ys, hx, hy, h => by
    rw [List.pairwise_cons] at hx hy
    have e : x = y := by
      rcases List.mem_cons.mp ((h x).mp (by simp)) with z | z
      · exact z
      rcases List.mem_cons.mp ((h y).mpr (by simp)) with w | w
      · exact w.symm
      have := hy.1 x z
      have := hx.1 y w
      omega
    subst e
    rw [sorted_ext hx.2 hy.2 fun u => ?_]
    constructor
    · intro m
      rcases List.mem_cons.mp ((h u).mp (List.mem_cons_of_mem _ m)) with z | z
      · have := hx.1 u m
        omega
      · exact z
    · intro m
      rcases List.mem_cons.mp ((h u).mpr (List.mem_cons_of_mem _ m)) with z | z
      · have := hy.1 u m
        omega
      · exact z
/-! reading stripes -/
/-! the mathematics of a stripe -/
theorem val_pol (ws ys : List Int) : ∃ f, Pol ws.length f ∧ ∀ x, z (valM ws ys x) = f (z x) :=
  ⟨fun x => sumR ws.length fun i => prodZ (others ws i) x * (z (invP (prodM (others ws i) (ws.getD i 0) 1)) * z (ys.getD i 0)), sumR_pol fun i hi => Pol.smul _ (by
    have := prodZ_pol (others ws i)
    rw [others_length hi] at this
    exact this), fun x => valM_z ws ys x⟩
theorem fill_words {W : List Int} {d : Nat} (h : ∀ w ∈ W, Wd w) : ∀ w ∈ fillM W d, Wd w := fun w m => by
  rcases List.mem_append.mp m with m | m
  · exact h w m
  · rw [List.eq_of_mem_replicate m]
    exact ⟨by decide, by decide⟩
theorem stripe_words {W : List Int} {d c : Nat} (h : ∀ w ∈ W, Wd w) : ∀ r ∈ stripeM W d c, ∀ w ∈ r, Wd w := fun r m w mw => by
  rcases List.mem_append.mp m with m | m
  · obtain ⟨j, _, rfl⟩ := List.mem_map.mp m
    exact fill_words h w (List.mem_of_mem_drop (List.mem_of_mem_take mw))
  · obtain ⟨k, _, rfl⟩ := List.mem_map.mp m
    obtain ⟨j, _, rfl⟩ := List.mem_map.mp mw
    exact valM_word _ _ _
theorem stripe_low {W : List Int} {d c k : Nat} (hk : k < d) : (stripeM W d c).getD k [] = (cutsM W d).getD k [] := by
  unfold stripeM
  rw [List.getD_eq_getElem?_getD, List.getD_eq_getElem?_getD, List.getElem?_append_left (by rw [cuts_len]; exact hk)]
theorem stripe_high {W : List Int} {d c k : Nat} (h1 : d ≤ k) (h2 : k < c) : (stripeM W d c).getD k [] = pieceM (upto d) (cutsM W d) (k : Int) (sizeM W.length d) := by
  unfold stripeM
  rw [List.getD_eq_getElem?_getD, List.getElem?_append_right (by rw [cuts_len]; exact h1), cuts_len, List.getElem?_map, List.getElem?_range (by omega)]
  show pieceM _ _ ((d + (k - d) : Nat) : Int) _ = _
  rw [show d + (k - d) = k by omega]
theorem piece_getD (ws : List Int) (rows : List (List Int)) (x : Int) {n j : Nat} (hj : j < n) : (pieceM ws rows x n).getD j 0 = valM ws (rows.map fun r => r.getD j 0) x := getD_item (by unfold pieceM; rw [List.getElem?_map, List.getElem?_range hj]; rfl)
theorem stripe_pol {W : List Int} {d c j : Nat} (hd : d ≤ 8) (hj : j < sizeM W.length d) : ∃ f, Pol d f ∧ ∀ k : Nat, k < c → z (((stripeM W d c).getD k []).getD j 0) = f (z (k : Int)) := by
  obtain ⟨f, hf, hv⟩ := val_pol (upto d) ((cutsM W d).map fun r => r.getD j 0)
  rw [upto_len] at hf
  refine ⟨f, hf, fun k hk => ?_⟩
  by_cases c2 : k < d
  · rw [stripe_low c2, ← hv, valM_node (upto_apart (by omega)) (j := k) (by rw [upto_len]; exact c2) (by rw [upto_get c2])]
    obtain ⟨r, hr⟩ : ∃ r, (cutsM W d)[k]? = some r := ⟨_, List.getElem?_eq_getElem (by rw [cuts_len]; exact c2)⟩
    have e0 : ((cutsM W d).map fun r => r.getD j 0).getD k 0 = r.getD j 0 := getD_item (by rw [List.getElem?_map, hr]; rfl)
    rw [getD_item hr, e0]
  · rw [stripe_high (by omega) hk, piece_getD _ _ _ hj, hv]
theorem z_word {a b : Int} (ha : Wd a) (hb : Wd b) (e : z a = z b) : a = b := by
  have := z_mod_eq e
  have h1 := ha.1
  have h2 := ha.2
  have h3 := hb.1
  have h4 := hb.2
  omega
/-- what is recovered of a stripe's pieces is the stripe -/
theorem rec_stripe {F : List ORow} {W : List Int} {d c : Nat} (hd : 1 ≤ d) (hd8 : d ≤ 8) (hc : F.length ≤ c) (hc8 : c ≤ 8) (hdc : d ≤ c) (hp : d ≤ (presM F).length) (hW : ∀ w ∈ W, Wd w) (hF : ∀ (i : Nat) (e : Addr × List Int), F[i]? = some (some e) → e.2 = (stripeM W d c).getD i []) :
    recM F d (sizeM W.length d) = (List.range F.length).map fun (i : Nat) => (stripeM W d c).getD i [] := by
  unfold recM
  refine List.map_congr_left fun i mi => ?_
  have li := List.mem_range.mp mi
  have hi : F[i]? = some F[i] := List.getElem?_eq_getElem li
  rw [getD_item hi]
  cases q : F[i] with
  | some e => exact hF i e (by rw [hi, q])
  | none =>
    have tl : ((presM F).take d).length = d := by rw [List.length_take]; omega
    have il : (intsN ((presM F).take d)).length = d := by unfold intsN; rw [List.length_map, tl]
    have pw := (presM_pair F).sublist (List.take_sublist d _)
    have ap : Apart (intsN ((presM F).take d)) := intsN_apart pw fun j m => by have := (presM_lt (List.mem_of_mem_take m)).1; omega
    obtain ⟨row, si⟩ : ∃ row, (stripeM W d c)[i]? = some row := ⟨_, List.getElem?_eq_getElem (by rw [stripe_len hdc]; omega)⟩
    have mr := List.mem_of_getElem? si
    have sl := stripe_row (c := c) hd _ mr
    rw [getD_item si]
    refine List.ext_getElem? fun j => ?_
    by_cases hj : j < sizeM W.length d
    · obtain ⟨f, hf, hv⟩ := stripe_pol (c := c) hd8 hj
      have e1 : (pieceM (intsN ((presM F).take d)) (snds (((presM F).take d).map (rowAt F))) (i : Int) (sizeM W.length d))[j]? = some (valM (intsN ((presM F).take d)) ((snds (((presM F).take d).map (rowAt F))).map fun r => r.getD j 0) (i : Int)) := by
        unfold pieceM
        rw [List.getElem?_map, List.getElem?_range hj]
        rfl
      have e2 : row[j]? = some (row.getD j 0) := by
        rw [List.getElem?_eq_getElem (by omega)]
        exact congrArg some (getD_item (List.getElem?_eq_getElem (by omega))).symm
      have e3 := getD_item (d := []) si
      rw [e1, e2]
      refine congrArg some (z_word (valM_word _ _ _) (stripe_words hW _ mr _ (List.mem_of_getElem? e2)) ?_)
      rw [valM_pol ap (f := f) (by rw [il]; exact hf) (fun m hm => ?_) (i : Int), ← hv i (by omega), e3]
      rw [il] at hm
      have hm' : ((presM F).take d)[m]? = some (((presM F).take d)[m]'(by omega)) := List.getElem?_eq_getElem (by omega)
      generalize ((presM F).take d)[m]'(by omega) = u at hm'
      have mu := List.mem_of_mem_take (List.mem_of_getElem? hm')
      have lu := presM_lt mu
      have g1 : ((snds (((presM F).take d).map (rowAt F))).map fun r => r.getD j 0).getD m 0 = (rowAt F u).2.getD j 0 := getD_item (by rw [List.getElem?_map, List.getElem?_map, List.getElem?_map, hm']; rfl)
      have g2 : (intsN ((presM F).take d)).getD m 0 = (u : Int) := getD_item (by unfold intsN; rw [List.getElem?_map, hm']; rfl)
      rw [g1, g2, hF u _ lu.2, hv u (by omega)]
    · rw [List.getElem?_eq_none (by simp [pieceM]; omega), List.getElem?_eq_none (by omega)]
theorem flat_cuts (L : List Int) (s : Nat) : ∀ d, ((List.range d).map fun j => (L.drop (j * s)).take s).flatten = L.take (d * s)
  | 0 => by simp
  | d + 1 => by
    rw [List.range_succ, List.map_append, List.flatten_append, flat_cuts L s d, List.map_singleton, List.flatten_cons, List.flatten_nil, List.append_nil, Nat.succ_mul, List.take_add]
theorem cuts_flat (W : List Int) (d : Nat) (hd : 1 ≤ d) : (cutsM W d).flatten.take W.length = W := by
  unfold cutsM
  have e : (fillM W d).take (d * sizeM W.length d) = fillM W d := List.take_of_length_le (by rw [fill_len W d hd, Nat.mul_comm]; exact Nat.le_refl _)
  rw [flat_cuts, e]
  unfold fillM
  rw [List.take_append_of_le_length (Nat.le_refl _), List.take_of_length_le (Nat.le_refl _)]
theorem range_stripe {W : List Int} {d c m : Nat} (hm : d ≤ m) : (((List.range m).map fun (i : Nat) => (stripeM W d c).getD i []).take d) = cutsM W d := by
  refine List.ext_getElem? fun i => ?_
  rw [List.getElem?_take]
  by_cases h : i < d
  · rw [if_pos h, List.getElem?_map, List.getElem?_range (by omega)]
    show some ((stripeM W d c).getD i []) = _
    rw [stripe_low h]
    exact (by
      obtain ⟨r, hr⟩ : ∃ r, (cutsM W d)[i]? = some r := ⟨_, List.getElem?_eq_getElem (by rw [cuts_len]; exact h)⟩
      rw [getD_item hr, hr])
  · rw [if_neg h, List.getElem?_eq_none (by rw [cuts_len]; omega)]
theorem presM_snoc (F : List ORow) (o : ORow) : presM (F ++ [o]) = presM F ++ if o.isSome = true then [F.length] else [] := by
  unfold presM
  rw [List.length_append, List.length_singleton, List.range_succ, List.filter_append]
  congr 1
  · refine List.filter_congr fun i m => ?_
    have := List.mem_range.mp m
    rw [List.getD_eq_getElem?_getD, List.getD_eq_getElem?_getD, List.getElem?_append_left this]
  · simp [List.filter_cons]
/-- two fors over a list of lists of whole numbers: all their items -/
theorem lc2_flat {K : PySem.W.Frag} {a D : Addr} {F : List (Addr × List Int)} {i j : Nat} {vs vs1 : List Nat} {σ : St} {H1 : Hp} {Qd : Hp → Prop} (hD : H1 D = none) (hl : H1 a = some (.lst (refs F))) (hF : ∀ e ∈ F, H1 e.1 = some (.lst (e.2.map V.int))) (hz : (snds F).flatten.length ≤ 60000)
    (hd : ∀ H, Same H1 H → H D = some (.lst ((snds F).flatten.map V.int)) → Qd H) (hg : ∀ x, wipe ((wipe σ vs).set i (some x)) vs = wipe σ vs) (h1 : ∀ x, ((wipe σ vs).set i (some x))[i]? = some (some x)) (hg1 : ∀ x y, wipe ((wipe ((wipe σ vs).set i (some x)) vs1).set j (some y)) vs1 = wipe ((wipe σ vs).set i (some x)) vs1) (h2 : ∀ x y, ((wipe ((wipe σ vs).set i (some x)) vs1).set j (some y))[j]? = some (some y)) :
    ∃ W : Nat → Nat → Hp → Prop, (∃ m, W 0 m (upd H1 D (.lst []))) ∧ ∀ n m H, W n m H →
      ((Itl K a).stop n H ∧ Qd H) ∨ ((Itl K a).go n H ∧ ∃ Nx : Hp → Prop, (∀ H', Nx H' → ∃ m', m' < m ∧ W (n + 1) m' H') ∧ ∀ x H', (Itl K a).yld n H x H' → gName i x (wipe σ vs) H' fun σ2 H2 => wipe σ2 vs = wipe σ vs ∧ tYes σ2 H2 fun b H3 =>
        if b = true then iList K (tVar i) σ2 H3 fun J1 H4 => ∃ W1 : Nat → Nat → Hp → Prop, (∃ m, W1 0 m H4) ∧ ∀ n1 k H, W1 n1 k H →
          (J1.stop n1 H ∧ Nx H) ∨ (J1.go n1 H ∧ ∃ Nx1 : Hp → Prop, (∀ H', Nx1 H' → ∃ k', k' < k ∧ W1 (n1 + 1) k' H') ∧ ∀ x H', J1.yld n1 H x H' → gName j x (wipe σ2 vs1) H' fun σ3 H5 => wipe σ3 vs1 = wipe σ2 vs1 ∧ tYes σ3 H5 fun b H6 =>
            if b = true then tVar j σ3 H6 fun y H7 => ∃ acc, H7 D = some (.lst acc) ∧ acc.length < sizeLine ∧ Nx1 (upd H7 D (.lst (acc ++ [y]))) else Nx1 H6)
        else Nx H3) := by
  refine ⟨fun n m H => m = F.length - n ∧ n ≤ F.length ∧ Same H1 H ∧ H D = some (.lst ((snds (F.take n)).flatten.map V.int)), ⟨F.length, rfl, Nat.zero_le _, Same.new hD, upd_same⟩, ?_⟩
  rintro n m H ⟨rfl, hn, s, d⟩
  by_cases hlt : n < F.length
  · obtain ⟨e, he⟩ : ∃ e, F[n]? = some e := ⟨_, List.getElem?_eq_getElem hlt⟩
    have me := List.mem_of_getElem? he
    have et : (snds (F.take (n + 1))).flatten = (snds (F.take n)).flatten ++ e.2 := by rw [take_snoc he, show snds (F.take n ++ [e]) = snds (F.take n) ++ [e.2] from List.map_append, List.flatten_append]; simp
    have sm : ∀ q, ((snds (F.take n)).flatten ++ e.2.take q).length ≤ 60000 := fun q => by
      have e1 : (snds F).flatten = (snds (F.take (n + 1))).flatten ++ (snds (F.drop (n + 1))).flatten := by rw [← List.flatten_append, show snds (F.take (n + 1)) ++ snds (F.drop (n + 1)) = snds (F.take (n + 1) ++ F.drop (n + 1)) from List.map_append.symm, List.take_append_drop]
      have l1 := congrArg List.length e1
      have l2 := congrArg List.length et
      rw [List.length_append] at l1 l2
      rw [List.length_append, List.length_take]
      omega
    refine .inr ⟨⟨refs F, _, SqL.of (s _ _ hl), refs_get he⟩, fun H' => n + 1 ≤ F.length ∧ Same H1 H' ∧ H' D = some (.lst ((snds (F.take (n + 1))).flatten.map V.int)), fun H' p => ⟨F.length - (n + 1), by omega, rfl, p⟩, ?_⟩
    rintro x H' ⟨rfl, y⟩
    obtain rfl : x = .ref e.1 := Option.some.inj ((y _ (SqL.of (s _ _ hl))).symm.trans (refs_get he))
    refine ⟨hg _, ?_⟩
    dsimp only [tYes, gName]
    rw [if_pos rfl]
    refine ⟨_, h1 _, e.1, rfl, ⟨_, SqL.of (s _ _ (hF e me))⟩, fun q k H => k = e.2.length - q ∧ q ≤ e.2.length ∧ Same H1 H ∧ H D = some (.lst (((snds (F.take n)).flatten ++ e.2.take q).map V.int)), ⟨e.2.length, rfl, Nat.zero_le _, s, by rw [List.take_zero, List.append_nil]; exact d⟩, ?_⟩
    rintro q k H ⟨rfl, hq, s', d'⟩
    by_cases hq2 : q < e.2.length
    · obtain ⟨v, hv⟩ : ∃ v, e.2[q]? = some v := ⟨_, List.getElem?_eq_getElem hq2⟩
      have gv : (e.2.map V.int)[q]? = some (.int v) := by rw [List.getElem?_map, hv]; rfl
      refine .inr ⟨⟨_, _, SqL.of (s' _ _ (hF e me)), gv⟩, fun H' => q + 1 ≤ e.2.length ∧ Same H1 H' ∧ H' D = some (.lst (((snds (F.take n)).flatten ++ e.2.take (q + 1)).map V.int)), fun H' p => ⟨e.2.length - (q + 1), by omega, rfl, p⟩, ?_⟩
      rintro x H' ⟨rfl, y⟩
      obtain rfl : x = .int v := Option.some.inj ((y _ (SqL.of (s' _ _ (hF e me)))).symm.trans gv)
      refine ⟨hg1 _ _, ?_⟩
      dsimp only [tYes, gName]
      rw [if_pos rfl]
      refine ⟨_, h2 _ _, _, d', small _ (by rw [List.length_map]; exact sm q), hq2, same_put s' hD, ?_⟩
      rw [upd_same, take_snoc hv, ← List.append_assoc, List.map_append (l₂ := [v])]
      rfl
    · refine .inl ⟨⟨_, SqL.of (s' _ _ (hF e me)), by rw [List.length_map]; omega⟩, hlt, s', ?_⟩
      have e3 : e.2.take q = e.2 := List.take_of_length_le (by omega)
      rw [d', e3, et]
  · have e : n = F.length := by omega
    subst e
    rw [List.take_length] at d
    exact .inl ⟨⟨_, SqL.of (s _ _ hl), by unfold refs; rw [List.length_map]; exact Nat.le_refl _⟩, hd H s d⟩
def GpIs (st : Sts) (d r : Nat) (e s : Int) (n : Nat) : Option (List Int) → Prop
  | none => ∀ sc, secS st d r = some sc → ¬ (Good sc.2 3 (d : Int) (r : Int) ∧ stampM sc.2 = (e, s) ∧ (payM sc.2).length = n)
  | some ws => ∃ sc, secS st d r = some sc ∧ Good sc.2 3 (d : Int) (r : Int) ∧ stampM sc.2 = (e, s) ∧ (payM sc.2).length = n ∧ payM sc.2 = ws
def sp_good_piece (K : PySem.W.Frag) (a : Ad) : Sp := fun vs H Q _ => ∃ (X : Addr → Prop) (I Pa Sa : Addr) (st : Sts) (d r : Nat) (e s : Int) (n : Nat) (o : Option (List Int)), vs = [.ref I, .ref Pa, .ref Sa, .int (n : Int)] ∧ ImM H X I st ∧ st.length ≤ 100 ∧ (∀ (i : Nat) (dk : DkO), st[i]? = some (some dk) → dk.rows.length ≤ 100) ∧
  SqT K H Pa [.int (d : Int), .int (r : Int)] ∧ SqT K H Sa [.int e, .int s] ∧ GpIs st d r e s n o ∧ (o = none → ∀ H', Same H H' → Q .non H') ∧
  (∀ ws, o = some ws → ∀ (D : Addr) (H' : Hp), Same H H' → H D = none → H' D = some (.lst (ws.map V.int)) → Q (.ref D) H')
theorem sp_good_piece_len {K : PySem.W.Frag} {a : Ad} {vs : List V} {H : Hp} {Q : VK} {E : XK} (h : sp_good_piece K a vs H Q E) : vs.length = 4 := by
  obtain ⟨X, I, Pa, Sa, st, d, r, e, s, n, o, rfl, _⟩ := h
  rfl
/-- the pieces at the places: what is good there is the stripe's -/
def PcOk (st : Sts) (pls : List (Int × Int)) (e s : Int) (W : List Int) (d : Nat) (gs : List Bool) : Prop := gs.length = pls.length ∧ ∀ (i : Nat) (q : Int × Int) (g : Bool), pls[i]? = some q → gs[i]? = some g → GpIs st q.1.toNat q.2.toNat e s (sizeM W.length d) (if g = true then some ((stripeM W d pls.length).getD i []) else none)
theorem set_cut19 (ws : List Int) (i : Nat) (v : Int) (h : i < ws.length) : cutV (ws.map V.int) none (some (i : Int)) ++ [V.int v] ++ cutV (ws.map V.int) (some ((i : Int) + 1)) none = (ws.set i v).map V.int := by
  rw [cut_take, show ((i : Int) + 1) = ((i + 1 : Nat) : Int) from rfl, cut_drop, List.set_eq_take_append_cons_drop, if_pos h, List.map_append, List.map_cons, List.map_take, List.map_drop, List.append_assoc]
  rfl
theorem good_head {ws : List Int} {k d r : Int} (h : Good ws k d r) : ws.getD 0 0 = k ∧ ws.getD 1 0 = d ∧ ws.getD 2 0 = r := by
  obtain ⟨_, h, _⟩ := h
  match ws, h with
  | [], h => cases h
  | [_], h => cases h
  | [_, _], h => cases h
  | a :: b :: c :: _, h =>
    injection h with h1 h
    injection h with h2 h
    injection h with h3 _
    exact ⟨h1, h2, h3⟩
/-! the repr of images -/
structure Rp (x : PyData) (k n : Nat) : Prop where
  c : x.canLay0 = true
  d : x.depth ≤ k
  w : x.weight ≤ n
  s : x.intsShort 13 = true
  h : x.showable = true
  nd : x.hasDict = false
theorem Rp.mono {x : PyData} {k n k' n' : Nat} (h : Rp x k n) (hk : k ≤ k') (hn : n ≤ n') : Rp x k' n' := ⟨h.c, Nat.le_trans h.d hk, Nat.le_trans h.w hn, h.s, h.h, h.nd⟩
theorem rp_none : Rp .none 0 0 := ⟨rfl, by simp [PyData.depth], by simp [PyData.weight], rfl, rfl, rfl⟩
theorem rp_int {i : Int} (h : Wd i) : Rp (.int i) 0 17 := by
  have h1 : i.natAbs < 65536 := by have := h.1; have := h.2; omega
  have h2 : i.natAbs.log2 ≤ 16 := by
    by_cases z : i.natAbs = 0
    · rw [z]; decide
    · have := (Nat.log2_lt z (k := 16)).mpr h1
      omega
  refine ⟨by simp [PyData.canLay0], by simp [PyData.depth], ?_, ?_, ?_, by simp [PyData.hasDict]⟩
  · simp only [PyData.weight]
    split <;> omega
  · simp only [PyData.intsShort]
    exact decide_eq_true (PyData.shown_int_le (by omega))
  · simp only [PyData.showable]
    exact decide_eq_true (by omega)
theorem rp_all {k n : Nat} : ∀ {xs : List PyData}, (∀ x ∈ xs, Rp x k n) → PyData.canLayAll0 xs = true ∧ PyData.depthAll xs ≤ k ∧ PyData.weightAll xs ≤ xs.length * (n + 1) ∧ PyData.intsShortAll 13 xs = true ∧ PyData.showableAll xs = true ∧ PyData.hasDictAll xs = false
  | [], _ => ⟨rfl, by simp [PyData.depthAll], by simp [PyData.weightAll], rfl, rfl, rfl⟩
  | x :: xs, h => by
    obtain ⟨a1, a2, a3, a4, a5, a6⟩ := rp_all fun y m => h y (List.mem_cons_of_mem _ m)
    have b := h x (by simp)
    refine ⟨by simp [PyData.canLayAll0, b.c, a1], ?_, ?_, by simp [PyData.intsShortAll, b.s, a4], by simp [PyData.showableAll, b.h, a5], by simp [PyData.hasDictAll, b.nd, a6]⟩
    · have e : PyData.depthAll (x :: xs) = max x.depth (PyData.depthAll xs) := by simp [PyData.depthAll]
      rw [e]
      exact Nat.max_le.mpr ⟨b.d, a2⟩
    · have e : PyData.weightAll (x :: xs) = x.weight + 1 + PyData.weightAll xs := by simp [PyData.weightAll]
      rw [e, List.length_cons, Nat.succ_mul]
      have := b.w
      omega
theorem rp_list {k n : Nat} {xs : List PyData} (h : ∀ x ∈ xs, Rp x k n) : Rp (.list xs) (k + 1) (xs.length * (n + 1)) := by
  obtain ⟨a1, a2, a3, a4, a5, a6⟩ := rp_all h
  exact ⟨by simp only [PyData.canLay0]; exact a1, by simp only [PyData.depth]; omega, by simp only [PyData.weight]; exact a3, by simp only [PyData.intsShort]; exact a4, by simp only [PyData.showable]; exact a5, by simp only [PyData.hasDict]; exact a6⟩
theorem Rp.shown {x : PyData} {k n : Nat} (h : Rp x k n) (hk : k ≤ 64) (hn : n ≤ 2 ^ 20) : x.shown.length ≤ sizeLine := by
  refine PyData.shown_fits_of_layable0 (B := 13) (by decide) (by decide) ?_ h.s
  unfold PyData.layable0
  rw [Bool.and_eq_true, Bool.and_eq_true]
  exact ⟨⟨h.c, decide_eq_true (Nat.le_trans h.d hk)⟩, decide_eq_true (Nat.le_trans h.w hn)⟩
def scD : Option (Addr × List Int) → PyData
  | none => .none
  | some s => .list (s.2.map .int)
def imD : Option DkO → PyData
  | none => .none
  | some dk => .list (dk.rows.map scD)
def stD19 (st : Sts) : PyData := .list (st.map imD)
theorem dp_st19 {K : PySem.W.Frag} {H : Hp} {X : Addr → Prop} {I : Addr} {st : Sts} (h : ImM H X I st) : Dp K H (.ref I) (stD19 st) := by
  refine .lst (SqL.of h.hI) ?_
  have hD := h.hD
  have hR := h.hR
  have rows : ∀ (rs : List (Option (Addr × List Int))), (∀ s, some s ∈ rs → H s.1 = some (.lst (s.2.map V.int))) → DpAll K H (rs.map rowV) (rs.map scD) := by
    intro rs hs
    induction rs with
    | nil => exact .nil
    | cons o rs ih =>
      refine .cons ?_ (ih fun s m => hs s (List.mem_cons_of_mem _ m))
      cases o with
      | none => exact .non
      | some s => exact dp_ints (SqL.of (hs s (by simp)))
  have all : ∀ (sts : Sts), (∀ o ∈ sts, o ∈ st) → DpAll K H (sts.map dkV) (sts.map imD) := by
    intro sts hs
    induction sts with
    | nil => exact .nil
    | cons o os ih =>
      refine .cons ?_ (ih fun x m => hs x (List.mem_cons_of_mem _ m))
      cases o with
      | none => exact .non
      | some dk =>
        obtain ⟨i, hi⟩ := List.mem_iff_getElem?.mp (hs _ (List.mem_cons_self))
        refine .lst (SqL.of (hD i dk hi).1) (rows _ fun s m => ?_)
        obtain ⟨r, hr⟩ := List.mem_iff_getElem?.mp m
        exact (hR i dk r s hi hr).1
  exact all st fun _ m => m
theorem rp_st19 {st : Sts} (ls : st.length ≤ 8) (l64 : ∀ (i : Nat) (dk : DkO), st[i]? = some (some dk) → dk.rows.length = 64) (hw : ∀ d r sc, secS st d r = some sc → (∀ w ∈ sc.2, Wd w) ∧ sc.2.length ≤ 60) : Rp (stD19 st) 3 1048576 := by
  have one : ∀ o ∈ st.map imD, Rp o 2 (64 * 1100) := fun x m => by
    obtain ⟨o, mo, rfl⟩ := List.mem_map.mp m
    obtain ⟨i, hi⟩ := List.mem_iff_getElem?.mp mo
    cases o with
    | none => exact rp_none.mono (by omega) (by omega)
    | some dk =>
      have sec : ∀ y ∈ dk.rows.map scD, Rp y 1 1080 := fun y my => by
        obtain ⟨o, mo, rfl⟩ := List.mem_map.mp my
        obtain ⟨r, hr⟩ := List.mem_iff_getElem?.mp mo
        cases o with
        | none => exact rp_none.mono (by omega) (by omega)
        | some s =>
          have z := hw i r s (by unfold secS; rw [hi]; show (dk.rows[r]?).join = _; rw [hr]; rfl)
          refine (rp_list (k := 0) (n := 17) (xs := s.2.map .int) fun x mx => ?_).mono (by omega) (by rw [List.length_map]; omega)
          obtain ⟨w, mw, rfl⟩ := List.mem_map.mp mx
          exact rp_int (z.1 w mw)
      exact (rp_list sec).mono (by omega) (by rw [List.length_map, l64 i dk hi]; omega)
  exact (rp_list one).mono (by omega) (by rw [List.length_map]; omega)
/-! the law's own -/
def blk64 : List (Option (Addr × List Int)) := List.replicate 64 none
theorem blk64_none {r : Nat} {s : Addr × List Int} : blk64[r]? ≠ some (some s) := fun h => by
  unfold blk64 at h
  rw [List.getElem?_replicate] at h
  split at h <;> cases h
theorem sec_congr {st st' : Sts} {x r : Nat} (h : st'[x]? = st[x]?) : secS st' x r = secS st x r := by unfold secS; rw [h]
theorem gp_congr {st st' : Sts} {x r n : Nat} {e s : Int} (h : st'[x]? = st[x]?) (g : GpIs st x r e s n none) : GpIs st' x r e s n none := fun sc z => g sc (by rw [← sec_congr h]; exact z)
theorem inV_ints19 (x : Int) : ∀ ws : List Int, inV (.int x) (ws.map V.int) = decide (x ∈ ws)
  | [] => rfl
  | w :: ws => by
    have ih := inV_ints19 x ws
    unfold inV at ih ⊢
    rw [List.map_cons, List.any_cons, ih]
    by_cases h : x = w
    · subst h
      simp [eqV]
    · simp [eqV, h]
      exact fun z => absurd z.symm h
theorem flat_ints19 (ws : List Int) : (ws.map V.int).all flatV = true := List.all_eq_true.mpr fun x m => by
  obtain ⟨w, _, rfl⟩ := List.mem_map.mp m
  rfl
theorem mem_intsN {j : Nat} {bs : List Nat} : ((j : Int) ∈ intsN bs) ↔ j ∈ bs := by
  unfold intsN
  rw [List.mem_map]
  constructor
  · rintro ⟨x, m, e⟩
    have : x = j := by omega
    rw [← this]
    exact m
  · exact fun m => ⟨j, m, rfl⟩
theorem cnt_out : ∀ (n : Nat) (bs : List Nat), bs.Nodup → (∀ j ∈ bs, j < n) → ((List.range n).filter fun j => decide (j ∉ bs)).length + bs.length = n
  | 0, bs, _, h => by
    cases bs with
    | nil => rfl
    | cons b bs => exact absurd (h b (by simp)) (Nat.not_lt_zero _)
  | n + 1, bs, nd, h => by
    rw [List.range_succ, List.filter_append, List.length_append]
    by_cases c : n ∈ bs
    · have l1 := List.length_erase_of_mem c
      have l2 : 0 < bs.length := List.length_pos_of_mem c
      have ih := cnt_out n (bs.erase n) (nd.erase n) fun j m => by
        have h1 := h j (List.mem_of_mem_erase m)
        have h2 : j ≠ n := fun z => by rw [z] at m; exact (List.Nodup.not_mem_erase nd) m
        omega
      have e : ((List.range n).filter fun j => decide (j ∉ bs)) = (List.range n).filter fun j => decide (j ∉ bs.erase n) := List.filter_congr fun j m => by
        have hj := List.mem_range.mp m
        have : j ∈ bs.erase n ↔ j ∈ bs := List.mem_erase_of_ne (by omega)
        simp [this]
      have ef : (List.filter (fun j => decide (j ∉ bs)) [n]).length = 0 := by simp [c]
      rw [e, ef]
      omega
    · have ih := cnt_out n bs nd fun j m => by
        have h1 := h j m
        have h2 : j ≠ n := fun z => c (by rw [← z]; exact m)
        omega
      have ef : (List.filter (fun j => decide (j ∉ bs)) [n]).length = 1 := by simp [c]
      rw [ef]
      omega
theorem gs_count (n : Nat) (bs : List Nat) (nd : bs.Nodup) (h : ∀ j ∈ bs, j < n) : (((List.range n).map fun j => decide (j ∉ bs)).filter id).length + bs.length = n := by
  rw [List.filter_map, List.length_map]
  exact cnt_out n bs nd h
theorem gp_seal {st : Sts} {d r : Nat} {e s : Int} {ws : List Int} {sc : Addr × List Int} (h : secS st d r = some sc) (hs : sc.2 = sealM 3 (d : Int) (r : Int) e s ws) (hd : d < 8) (hr : r < 4000) (hp : Stp e s) (hw : ∀ w ∈ ws, Wd w) (hl : ws.length ≤ 1000) : GpIs st d r e s ws.length (some ws) :=
  ⟨sc, h, by rw [hs]; exact seal_good ⟨by decide, by omega, by omega⟩ hp hw hl, by rw [hs, seal_stamp], by rw [hs, seal_pay], by rw [hs, seal_pay]⟩
theorem place_ne {L : List (Addr × Int × Int)} (nd : (L.map fun e => e.2.1).Nodup) {i j : Nat} {u q : Addr × Int × Int} (hu : L[j]? = some u) (hq : L[i]? = some q) (n : j ≠ i) : u.2.1 ≠ q.2.1 := fun e => by
  have lj := item_lt hu
  have li := item_lt hq
  have gj : (L.map fun e => e.2.1)[j]'(by rw [List.length_map]; exact lj) = u.2.1 := by rw [List.getElem_map, (List.getElem?_eq_some_iff.mp hu).2]
  have gi : (L.map fun e => e.2.1)[i]'(by rw [List.length_map]; exact li) = q.2.1 := by rw [List.getElem_map, (List.getElem?_eq_some_iff.mp hq).2]
  rcases Nat.lt_trichotomy i j with z | z | z
  · exact List.pairwise_iff_getElem.mp nd i j _ _ z (gi.trans (e.symm.trans gj.symm))
  · exact n z.symm
  · exact List.pairwise_iff_getElem.mp nd j i _ _ z (gj.trans (e.trans gi.symm))
/-! pieces that agree -/
def Agr (F : List ORow) (is : List Nat) (d n : Nat) : Prop := ∀ i ∈ is.drop d, pieceM (intsN (is.take d)) (snds ((is.take d).map (rowAt F))) ((i : Nat) : Int) n = (rowAt F i).2
theorem valM_fun (ws ys : List Int) : ∃ g, Pol ws.length g ∧ ∀ x : Int, z (valM ws ys x) = g (z x) := by
  refine ⟨fun x => sumR ws.length fun i => prodZ (others ws i) x * (z (invP (prodM (others ws i) (ws.getD i 0) 1)) * z (ys.getD i 0)), sumR_pol fun i hi => Pol.smul _ ?_, fun x => valM_z ws ys x⟩
  have := prodZ_pol (others ws i)
  rw [others_length hi] at this
  exact this
theorem pieceM_get {ws : List Int} {rows : List (List Int)} {x : Int} {n t : Nat} (h : t < n) : (pieceM ws rows x n).getD t 0 = valM ws (rows.map fun r => r.getD t 0) x := getD_item (by simp [pieceM, h])
/-- all that agree lie on polynomials -/
theorem agr_pol {F : List ORow} {is : List Nat} {d n t : Nat} (hp : is.Pairwise (· < ·)) (hl : ∀ i ∈ is, i < 60000) (hd : d ≤ is.length) (ht : t < n) (h : Agr F is d n) :
    ∃ g, Pol d g ∧ ∀ i ∈ is, z ((rowAt F i).2.getD t 0) = g (z ((i : Nat) : Int)) := by
  have tl : (is.take d).length = d := by rw [List.length_take]; omega
  have il : (intsN (is.take d)).length = d := by unfold intsN; rw [List.length_map, tl]
  have ap : Apart (intsN (is.take d)) := intsN_apart (hp.sublist (List.take_sublist d _)) fun j m => hl j (List.mem_of_mem_take m)
  obtain ⟨g, hg, e⟩ := valM_fun (intsN (is.take d)) ((snds ((is.take d).map (rowAt F))).map fun r => r.getD t 0)
  rw [il] at hg
  refine ⟨g, hg, fun i m => ?_⟩
  rw [← List.take_append_drop d is] at m
  rcases List.mem_append.mp m with m | m
  · obtain ⟨j, hj⟩ := List.mem_iff_getElem?.mp m
    have e1 : (intsN (is.take d)).getD j 0 = (i : Int) := getD_item (by unfold intsN; rw [List.getElem?_map, hj]; rfl)
    have e2 : ((snds ((is.take d).map (rowAt F))).map fun r => r.getD t 0).getD j 0 = (rowAt F i).2.getD t 0 := getD_item (by rw [List.getElem?_map, List.getElem?_map, List.getElem?_map, hj]; rfl)
    have q := valM_node (ys := (snds ((is.take d).map (rowAt F))).map fun r => r.getD t 0) ap (x := (i : Int)) (j := j) (by rw [il, ← tl]; exact item_lt hj) (by rw [e1])
    rw [← e, q, e2]
  · rw [← h i m, pieceM_get ht, e]
theorem agr_of {F : List ORow} {ps : List (List Int)} {is : List Nat} {d : Nat} (hp : is.Pairwise (· < ·)) (hl : ∀ i ∈ is, i < 60000) (hd : d ≤ is.length) (hps : ∀ w ∈ ps, w.length ≤ d) (hF : ∀ i ∈ is, (rowAt F i).2 = ps.map fun w => horn w ((i : Nat) : Int)) : Agr F is d ps.length := fun i mi => by
  have tl : (is.take d).length = d := by rw [List.length_take]; omega
  have il : (intsN (is.take d)).length = d := by unfold intsN; rw [List.length_map, tl]
  rw [hF i (List.mem_of_mem_drop mi)]
  refine piece_of (intsN_apart (hp.sublist (List.take_sublist d _)) fun j m => hl j (List.mem_of_mem_take m)) (by rw [il, snds_len, List.length_map, tl]) (fun w m => by rw [il]; exact hps w m) (fun j hj => ?_) _
  rw [il] at hj
  have hj' : (is.take d)[j]? = some ((is.take d)[j]'(by omega)) := List.getElem?_eq_getElem (by omega)
  generalize (is.take d)[j]'(by omega) = m at hj'
  have e1 : (snds ((is.take d).map (rowAt F))).getD j [] = (rowAt F m).2 := getD_item (by rw [List.getElem?_map, List.getElem?_map, hj']; rfl)
  have e2 : (intsN (is.take d)).getD j 0 = (m : Int) := getD_item (by unfold intsN; rw [List.getElem?_map, hj']; rfl)
  rw [e1, e2]
  exact hF m (List.mem_of_mem_take (List.mem_of_getElem? hj'))
/-- one row off the polynomials of all others -/
theorem agr_not {F : List ORow} {is : List Nat} {d n t c : Nat} {w : List Int} (hp : is.Pairwise (· < ·)) (hl : ∀ i ∈ is, i < 60000) (hd : d < is.length) (ht : t < n) (hw : w.length ≤ d) (hc : c ∈ is) (h1 : ∀ i ∈ is, i ≠ c → z ((rowAt F i).2.getD t 0) = pev w (z ((i : Nat) : Int))) (h2 : z ((rowAt F c).2.getD t 0) ≠ pev w (z ((c : Nat) : Int))) : ¬ Agr F is d n := fun h => by
  obtain ⟨g, hg, e⟩ := agr_pol hp hl (Nat.le_of_lt hd) ht h
  have nd : is.Nodup := hp.imp fun h => Nat.ne_of_lt h
  have ndz : (is.map fun (i : Nat) => z (i : Int)).Nodup := by
    have := intsN_apart hp hl
    unfold Apart intsN at this
    rw [List.map_map] at this
    exact this
  have P := Pol.sub hg ((pev_pol w).mono hw)
  have nd2 : ((is.erase c).map fun (i : Nat) => z (i : Int)).Nodup := ndz.sublist ((List.erase_sublist).map _)
  have R := Pol.roots ((is.erase c).map fun (i : Nat) => z (i : Int)) P nd2 (by rw [List.length_map, List.length_erase_of_mem hc]; omega) (fun a ha => ?_) (z (c : Int))
  · have R' : g (z (c : Int)) - pev w (z (c : Int)) = 0 := R
    refine h2 ?_
    rw [e c hc]
    grind
  · obtain ⟨i, mi, rfl⟩ := List.mem_map.mp ha
    obtain ⟨ne, mi'⟩ := (List.Nodup.mem_erase_iff nd).mp mi
    have q1 := e i mi'
    rw [h1 i mi' ne] at q1
    show g (z (i : Int)) - pev w (z (i : Int)) = 0
    grind
theorem presM_set {F : List ORow} {i : Nat} {e : Addr × List Int} (h : i ∈ presM F) : presM (F.set i (some e)) = presM F := by
  unfold presM
  rw [List.length_set]
  refine List.filter_congr fun j mj => ?_
  have lj := List.mem_range.mp mj
  by_cases q : i = j
  · subst q
    have h1 : (F.set i (some e)).getD i none = some e := getD_item (by rw [List.getElem?_set, if_pos rfl, if_pos lj])
    have h2 : F.getD i none = some (rowAt F i) := getD_item (presM_lt h).2
    rw [h1, h2]
    rfl
  · have h1 : (F.set i (some e)).getD j none = F.getD j none := by rw [List.getD_eq_getElem?_getD, List.getElem?_set, if_neg q, List.getD_eq_getElem?_getD]
    rw [h1]
def sp_agree (K : PySem.W.Frag) (a : Ad) : Sp := fun vs H Q _ => ∃ (R N : Addr) (F : List ORow) (is : List Nat) (d n : Nat), vs = [.ref R, .ref N, .int (d : Int)] ∧ RO K H R F ∧ SqL K H N ((intsN is).map V.int) ∧ is.Pairwise (· < ·) ∧ (∀ i ∈ is, i ∈ presM F) ∧ F.length ≤ 8 ∧ 1 ≤ d ∧ d ≤ is.length ∧ (∀ i ∈ is, (rowAt F i).2.length = n) ∧ n ≤ 500 ∧
  (Agr F is d n → ∀ H', Same H H' → Q (.bl true) H') ∧ (¬ Agr F is d n → ∀ H', Same H H' → Q (.bl false) H')
theorem sp_agree_len {K : PySem.W.Frag} {a : Ad} {vs : List V} {H : Hp} {Q : VK} {E : XK} (h : sp_agree K a vs H Q E) : vs.length = 3 := by
  obtain ⟨R, N, F, is, d, n, rfl, _⟩ := h
  rfl
theorem inV_ints (x : Int) : ∀ ws : List Int, inV (.int x) (ws.map V.int) = decide (x ∈ ws)
  | [] => rfl
  | w :: ws => by
    have ih := inV_ints x ws
    unfold inV at ih ⊢
    rw [List.map_cons, List.any_cons, ih]
    by_cases h : x = w
    · subst h
      simp [eqV]
    · simp [eqV, h]
      exact fun z => absurd z.symm h
/-! which pieces are wrong -/
def lessM (P S : List Nat) : List Nat := P.filter fun x => decide (x ∉ S)
theorem less_mem {P S : List Nat} {x : Nat} : x ∈ lessM P S ↔ x ∈ P ∧ x ∉ S := by
  unfold lessM
  rw [List.mem_filter]
  simp
theorem less_len {P : List Nat} (S : List Nat) (h : P.Nodup) : P.length ≤ (lessM P S).length + S.length := by
  have := List.Nodup.length_le_of_subset (l₂ := lessM P S ++ S) h fun x m => by
    by_cases q : x ∈ S
    · exact List.mem_append.mpr (.inr q)
    · exact List.mem_append.mpr (.inl (less_mem.mpr ⟨m, q⟩))
  rwa [List.length_append] at this
theorem less_pair {P S : List Nat} (h : P.Pairwise (· < ·)) : (lessM P S).Pairwise (· < ·) := List.Pairwise.filter _ h
theorem sub_filter {P : List Nat} (hn : P.Nodup) : ∀ {S : List Nat}, S.Sublist P → P.filter (fun x => decide (x ∈ S)) = S := by
  intro S h
  induction h with
  | slnil => rfl
  | @cons l1 l2 x h ih =>
    have nd := List.nodup_cons.mp hn
    rw [List.filter_cons, if_neg (fun q => nd.1 (h.subset (of_decide_eq_true q)))]
    exact ih nd.2
  | @cons_cons l1 l2 x h ih =>
    have nd := List.nodup_cons.mp hn
    rw [List.filter_cons, if_pos (decide_eq_true (List.mem_cons_self ..))]
    congr 1
    have e : l2.filter (fun y => decide (y ∈ x :: l1)) = l2.filter (fun y => decide (y ∈ l1)) := List.filter_congr fun y m => by
      have : y ≠ x := fun z => nd.1 (z ▸ m)
      simp [this]
    rw [e]
    exact ih nd.2
def Cul (F : List ORow) (d n : Nat) (S : List Nat) : Prop := S.Sublist (presM F) ∧ 2 * S.length + d ≤ (presM F).length ∧ Agr F (lessM (presM F) S) d n
def Least (F : List ORow) (d n : Nat) (S : List Nat) : Prop := Cul F d n S ∧ ∀ S', Cul F d n S' → S.length ≤ S'.length
/-- all rows of one length, of words -/
def RowsW (F : List ORow) (n : Nat) : Prop := F.length ≤ 8 ∧ ∀ i ∈ presM F, (rowAt F i).2.length = n ∧ ∀ w ∈ (rowAt F i).2, 0 ≤ w ∧ w < 65521
theorem presM_nodup (F : List ORow) : (presM F).Nodup := (presM_pair F).imp fun h => Nat.ne_of_lt h
/-- rows on polynomials agree -/
theorem agr_pols {F : List ORow} {is : List Nat} {d n : Nat} (hF : RowsW F n) (hp : is.Pairwise (· < ·)) (hin : ∀ i ∈ is, i ∈ presM F) (hd : d ≤ is.length) (h : ∀ t, t < n → ∃ g, Pol d g ∧ ∀ i ∈ is, z ((rowAt F i).2.getD t 0) = g (z ((i : Nat) : Int))) : Agr F is d n := fun i mi => by
  have tl : (is.take d).length = d := by rw [List.length_take]; omega
  have il : (intsN (is.take d)).length = d := by unfold intsN; rw [List.length_map, tl]
  have hl : ∀ i ∈ is, i < 60000 := fun i m => by have := (presM_lt (hin i m)).1; have := hF.1; omega
  have ap : Apart (intsN (is.take d)) := intsN_apart (hp.sublist (List.take_sublist d _)) fun j m => hl j (List.mem_of_mem_take m)
  have mis := List.mem_of_mem_drop mi
  obtain ⟨rl, rw'⟩ := hF.2 i (hin i mis)
  refine List.ext_getElem (by rw [rl]; simp [pieceM]) fun t h1 h2 => ?_
  have ht : t < n := by rw [rl] at h2; exact h2
  obtain ⟨g, hg, e⟩ := h t ht
  have e1 : (pieceM (intsN (is.take d)) (snds ((is.take d).map (rowAt F))) ((i : Nat) : Int) n)[t] = valM (intsN (is.take d)) ((snds ((is.take d).map (rowAt F))).map fun r => r.getD t 0) ((i : Nat) : Int) := by simp [pieceM]
  rw [e1]
  have w1 := valM_word (intsN (is.take d)) ((snds ((is.take d).map (rowAt F))).map fun r => r.getD t 0) ((i : Nat) : Int)
  have w2 := rw' _ (List.getElem_mem h2)
  refine z_inj w1.1 w1.2 w2.1 w2.2 ?_
  have g2 : (rowAt F i).2.getD t 0 = (rowAt F i).2[t] := getD_item (List.getElem?_eq_getElem h2)
  rw [← g2, e i mis]
  refine valM_pol ap (by rw [il]; exact hg) (fun j hj => ?_) _
  rw [il] at hj
  have hj' : (is.take d)[j]? = some ((is.take d)[j]'(by omega)) := List.getElem?_eq_getElem (by omega)
  generalize (is.take d)[j]'(by omega) = m at hj'
  have e3 : (intsN (is.take d)).getD j 0 = (m : Int) := getD_item (by unfold intsN; rw [List.getElem?_map, hj']; rfl)
  have e2 : ((snds ((is.take d).map (rowAt F))).map fun r => r.getD t 0).getD j 0 = (rowAt F m).2.getD t 0 := getD_item (by rw [List.getElem?_map, List.getElem?_map, List.getElem?_map, hj']; rfl)
  rw [e2, e3]
  exact e m (List.mem_of_mem_take (List.mem_of_getElem? hj'))
/-- two polynomials that meet in as many points are one -/
theorem pol_one {F : List ORow} {J : List Nat} {d : Nat} {f g : Zp → Zp} (h8 : F.length ≤ 8) (hp : J.Nodup) (hin : ∀ i ∈ J, i ∈ presM F) (hl : d ≤ J.length) (hf : Pol d f) (hg : Pol d g) (h : ∀ i ∈ J, f (z ((i : Nat) : Int)) = g (z ((i : Nat) : Int))) (x : Zp) : f x = g x := by
  have P := Pol.sub hf hg
  have nd : (J.map fun (i : Nat) => z (i : Int)).Nodup := by
    unfold List.Nodup
    rw [List.pairwise_map]
    refine List.Pairwise.imp_of_mem (fun {a b} ha hb hab e => ?_) hp
    have h1 := (presM_lt (hin _ ha)).1
    have h2 := (presM_lt (hin _ hb)).1
    have this : (a : Int) % 65521 = (b : Int) % 65521 := z_mod_eq e
    omega
  have R := Pol.roots (J.map fun (i : Nat) => z (i : Int)) P nd (by rw [List.length_map]; exact hl) (fun a ha => ?_) x
  · have R' : f x - g x = 0 := R
    grind
  · obtain ⟨i, mi, rfl⟩ := List.mem_map.mp ha
    have q := h i mi
    show f (z (i : Int)) - g (z (i : Int)) = 0
    grind
theorem cul_inter {F : List ORow} {d n : Nat} {S S' : List Nat} (hF : RowsW F n) (h : Cul F d n S) (h' : Cul F d n S') : Cul F d n (S.filter fun x => decide (x ∈ S')) := by
  obtain ⟨s1, l1, a1⟩ := h
  obtain ⟨s2, l2, a2⟩ := h'
  have nd := presM_nodup F
  have hsub : (S.filter fun x => decide (x ∈ S')).Sublist (presM F) := (List.filter_sublist ..).trans s1
  have hle : (S.filter fun x => decide (x ∈ S')).length ≤ S.length := List.length_filter_le _ _
  have k1 := less_len S nd
  have k2 := less_len S' nd
  have k3 := less_len (S.filter fun x => decide (x ∈ S')) nd
  have k4 := less_len (S ++ S') nd
  rw [List.length_append] at k4
  have hl : ∀ i ∈ presM F, i < 60000 := fun i m => by have := (presM_lt m).1; have := hF.1; omega
  refine ⟨hsub, by omega, agr_pols hF (less_pair (presM_pair F)) (fun i m => (less_mem.mp m).1) (by omega) fun t ht => ?_⟩
  obtain ⟨g, hg, e⟩ := agr_pol (less_pair (presM_pair F)) (fun i m => hl i (less_mem.mp m).1) (by omega) ht a1
  obtain ⟨g', hg', e'⟩ := agr_pol (less_pair (presM_pair F)) (fun i m => hl i (less_mem.mp m).1) (by omega) ht a2
  have same : ∀ x, g x = g' x := pol_one hF.1 ((less_pair (S := S ++ S') (presM_pair F)).imp fun h => Nat.ne_of_lt h) (fun i m => (less_mem.mp m).1) (by omega) hg hg' fun i m => by
    obtain ⟨m1, m2⟩ := less_mem.mp m
    rw [← e i (less_mem.mpr ⟨m1, fun q => m2 (List.mem_append.mpr (.inl q))⟩), ← e' i (less_mem.mpr ⟨m1, fun q => m2 (List.mem_append.mpr (.inr q))⟩)]
  refine ⟨g, hg, fun i m => ?_⟩
  obtain ⟨m1, m2⟩ := less_mem.mp m
  by_cases q : i ∈ S
  · have q' : i ∉ S' := fun z => m2 (List.mem_filter.mpr ⟨q, decide_eq_true z⟩)
    rw [same]
    exact e' i (less_mem.mpr ⟨m1, q'⟩)
  · exact e i (less_mem.mpr ⟨m1, q⟩)
/-- the least lies in every other -/
theorem least_in {F : List ORow} {d n : Nat} {S S' : List Nat} (hF : RowsW F n) (h : Least F d n S) (h' : Cul F d n S') : ∀ x ∈ S, x ∈ S' := by
  have q := h.2 _ (cul_inter hF h.1 h')
  have e : S.filter (fun x => decide (x ∈ S')) = S := (List.filter_sublist ..).eq_of_length_le q
  intro x m
  rw [← e] at m
  exact of_decide_eq_true (List.mem_filter.mp m).2
theorem least_one {F : List ORow} {d n : Nat} {S S' : List Nat} (hF : RowsW F n) (h : Least F d n S) (h' : Least F d n S') : S = S' := by
  rw [← sub_filter (presM_nodup F) h.1.1, ← sub_filter (presM_nodup F) h'.1.1]
  refine List.filter_congr fun x _ => ?_
  have : x ∈ S ↔ x ∈ S' := ⟨least_in hF h h'.1 x, least_in hF h' h.1 x⟩
  simp [this]
/-- the changed ones: the others lie on the polynomials ps, each of these is off one -/
theorem changed_cul {F : List ORow} {d : Nat} {C : List Nat} {ps : List (List Int)} (hF : RowsW F ps.length) (hps : ∀ w ∈ ps, w.length ≤ d) (hC : C.Nodup) (h2 : 2 * C.length + d ≤ (presM F).length) (hr : ∀ i ∈ presM F, i ∉ C → (rowAt F i).2 = ps.map fun w => horn w ((i : Nat) : Int)) :
    Cul F d ps.length ((presM F).filter fun x => decide (x ∈ C)) := by
  have nd := presM_nodup F
  have hl : ∀ i ∈ presM F, i < 60000 := fun i m => by have := (presM_lt m).1; have := hF.1; omega
  have lc : ((presM F).filter fun x => decide (x ∈ C)).length ≤ C.length := List.Nodup.length_le_of_subset (nd.sublist (List.filter_sublist ..)) fun x m => of_decide_eq_true (List.mem_filter.mp m).2
  have k := less_len ((presM F).filter fun x => decide (x ∈ C)) nd
  refine ⟨List.filter_sublist .., by omega, agr_of (less_pair (presM_pair F)) (fun i m => hl i (less_mem.mp m).1) (by omega) hps fun i m => ?_⟩
  obtain ⟨m1, m2⟩ := less_mem.mp m
  exact hr i m1 fun q => m2 (List.mem_filter.mpr ⟨m1, decide_eq_true q⟩)
theorem changed_least {F : List ORow} {d : Nat} {C S : List Nat} {ps : List (List Int)} (hF : RowsW F ps.length) (hps : ∀ w ∈ ps, w.length ≤ d) (hC : C.Nodup) (h2 : 2 * C.length + d ≤ (presM F).length) (hr : ∀ i ∈ presM F, i ∉ C → (rowAt F i).2 = ps.map fun w => horn w ((i : Nat) : Int))
    (hn : ∀ i ∈ C, (rowAt F i).2 ≠ ps.map fun w => horn w ((i : Nat) : Int)) (hS : Least F d ps.length S) : S = (presM F).filter fun x => decide (x ∈ C) := by
  have hc := changed_cul hF hps hC h2 hr
  have nd := presM_nodup F
  have hl : ∀ i ∈ presM F, i < 60000 := fun i m => by have := (presM_lt m).1; have := hF.1; omega
  have lc : ((presM F).filter fun x => decide (x ∈ C)).length ≤ C.length := List.Nodup.length_le_of_subset (nd.sublist (List.filter_sublist ..)) fun x m => of_decide_eq_true (List.mem_filter.mp m).2
  have ls := hS.2 _ hc
  have sin := least_in hF hS hc
  rw [← sub_filter nd hS.1.1]
  refine List.filter_congr fun x mx => ?_
  have : x ∈ S ↔ x ∈ C := by
    refine ⟨fun q => of_decide_eq_true (List.mem_filter.mp (sin x q)).2, fun q => Classical.byContradiction fun no => hn x q ?_⟩
    obtain ⟨rl, rw'⟩ := hF.2 x mx
    refine List.ext_getElem (by rw [rl, List.length_map]) fun t h1 h3 => ?_
    have ht : t < ps.length := by rw [rl] at h1; exact h1
    have k1 := less_len S nd
    have k4 := less_len (S ++ C) nd
    rw [List.length_append] at k4
    obtain ⟨g, hg, e⟩ := agr_pol (less_pair (presM_pair F)) (fun i m => hl i (less_mem.mp m).1) (by omega) ht hS.1.2.2
    have same : ∀ y, g y = pev ps[t] y := pol_one hF.1 ((less_pair (S := S ++ C) (presM_pair F)).imp fun h => Nat.ne_of_lt h) (fun i m => (less_mem.mp m).1) (by omega) hg ((pev_pol _).mono (hps _ (List.getElem_mem ht))) fun i m => by
      obtain ⟨m1, m2⟩ := less_mem.mp m
      rw [← e i (less_mem.mpr ⟨m1, fun q => m2 (List.mem_append.mpr (.inl q))⟩), hr i m1 fun q => m2 (List.mem_append.mpr (.inr q)), ← horn_z]
      congr 1
      exact getD_item (by rw [List.getElem?_map, List.getElem?_eq_getElem ht]; rfl)
    have e1 := e x (less_mem.mpr ⟨mx, no⟩)
    have g2 : (rowAt F x).2.getD t 0 = (rowAt F x).2[t] := getD_item (List.getElem?_eq_getElem h1)
    rw [g2, same, ← horn_z] at e1
    have w1 := rw' _ (List.getElem_mem h1)
    have w2 := horn_word ps[t] ((x : Nat) : Int)
    have e2 := z_inj w1.1 w1.2 w2.1 w2.2 e1
    rw [e2]
    simp
  simp [this]
/-! the choices in their order -/
open CB in
theorem cmb_sub : ∀ (P : List Nat) (k r : Nat) (c : List Nat), c ∈ cmb k P.length r → (c.map fun j => P.getD (j - k) 0).Sublist P
  | P, k, 0, c, h => by
    have e : c = [] := by cases P <;> simpa [cmb] using h
    subst e; exact List.nil_sublist _
  | [], k, r + 1, c, h => by simp [cmb] at h
  | x :: P, k, r + 1, c, h => by
    simp only [List.length_cons, cmb, List.mem_append, List.mem_map] at h
    have shift : ∀ d : List Nat, (∀ j ∈ d, k + 1 ≤ j) → (d.map fun j => (x :: P).getD (j - k) 0) = d.map fun j => P.getD (j - (k + 1)) 0 := fun d hd => List.map_congr_left fun j m => by
      have := hd j m
      have e : j - k = (j - (k + 1)) + 1 := by omega
      rw [e, List.getD_cons_succ]
    rcases h with ⟨d, hd, rfl⟩ | h
    · rw [List.map_cons, shift d fun j m => ((cmb_len _ _ _ _ hd).2 j m).1, Nat.sub_self, List.getD_cons_zero]
      exact (cmb_sub P (k + 1) r d hd).cons₂ x
    · rw [shift c fun j m => ((cmb_len _ _ _ _ h).2 j m).1]
      exact (cmb_sub P (k + 1) (r + 1) c h).cons x
open CB in
theorem sub_cmb {S P : List Nat} (h : S.Sublist P) : ∀ k, ∃ c ∈ cmb k P.length S.length, (c.map fun j => P.getD (j - k) 0) = S := by
  have shift : ∀ (x k : Nat) (P d : List Nat), (∀ j ∈ d, k + 1 ≤ j) → (d.map fun j => (x :: P).getD (j - k) 0) = d.map fun j => P.getD (j - (k + 1)) 0 := fun x k P d hd => List.map_congr_left fun j m => by
    have := hd j m
    have e : j - k = (j - (k + 1)) + 1 := by omega
    rw [e, List.getD_cons_succ]
  induction h with
  | slnil => exact fun k => ⟨[], by simp [cmb], rfl⟩
  | @cons l1 l2 x h ih =>
    intro k
    obtain ⟨c, hc, e⟩ := ih (k + 1)
    refine ⟨c, ?_, ?_⟩
    · rw [List.length_cons]
      cases q : l1.length with
      | zero =>
        rw [q] at hc
        have : c = [] := by cases l2 <;> simpa [cmb] using hc
        simp [cmb, this]
      | succ r =>
        rw [q] at hc
        simp only [cmb, List.mem_append]
        exact .inr hc
    · rw [shift x k l2 c fun j m => ((cmb_len _ _ _ _ hc).2 j m).1]
      exact e
  | @cons_cons l1 l2 x h ih =>
    intro k
    obtain ⟨c, hc, e⟩ := ih (k + 1)
    refine ⟨k :: c, ?_, ?_⟩
    · rw [List.length_cons, List.length_cons]
      simp only [cmb, List.mem_append, List.mem_map]
      exact .inl ⟨c, hc, rfl⟩
    · rw [List.map_cons, shift x k l2 c fun j m => ((cmb_len _ _ _ _ hc).2 j m).1, Nat.sub_self, List.getD_cons_zero, e]
theorem cul_least {F : List ORow} {d n : Nat} {S : List Nat} (h : Cul F d n S) : ∃ S', Least F d n S' := by
  have : ∀ (m : Nat) (S : List Nat), S.length ≤ m → Cul F d n S → ∃ S', Least F d n S' := by
    intro m
    induction m with
    | zero => exact fun S l c => ⟨S, c, fun S' _ => by omega⟩
    | succ m ih =>
      intro S l c
      by_cases q : ∃ S', Cul F d n S' ∧ S'.length < S.length
      · obtain ⟨S', c', l'⟩ := q
        exact ih S' (by omega) c'
      · refine ⟨S, c, fun S' c' => Classical.byContradiction fun y => q ⟨S', c', by omega⟩⟩
  exact this _ S (Nat.le_refl _) h
/-- what was found -/
def FoundM (F : List ORow) (d n : Nat) (H : Hp) (x : V) : Prop := (x = .non ∧ ∀ S, ¬ Cul F d n S) ∨ ∃ (S : List Nat) (D : Addr), x = .ref D ∧ Least F d n S ∧ H D = some (.lst ((intsN S).map V.int))
theorem FoundM.same {F : List ORow} {d n : Nat} {H H' : Hp} {x : V} (h : FoundM F d n H x) (s : Same H H') : FoundM F d n H' x := by
  rcases h with h | ⟨S, D, h1, h2, h3⟩
  · exact .inl h
  · exact .inr ⟨S, D, h1, h2, s _ _ h3⟩
theorem sorted_one {xs ys : List Int} (p : xs.Perm ys) (h1 : xs.Pairwise (· ≤ ·)) (h2 : ys.Pairwise (· ≤ ·)) : xs = ys :=
  List.Perm.eq_of_pairwise (le := (· ≤ ·)) (fun _ _ _ _ h1 h2 => Int.le_antisymm h1 h2) h1 h2 p
theorem perm_mem {xs ys : List Nat} (h1 : xs.Nodup) (h2 : ys.Nodup) (h : ∀ a, a ∈ xs ↔ a ∈ ys) : xs.Perm ys := by
  rw [List.perm_iff_count]
  intro a
  rw [h1.count, h2.count]
  by_cases q : a ∈ xs
  · rw [if_pos q, if_pos ((h a).1 q)]
  · rw [if_neg q, if_neg fun z => q ((h a).2 z)]
/-- the changed ones in order -/
theorem changed_sorted {F : List ORow} {C S : List Nat} {ns : List Int} (e : S = (presM F).filter fun x => decide (x ∈ C)) (hC : C.Nodup) (hin : ∀ x ∈ C, x ∈ presM F) (p : ns.Perm (intsN C)) (h : ns.Pairwise (· ≤ ·)) : intsN S = ns := by
  subst e
  refine sorted_one (List.Perm.trans ?_ p.symm) ?_ h
  · exact List.Perm.map _ (perm_mem ((presM_nodup F).sublist (List.filter_sublist ..)) hC fun a => by
      rw [List.mem_filter]
      simp only [decide_eq_true_eq]
      exact ⟨fun q => q.2, fun q => ⟨hin a q, q⟩⟩)
  · unfold intsN
    rw [List.pairwise_map]
    exact ((presM_pair F).sublist (List.filter_sublist ..)).imp fun h => by omega
/-! promises -/
def sp_wrong_pieces (K : PySem.W.Frag) (a : Ad) : Sp := fun vs H Q E => ∃ (R : Addr) (F : List ORow) (d n : Nat), vs = [.ref R, .int (d : Int)] ∧ RO K H R F ∧ RowsW F n ∧ n ≤ 500 ∧ 1 ≤ d ∧ d ≤ F.length ∧
  ((∀ S, ¬ Cul F d n S) → ∀ H', Same H H' → E (.ref a.c_NotEnoughPieces) none H') ∧
  (∀ (S : List Nat) (D : Addr) (H' : Hp), Least F d n S → Same H H' → H D = none → H' D = some (.lst ((intsN S).map V.int)) → Q (.ref D) H')
theorem sp_wrong_pieces_len {K : PySem.W.Frag} {a : Ad} {vs : List V} {H : Hp} {Q : VK} {E : XK} (h : sp_wrong_pieces K a vs H Q E) : vs.length = 2 := by
  obtain ⟨R, F, d, n, rfl, _⟩ := h
  rfl
theorem rowsW_len {F : List ORow} {n : Nat} (h : RowsW F n) : ∀ e, some e ∈ F → e.2.length = n := fun e m => by
  obtain ⟨i, hi⟩ := List.mem_iff_getElem?.mp m
  have mi : i ∈ presM F := presM_iff.mpr ⟨e, hi⟩
  have := (h.2 i mi).1
  rwa [rowAt_of hi] at this
theorem intsN_len (is : List Nat) : (intsN is).length = is.length := by simp [intsN]
theorem intsN_mem {S : List Nat} {m : Nat} : ((m : Nat) : Int) ∈ intsN S ↔ m ∈ S := by
  unfold intsN
  rw [List.mem_map]
  constructor
  · rintro ⟨x, hx, e⟩
    have : x = m := by omega
    rwa [← this]
  · exact fun h => ⟨m, h, rfl⟩
theorem inV_less (m : Nat) (S : List Nat) : (if true = true then !inV (.int (m : Int)) ((intsN S).map V.int) else inV (.int (m : Int)) ((intsN S).map V.int)) = decide (m ∉ S) := by
  rw [inV_ints]
  by_cases q : m ∈ S
  · simp [intsN_mem, q]
  · simp [intsN_mem, q]
theorem less_take {P S : List Nat} {i m : Nat} (h : P[i]? = some m) : lessM (P.take (i + 1)) S = lessM (P.take i) S ++ if m ∉ S then [m] else [] := by
  unfold lessM
  rw [take_snoc h, List.filter_append]
  congr 1
  simp only [List.filter_cons, List.filter_nil, decide_eq_true_eq]
theorem flat_intsN (S : List Nat) : ((intsN S).map V.int).all flatV = true := by
  rw [List.all_eq_true]
  intro x m
  obtain ⟨c, _, rfl⟩ := List.mem_map.mp m
  rfl
theorem intsN_item {S : List Nat} {i : Nat} {y : V} (h : ((intsN S).map V.int)[i]? = some y) : ∃ m : Nat, S[i]? = some m ∧ y = .int (m : Int) := by
  unfold intsN at h
  rw [List.getElem?_map, List.getElem?_map] at h
  cases q : S[i]? with
  | none => rw [q] at h; cases h
  | some m => rw [q] at h; exact ⟨m, rfl, (Option.some.inj h).symm⟩
theorem pick_ints {P : List Nat} {c : List Nat} (h : ∀ k ∈ c, k < P.length) : (c.map fun k => ((intsN P).map V.int).getD k .non) = (intsN (c.map fun j => P.getD (j - 0) 0)).map V.int := by
  unfold intsN
  rw [List.map_map (l := c), List.map_map (l := c)]
  refine List.map_congr_left fun k m => ?_
  have hk := h k m
  rw [List.getD_eq_getElem?_getD, List.getElem?_map, List.getElem?_map, List.getElem?_eq_getElem hk]
  show V.int _ = V.int ((P.getD (k - 0) 0 : Nat) : Int)
  rw [Nat.sub_zero, List.getD_eq_getElem?_getD, List.getElem?_eq_getElem hk]
  rfl
theorem inV_in (m : Nat) (S : List Nat) : (if false = true then !inV (.int (m : Int)) ((intsN S).map V.int) else inV (.int (m : Int)) ((intsN S).map V.int)) = decide (m ∈ S) := by
  rw [inV_ints]
  by_cases q : m ∈ S
  · simp [intsN_mem, q]
  · simp [intsN_mem, q]
/-! what repair_stripe finds at the places: good pieces or none -/
def OsAt (st : Sts) (pls : List (Int × Int)) (e s : Int) (n : Nat) (os : List (Option (List Int))) : Prop := os.length = pls.length ∧ ∀ (i : Nat) (q : Int × Int) (o : Option (List Int)), pls[i]? = some q → os[i]? = some o → GpIs st q.1.toNat q.2.toNat e s n o
def presO (os : List (Option (List Int))) : List Nat := (List.range os.length).filter fun i => (os.getD i none).isSome
/-- those that are away, or in C -/
def brkM (os : List (Option (List Int))) (C : List Nat) : List Nat := (List.range os.length).filter fun i => decide (i ∈ C) || (os.getD i none).isNone
def Off (os : List (Option (List Int))) (C : List Nat) (G : List (List Int)) : Prop := (∀ (i : Nat) (ws : List Int), os[i]? = some (some ws) → i ∉ C → ws = G.getD i []) ∧ ∀ i ∈ C, ∃ ws, os[i]? = some (some ws) ∧ ws ≠ G.getD i []
abbrev sndO (F : List ORow) : List (Option (List Int)) := F.map fun o => o.map Prod.snd
theorem sndO_get {F : List ORow} {i : Nat} {o : ORow} (h : F[i]? = some o) : (sndO F)[i]? = some (o.map Prod.snd) := by rw [List.getElem?_map, h]; rfl
theorem presM_snd (F : List ORow) : presM F = presO (sndO F) := by
  unfold presM presO
  rw [List.length_map]
  refine List.filter_congr fun i m => ?_
  have li := List.mem_range.mp m
  have hi : F[i]? = some F[i] := List.getElem?_eq_getElem li
  rw [getD_item hi, getD_item (sndO_get hi)]
  cases F[i] <;> rfl
theorem good_words {sc : List Int} {k d r : Int} (h : Good sc k d r) : ∀ w ∈ payM sc, Wd w := fun w m => h.2.2.2.1 w (by
  unfold payM at m
  exact List.mem_of_mem_drop (List.mem_of_mem_take m))
theorem os_words {st : Sts} {pls : List (Int × Int)} {e s : Int} {n : Nat} {os : List (Option (List Int))} (h : OsAt st pls e s n os) : ∀ (i : Nat) (ws : List Int), os[i]? = some (some ws) → ws.length = n ∧ ∀ w ∈ ws, Wd w := fun i ws hi => by
  obtain ⟨q, hq⟩ : ∃ q, pls[i]? = some q := ⟨_, List.getElem?_eq_getElem (by rw [← h.1]; exact item_lt hi)⟩
  obtain ⟨sc, _, g, _, l, e⟩ := h.2 i q _ hq hi
  exact ⟨by rw [← e, l], by rw [← e]; exact good_words g⟩
/-! the changed ones of a stripe -/
theorem changed_cul2 {F : List ORow} {d n : Nat} {C : List Nat} {G : Nat → List Int} (hF : RowsW F n) (hG : ∀ t, t < n → ∃ f, Pol d f ∧ ∀ k : Nat, k < F.length → z ((G k).getD t 0) = f (z (k : Int))) (hC : C.Nodup) (h2 : 2 * C.length + d ≤ (presM F).length) (hr : ∀ i ∈ presM F, i ∉ C → (rowAt F i).2 = G i) :
    Cul F d n ((presM F).filter fun x => decide (x ∈ C)) := by
  have nd := presM_nodup F
  have lc : ((presM F).filter fun x => decide (x ∈ C)).length ≤ C.length := List.Nodup.length_le_of_subset (nd.sublist (List.filter_sublist ..)) fun x m => of_decide_eq_true (List.mem_filter.mp m).2
  have k := less_len ((presM F).filter fun x => decide (x ∈ C)) nd
  refine ⟨List.filter_sublist .., by omega, agr_pols hF (less_pair (presM_pair F)) (fun i m => (less_mem.mp m).1) (by omega) fun t ht => ?_⟩
  obtain ⟨f, hf, e⟩ := hG t ht
  refine ⟨f, hf, fun i m => ?_⟩
  obtain ⟨m1, m2⟩ := less_mem.mp m
  rw [hr i m1 fun q => m2 (List.mem_filter.mpr ⟨m1, decide_eq_true q⟩)]
  exact e i (presM_lt m1).1
theorem changed_least2 {F : List ORow} {d n : Nat} {C S : List Nat} {G : Nat → List Int} (hF : RowsW F n) (hG : ∀ t, t < n → ∃ f, Pol d f ∧ ∀ k : Nat, k < F.length → z ((G k).getD t 0) = f (z (k : Int))) (hl : ∀ k, k < F.length → (G k).length = n ∧ ∀ w ∈ G k, Wd w) (hC : C.Nodup) (h2 : 2 * C.length + d ≤ (presM F).length) (hr : ∀ i ∈ presM F, i ∉ C → (rowAt F i).2 = G i)
    (hn : ∀ i ∈ C, (rowAt F i).2 ≠ G i) (hS : Least F d n S) : S = (presM F).filter fun x => decide (x ∈ C) := by
  have hc := changed_cul2 hF hG hC h2 hr
  have nd := presM_nodup F
  have h6 : ∀ i ∈ presM F, i < 60000 := fun i m => by have := (presM_lt m).1; have := hF.1; omega
  have lc : ((presM F).filter fun x => decide (x ∈ C)).length ≤ C.length := List.Nodup.length_le_of_subset (nd.sublist (List.filter_sublist ..)) fun x m => of_decide_eq_true (List.mem_filter.mp m).2
  have ls := hS.2 _ hc
  have sin := least_in hF hS hc
  rw [← sub_filter nd hS.1.1]
  refine List.filter_congr fun x mx => ?_
  have : x ∈ S ↔ x ∈ C := by
    refine ⟨fun q => of_decide_eq_true (List.mem_filter.mp (sin x q)).2, fun q => Classical.byContradiction fun no => hn x q ?_⟩
    obtain ⟨rl, rw'⟩ := hF.2 x mx
    have lx := (presM_lt mx).1
    obtain ⟨gl, gw⟩ := hl x lx
    refine List.ext_getElem (by rw [rl, gl]) fun t h1 h3 => ?_
    have ht : t < n := by omega
    have k1 := less_len S nd
    have k4 := less_len (S ++ C) nd
    rw [List.length_append] at k4
    obtain ⟨g, hg, e⟩ := agr_pol (less_pair (presM_pair F)) (fun i m => h6 i (less_mem.mp m).1) (by omega) ht hS.1.2.2
    obtain ⟨f, hf, hfG⟩ := hG t ht
    have same : ∀ y, g y = f y := pol_one hF.1 ((less_pair (S := S ++ C) (presM_pair F)).imp fun h => Nat.ne_of_lt h) (fun i m => (less_mem.mp m).1) (by omega) hg hf fun i m => by
      obtain ⟨m1, m2⟩ := less_mem.mp m
      rw [← e i (less_mem.mpr ⟨m1, fun q => m2 (List.mem_append.mpr (.inl q))⟩), hr i m1 fun q => m2 (List.mem_append.mpr (.inr q)), hfG i (presM_lt m1).1]
    have e1 := e x (less_mem.mpr ⟨mx, no⟩)
    rw [same, ← hfG x lx] at e1
    have g2 : (rowAt F x).2.getD t 0 = (rowAt F x).2[t] := getD_item (List.getElem?_eq_getElem h1)
    have g3 : (G x).getD t 0 = (G x)[t] := getD_item (List.getElem?_eq_getElem h3)
    rw [g2, g3] at e1
    have w1 := rw' _ (List.getElem_mem h1)
    have w2 := gw _ (List.getElem_mem h3)
    exact z_inj w1.1 w1.2 w2.1 w2.2 e1
  simp [this]
/-! promises -/
def sp_repair_stripe (K : PySem.W.Frag) (a : Ad) : Sp := fun vs H Q E => ∃ (X : Addr → Prop) (I P Sa : Addr) (st : Sts) (pls : List (Int × Int)) (e s : Int) (W : List Int) (d : Nat) (os : List (Option (List Int))) (C : List Nat), vs = [.ref I, .ref P, .ref Sa, .int (W.length : Nat), .int (d : Int)] ∧ ImM H X I st ∧ st.length ≤ 100 ∧ (∀ (i : Nat) (dk : DkO), st[i]? = some (some dk) → dk.rows.length ≤ 100) ∧
  PtsAt K H P pls ∧ PlOk pls ∧ SqT K H Sa [.int e, .int s] ∧ Stp e s ∧ 1 ≤ d ∧ d ≤ pls.length ∧ pls.length ≤ 6 ∧ W.length ≤ 100 ∧ (∀ w ∈ W, Wd w) ∧ OsAt st pls e s (sizeM W.length d) os ∧ C.Nodup ∧ Off os C (stripeM W d pls.length) ∧ ((presO os).length < d ∨ 2 * C.length + d ≤ (presO os).length) ∧
  ((presO os).length < d → ∀ H', Same H H' → E (.ref a.c_Damaged) none H') ∧
  (2 * C.length + d ≤ (presO os).length → ∀ (D : Addr) (L : List Rq) (H' : Hp), Same H H' → WRq H' D L → L.map rqM = reqM (adrs st) pls e s (stripeM W d pls.length) (brkM os C) → Q (.ref D) H')
theorem sp_repair_stripe_len {K : PySem.W.Frag} {a : Ad} {vs : List V} {H : Hp} {Q : VK} {E : XK} (h : sp_repair_stripe K a vs H Q E) : vs.length = 5 := by
  obtain ⟨X, I, P, Sa, st, pls, e, s, W, d, os, C, rfl, _⟩ := h
  rfl
def sp_law_answer (K : PySem.W.Frag) (a : Ad) : Sp := fun vs H Q _ => ∃ (X : Addr → Prop) (I P Sa : Addr) (st : Sts) (pls : List (Int × Int)) (e s : Int) (W : List Int) (d : Nat) (os : List (Option (List Int))) (C : List Nat), vs = [.ref I, .ref P, .ref Sa, .int (W.length : Nat), .int (d : Int)] ∧ ImM H X I st ∧ st.length ≤ 100 ∧ (∀ (i : Nat) (dk : DkO), st[i]? = some (some dk) → dk.rows.length ≤ 100) ∧
  PtsAt K H P pls ∧ PlOk pls ∧ SqT K H Sa [.int e, .int s] ∧ Stp e s ∧ 1 ≤ d ∧ d ≤ pls.length ∧ pls.length ≤ 6 ∧ W.length ≤ 100 ∧ (∀ w ∈ W, Wd w) ∧ OsAt st pls e s (sizeM W.length d) os ∧ C.Nodup ∧ Off os C (stripeM W d pls.length) ∧ ((presO os).length < d ∨ 2 * C.length + d ≤ (presO os).length) ∧
  ((presO os).length < d → ∀ H', Same H H' → Q .non H') ∧
  (2 * C.length + d ≤ (presO os).length → ∀ (D : Addr) (L : List Rq) (H' : Hp), Same H H' → WRq H' D L → L.map rqM = reqM (adrs st) pls e s (stripeM W d pls.length) (brkM os C) → Q (.ref D) H')
theorem sp_law_answer_len {K : PySem.W.Frag} {a : Ad} {vs : List V} {H : Hp} {Q : VK} {E : XK} (h : sp_law_answer K a vs H Q E) : vs.length = 5 := by
  obtain ⟨X, I, P, Sa, st, pls, e, s, W, d, os, C, rfl, _⟩ := h
  rfl
/-- a sector spoilt: away, or another one -/
def sp_law_spoil (K : PySem.W.Frag) (a : Ad) : Sp := fun vs H Q _ => ∃ (X : Addr → Prop) (p l I Pa Sa : Addr) (sc : Addr × List Int) (st : Sts) (dk : DkO) (d r : Nat) (e s : Int) (ws : List Int), vs = [.ref p, .ref I, .ref Pa, .ref Sa] ∧ Pot H p l ∧ X p ∧ (∀ q, H q = none → ¬ X q) ∧ ImM H X I st ∧ st.length ≤ 100 ∧ (∀ (i : Nat) (dk : DkO), st[i]? = some (some dk) → dk.rows.length = 64) ∧
  H Pa = some (.tup [.int (d : Int), .int (r : Int)]) ∧ H Sa = some (.tup [.int e, .int s]) ∧ Stp e s ∧ s < 4000000000 ∧ d < 8 ∧ r < 64 ∧ (∀ w ∈ ws, Wd w) ∧ ws.length ≤ 100 ∧ secS st d r = some sc ∧ sc.2 = sealM 3 (d : Int) (r : Int) e s ws ∧ st[d]? = some (some dk) ∧
  ∀ (st' : Sts) (H' : Hp), Pot H' p l → ImM H' X I st' → st'.length = st.length → (∀ (i : Nat) (dk : DkO), st'[i]? = some (some dk) → dk.rows.length = 64) → (∀ i, i ≠ d → st'[i]? = st[i]?) → (∀ dk', st'[d]? = some (some dk') → dk'.A = dk.A) → (∀ (rr : Nat) sc, secS st' d rr = some sc → secS st d rr = some sc ∨ ((∀ w ∈ sc.2, Wd w) ∧ sc.2.length ≤ ws.length + 9)) → GpIs st' d r e s ws.length none → (∀ b o, H b = some o → b ≠ p → b ≠ I → b ≠ dk.A → H' b = some o) → Q .non H'
theorem sp_law_spoil_len {K : PySem.W.Frag} {a : Ad} {vs : List V} {H : Hp} {Q : VK} {E : XK} (h : sp_law_spoil K a vs H Q E) : vs.length = 4 := by
  obtain ⟨X, p, l, I, Pa, Sa, sc, st, dk, d, r, e, s, ws, rfl, _⟩ := h
  rfl
/-- images with the sectors of a stripe -/
def sp_law_set_up (K : PySem.W.Frag) (a : Ad) : Sp := fun vs H Q _ => ∃ (X : Addr → Prop) (p P Sa G : Addr) (l : Addr) (L : List (Addr × Int × Int)) (e s : Int) (F : List (Addr × List Int)), vs = [.ref p, .ref P, .ref Sa, .ref G] ∧ (∀ q, H q = none → ¬ X q) ∧ Pot H p l ∧ PtsO H P L ∧ L.length ≤ 6 ∧ (∀ q ∈ L, (0 ≤ q.2.1 ∧ q.2.1 < 8) ∧ (0 ≤ q.2.2 ∧ q.2.2 < 64)) ∧ (L.map fun e => e.2.1).Nodup ∧ H Sa = some (.tup [.int e, .int s]) ∧ Stp e s ∧ LA H G F ∧ F.length = L.length ∧ (∀ f ∈ F, f.2.length ≤ 50 ∧ ∀ w ∈ f.2, Wd w) ∧
  ∀ (I : Addr) (st : Sts) (H' : Hp), Same H H' → ImM H' X I st → H I = none → st.length = 8 → (∀ (i : Nat) (dk : DkO), st[i]? = some (some dk) → dk.rows.length = 64 ∧ H dk.A = none) → (∀ x : Nat, x < 8 → ∃ dk, st[x]? = some (some dk)) →
    (∀ (j : Nat) q f, L[j]? = some q → F[j]? = some f → ∃ sc, secS st q.2.1.toNat q.2.2.toNat = some sc ∧ sc.2 = sealM 3 q.2.1 q.2.2 e s f.2) → (∀ x r sc, secS st x r = some sc → (∀ w ∈ sc.2, Wd w) ∧ sc.2.length ≤ 60) → Q (.ref I) H'
theorem sp_law_set_up_len {K : PySem.W.Frag} {a : Ad} {vs : List V} {H : Hp} {Q : VK} {E : XK} (h : sp_law_set_up K a vs H Q E) : vs.length = 4 := by
  obtain ⟨X, p, P, Sa, G, l, L, e, s, F, rfl, _⟩ := h
  rfl
/-! what stands after changes and losses -/
structure Rs (H0 : Hp) (st : Sts) (L : List (Addr × Int × Int)) (e s : Int) (G : List (List Int)) (n : Nat) (os : List (Option (List Int))) (hs bs : List Nat) : Prop where
  ls : st.length = 8
  rst : ∀ (i : Nat) (dk : DkO), st[i]? = some (some dk) → dk.rows.length = 64 ∧ H0 dk.A = none
  wst : ∀ x r sc, secS st x r = some sc → (∀ w ∈ sc.2, Wd w) ∧ sc.2.length ≤ 60
  lo : os.length = L.length
  hb : ∀ j ∈ bs, os[j]? = some none
  hh : ∀ j ∈ hs, ∃ w, os[j]? = some (some w) ∧ w ≠ G.getD j []
  ho : ∀ j, j < L.length → j ∉ hs → j ∉ bs → os[j]? = some (some (G.getD j []))
  ok : ∀ (j : Nat) q, L[j]? = some q → (∀ w, os[j]? = some (some w) → w.length = n ∧ (∀ x ∈ w, Wd x) ∧ ∃ sc, secS st q.2.1.toNat q.2.2.toNat = some sc ∧ sc.2 = sealM 3 q.2.1 q.2.2 e s w) ∧ (os[j]? = some none → GpIs st q.2.1.toNat q.2.2.toNat e s n none)
  nh : hs.Nodup
  nb : bs.Nodup
  dis : ∀ j ∈ hs, j ∉ bs
def InR (L : List (Addr × Int × Int)) : Prop := ∀ q ∈ L, (0 ≤ q.2.1 ∧ q.2.1 < 8) ∧ (0 ≤ q.2.2 ∧ q.2.2 < 64)
theorem Rs.osAt {H0 : Hp} {st : Sts} {L : List (Addr × Int × Int)} {e s : Int} {G : List (List Int)} {n : Nat} {os : List (Option (List Int))} {hs bs : List Nat} (h : Rs H0 st L e s G n os hs bs) (hr : InR L) (hp : Stp e s) (hn : n ≤ 1000) : OsAt st (L.map (·.2)) e s n os := by
  refine ⟨by rw [h.lo, List.length_map], fun i q o hq ho => ?_⟩
  obtain ⟨u, hu, rfl⟩ : ∃ u, L[i]? = some u ∧ u.2 = q := by
    rw [List.getElem?_map] at hq
    cases z : L[i]? with
    | none => rw [z] at hq; cases hq
    | some u => rw [z] at hq; exact ⟨u, rfl, Option.some.inj hq⟩
  obtain ⟨⟨x0, x8⟩, y0, y64⟩ := hr u (List.mem_of_getElem? hu)
  obtain ⟨g1, g2⟩ := h.ok i u hu
  cases o with
  | none => exact g2 ho
  | some w =>
    obtain ⟨l, ww, sc, h1, h2⟩ := g1 w ho
    have := gp_seal (ws := w) h1 (by rw [h2, show ((u.2.1.toNat : Nat) : Int) = u.2.1 by omega, show ((u.2.2.toNat : Nat) : Int) = u.2.2 by omega]) (by omega) (by omega) hp ww (by omega)
    rw [l] at this
    exact this
theorem Rs.off {H0 : Hp} {st : Sts} {L : List (Addr × Int × Int)} {e s : Int} {G : List (List Int)} {n : Nat} {os : List (Option (List Int))} {hs bs : List Nat} (h : Rs H0 st L e s G n os hs bs) : Off os hs G := by
  refine ⟨fun i ws hi ni => ?_, fun i m => h.hh i m⟩
  have il : i < L.length := by rw [← h.lo]; exact item_lt hi
  have nb : i ∉ bs := fun m => by
    have := h.hb i m
    rw [hi] at this
    cases this
  have := h.ho i il ni nb
  rw [hi] at this
  exact Option.some.inj (Option.some.inj this)
theorem Rs.some_iff {H0 : Hp} {st : Sts} {L : List (Addr × Int × Int)} {e s : Int} {G : List (List Int)} {n : Nat} {os : List (Option (List Int))} {hs bs : List Nat} (h : Rs H0 st L e s G n os hs bs) {j : Nat} (hj : j < os.length) : (os.getD j none).isSome = decide (j ∉ bs) := by
  by_cases c : j ∈ bs
  · rw [getD_item (h.hb j c)]
    simp [c]
  · by_cases c2 : j ∈ hs
    · obtain ⟨w, hw, _⟩ := h.hh j c2
      rw [getD_item hw]
      simp [c]
    · rw [getD_item (h.ho j (by rw [← h.lo]; exact hj) c2 c)]
      simp [c]
theorem Rs.blt {H0 : Hp} {st : Sts} {L : List (Addr × Int × Int)} {e s : Int} {G : List (List Int)} {n : Nat} {os : List (Option (List Int))} {hs bs : List Nat} (h : Rs H0 st L e s G n os hs bs) : (∀ j ∈ bs, j < os.length) ∧ ∀ j ∈ hs, j < os.length :=
  ⟨fun j m => item_lt (h.hb j m), fun j m => by obtain ⟨w, hw, _⟩ := h.hh j m; exact item_lt hw⟩
theorem Rs.count {H0 : Hp} {st : Sts} {L : List (Addr × Int × Int)} {e s : Int} {G : List (List Int)} {n : Nat} {os : List (Option (List Int))} {hs bs : List Nat} (h : Rs H0 st L e s G n os hs bs) : (presO os).length + bs.length = L.length := by
  have e1 : presO os = (List.range os.length).filter fun j => decide (j ∉ bs) := List.filter_congr fun j m => h.some_iff (List.mem_range.mp m)
  rw [e1, cnt_out _ bs h.nb h.blt.1, h.lo]
theorem Rs.brk {H0 : Hp} {st : Sts} {L : List (Addr × Int × Int)} {e s : Int} {G : List (List Int)} {n : Nat} {os : List (Option (List Int))} {hs bs : List Nat} (h : Rs H0 st L e s G n os hs bs) {i : Nat} : i ∈ brkM os hs ↔ i ∈ hs ++ bs := by
  unfold brkM
  rw [List.mem_filter, List.mem_range, List.mem_append, Bool.or_eq_true, decide_eq_true_eq]
  constructor
  · rintro ⟨hi, z | z⟩
    · exact .inl z
    · have := h.some_iff hi
      by_cases c : i ∈ bs
      · exact .inr c
      · rw [decide_eq_true c] at this
        cases q : os.getD i none with
        | none => rw [q] at this; cases this
        | some w => rw [q] at z; cases z
  · rintro (m | m)
    · exact ⟨h.blt.2 i m, .inl m⟩
    · refine ⟨h.blt.1 i m, .inr ?_⟩
      rw [getD_item (h.hb i m)]
      rfl
theorem brk_pair (os : List (Option (List Int))) (C : List Nat) : (brkM os C).Pairwise (· < ·) := List.Pairwise.filter _ List.pairwise_lt_range
theorem Rs.sorted {H0 : Hp} {st : Sts} {L : List (Addr × Int × Int)} {e s : Int} {G : List (List Int)} {n : Nat} {os : List (Option (List Int))} {hs bs : List Nat} (h : Rs H0 st L e s G n os hs bs) {ns : List Int} (p : ns.Perm (intsN (hs ++ bs))) (hp : ns.Pairwise (· ≤ ·)) : ns = intsN (brkM os hs) := by
  refine sorted_one (List.Perm.trans p ?_) hp ?_
  · refine List.Perm.map _ (perm_mem ?_ ((brk_pair os hs).imp fun h => Nat.ne_of_lt h) fun a => h.brk.symm)
    rw [List.nodup_append]
    exact ⟨h.nh, h.nb, fun x m y m' z => h.dis x m (by rw [z]; exact m')⟩
  · unfold intsN
    rw [List.pairwise_map]
    exact (brk_pair os hs).imp fun h => by omega
theorem os_set {os : List (Option (List Int))} {j i : Nat} {o o' : Option (List Int)} (h : (os.set j o)[i]? = some o') : (i = j ∧ o' = o) ∨ (i ≠ j ∧ os[i]? = some o') := by
  rcases item_set h with ⟨a, b, _⟩ | ⟨a, b⟩
  · exact .inl ⟨a.symm, b⟩
  · exact .inr ⟨fun z => a z.symm, b⟩
theorem set_ne {os : List (Option (List Int))} {j i : Nat} {o : Option (List Int)} (h : i ≠ j) : (os.set j o)[i]? = os[i]? := by rw [List.getElem?_set, if_neg fun z => h z.symm]
theorem Rs.hit {H0 : Hp} {st : Sts} {L : List (Addr × Int × Int)} {e s : Int} {G : List (List Int)} {n : Nat} {os : List (Option (List Int))} {hs : List Nat} (h : Rs H0 st L e s G n os hs []) (hr : InR L) (ndL : (L.map fun e => e.2.1).Nodup) (hp : Stp e s) (hn : n ≤ 50) {j : Nat} {q : Addr × Int × Int} {D : Addr} {dk : DkO} {new : List Int} (hq : L[j]? = some q) (hj : j ∉ hs) (gd : st[q.2.1.toNat]? = some (some dk)) (ln : new.length = n) (wn : ∀ x ∈ new, Wd x) (ne : new ≠ G.getD j []) :
    Rs H0 (putS st q.2.1.toNat q.2.2.toNat (some (D, sealM 3 q.2.1 q.2.2 e s new))) L e s G n (os.set j (some new)) (hs ++ [j]) [] := by
  have jl := item_lt hq
  have jo : j < os.length := by rw [h.lo]; exact jl
  obtain ⟨⟨x0, x8⟩, y0, y64⟩ := hr q (List.mem_of_getElem? hq)
  have hrn : q.2.2.toNat < dk.rows.length := by rw [(h.rst _ dk gd).1]; omega
  have sj : (os.set j (some new))[j]? = some (some new) := by rw [List.getElem?_set, if_pos rfl, if_pos jo]
  refine ⟨by rw [putS_len]; exact h.ls, fun i dk' g => ?_, fun x r sc z => ?_, by rw [List.length_set]; exact h.lo, fun _ m => (nomatch m), fun i m => ?_, fun i li ni nb => ?_, fun i u hu => ⟨fun w hw => ?_, fun hw => ?_⟩, ?_, List.nodup_nil, fun _ _ => by simp⟩
  · obtain ⟨dk0, g0, e1, e2⟩ := putS_some g
    rw [e1]
    refine ⟨?_, (h.rst i dk0 g0).2⟩
    rw [e2]
    split
    · rw [List.length_set]; exact (h.rst i dk0 g0).1
    · exact (h.rst i dk0 g0).1
  · by_cases c : q.2.1.toNat = x ∧ q.2.2.toNat = r
    · obtain ⟨rfl, rfl⟩ := c
      rw [putS_sec gd hrn] at z
      cases z
      exact ⟨sealM_words ⟨by decide, by omega, by omega⟩ hp wn, by rw [sealM_length]; omega⟩
    · rw [putS_sec_ne (by omega)] at z
      exact h.wst x r sc z
  · rcases List.mem_append.mp m with m | m
    · have : i ≠ j := fun z => hj (by rw [← z]; exact m)
      obtain ⟨w, hw, nw⟩ := h.hh i m
      exact ⟨w, by rw [set_ne this]; exact hw, nw⟩
    · rw [List.mem_singleton.mp m]
      exact ⟨new, sj, ne⟩
  · have : i ≠ j := fun z => ni (by rw [z]; simp)
    rw [set_ne this]
    exact h.ho i li (fun m => ni (List.mem_append_left _ m)) nb
  · rcases os_set hw with ⟨c, hw2⟩ | ⟨c, hw2⟩
    · subst c
      cases hw2
      rw [hq] at hu
      cases hu
      exact ⟨ln, wn, (D, sealM 3 q.2.1 q.2.2 e s new), putS_sec gd hrn, rfl⟩
    · obtain ⟨a1, a2, sc, h1, h2⟩ := (h.ok i u hu).1 w hw2
      refine ⟨a1, a2, sc, ?_, h2⟩
      rw [putS_sec_ne (.inl ?_)]
      · exact h1
      · intro z
        have h3 := place_ne ndL hu hq c
        have h4 := (hr u (List.mem_of_getElem? hu)).1
        omega
  · rcases os_set hw with ⟨c, hw2⟩ | ⟨c, hw2⟩
    · cases hw2
    · have h3 := place_ne ndL hu hq c
      have h4 := (hr u (List.mem_of_getElem? hu)).1
      intro sc z
      rw [putS_sec_ne (.inl (by omega))] at z
      exact (h.ok i u hu).2 hw2 sc z
  · rw [List.nodup_append]
    refine ⟨h.nh, by simp, fun x m y m' e => ?_⟩
    rw [List.mem_singleton.mp m'] at e
    rw [e] at m
    exact hj m
theorem Rs.bad {H0 : Hp} {st st' : Sts} {L : List (Addr × Int × Int)} {e s : Int} {G : List (List Int)} {n : Nat} {os : List (Option (List Int))} {hs bs : List Nat} (h : Rs H0 st L e s G n os hs bs) (hr : InR L) (ndL : (L.map fun e => e.2.1).Nodup) (hn : n ≤ 50) {j : Nat} {q : Addr × Int × Int} {dk : DkO} (hq : L[j]? = some q) (hj : j ∉ hs) (hj2 : j ∉ bs) (gd : st[q.2.1.toNat]? = some (some dk))
    (l7 : st'.length = st.length) (r7 : ∀ (i : Nat) (dk : DkO), st'[i]? = some (some dk) → dk.rows.length = 64) (same7 : ∀ i, i ≠ q.2.1.toNat → st'[i]? = st[i]?) (A7 : ∀ dk', st'[q.2.1.toNat]? = some (some dk') → dk'.A = dk.A)
    (w7 : ∀ (rr : Nat) sc, secS st' q.2.1.toNat rr = some sc → secS st q.2.1.toNat rr = some sc ∨ ((∀ w ∈ sc.2, Wd w) ∧ sc.2.length ≤ n + 9)) (g7 : GpIs st' q.2.1.toNat q.2.2.toNat e s n none) : Rs H0 st' L e s G n (os.set j none) hs (bs ++ [j]) := by
  have jl := item_lt hq
  have jo : j < os.length := by rw [h.lo]; exact jl
  have hq8 := (hr q (List.mem_of_getElem? hq)).1
  have sj : (os.set j none)[j]? = some none := by rw [List.getElem?_set, if_pos rfl, if_pos jo]
  refine ⟨by rw [l7]; exact h.ls, fun i dk' g => ⟨r7 i dk' g, ?_⟩, fun x r sc z => ?_, by rw [List.length_set]; exact h.lo, fun i m => ?_, fun i m => ?_, fun i li ni nb => ?_, fun i u hu => ⟨fun w hw => ?_, fun hw => ?_⟩, h.nh, ?_, fun i m m' => ?_⟩
  · by_cases z : i = q.2.1.toNat
    · subst z
      rw [A7 dk' g]
      exact (h.rst _ dk gd).2
    · rw [same7 i z] at g
      exact (h.rst i dk' g).2
  · by_cases y : x = q.2.1.toNat
    · subst y
      rcases w7 r sc z with w | ⟨w, w'⟩
      · exact h.wst _ r sc w
      · exact ⟨w, by omega⟩
    · rw [sec_congr (same7 x y)] at z
      exact h.wst x r sc z
  · rcases List.mem_append.mp m with m | m
    · have : i ≠ j := fun z => hj2 (by rw [← z]; exact m)
      rw [set_ne this]
      exact h.hb i m
    · rw [List.mem_singleton.mp m]
      exact sj
  · have : i ≠ j := fun z => hj (by rw [← z]; exact m)
    rw [set_ne this]
    exact h.hh i m
  · have : i ≠ j := fun z => nb (by rw [z]; simp)
    rw [set_ne this]
    exact h.ho i li ni fun m => nb (List.mem_append_left _ m)
  · rcases os_set hw with ⟨c, hw2⟩ | ⟨c, hw2⟩
    · cases hw2
    · obtain ⟨a1, a2, sc, h1, h2⟩ := (h.ok i u hu).1 w hw2
      refine ⟨a1, a2, sc, ?_, h2⟩
      have h3 := place_ne ndL hu hq c
      have h4 := (hr u (List.mem_of_getElem? hu)).1
      rw [sec_congr (same7 _ (by omega))]
      exact h1
  · rcases os_set hw with ⟨c, hw2⟩ | ⟨c, hw2⟩
    · subst c
      rw [hq] at hu
      cases hu
      exact g7
    · have h3 := place_ne ndL hu hq c
      have h4 := (hr u (List.mem_of_getElem? hu)).1
      exact gp_congr (same7 _ (by omega)) ((h.ok i u hu).2 hw2)
  · rw [List.nodup_append]
    refine ⟨h.nb, by simp, fun x m y m' e => ?_⟩
    rw [List.mem_singleton.mp m'] at e
    rw [e] at m
    exact hj2 m
  · rcases List.mem_append.mp m' with m' | m'
    · exact h.dis i m m'
    · rw [List.mem_singleton.mp m'] at m
      exact hj m
/-- requests, one for each that is due -/
theorem req_filter (ims : List (Option Addr)) (pls : List (Int × Int)) (e s : Int) (rows : List (List Int)) : ∀ ns : List Nat, reqM ims pls e s rows ns = (ns.filter fun i => presentM ims (pls.getD i (0, 0)).1.toNat).map fun i => ((pls.getD i (0, 0)).1, (pls.getD i (0, 0)).2, sealM 3 (pls.getD i (0, 0)).1 (pls.getD i (0, 0)).2 e s (rows.getD i []))
  | [] => rfl
  | n :: ns => by
    have e1 : reqM ims pls e s rows (n :: ns) = oneM ims pls e s rows n ++ reqM ims pls e s rows ns := rfl
    rw [e1, req_filter ims pls e s rows ns, List.filter_cons]
    unfold oneM
    split
    · rfl
    · rfl
section
variable {P : Program} {w : World} {K : PySem.W.Frag} {mg : Str → Option Value} {base : Heap} {a : Ad}
theorem sc_inverse : FnScope ["a", "number", "next_number", "factor", "next_factor", "quotient"] ["a"] (defScope s_inverse) := ⟨rfl, rfl, rfl, by decide +kernel, rfl, by decide +kernel, by decide +kernel⟩
theorem ok_inverse (T : Txt K mg a) : FnOk P w K mg base (L2N.CX P w) 1 a.f_inverse a.d_inverse ["a"] (sp_inverse K a) := by
  refine T.F_inverse.okN sc_inverse (fun vs H Q E h => ?len) (fun cdv A outer s H vs Q E hr h => ?body)
  case len =>
    exact sp_inverse_len h
  case body =>
    obtain ⟨x, rfl, kE, kQ⟩ := h
    refine ⟨_, (pss_cons (ps_par (i := 1) (j := 2) (by rfl) sc_inverse.nd rfl rfl (by decide) rfl rfl (pa_cons (pe_const T.g_PRIME) (pa_cons (pe_op op_mod (pv 0) (pe_const T.g_PRIME)) pa_nil)) (by rfl))
      (pss_cons (ps_asg (pe_tup (pa_cons pe_int (pa_cons pe_int pa_nil))) (pg_tup rfl (pgs_cons (pg_name (i := 3) sc_inverse.nd rfl (Or.inl rfl)) (pgs_cons (pg_name (i := 4) sc_inverse.nd rfl (Or.inl rfl)) pgs_nil))))
      (pss_cons (ps_if (pt_cmpR op_eq (pv 2) pe_int (nomark _))
      (pss_one (L2N.ps_raise rfl (L2N.takes_of rfl rfl rfl rfl) (L2N.pmk_own PySem.F.excBase_ValueError T.x_InvalidArgument T.g_InvalidArgument T.k_InvalidArgument (raises_own T.b_InvalidArgument T.t_InvalidArgument) (by exact rfl))))
      pss_nil)
      (pss_cons (ps_while (passes_of rfl) (pt_cmpR op_ne (pv 2) pe_int (nomark _))
      (pss_cons (ps_set (i := 5) sc_inverse.nd rfl (Or.inl rfl) (pe_op op_fdiv (pv 1) (pv 2)))
      (pss_cons (ps_par (i := 1) (j := 2) (by rfl) sc_inverse.nd rfl rfl (by decide) rfl rfl (pa_cons (pv 2) (pa_cons (pe_op op_sub (pv 1) (pe_op op_mul (pv 5) (pv 2))) pa_nil)) (by rfl))
      (pss_one (ps_par (i := 3) (j := 4) (by rfl) sc_inverse.nd rfl rfl (by decide) rfl rfl (pa_cons (pv 4) (pa_cons (pe_op op_sub (pv 3) (pe_op op_mul (pv 5) (pv 4))) pa_nil)) (by rfl))))))
      (pss_one (ps_ret (pe_op op_mod (pv 3) (pe_const T.g_PRIME)))))))), ?_⟩
    have p1 := Int.emod_nonneg x (show (65521 : Int) ≠ 0 by decide)
    have p2 := Int.emod_lt_of_pos x (show (0 : Int) < 65521 by decide)
    refine ⟨_, rfl, _, _, rfl, rfl, (by show (0 : Int) < 65521; decide), _, _, rfl, (by show 2 ≤ sizeLine; decide), fun t ht => ?_⟩
    have sm : Same H (upd H t (.tup [V.int 0, V.int 1])) := fun b o z => by rw [upd_ne (ne_of_none z ht)]; exact z
    refine ⟨t, _, rfl, SqT.of upd_same, rfl, _, _, rfl, _, _, rfl, rfl, ?_⟩
    refine ⟨_, rfl, rfl, _, rfl, ?_⟩
    refine ite2 (fun e => ?_) (fun e => ?_)
    · have e0 : x % 65521 = 0 := V.int.inj (of_decide_eq_true e)
      exact kE e0 _ sm
    · have e0 : x % 65521 ≠ 0 := fun z => e (decide_eq_true (congrArg V.int z))
      refine ⟨fun m σ H' => ∃ (n r f g : Int) (u : Option V), σ = [some (.int x), some (.int n), some (.int r), some (.int f), some (.int g), u] ∧ Same H H' ∧ m = r.toNat ∧ 0 ≤ r ∧ r < n ∧ n ≤ 65521 ∧ (x * f - n) % 65521 = 0 ∧ (x * g - r) % 65521 = 0 ∧ Int.gcd n r = 1,
        ⟨_, _, _, _, _, _, rfl, sm, rfl, p1, p2, Int.le_refl _, by omega, by omega, gcd_q x e0⟩, ?_⟩
      rintro m σ H' ⟨n, r, f, g, u, rfl, sm', rfl, r0, rn, nq, h1, h2, hg⟩
      refine ⟨_, rfl, rfl, _, rfl, ?_⟩
      refine ite2 (fun er => ?_) (fun er => ?_)
      · have r1 : r ≠ 0 := fun z => by subst z; simp at er
        have rp : 0 < r := by omega
        have d0 : 0 ≤ n / r := Int.ediv_nonneg (by omega) r0
        have d1 : n / r ≤ 65521 := by
          have := Int.ediv_le_self r (show 0 ≤ n by omega)
          omega
        have rr : n - n / r * r = n % r := by
          have := Int.mul_ediv_add_emod n r
          rw [Int.mul_comm] at this
          omega
        have q1 := Int.emod_nonneg n r1
        have q2 := Int.emod_lt_of_pos n rp
        refine ⟨fun σ' H'' => ∃ m', m' < r.toNat ∧ _, fun _ _ z => z, ?_⟩
        refine ⟨_, rfl, _, rfl, _, _, rfl, rfl, ⟨rp, by omega⟩, ?_⟩
        refine ⟨_, rfl, _, rfl, _, rfl, _, rfl, _, _, rfl, rfl, .inl ⟨by omega, by omega⟩, _, _, rfl, rfl, _, _, rfl, ?_⟩
        refine ⟨_, rfl, _, rfl, _, rfl, _, rfl, _, _, rfl, rfl, .inl ⟨by omega, by omega⟩, _, _, rfl, rfl, _, _, rfl, ?_⟩
        exact ⟨(n - n / r * r).toNat, by omega, r, n - n / r * r, g, f - n / r * g, _, rfl, sm', rfl, by omega, by omega, by omega, h2, euclid_turn h1 h2, gcd_turn hg⟩
      · have r1 : r = 0 := by
          have := Classical.not_not.mp (fun z => er (by rw [decide_eq_false z]; rfl))
          exact V.int.inj this
        subst r1
        have n1 : n = 1 := by
          rw [Int.gcd_zero_right] at hg
          omega
        subst n1
        have z := invP_eq (euclid_end h1)
        refine ⟨_, rfl, _, _, rfl, rfl, (by show (0 : Int) < 65521; decide), ?_⟩
        show Q (.int (f % 65521)) H'
        rw [← z]
        exact kQ e0 _ sm'
theorem sc_check_lengths : FnScope ["pieces", "piece"] ["pieces"] (defScope s_check_lengths) := ⟨rfl, rfl, rfl, by decide +kernel, rfl, by decide +kernel, by decide +kernel⟩
theorem ok_check_lengths (T : Txt K mg a) : FnOk P w K mg base (L2N.CX P w) 1 a.f_check_lengths a.d_check_lengths ["pieces"] (sp_check_lengths K a) := by
  refine T.F_check_lengths.okN sc_check_lengths (fun vs H Q E h => ?len) (fun cdv A outer s H vs Q E hr h => ?body)
  case len =>
    exact sp_check_lengths_len h
  case body =>
    obtain ⟨R, F, rfl, hR, kE, kQ⟩ := h
    refine ⟨_, (pss_one (ps_for (passes_of rfl) rfl (pi_list (pv 0)) (pg_name (i := 1) sc_check_lengths.nd rfl (Or.inl rfl))
      (pss_one (ps_if (pt_cmpR op_ne (pe_callB call_len_seq (by rfl) T.n_len PySem.boot_len (pa_cons (pv 1) pa_nil)) (pe_callB call_len_seq (by rfl) T.n_len PySem.boot_len (pa_cons (pe_ix ix_list (pv 0) pe_int (fun _ _ => rfl)) pa_nil)) (nomark _))
      (pss_one (L2N.ps_raise rfl (L2N.takes_of rfl rfl rfl rfl) (L2N.pmk_own PySem.F.excBase_ValueError T.x_InvalidArgument T.g_InvalidArgument T.k_InvalidArgument (raises_own T.b_InvalidArgument T.t_InvalidArgument) (by exact rfl))))
      pss_nil)))), ?_⟩
    refine ⟨_, rfl, R, rfl, ⟨_, hR.1⟩, for_list (K := K) (a := R) (xs := refs F) (fun i σ H' => ∃ v : Option V, σ = [some (.ref R), v] ∧ H' = H ∧ ∀ (j : Nat) (e : Addr × List Int), j < i → F[j]? = some e → e.2.length = ((snds F).getD 0 []).length)
      ⟨none, rfl, rfl, fun j e h => absurd h (by omega)⟩ (fun i σ H' _ ⟨_, _, e, _⟩ => by rw [e]; exact hR.1) ?_ ?_⟩
    · rintro i y σ H' hi ⟨v, rfl, rfl, hq⟩
      obtain ⟨e, he, rfl⟩ := refs_item hi
      have em := List.mem_of_getElem? he
      have lt0 : 0 < F.length := by have := item_lt he; omega
      have h0 : F[0]? = some F[0] := List.getElem?_eq_getElem lt0
      have m0 := List.mem_of_getElem? h0
      have g0 : ((snds F).getD 0 []) = F[0].2 := snds_get h0
      refine ⟨_, rfl, e.1, _, rfl, .inl (hR.2 e em), _, rfl, R, _, _, _, rfl, rfl, hR.1, at_of (j := 0) rfl (refs_get h0), F[0].1, _, rfl, .inl (hR.2 _ m0), rfl, _, rfl, ?_⟩
      rw [List.length_map, List.length_map]
      refine ite2 (fun q => ?_) (fun q => ?_)
      · refine kE ⟨e.2, List.mem_map.mpr ⟨e, em, rfl⟩, fun q' => ?_⟩ _ (Same.refl _)
        rw [g0] at q'
        rw [q'] at q
        simp at q
      · refine ⟨some (V.ref e.1), rfl, rfl, fun j e' hj hj' => ?_⟩
        by_cases c : j = i
        · subst c
          rw [he] at hj'
          have := Option.some.inj hj'
          subst this
          rw [g0]
          refine Classical.byContradiction fun ne => q ?_
          rw [decide_eq_false (fun z' => ne (by have := V.int.inj z'; omega))]
          rfl
        · exact hq j e' (by omega) hj'
    · rintro σ H' ⟨v, rfl, rfl, hq⟩
      rw [refs_len] at hq
      refine kQ (fun ⟨r, m, ne⟩ => ne ?_) _ (Same.refl _)
      obtain ⟨e, me, rfl⟩ := List.mem_map.mp m
      obtain ⟨j, hj⟩ := List.mem_iff_getElem?.mp me
      exact hq j e (item_lt hj) hj
theorem sc_is_present : FnScope ["images", "disk"] ["images", "disk"] (defScope s_is_present) := ⟨rfl, rfl, rfl, by decide +kernel, rfl, by decide +kernel, by decide +kernel⟩
theorem ok_is_present (T : Txt K mg a) : FnOk P w K mg base CX0 1 a.f_is_present a.d_is_present ["images", "disk"] (sp_is_present K a) := by
  refine T.F_is_present.ok sc_is_present (fun vs H Q E h => ?len) (fun cdv A outer s H vs Q E hr h => ?body)
  case len =>
    exact sp_is_present_len h
  case body =>
    obtain ⟨I, ims, d, rfl, hI, hl, k⟩ := h
    refine ⟨_, (pss_one (ps_ret (pe_and (pe_chain op_le op_lt pe_int (pv 1) (pe_callB call_len_seq (by rfl) T.n_len PySem.boot_len (pa_cons (pv 0) pa_nil))) (pe_one (pe_cmpR op_notN (pe_ix ix_list (pv 0) (pv 1) (fun _ _ => rfl)) pe_non (nomark _)))))), ?_⟩
    refine ⟨_, rfl, _, _, rfl, rfl, _, rfl, ite2 (fun _ => ⟨_, rfl, I, _, rfl, .inl hI, _, _, rfl, rfl, _, rfl, ite2 (fun b => ?_) (fun b => ?_)⟩) (fun a => absurd (decide_eq_true (show (0 : Int) ≤ (d : Int) by omega)) a)⟩
    · have b := of_decide_eq_true b
      rw [List.length_map] at b
      have hd : d < ims.length := by omega
      have hg : ims[d]? = some ims[d] := List.getElem?_eq_getElem hd
      refine ⟨_, rfl, _, rfl, I, _, _, _, rfl, rfl, hI, at_of (j := d) rfl (imgs_get hg), ?_⟩
      have e : presentM ims d = ims[d].isSome := by unfold presentM; rw [getD_item hg]
      rw [e] at k
      cases q : ims[d] with
      | none => rw [q] at k; exact ⟨rfl, k⟩
      | some x => rw [q] at k; exact ⟨rfl, k⟩
    · have e : presentM ims d = false := by
        unfold presentM
        rw [List.getD_eq_getElem?_getD, List.getElem?_eq_none (by
          have : ¬ (d : Int) < ((ims.map refI).length : Int) := fun z => b (decide_eq_true z)
          rw [List.length_map] at this
          omega)]
        rfl
      rw [e] at k
      exact k
theorem sc_check_words : FnScope ["words", "weighted", "at", "word"] ["words"] (defScope s_check_words) := ⟨rfl, rfl, rfl, by decide +kernel, rfl, by decide +kernel, by decide +kernel⟩
theorem ok_check_words (T : Txt K mg a) : FnOk P w K mg base CX0 1 a.f_check_words a.d_check_words ["words"] (sp_check_words K a) := by
  refine T.F_check_words.ok sc_check_words (fun vs H Q E h => ?len) (fun cdv A outer s H vs Q E hr h => ?body)
  case len =>
    exact sp_check_words_len h
  case body =>
    obtain ⟨l, ws, rfl, hS, hlen, k⟩ := h
    refine ⟨_, (pss_cons (ps_setLc (i := 1) (own := [("at", 2), ("word", 3)]) (g := (gTup K 2 (gCons (gName 2) (gCons (gName 3) gNil)))) (by rfl) sc_check_words.nd rfl rfl (sw_true rfl rfl rfl (by decide +kernel)) (pi_enumS (by rfl) T.n_enumerate (pa_cons (pv 0) pa_nil) (pk_cons pe_int pk_nil)) (blkOk_by (own := [("at", 2), ("word", 3)]) (N := ["words", "weighted", "at", "word"]) (sc := defScope s_check_words) (by decide +kernel))
      (fun _ _ _ _ _ => (pg_tup rfl (pgs_cons (pg_name (i := 2) sc_check_words.nd rfl (Or.inl rfl)) (pgs_cons (pg_name (i := 3) sc_check_words.nd rfl (Or.inl rfl)) pgs_nil)))) (fun _ _ _ _ _ => pts_nil) (fun _ _ _ _ _ => (pe_op op_mul (pv 2) (pv 3))))
      (pss_one (ps_ret (pe_tup (pa_cons (pe_op op_mod (pe_callB (cr_sum rfl) (by rfl) T.n_sum (by decide +kernel) (pa_cons (pv 0) pa_nil)) (pe_const T.g_PRIME)) (pa_cons (pe_op op_mod (pe_callB (cr_sum rfl) (by rfl) T.n_sum (by decide +kernel) (pa_cons (pv 1) pa_nil)) (pe_const T.g_PRIME)) pa_nil)))))), ?_⟩
    refine ⟨_, rfl, _, _, _, rfl, rfl, hS, by decide, by decide, fun D new => lc_it (walk_enumS (k := 1)) (fun i H' => Same H H' ∧ H' D = some (.lst (((wts ws).take i).map V.int))) ⟨Same.new new, upd_same⟩ (fun i H' _ q => q.1.seq hS) ?_ ?_⟩
    · rintro i y H1 H2 hi ⟨s1, hD⟩ ⟨t, u, v, rfl, ht, rfl, hu, hv⟩
      cases hu
      obtain ⟨c, hc, rfl⟩ := int_item hv
      have s2 : Same H1 (upd H1 t (.tup [V.int (1 + (i : Nat)), V.int c])) := Same.new ht
      rw [List.length_map] at hi
      refine ⟨t, _, rfl, SqT.of upd_same, rfl, _, _, rfl, _, _, rfl, rfl, ?_⟩
      refine ⟨rfl, _, rfl, _, rfl, _, _, rfl, rfl, .inl ⟨by omega, by omega⟩, _, s2 _ _ hD, small _ (by simp; omega), same_put (s1.trans s2) new, ?_⟩
      have g : (wts ws)[i]? = some ((1 + (i : Int)) * c) := by
        unfold wts
        rw [List.getElem?_map, List.getElem?_range hi]
        show some (_ * ws.getD i 0) = _
        rw [getD_item hc]
      rw [upd_same, take_snoc g, List.map_append]
      rfl
    rintro H1 ⟨s1, hD⟩
    rw [List.take_of_length_le (by simp [wts])] at hD
    refine ⟨_, rfl, l, ws, rfl, s1.seq hS, _, _, rfl, rfl, (by show (0 : Int) < 65521; decide), ?_⟩
    refine ⟨_, rfl, D, _, rfl, SqL.of hD, _, _, rfl, rfl, (by show (0 : Int) < 65521; decide), ?_⟩
    refine ⟨by show 2 ≤ sizeLine; decide, fun D2 n2 => k D2 _ (s1.trans (Same.new n2)) ?_ upd_same⟩
    exact Classical.byContradiction fun q => by
      cases q' : H D2 with
      | none => exact q q'
      | some o => rw [s1 _ _ q'] at n2; cases n2
theorem sc_is_place : FnScope ["kind", "disk", "row"] ["kind", "disk", "row"] (defScope s_is_place) := ⟨rfl, rfl, rfl, by decide +kernel, rfl, by decide +kernel, by decide +kernel⟩
theorem ok_is_place (T : Txt K mg a) : FnOk P w K mg base CX0 1 a.f_is_place a.d_is_place ["kind", "disk", "row"] (sp_is_place K a) := by
  refine T.F_is_place.ok sc_is_place (fun vs H Q E h => ?len) (fun cdv A outer s H vs Q E hr h => ?body)
  case len =>
    exact sp_is_place_len h
  case body =>
    obtain ⟨k, d, r, rfl, h1, h2⟩ := h
    refine ⟨_, (pss_one (ps_ret (pe_and (pe_chain op_le op_le (pe_const T.g_LABEL) (pv 0) (pe_const T.g_PIECE)) (pe_and (pe_chain op_le op_lt pe_int (pv 1) (pe_const T.g_MAX_DISKS)) (pe_one (pe_chain op_le op_lt pe_int (pv 2) (pe_const T.g_MAX_ROWS))))))), ?_⟩
    refine ⟨_, rfl, _, _, rfl, rfl, _, rfl, ite2 (fun a1 => ⟨_, _, rfl, rfl, _, rfl, ite2 (fun a2 => ?_) (fun a2 => h2 fun z => a2 (decide_eq_true z.1.2))⟩) (fun a1 => ⟨_, rfl, iteF (h2 fun z => a1 (decide_eq_true z.1.1))⟩)⟩
    have a1 := of_decide_eq_true a1
    have a2 := of_decide_eq_true a2
    refine ⟨_, rfl, _, _, rfl, rfl, _, rfl, ite2 (fun b1 => ⟨_, _, rfl, rfl, _, rfl, ite2 (fun b2 => ?_) (fun b2 => h2 fun z => b2 (decide_eq_true z.2.1.2))⟩) (fun b1 => ⟨_, rfl, iteF (h2 fun z => b1 (decide_eq_true z.2.1.1))⟩)⟩
    have b1 := of_decide_eq_true b1
    have b2 := of_decide_eq_true b2
    refine ⟨_, rfl, _, _, rfl, rfl, _, rfl, ite2 (fun c1 => ⟨_, _, rfl, rfl, ?_⟩) (fun c1 => h2 fun z => c1 (decide_eq_true z.2.2.1))⟩
    have c1 := of_decide_eq_true c1
    show Q (.bl (decide (r < 4000))) H
    by_cases c2 : r < 4000
    · rw [decide_eq_true c2]
      exact h1 ⟨⟨a1, a2⟩, ⟨b1, b2⟩, ⟨c1, c2⟩⟩
    · rw [decide_eq_false c2]
      exact h2 fun z => c2 z.2.2.2
theorem sc_piece_size : FnScope ["length", "data"] ["length", "data"] (defScope s_piece_size) := ⟨rfl, rfl, rfl, by decide +kernel, rfl, by decide +kernel, by decide +kernel⟩
theorem ok_piece_size (T : Txt K mg a) : FnOk P w K mg base CX0 1 a.f_piece_size a.d_piece_size ["length", "data"] (sp_piece_size K a) := by
  refine T.F_piece_size.ok sc_piece_size (fun vs H Q E h => ?len) (fun cdv A outer s H vs Q E hr h => ?body)
  case len =>
    exact sp_piece_size_len h
  case body =>
    obtain ⟨n, d, rfl, hd, hd2, k⟩ := h
    refine ⟨_, (pss_one (ps_ret (pe_op op_fdiv (pe_op op_sub (pe_op op_add (pv 0) (pv 1)) pe_int) (pv 1)))), ?_⟩
    refine ⟨_, rfl, _, rfl, _, _, rfl, rfl, _, _, rfl, rfl, _, rfl, _, _, rfl, rfl, ⟨by omega, by omega⟩, ?_⟩
    have e : ((n : Int) + (d : Int) - 1) / (d : Int) = ((sizeM n d : Nat) : Int) := by
      unfold sizeM
      rw [show (n : Int) + (d : Int) - 1 = ((n + d - 1 : Nat) : Int) by omega]
      rfl
    show Q (.int (((n : Int) + (d : Int) - 1) / (d : Int))) H
    rw [e]
    exact k
theorem sc_law_pot : FnScope ["script", "seed", "cell"] ["script"] (defScope s_law_pot) := ⟨rfl, rfl, rfl, by decide +kernel, rfl, by decide +kernel, by decide +kernel⟩
theorem ok_law_pot (T : Txt K mg a) : FnOk P w K mg base CX0 1 a.f_law_pot a.d_law_pot ["script"] (sp_law_pot K a) := by
  refine T.F_law_pot.ok sc_law_pot (fun vs H Q E h => ?len) (fun cdv A outer s H vs Q E hr h => ?body)
  case len =>
    exact sp_law_pot_len h
  case body =>
    obtain ⟨s, ns, rfl, hS, hlen, k⟩ := h
    refine ⟨_, (pss_cons (ps_set (i := 1) sc_law_pot.nd rfl (Or.inl rfl) pe_int)
      (pss_cons (ps_for PassesOwn.never rfl (pi_list (pv 0)) (pg_name (i := 2) sc_law_pot.nd rfl (Or.inl rfl))
      (pss_one (ps_set (i := 1) sc_law_pot.nd rfl (Or.inl rfl) (pe_op op_mod (pe_callTy call_int1 (by rfl) T.n_int (by decide +kernel) (pa_cons (pe_op op_add (pe_op op_mul (pv 1) pe_int) (pv 2)) pa_nil)) pe_int))))
      (pss_one (ps_ret (pe_lst (pa_cons (pe_callTy call_list_of (by rfl) T.n_list (by decide +kernel) (pa_cons (pv 0) pa_nil)) (pa_cons pe_int (pa_cons pe_int (pa_cons (pv 1) pa_nil))))))))), ?_⟩
    refine ⟨_, rfl, s, rfl, ⟨_, hS⟩, for_list (K := K) (a := s) (xs := ns.map V.int) (fun i σ H' => ∃ (z : Int) (v : Option V), σ = [some (.ref s), some (.int z), v] ∧ 0 ≤ z ∧ z < 2147483647 ∧ H' = H)
      ⟨1, none, rfl, by decide, by decide, rfl⟩ (fun i σ H' _ ⟨_, _, _, _, _, e⟩ => by rw [e]; exact hS) ?_ ?_⟩
    · rintro i y σ H' hi ⟨z, v, rfl, z0, z1, rfl⟩
      obtain ⟨c, hc, rfl⟩ := int_item hi
      refine ⟨_, rfl, _, _, rfl, rfl, .inl ⟨by omega, by omega⟩, _, rfl, _, _, rfl, rfl, .inl ⟨_, rfl, _, _, rfl, rfl, (by show (0 : Int) < 2147483647; decide), ?_⟩⟩
      exact ⟨_, _, rfl, Int.emod_nonneg _ (by decide), Int.emod_lt_of_pos _ (by decide), rfl⟩
    · rintro σ H' ⟨z, v, rfl, z0, z1, rfl⟩
      refine ⟨_, rfl, s, _, rfl, .inl hS, fun l hl => ?_⟩
      refine ⟨_, rfl, (by show 4 ≤ sizeLine; decide), fun p hp => ?_⟩
      have npl : l ≠ p := fun e => by subst e; rw [upd_same] at hp; cases hp
      have hp0 : H' p = none := by rw [upd_ne npl.symm] at hp; exact hp
      refine k p l _ hp0 hl (fun b o e => ?_) ⟨ns, 0, 0, z, upd_same, by rw [upd_ne npl, upd_same], by decide, by decide, z0, z1⟩
      rw [upd_ne (ne_of_none e hp0), upd_ne (ne_of_none e hl)]
      exact e
theorem sc_law_next : FnScope ["pot", "limit", "cell", "found", "mixed"] ["pot", "limit"] (defScope s_law_next) := ⟨rfl, rfl, rfl, by decide +kernel, rfl, by decide +kernel, by decide +kernel⟩
theorem ok_law_next (T : Txt K mg a) : FnOk P w K mg base CX0 1 a.f_law_next a.d_law_next ["pot", "limit"] (sp_law_next K a) := by
  refine T.F_law_next.ok sc_law_next (fun vs H Q E h => ?len) (fun cdv A outer s H vs Q E hr h => ?body)
  case len =>
    exact sp_law_next_len h
  case body =>
    obtain ⟨p, l, m, rfl, hP, m0, m1, k⟩ := h
    obtain ⟨ns, i, acc, seed, h1, h2, i0, acc0, s0, s1⟩ := id hP
    have nlp := hP.ne
    have mod0 : ∀ x : Int, 0 ≤ x % m := fun x => Int.emod_nonneg _ (by omega)
    have mod1 : ∀ x : Int, x % m < m := fun x => Int.emod_lt_of_pos _ m0
    have mW : m.natAbs < 2 ^ 41 := by
      have : m.natAbs < 2199023255552 := by omega
      exact this
    refine ⟨_, (Evl.pss_cut (ps_if (PW.pt (pw_and (pt_cmpR op_eq (pe_ix ix_list (pv 0) pe_int (fun _ _ => rfl)) pe_int (nomark _)) (pw_and1 (pt_cmpR op_lt (pe_ix ix_list (pv 0) pe_int (fun _ _ => rfl)) (pe_callB call_len_seq (by rfl) T.n_len PySem.boot_len (pa_cons (pe_ix ix_list (pv 0) pe_int (fun _ _ => rfl)) pa_nil)) (nomark _)))))
      (pss_cons (ps_set (i := 2) sc_law_next.nd rfl (Or.inl rfl) (pe_callB call_abs (by rfl) T.n_abs (by decide +kernel) (pa_cons (pe_callTy call_int1 (by rfl) T.n_int (by decide +kernel) (pa_cons (pe_ix ix_list (pe_ix ix_list (pv 0) pe_int (fun _ _ => rfl)) (pe_ix ix_list (pv 0) pe_int (fun _ _ => rfl)) (fun _ _ => rfl)) pa_nil)) pa_nil)))
      (pss_cons (ps_asg (pe_op op_add (pe_ix ix_list (pv 0) pe_int (fun _ _ => rfl)) pe_int) (pg_sub (pv 0) pe_int set_list))
      (pss_cons (ps_if (pt_cmpR op_lt (pv 2) (pe_op op_pow pe_int pe_int) (nomark _))
      (pss_one (ps_ret (pe_op op_mod (pe_callTy call_int1 (by rfl) T.n_int (by decide +kernel) (pa_cons (pv 2) pa_nil)) (pv 1))))
      pss_nil)
      (pss_one (ps_asg (pv 2) (pg_sub (pv 0) pe_int set_list))))))
      pss_nil)
      (pss_cons (ps_if (pt_cmpR op_gt (pe_ix ix_list (pv 0) pe_int (fun _ _ => rfl)) pe_int (nomark _))
      (pss_cons (ps_set (i := 3) sc_law_next.nd rfl (Or.inl rfl) (pe_op op_mod (pe_callTy call_int1 (by rfl) T.n_int (by decide +kernel) (pa_cons (pe_ix ix_list (pv 0) pe_int (fun _ _ => rfl)) pa_nil)) (pv 1)))
      (pss_cons (ps_asg (pe_op op_fdivW (pe_ix ix_list (pv 0) pe_int (fun _ _ => rfl)) (pv 1)) (pg_sub (pv 0) pe_int set_list))
      (pss_one (ps_ret (pv 3)))))
      pss_nil)
      (pss_cons (ps_asg (pe_op op_mod (pe_callTy call_int1 (by rfl) T.n_int (by decide +kernel) (pa_cons (pe_op op_add (pe_op op_mul (pe_ix ix_list (pv 0) pe_int (fun _ _ => rfl)) pe_int) pe_int) pa_nil)) pe_int) (pg_sub (pv 0) pe_int set_list))
      (pss_cons (ps_set (i := 4) sc_law_next.nd rfl (Or.inl rfl) (pe_op op_mod (pe_callTy call_int1 (by rfl) T.n_int (by decide +kernel) (pa_cons (pe_op op_add (pe_op op_mul (pe_ix ix_list (pv 0) pe_int (fun _ _ => rfl)) pe_int) (pe_op op_fdiv (pe_ix ix_list (pv 0) pe_int (fun _ _ => rfl)) pe_int)) pa_nil)) pe_int))
      (pss_one (ps_ret (pe_op op_mod (pe_callTy call_int1 (by rfl) T.n_int (by decide +kernel) (pa_cons (pv 4) pa_nil)) (pv 1)))))))), ?_⟩
    refine ⟨fun σ H' => ∃ (u : Option V) (i' acc' : Int), σ = [some (.ref p), some (.int m), u, none, none] ∧ H' p = some (.lst [.ref l, .int i', .int acc', .int seed]) ∧ 0 ≤ i' ∧ 0 ≤ acc' ∧ Only p H H', ?_, ?_⟩
    · -- if pot[2] == 0 and pot[1] < len(pot[0])
      refine ⟨_, rfl, p, _, _, _, rfl, rfl, SqL.of h1, at_of (j := 2) rfl rfl, rfl, _, rfl, ?_⟩
      refine ite2 (fun e2 => ?_) (fun e2 => iteF ⟨none, i, acc, rfl, h1, i0, acc0, Only.refl⟩)
      refine ⟨_, rfl, p, _, _, _, rfl, rfl, SqL.of h1, at_of (j := 1) rfl rfl, _, rfl, p, _, _, _, rfl, rfl, SqL.of h1, at_of (j := 0) rfl rfl, l, _, rfl, .inl (SqL.of h2), _, _, rfl, rfl, _, rfl, ?_⟩
      refine ite2 (fun e3 => ?_) (fun e3 => ⟨none, i, acc, rfl, h1, i0, acc0, Only.refl⟩)
      have i1 : i < (ns.length : Int) := by
        have := of_decide_eq_true e3
        rw [List.length_map] at this
        exact this
      obtain ⟨j, rfl⟩ : ∃ j : Nat, i = (j : Int) := ⟨i.toNat, by omega⟩
      have hj : j < ns.length := by omega
      have hit : (ns.map V.int)[j]? = some (V.int ns[j]) := by rw [List.getElem?_map, List.getElem?_eq_getElem hj]; rfl
      -- cell = abs(int(pot[0][pot[1]])); pot[1] = pot[1] + 1
      refine ⟨_, rfl, p, _, _, _, rfl, rfl, SqL.of h1, at_of (j := 0) rfl rfl, _, rfl, p, _, _, _, rfl, rfl, SqL.of h1, at_of (j := 1) rfl rfl, l, _, _, _, rfl, rfl, SqL.of h2, at_of (j := j) rfl hit, .inl ⟨_, rfl, _, rfl, ?_⟩⟩
      have abs0 : 0 ≤ (if ns[j] < 0 then -ns[j] else ns[j]) := by split <;> omega
      generalize (if ns[j] < 0 then -ns[j] else ns[j]) = c at abs0 ⊢
      refine ⟨_, rfl, p, _, _, _, rfl, rfl, SqL.of h1, at_of (j := 1) rfl rfl, _, _, rfl, rfl, _, rfl, p, _, _, 1, rfl, rfl, h1, rfl, ?_⟩
      have g1 : upd H p (.lst (List.set [V.ref l, V.int (j : Int), V.int acc, V.int seed] 1 (V.int ((j : Int) + 1)))) p = some (.lst [.ref l, .int ((j : Int) + 1), .int acc, .int seed]) := upd_same
      -- if cell < 10 ** 18: return int(cell) % limit
      refine ⟨_, rfl, _, _, rfl, rfl, ⟨by decide, by decide, by decide⟩, _, _, rfl, rfl, _, rfl, ?_⟩
      refine ite2 (fun e4 => ?_) (fun e4 => ?_)
      · refine ⟨_, rfl, .inl ⟨_, rfl, _, rfl, _, _, rfl, rfl, m0, ?_⟩⟩
        exact k _ _ (mod0 _) (mod1 _) ⟨ns, _, _, _, g1, by rw [upd_ne nlp]; exact h2, by omega, acc0, s0, s1⟩ Only.upd
      · -- pot[2] = cell
        refine ⟨_, rfl, _, rfl, p, _, _, 2, rfl, rfl, g1, rfl, ?_⟩
        exact ⟨_, (j : Int) + 1, c, rfl, upd_same, by omega, abs0, Only.upd.trans Only.upd⟩
    · rintro σ H' ⟨u, i', acc', rfl, g1, i0', acc0', oH⟩
      have g2 : H' l = some (.lst (ns.map V.int)) := by rw [oH _ nlp]; exact h2
      -- if pot[2] > 0
      refine ⟨_, rfl, p, _, _, _, rfl, rfl, SqL.of g1, at_of (j := 2) rfl rfl, _, _, rfl, rfl, _, rfl, ?_⟩
      refine ite2 (fun e2 => ?_) (fun e2 => ?_)
      · refine ⟨_, rfl, p, _, _, _, rfl, rfl, SqL.of g1, at_of (j := 2) rfl rfl, .inl ⟨_, rfl, _, rfl, _, _, rfl, rfl, m0, ?_⟩⟩
        refine ⟨_, rfl, p, _, _, _, rfl, rfl, SqL.of g1, at_of (j := 2) rfl rfl, _, rfl, _, _, rfl, rfl, wide_div m0 mW (by decide) (by decide), _, rfl, p, _, _, 2, rfl, rfl, g1, rfl, ?_⟩
        refine ⟨_, rfl, ?_⟩
        exact k _ _ (mod0 _) (mod1 _) ⟨ns, i', acc' / m, seed, upd_same, by rw [upd_ne nlp]; exact g2, i0', Int.ediv_nonneg acc0' (by omega), s0, s1⟩ (oH.trans Only.upd)
      · -- pot[3] = int(pot[3] * 48271 + 12345) % 2147483647
        refine ⟨_, rfl, p, _, _, _, rfl, rfl, SqL.of g1, at_of (j := 3) rfl rfl, _, _, rfl, rfl, .inl ⟨by omega, by omega⟩, _, _, rfl, rfl, .inl ⟨_, rfl, _, _, rfl, rfl, (by show (0 : Int) < 2147483647; decide), ?_⟩⟩
        have t0 := Int.emod_nonneg (seed * 48271 + 12345) (show (2147483647 : Int) ≠ 0 by decide)
        have t1 := Int.emod_lt_of_pos (seed * 48271 + 12345) (show (0 : Int) < 2147483647 by decide)
        refine ⟨_, rfl, p, _, _, 3, rfl, rfl, g1, rfl, ?_⟩
        have g3 : upd H' p (.lst (List.set [V.ref l, V.int i', V.int acc', V.int seed] 3 (V.int ((seed * 48271 + 12345) % 2147483647)))) p = some (.lst [.ref l, .int i', .int acc', .int ((seed * 48271 + 12345) % 2147483647)]) := upd_same
        refine ⟨_, rfl, p, _, _, _, rfl, rfl, SqL.of g3, at_of (j := 3) rfl rfl, _, _, rfl, rfl, .inl ⟨by omega, by omega⟩, _, rfl, p, _, _, _, rfl, rfl, SqL.of g3, at_of (j := 3) rfl rfl, _, _, rfl, rfl, ⟨by decide, by decide⟩, _, _, rfl, rfl, .inl ⟨_, rfl, _, _, rfl, rfl, (by show (0 : Int) < 2147483629; decide), ?_⟩⟩
        refine ⟨_, rfl, .inl ⟨_, rfl, _, rfl, _, _, rfl, rfl, m0, ?_⟩⟩
        exact k _ _ (mod0 _) (mod1 _) ⟨ns, _, _, _, g3, by rw [upd_ne nlp]; exact g2, i0', acc0', t0, t1⟩ (oH.trans Only.upd)
theorem sc_law_inverse : FnScope ["number", "power", "bit"] ["number"] (defScope s_law_inverse) := ⟨rfl, rfl, rfl, by decide +kernel, rfl, by decide +kernel, by decide +kernel⟩
theorem ok_law_inverse (T : Txt K mg a) : FnOk P w K mg base CX0 1 a.f_law_inverse a.d_law_inverse ["number"] (sp_law_inverse K a) := by
  refine T.F_law_inverse.ok sc_law_inverse (fun vs H Q E h => ?len) (fun cdv A outer s H vs Q E hr h => ?body)
  case len =>
    exact sp_law_inverse_len h
  case body =>
    obtain ⟨n, rfl, k⟩ := h
    refine ⟨_, (pss_cons (ps_set (i := 1) sc_law_inverse.nd rfl (Or.inl rfl) pe_int)
      (pss_cons (ps_for PassesOwn.never rfl (pi_list (pe_lst (pa_cons pe_int (pa_cons pe_int (pa_cons pe_int (pa_cons pe_int (pa_cons pe_int (pa_cons pe_int (pa_cons pe_int (pa_cons pe_int (pa_cons pe_int (pa_cons pe_int (pa_cons pe_int (pa_cons pe_int (pa_cons pe_int (pa_cons pe_int (pa_cons pe_int (pa_cons pe_int pa_nil)))))))))))))))))) (pg_name (i := 2) sc_law_inverse.nd rfl (Or.inl rfl))
      (pss_cons (ps_set (i := 1) sc_law_inverse.nd rfl (Or.inl rfl) (pe_op op_mod (pe_callTy call_int1 (by rfl) T.n_int (by decide +kernel) (pa_cons (pe_op op_mul (pv 1) (pv 1)) pa_nil)) pe_int))
      (pss_one (ps_if (pt_cmpR op_eq (pv 2) pe_int (nomark _))
      (pss_one (ps_set (i := 1) sc_law_inverse.nd rfl (Or.inl rfl) (pe_op op_mod (pe_callTy call_int1 (by rfl) T.n_int (by decide +kernel) (pa_cons (pe_op op_mul (pv 1) (pv 0)) pa_nil)) pe_int)))
      pss_nil))))
      (pss_one (ps_ret (pv 1))))), ?_⟩
    refine ⟨(by show 16 ≤ sizeLine; decide), fun q nq => ?_⟩
    have sq := Same.new (o := .lst (bitsM.map V.int)) nq
    refine ⟨q, rfl, ⟨_, SqL.of upd_same⟩, for_list (K := K) (a := q) (xs := bitsM.map V.int) (fun i σ H' => ∃ v : Option V, σ = [some (.int n), some (.int ((bitsM.take i).foldl (powS n) 1)), v] ∧ H' = upd H q (.lst (bitsM.map V.int)))
      ⟨none, rfl, rfl⟩ (fun i σ H' _ ⟨_, _, e⟩ => by rw [e]; exact SqL.of upd_same) ?_ ?_⟩
    · rintro i y σ H' hi ⟨v, rfl, rfl⟩
      obtain ⟨c, hc, rfl⟩ := int_item hi
      rw [take_snoc hc, List.foldl_append]
      have hb : 0 ≤ (bitsM.take i).foldl (powS n) 1 ∧ (bitsM.take i).foldl (powS n) 1 < 65521 := powF_word n _
      generalize (bitsM.take i).foldl (powS n) 1 = P at hb ⊢
      have hb2 : 0 ≤ P * P % 65521 ∧ P * P % 65521 < 65521 := ⟨Int.emod_nonneg _ (by decide), Int.emod_lt_of_pos _ (by decide)⟩
      refine ⟨_, rfl, _, rfl, _, _, rfl, rfl, .inl ⟨by omega, by omega⟩, .inl ⟨_, rfl, _, _, rfl, rfl, (by show (0 : Int) < 65521; decide), ?_⟩⟩
      refine ⟨_, rfl, rfl, _, rfl, ite2 (fun q => ?_) (fun q => ?_)⟩
      · have q := of_decide_eq_true q
        cases q
        refine ⟨_, rfl, _, rfl, _, _, rfl, rfl, .inl ⟨by omega, by omega⟩, .inl ⟨_, rfl, _, _, rfl, rfl, (by show (0 : Int) < 65521; decide), ?_⟩⟩
        exact ⟨_, rfl, rfl⟩
      · refine ⟨some (.int c), ?_, rfl⟩
        have e : powS n P c = P * P % 65521 := by
          unfold powS
          rw [if_neg fun z => q (decide_eq_true (by rw [z]))]
        show _ = [_, some (V.int (powS n P c)), _]
        rw [e]
        rfl
    rintro σ H' ⟨v, rfl, rfl⟩
    exact ⟨_, rfl, k _ sq⟩
theorem sc_law_seal : FnScope ["kind", "disk", "row", "stamp", "payload", "words", "first", "second", "k"] ["kind", "disk", "row", "stamp", "payload"] (defScope s_law_seal) := ⟨rfl, rfl, rfl, by decide +kernel, rfl, by decide +kernel, by decide +kernel⟩
theorem ok_law_seal (T : Txt K mg a) : FnOk P w K mg base CX0 1 a.f_law_seal a.d_law_seal ["kind", "disk", "row", "stamp", "payload"] (sp_law_seal K a) := by
  refine T.F_law_seal.ok sc_law_seal (fun vs H Q E h => ?len) (fun cdv A outer s H vs Q E hr h => ?body)
  case len =>
    exact sp_law_seal_len h
  case body =>
    obtain ⟨kd, d, r, st, pl, e, s', ws, rfl, hT, hS, hlen, k⟩ := h
    refine ⟨_, (pss_cons (ps_set (i := 5) sc_law_seal.nd rfl (Or.inr rfl) (pe_op op_cat (pe_lst (pa_cons (pv 0) (pa_cons (pv 1) (pa_cons (pv 2) (pa_cons (pe_ix ix_tup (pv 3) pe_int (fun _ _ => rfl)) (pa_cons (pe_op op_fdiv (pe_ix ix_tup (pv 3) pe_int (fun _ _ => rfl)) pe_int) (pa_cons (pe_op op_mod (pe_callTy call_int1 (by rfl) T.n_int (by decide +kernel) (pa_cons (pe_ix ix_tup (pv 3) pe_int (fun _ _ => rfl)) pa_nil)) pe_int) pa_nil))))))) (pv 4)))
      (pss_cons (ps_set (i := 6) sc_law_seal.nd rfl (Or.inl rfl) (pe_callB (cr_sum rfl) (by rfl) T.n_sum (by decide +kernel) (pa_cons (pv 5) pa_nil)))
      (pss_cons (ps_set (i := 7) sc_law_seal.nd rfl (Or.inl rfl) (pe_callB (cr_sum rfl) (by rfl) T.n_sum (by decide +kernel) (pa_cons (pe_lc (own := [("k", 8)]) (g := (gName 8)) (by rfl) sc_law_seal.nd (pi_range1 (by rfl) T.n_range (pa_cons (pe_callB call_len_seq (by rfl) T.n_len PySem.boot_len (pa_cons (pv 5) pa_nil)) pa_nil)) (blkOk_by (own := [("k", 8)]) (N := ["kind", "disk", "row", "stamp", "payload", "words", "first", "second", "k"]) (sc := defScope s_law_seal) (by decide +kernel))
      (fun _ _ _ _ _ => (pg_name (i := 8) sc_law_seal.nd rfl (Or.inl rfl))) (fun _ _ _ _ _ => pts_nil) (fun _ _ _ _ _ => (pe_op op_mul (pe_op op_add (pv 8) pe_int) (pe_ix (by exact ix_list : IxR _ (rIxL K)) (pv 5) (pv 8) (fun _ _ => rfl))))) pa_nil)))
      (pss_one (ps_ret (pe_op op_cat (pv 5) (pe_lst (pa_cons (pe_op op_mod (pe_callTy call_int1 (by rfl) T.n_int (by decide +kernel) (pa_cons (pv 6) pa_nil)) pe_int) (pa_cons (pe_op op_mod (pe_callTy call_int1 (by rfl) T.n_int (by decide +kernel) (pa_cons (pv 7) pa_nil)) pe_int) pa_nil))))))))), ?_⟩
    refine ⟨_, rfl, _, rfl, _, rfl, _, rfl, st, _, _, _, rfl, rfl, hT, at_of (j := 0) rfl rfl, ?_⟩
    refine ⟨_, rfl, st, _, _, _, rfl, rfl, hT, at_of (j := 1) rfl rfl, _, _, rfl, rfl, ⟨by decide, by decide⟩, _, rfl, st, _, _, _, rfl, rfl, hT, at_of (j := 1) rfl rfl, .inl ⟨_, rfl, _, _, rfl, rfl, (by show (0 : Int) < 65521; decide), ?_⟩⟩
    refine ⟨by show 6 ≤ sizeLine; decide, fun q1 n1 => ?_⟩
    have S1 := Same.new (o := .lst [V.int kd, .int d, .int r, .int e, .int (s' / 65521), .int (s' % 65521)]) n1
    refine ⟨_, rfl, q1, pl, _, _, rfl, rfl, upd_same, S1 _ _ hS, Nat.le_of_lt (small _ (by simp; omega)), fun q2 n2 => ?_⟩
    have ew : [V.int kd, .int d, .int r, .int e, .int (s' / 65521), .int (s' % 65521)] ++ ws.map V.int = (hdM kd d r e s' ws).map V.int := by unfold hdM; rw [List.map_append]; rfl
    rw [ew]
    have S2 := S1.trans (Same.new (o := .lst ((hdM kd d r e s' ws).map V.int)) n2)
    have dW : upd (upd H q1 (.lst [V.int kd, .int d, .int r, .int e, .int (s' / 65521), .int (s' % 65521)])) q2 (.lst ((hdM kd d r e s' ws).map V.int)) q2 = some (.lst ((hdM kd d r e s' ws).map V.int)) := upd_same
    have hl := hdM_length kd d r e s' ws
    generalize hG : hdM kd d r e s' ws = W at dW hl S2 ⊢
    generalize upd (upd H q1 (.lst [V.int kd, .int d, .int r, .int e, .int (s' / 65521), .int (s' % 65521)])) q2 (.lst (W.map V.int)) = H2 at dW S2 ⊢
    refine ⟨_, rfl, q2, W, rfl, SqL.of dW, ?_⟩
    refine ⟨_, rfl, q2, _, rfl, .inl (SqL.of dW), _, rfl, by omega, by rw [List.length_map]; omega, fun C nC => ?_⟩
    rw [List.length_map, Int.toNat_natCast]
    refine lc_it walk_range (fun i H' => Same H2 H' ∧ H' C = some (.lst (((wts W).take i).map V.int))) ⟨Same.new nC, upd_same⟩ (fun _ _ _ _ => True.intro) ?_ ?_
    · rintro i y H3 H4 hi ⟨s3, hC⟩ ⟨rfl, rfl⟩
      have hc : W[i]? = some W[i] := List.getElem?_eq_getElem hi
      refine ⟨rfl, _, rfl, _, _, rfl, rfl, _, rfl, _, rfl, q2, _, _, _, rfl, rfl, SqL.of (s3 _ _ dW), at_of (j := i) (by omega) (by rw [List.getElem?_map, hc]; rfl), _, _, rfl, rfl, .inl ⟨by omega, by omega⟩, _, hC, small _ (by simp; omega), same_put s3 nC, ?_⟩
      have g : (wts W)[i]? = some ((1 + (i : Int)) * W[i]) := by
        unfold wts
        rw [List.getElem?_map, List.getElem?_range hi]
        show some (_ * W.getD i 0) = _
        rw [getD_item hc]
      rw [upd_same, take_snoc g, List.map_append]
      show some (HO.lst (_ ++ [V.int ((0 + (i : Int) + 1) * W[i])])) = _
      rw [show 0 + (i : Int) + 1 = 1 + (i : Int) by omega]
      rfl
    rintro H3 ⟨s3, hC⟩
    rw [List.take_of_length_le (by simp [wts])] at hC
    refine ⟨C, wts W, rfl, SqL.of hC, ?_⟩
    have dW3 := s3 _ _ dW
    refine ⟨_, rfl, _, rfl, .inl ⟨_, rfl, _, _, rfl, rfl, (by show (0 : Int) < 65521; decide), ?_⟩⟩
    refine ⟨_, rfl, .inl ⟨_, rfl, _, _, rfl, rfl, (by show (0 : Int) < 65521; decide), ?_⟩⟩
    refine ⟨by show 2 ≤ sizeLine; decide, fun q3 n3 => ?_⟩
    have S3 := Same.new (o := .lst [V.int (ck1 W), .int (ck2 W)]) n3
    refine ⟨q2, q3, _, _, rfl, rfl, S3 _ _ dW3, upd_same, Nat.le_of_lt (small _ (by simp; omega)), fun q4 n4 => ?_⟩
    have S4 := Same.new (o := .lst (W.map V.int ++ [V.int (ck1 W), .int (ck2 W)])) n4
    have n0 : H q4 = none := same_none ((S2.trans s3).trans S3) n4
    refine k q4 _ (((S2.trans s3).trans S3).trans S4) n0 ?_
    rw [upd_same]
    unfold sealM
    rw [hG, List.map_append]
    rfl
theorem sc_law_is_write : FnScope ["request", "disk", "row", "sector"] ["request", "disk", "row", "sector"] (defScope s_law_is_write) := ⟨rfl, rfl, rfl, by decide +kernel, rfl, by decide +kernel, by decide +kernel⟩
theorem ok_law_is_write (T : Txt K mg a) : FnOk P w K mg base CX0 1 a.f_law_is_write a.d_law_is_write ["request", "disk", "row", "sector"] (sp_law_is_write K a) := by
  refine T.F_law_is_write.ok sc_law_is_write (fun vs H Q E h => ?len) (fun cdv A outer s H vs Q E hr h => ?body)
  case len =>
    exact sp_law_is_write_len h
  case body =>
    obtain ⟨t, s, s2, d, r, ws, rfl, hT, hS, hS2, k⟩ := h
    refine ⟨_, (pss_cons (ps_if (PW.pt (pw_or (pt_not (pt_val (pe_callB call_isi (by rfl) T.n_isinstance (by decide +kernel) (pa_cons (pv 0) (pa_cons (pe_bltn (v := .ty "tuple") (by rfl) T.n_tuple (by decide +kernel) rfl) pa_nil))))) (pw_or (pt_cmpR op_ne (pe_callB call_len_seq (by rfl) T.n_len PySem.boot_len (pa_cons (pv 0) pa_nil)) pe_int (nomark _)) (pw_or1 (pt_cmpR op_ne (pe_ix ix_tup (pv 0) pe_int (fun _ _ => rfl)) pe_str (nomark _))))))
      (pss_one (ps_ret pe_bl))
      pss_nil)
      (pss_cons (ps_if (pt_not (pt_val (pe_callB call_isi (by rfl) T.n_isinstance (by decide +kernel) (pa_cons (pe_ix ix_tup (pv 0) pe_int (fun _ _ => rfl)) (pa_cons (pe_bltn (v := .ty "list") (by rfl) T.n_list (by decide +kernel) rfl) pa_nil)))))
      (pss_one (ps_ret pe_bl))
      pss_nil)
      (pss_one (ps_ret (pe_and (pe_cmpR op_eq (pe_ix ix_tup (pv 0) pe_int (fun _ _ => rfl)) (pv 1) (nomark _)) (pe_and (pe_cmpR op_eq (pe_ix ix_tup (pv 0) pe_int (fun _ _ => rfl)) (pv 2) (nomark _)) (pe_one (pe_cmpR (op_eqD hr.units) (pe_ix ix_tup (pv 0) pe_int (fun _ _ => rfl)) (pv 3) (nomark _))))))))), ?_⟩
    refine ⟨_, rfl, _, _, _, _, true, rfl, .ty "tuple", .base (.tup hT), kit_ty (by decide +kernel), true, rfl, iteF ?_⟩
    refine ⟨_, rfl, t, _, rfl, .inr (SqT.of hT), rfl, _, rfl, iteF ?_⟩
    refine ⟨_, rfl, t, _, _, _, rfl, rfl, SqT.of hT, at_of (j := 0) rfl rfl, rfl, _, rfl, iteF ?_⟩
    refine ⟨_, rfl, t, _, _, _, rfl, rfl, SqT.of hT, at_of (j := 3) rfl rfl, _, _, _, _, true, rfl, .ty "list", .base (.lst hS), kit_ty (by decide +kernel), true, rfl, iteF ?_⟩
    refine ⟨_, rfl, t, _, _, _, rfl, rfl, SqT.of hT, at_of (j := 1) rfl rfl, _, rfl, rfl, true, congrArg V.bl (decide_eq_true rfl), iteT ?_⟩
    refine ⟨_, rfl, t, _, _, _, rfl, rfl, SqT.of hT, at_of (j := 2) rfl rfl, _, rfl, rfl, true, congrArg V.bl (decide_eq_true rfl), iteT ?_⟩
    refine ⟨_, rfl, t, _, _, _, rfl, rfl, SqT.of hT, at_of (j := 3) rfl rfl, _, rfl, _, _, dp_ints (SqL.of hS), dp_ints hS2, shaped_ints _, shaped_ints _, ?_⟩
    rw [eqv_ints, decide_eq_true rfl]
    exact k
theorem sc_weight : FnScope ["place", "others", "x", "above", "below", "other"] ["place", "others", "x"] (defScope s_weight) := ⟨rfl, rfl, rfl, by decide +kernel, rfl, by decide +kernel, by decide +kernel⟩
theorem ok_weight (T : Txt K mg a) : FnOk P w K mg base CX0 2 a.f_weight a.d_weight ["place", "others", "x"] (sp_weight K a) := by
  refine T.F_weight.ok sc_weight (fun vs H Q E h => ?len) (fun cdv A outer s H vs Q E hr h => ?body)
  case len =>
    exact sp_weight_len h
  case body =>
    obtain ⟨p, o, os, x, rfl, hO, hne, k⟩ := h
    refine ⟨_, (pss_cons (ps_asg (pe_tup (pa_cons pe_int (pa_cons pe_int pa_nil))) (pg_tup rfl (pgs_cons (pg_name (i := 3) sc_weight.nd rfl (Or.inl rfl)) (pgs_cons (pg_name (i := 4) sc_weight.nd rfl (Or.inl rfl)) pgs_nil))))
      (pss_cons (ps_for PassesOwn.never rfl (pi_list (pv 1)) (pg_name (i := 5) sc_weight.nd rfl (Or.inl rfl))
      (pss_cons (ps_set (i := 3) sc_weight.nd rfl (Or.inl rfl) (pe_op op_mod (pe_op op_mul (pv 3) (pe_op op_sub (pv 2) (pv 5))) (pe_const T.g_PRIME)))
      (pss_one (ps_set (i := 4) sc_weight.nd rfl (Or.inl rfl) (pe_op op_mod (pe_op op_mul (pv 4) (pe_op op_sub (pv 0) (pv 5))) (pe_const T.g_PRIME))))))
      (pss_one (ps_ret (pe_op op_mod (pe_op op_mul (pv 3) (pe_call ((ok_inverse T)).ofN (hr.mono (by decide)) rfl T.g_inverse T.F_inverse.kp T.d_inverse .nil passL (pa_cons (pv 4) pa_nil))) (pe_const T.g_PRIME)))))), ?_⟩
    refine ⟨by show 2 ≤ sizeLine; decide, fun t ht => ?_⟩
    have sm : Same H (upd H t (.tup [V.int 1, V.int 1])) := Same.new ht
    refine ⟨t, _, rfl, SqT.of upd_same, rfl, _, _, rfl, _, _, rfl, rfl, ?_⟩
    refine ⟨_, rfl, o, rfl, ⟨_, sm.seq hO⟩, for_list (K := K) (a := o) (xs := os.map V.int) (fun i σ H' => ∃ v : Option V, σ = [some (.int p), some (.ref o), some (.int x), some (.int (prodM (os.take i) x 1)), some (.int (prodM (os.take i) p 1)), v] ∧ Same H H')
      ⟨none, rfl, sm⟩ (fun i σ H' _ ⟨_, _, s⟩ => s.seq hO) ?_ ?_⟩
    · rintro i y σ H' hi ⟨v, rfl, s'⟩
      obtain ⟨c, hc, rfl⟩ := int_item hi
      have b1 := prodM_word (os.take i) x 1 (by decide) (by decide)
      have b2 := prodM_word (os.take i) p 1 (by decide) (by decide)
      refine ⟨_, rfl, _, rfl, _, rfl, _, _, rfl, rfl, _, _, rfl, rfl, .inl ⟨by omega, by omega⟩, _, _, rfl, rfl, (by show (0 : Int) < 65521; decide), ?_⟩
      refine ⟨_, rfl, _, rfl, _, rfl, _, _, rfl, rfl, _, _, rfl, rfl, .inl ⟨by omega, by omega⟩, _, _, rfl, rfl, (by show (0 : Int) < 65521; decide), ?_⟩
      refine ⟨some (V.int c), ?_, s'⟩
      rw [take_snoc hc, prodM_snoc, prodM_snoc]
      rfl
    · rintro σ H' ⟨v, rfl, s'⟩
      have ea : os.take (os.map V.int).length = os := by rw [List.length_map, List.take_length]
      rw [ea]
      have b1 := prodM_word os x 1 (by decide) (by decide)
      refine ⟨_, rfl, _, rfl, _, rfl, fun z => absurd z hne, fun _ H2 s2 => ?_⟩
      refine ⟨_, _, rfl, rfl, .inl ⟨by omega, by omega⟩, _, _, rfl, rfl, (by show (0 : Int) < 65521; decide), ?_⟩
      exact k _ (s'.trans s2)
theorem sc_present_numbers : FnScope ["pieces", "data", "present", "number", "piece"] ["pieces", "data"] (defScope s_present_numbers) := ⟨rfl, rfl, rfl, by decide +kernel, rfl, by decide +kernel, by decide +kernel⟩
theorem ok_present_numbers (T : Txt K mg a) : FnOk P w K mg base (L2N.CX P w) 2 a.f_present_numbers a.d_present_numbers ["pieces", "data"] (sp_present_numbers K a) := by
  refine T.F_present_numbers.okN sc_present_numbers (fun vs H Q E h => ?len) (fun cdv A outer s H vs Q E hr h => ?body)
  case len =>
    exact sp_present_numbers_len h
  case body =>
    obtain ⟨R, F, data, rfl, hR, h50, kB, kF, kQ⟩ := h
    have hml : (refsO F).length = F.length := List.length_map _
    refine ⟨_, (pss_cons (ps_if (pt_cmpR op_gt (pe_callB call_len_seq (by rfl) T.n_len PySem.boot_len (pa_cons (pv 0) pa_nil)) (pe_const T.g_MAX_PIECES) (nomark _))
      (pss_one (L2N.ps_raise rfl (L2N.takes_of rfl rfl rfl rfl) (L2N.pmk_own PySem.F.excBase_ValueError T.x_InvalidArgument T.g_InvalidArgument T.k_InvalidArgument (raises_own T.b_InvalidArgument T.t_InvalidArgument) (by exact rfl))))
      pss_nil)
      (pss_cons (ps_if (PW.pt (pw_or (pt_cmpR op_lt (pv 1) pe_int (nomark _)) (pw_or1 (pt_cmpR op_gt (pv 1) (pe_callB call_len_seq (by rfl) T.n_len PySem.boot_len (pa_cons (pv 0) pa_nil)) (nomark _)))))
      (pss_one (L2N.ps_raise rfl (L2N.takes_of rfl rfl rfl rfl) (L2N.pmk_own PySem.F.excBase_ValueError T.x_InvalidArgument T.g_InvalidArgument T.k_InvalidArgument (raises_own T.b_InvalidArgument T.t_InvalidArgument) (by exact rfl))))
      pss_nil)
      (pss_cons (ps_setLc (i := 2) (own := [("number", 3), ("piece", 4)]) (g := (gTup K 2 (gCons (gName 3) (gCons (gName 4) gNil)))) (by rfl) sc_present_numbers.nd rfl rfl (sw_true rfl rfl rfl (by decide +kernel)) (pi_enum (by rfl) T.n_enumerate (pa_cons (pv 0) pa_nil)) (blkOk_by (own := [("number", 3), ("piece", 4)]) (N := ["pieces", "data", "present", "number", "piece"]) (sc := defScope s_present_numbers) (by decide +kernel))
      (fun _ _ _ _ _ => (pg_tup rfl (pgs_cons (pg_name (i := 3) sc_present_numbers.nd rfl (Or.inl rfl)) (pgs_cons (pg_name (i := 4) sc_present_numbers.nd rfl (Or.inl rfl)) pgs_nil)))) (fun _ _ _ _ _ => (pts_one (pt_cmpR op_notN (pv 4) pe_non (nomark _)))) (fun _ _ _ _ _ => (pv 3)))
      (pss_cons (ps_expr (pe_call (ok_check_lengths T) (hr.mono (by decide)) rfl T.g_check_lengths T.F_check_lengths.kp T.d_check_lengths .nil (L2N.passes_call (L2N.takes_of rfl rfl rfl rfl) (fun _ _ _ _ z => z)) (pa_cons (pe_lc (own := [("number", 3)]) (g := (gName 3)) (by rfl) sc_present_numbers.nd (pi_list (pv 2)) (blkOk_by (own := [("number", 3)]) (N := ["pieces", "data", "present", "number", "piece"]) (sc := defScope s_present_numbers) (by decide +kernel))
      (fun _ _ _ _ _ => (pg_name (i := 3) sc_present_numbers.nd rfl (Or.inl rfl))) (fun _ _ _ _ _ => pts_nil) (fun _ _ _ _ _ => (pe_ix (by exact ix_list : IxR _ (rIxL K)) (pv 0) (pv 3) (fun _ _ => rfl)))) pa_nil)))
      (pss_cons (ps_if (pt_cmpR op_lt (pe_callB call_len_seq (by rfl) T.n_len PySem.boot_len (pa_cons (pv 2) pa_nil)) (pv 1) (nomark _))
      (pss_one (L2N.ps_raise rfl (L2N.takes_of rfl rfl rfl rfl) (L2N.pmk_own PySem.F.excBase_ValueError T.x_NotEnoughPieces T.g_NotEnoughPieces T.k_NotEnoughPieces (raises_own T.b_NotEnoughPieces T.t_NotEnoughPieces) (by exact rfl))))
      pss_nil)
      (pss_one (ps_ret (pv 2)))))))), ?_⟩
    refine ⟨_, rfl, R, _, rfl, .inl hR.1, _, _, rfl, rfl, _, rfl, ite2 (fun z => kB (.inl (by have := of_decide_eq_true z; omega)) _ (Same.refl _)) (fun z1 => ?_)⟩
    refine ⟨_, rfl, _, _, rfl, rfl, _, rfl, ite2 (fun z => kB (.inr (.inl (by have := of_decide_eq_true z; omega))) _ (Same.refl _)) (fun z2 => ?_)⟩
    refine ⟨_, rfl, _, rfl, R, _, rfl, .inl hR.1, _, _, rfl, rfl, _, rfl, ite2 (fun z => kB (.inr (.inr (.inl (by have := of_decide_eq_true z; omega)))) _ (Same.refl _)) (fun z3 => ?_)⟩
    have a1 : F.length ≤ 8 := Classical.byContradiction fun q => z1 (decide_eq_true (by omega))
    have a2 : 1 ≤ data := Classical.byContradiction fun q => z2 (decide_eq_true (by omega))
    have a3 : data ≤ F.length := Classical.byContradiction fun q => z3 (decide_eq_true (by omega))
    -- present = [number for number, piece in enumerate(pieces) if piece is not None]
    refine ⟨_, rfl, R, _, rfl, hR.1, fun D new => lc_it walk_enum (fun i H' => Same H H' ∧ H' D = some (.lst ((intsN ((List.range i).filter fun j => (F.getD j none).isSome)).map V.int))) ⟨Same.new new, upd_same⟩ (fun i H' _ q => q.1.seq hR.1) ?_ ?_⟩
    · rintro i y H1 H2 hi ⟨s1, hD⟩ ⟨t, u, v, rfl, ht, rfl, hu, hv⟩
      cases hu
      obtain ⟨o, ho, rfl⟩ := refsO_item hv
      have s2 : Same H1 (upd H1 t (.tup [V.int (i : Nat), refO o])) := Same.new ht
      refine ⟨t, _, rfl, SqT.of upd_same, rfl, _, _, rfl, _, _, rfl, rfl, ?_⟩
      have fs : (List.range (i + 1)).filter (fun j => (F.getD j none).isSome) = ((List.range i).filter fun j => (F.getD j none).isSome) ++ if (F.getD i none).isSome then [i] else [] := by
        rw [List.range_succ, List.filter_append]
        congr 1
        simp only [List.filter_cons, List.filter_nil]
      have gi := getD_item (d := none) ho
      have le : ((List.range i).filter fun j => (F.getD j none).isSome).length ≤ i := Nat.le_trans (List.length_filter_le _ _) (by rw [List.length_range]; exact Nat.le_refl _)
      refine ⟨rfl, _, rfl, rfl, _, rfl, ?_⟩
      cases o with
      | none =>
        refine iteF ⟨s1.trans s2, ?_⟩
        rw [fs, gi]
        show _ = some (HO.lst ((intsN (_ ++ [])).map V.int))
        rw [List.append_nil]
        exact s2 _ _ hD
      | some e =>
        refine iteT ⟨_, rfl, _, s2 _ _ hD, small _ (by rw [List.length_map]; unfold intsN; rw [List.length_map]; omega), same_put (s1.trans s2) new, ?_⟩
        rw [fs, gi]
        show _ = some (HO.lst ((intsN (_ ++ [i])).map V.int))
        rw [upd_same]
        unfold intsN
        rw [List.map_append, List.map_append]
        rfl
    rintro H1 ⟨s1, hD⟩
    rw [hml] at hD
    replace hD : H1 D = some (.lst ((intsN (presM F)).map V.int)) := hD
    have pl := presM_len F
    have hR1 := hR.same s1
    -- check_lengths([pieces[number] for number in present])
    refine ⟨_, rfl, D, rfl, ⟨_, SqL.of hD⟩, fun C nC => lc_list (K := K) (a := D) (xs := (intsN (presM F)).map V.int) (fun i H' => Same H1 H' ∧ H' C = some (.lst (refs ((rowsP F).take i)))) ⟨Same.new nC, upd_same⟩ (fun i H' _ q => q.1.seq (SqL.of hD)) ?_ ?_⟩
    · rintro i y H2 hi ⟨s2, hC⟩
      obtain ⟨c, hc, rfl⟩ := int_item hi
      obtain ⟨m, hm, rfl⟩ : ∃ m : Nat, (presM F)[i]? = some m ∧ c = (m : Int) := by
        unfold intsN at hc
        rw [List.getElem?_map] at hc
        cases q : (presM F)[i]? with
        | none => rw [q] at hc; cases hc
        | some m => rw [q] at hc; exact ⟨m, rfl, (Option.some.inj hc).symm⟩
      have hg := (presM_lt (List.mem_of_getElem? hm)).2
      have g : (rowsP F)[i]? = some (rowAt F m) := by rw [List.getElem?_map, hm]; rfl
      refine ⟨rfl, _, rfl, _, rfl, R, _, _, _, rfl, rfl, s2.seq hR1.1, at_of (j := m) rfl (refsO_get hg), _, hC, small _ (by simp [refs]; omega), same_put s2 nC, ?_⟩
      rw [upd_same, take_snoc g]
      unfold refs
      rw [List.map_append]
      rfl
    rintro H2 ⟨s2, hC⟩
    rw [List.take_of_length_le (by simp [intsN])] at hC
    have RLC : RL K H2 C (rowsP F) := ⟨SqL.of hC, fun e me => by
      obtain ⟨i, mi, rfl⟩ := List.mem_map.mp me
      exact (hR1.same s2).rows i mi⟩
    refine ⟨C, rowsP F, rfl, RLC, fun b H3 s3 => kB (.inr (.inr (.inr b))) _ ((s1.trans s2).trans s3), fun nb H3 s3 => ?_⟩
    have sA := (s1.trans s2).trans s3
    have nB : ¬ BadP F data := by
      rintro (q | q | q | q)
      · omega
      · omega
      · omega
      · exact nb q
    refine ⟨_, rfl, D, _, rfl, .inl (SqL.of ((s2.trans s3) _ _ hD)), _, rfl, _, _, rfl, rfl, _, rfl, ?_⟩
    rw [show ((intsN (presM F)).map V.int).length = (presM F).length by simp [intsN]]
    refine ite2 (fun z => kF nB (of_decide_eq_true (p := ((presM F).length : Int) < data) z) _ sA) (fun z => ?_)
    exact ⟨_, rfl, kQ nB (fun q => z (decide_eq_true (show ((presM F).length : Int) < data from q))) D _ sA new ((s2.trans s3) _ _ hD)⟩
theorem sc_sector_at : FnScope ["images", "disk", "row"] ["images", "disk", "row"] (defScope s_sector_at) := ⟨rfl, rfl, rfl, by decide +kernel, rfl, by decide +kernel, by decide +kernel⟩
theorem ok_sector_at (T : Txt K mg a) : FnOk P w K mg base CX0 2 a.f_sector_at a.d_sector_at ["images", "disk", "row"] (sp_sector_at K a) := by
  refine T.F_sector_at.ok sc_sector_at (fun vs H Q E h => ?len) (fun cdv A outer s H vs Q E hr h => ?body)
  case len =>
    exact sp_sector_at_len h
  case body =>
    obtain ⟨X, I, st, d, r, rfl, hI, ls, lr, k⟩ := h
    refine ⟨_, (pss_cons (ps_if (PW.pt (pw_or (pt_not (pt_val (pe_call (ok_is_present T) (hr.mono (by decide)) rfl T.g_is_present T.F_is_present.kp T.d_is_present .nil pass0 (pa_cons (pv 0) (pa_cons (pv 1) pa_nil))))) (pw_or1 (pt_not (pt_chain op_le op_lt pe_int (pv 2) (pe_callB call_len_seq (by rfl) T.n_len PySem.boot_len (pa_cons (pe_ix ix_list (pv 0) (pv 1) (fun _ _ => rfl)) pa_nil)))))))
      (pss_one (ps_ret pe_non))
      pss_nil)
      (pss_one (ps_ret (pe_ix ix_list (pe_ix ix_list (pv 0) (pv 1) (fun _ _ => rfl)) (pv 2) (fun _ _ => rfl))))), ?_⟩
    have hq : SqL K H I ((adrs st).map refI) := by rw [adrs_refI]; exact SqL.of hI.hI
    refine ⟨_, rfl, _, rfl, I, adrs st, d, rfl, hq, by unfold adrs; rw [List.length_map]; exact ls, ?_⟩
    have hp := adrs_pres st d
    cases e : presentM (adrs st) d with
    | false =>
      refine ⟨_, rfl, iteT ?_⟩
      have : secV st d r = .non := by
        unfold secV secS
        cases g : st[d]? with
        | none => rfl
        | some o => cases o with
          | none => rfl
          | some dk =>
            rw [hp.mpr ⟨dk, g⟩] at e
            cases e
      rw [this] at k
      exact k
    | true =>
      obtain ⟨dk, g⟩ := hp.mp e
      have hD := (hI.hD d dk g).1
      refine ⟨_, rfl, iteF ?_⟩
      refine ⟨_, rfl, _, _, rfl, rfl, _, rfl, ite2 (fun _ => ?_) (fun a => absurd (decide_eq_true (show (0 : Int) ≤ (r : Int) by omega)) a)⟩
      refine ⟨_, rfl, _, rfl, I, _, _, _, rfl, rfl, SqL.of hI.hI, at_of (j := d) rfl (dk_get g), dk.A, _, rfl, .inl (SqL.of hD), _, _, rfl, rfl, _, rfl, ?_⟩
      have es : secS st d r = (dk.rows[r]?).join := by unfold secS; rw [g]
      by_cases hr' : r < dk.rows.length
      · rw [decide_eq_true (show (r : Int) < ((dk.rows.map rowV).length : Nat) by rw [List.length_map]; omega)]
        have gr : dk.rows[r]? = some dk.rows[r] := List.getElem?_eq_getElem hr'
        refine iteF ⟨_, rfl, _, rfl, I, _, _, _, rfl, rfl, SqL.of hI.hI, at_of (j := d) rfl (dk_get g), _, rfl, dk.A, _, _, _, rfl, rfl, SqL.of hD, at_of (j := r) rfl (row_get gr), ?_⟩
        unfold secV at k
        rw [es, gr] at k
        exact k
      · rw [decide_eq_false (show ¬ (r : Int) < ((dk.rows.map rowV).length : Nat) by rw [List.length_map]; omega)]
        unfold secV at k
        rw [es, List.getElem?_eq_none (by omega)] at k
        exact iteT k
theorem sc_seal : FnScope ["kind", "disk", "row", "stamp", "payload", "epoch", "serial", "words"] ["kind", "disk", "row", "stamp", "payload"] (defScope s_seal) := ⟨rfl, rfl, rfl, by decide +kernel, rfl, by decide +kernel, by decide +kernel⟩
theorem ok_seal (T : Txt K mg a) : FnOk P w K mg base (L2.CX P w) 2 a.f_seal a.d_seal ["kind", "disk", "row", "stamp", "payload"] (sp_seal K a) := by
  refine T.F_seal.okX sc_seal (fun vs H Q E h => ?len) (fun cdv A outer s H vs Q E hr h => ?body)
  case len =>
    exact sp_seal_len h
  case body =>
    obtain ⟨k, d, r, st, pl, e, s', ws, rfl, hT, hS, hlen, kE, kQ⟩ := h
    refine ⟨_, (pss_cons (ps_asg (pv 3) (pg_tup rfl (pgs_cons (pg_name (i := 5) sc_seal.nd rfl (Or.inl rfl)) (pgs_cons (pg_name (i := 6) sc_seal.nd rfl (Or.inl rfl)) pgs_nil))))
      (pss_cons (ps_if (pt_not (pt_val (pe_call (ok_is_place T) (hr.mono (by decide)) rfl T.g_is_place T.F_is_place.kp T.d_is_place .nil pass0 (pa_cons (pv 0) (pa_cons (pv 1) (pa_cons (pv 2) pa_nil))))))
      (pss_one (ps_raise rfl (takes_of rfl rfl rfl rfl) (pmk_own PySem.F.excBase_ValueError T.x_InvalidArgument T.g_InvalidArgument T.k_InvalidArgument (raises_own T.b_InvalidArgument T.t_InvalidArgument) (by exact rfl))))
      pss_nil)
      (pss_cons (ps_if (PW.pt (pw_or (pt_not (pt_chain op_le op_lt pe_int (pv 5) (pe_const T.g_PRIME))) (pw_or1 (pt_not (pt_chain op_le op_lt pe_int (pv 6) (pe_op op_mul (pe_const T.g_PRIME) (pe_const T.g_PRIME)))))))
      (pss_one (ps_raise rfl (takes_of rfl rfl rfl rfl) (pmk_own PySem.F.excBase_ValueError T.x_InvalidArgument T.g_InvalidArgument T.k_InvalidArgument (raises_own T.b_InvalidArgument T.t_InvalidArgument) (by exact rfl))))
      pss_nil)
      (pss_cons (ps_if (pt_cmpR op_gt (pe_callB call_len_seq (by rfl) T.n_len PySem.boot_len (pa_cons (pv 4) pa_nil)) (pe_const T.g_MAX_PAYLOAD) (nomark _))
      (pss_one (ps_raise rfl (takes_of rfl rfl rfl rfl) (pmk_own PySem.F.excBase_ValueError T.x_InvalidArgument T.g_InvalidArgument T.k_InvalidArgument (raises_own T.b_InvalidArgument T.t_InvalidArgument) (by exact rfl))))
      pss_nil)
      (pss_cons (ps_set (i := 7) sc_seal.nd rfl (Or.inl rfl) (pe_lst (pa_cons (pv 0) (pa_cons (pv 1) (pa_cons (pv 2) (pa_cons (pv 5) (pa_cons (pe_op op_fdiv (pv 6) (pe_const T.g_PRIME)) (pa_cons (pe_op op_mod (pv 6) (pe_const T.g_PRIME)) (StX.pa_star (pv 4) pa_nil)))))))))
      (pss_one (ps_ret (pe_lst (StX.pa_star (pv 7) (StX.pa_star (pe_call (ok_check_words T) (hr.mono (by decide)) rfl T.g_check_words T.F_check_words.kp T.d_check_words .nil pass0 (pa_cons (pv 7) pa_nil)) pa_nil)))))))))), ?_⟩
    refine ⟨_, rfl, st, _, rfl, hT, rfl, _, _, rfl, _, _, rfl, rfl, ?_⟩
    refine ⟨_, rfl, _, rfl, _, rfl, k, d, r, rfl, fun hp => ⟨true, rfl, iteF ?_⟩, fun hn => ⟨false, rfl, iteT (kE (.inl hn) _ (Same.refl _))⟩⟩
    have bad : ¬ Stp e s' → E (.ref a.c_InvalidArgument) none H := fun z => kE (.inr (.inl z)) _ (Same.refl _)
    refine ⟨_, rfl, _, _, rfl, rfl, _, rfl, ite2 (fun a1 => ⟨_, _, rfl, rfl, _, rfl, ite2 (fun z => bad fun y => ?_) (fun z => ?_)⟩) (fun a1 => ⟨_, rfl, iteT (bad fun y => a1 (decide_eq_true y.1.1))⟩)⟩
    · rw [decide_eq_true y.1.2] at z
      cases z
    refine ⟨_, rfl, _, _, rfl, rfl, _, rfl, ite2 (fun b1 => ?_) (fun b1 => ⟨_, rfl, iteT (bad fun y => b1 (decide_eq_true y.2.1))⟩)⟩
    refine ⟨_, _, rfl, rfl, .inl ⟨by decide, by decide⟩, _, _, rfl, rfl, _, rfl, ite2 (fun z => bad fun y => ?_) (fun z2 => ?_)⟩
    · rw [decide_eq_true (show s' < 65521 * 65521 from y.2.2)] at z
      cases z
    have hs : Stp e s' := by
      have a1 := of_decide_eq_true a1
      have b1 := of_decide_eq_true b1
      have a2 : e < 65521 := Classical.byContradiction fun q => z (by rw [decide_eq_false q]; rfl)
      have b2 : s' < 65521 * 65521 := Classical.byContradiction fun q => z2 (by rw [decide_eq_false q]; rfl)
      exact ⟨⟨a1, a2⟩, ⟨b1, b2⟩⟩
    refine ⟨_, rfl, pl, _, rfl, .inl hS, _, _, rfl, rfl, _, rfl, ite2 (fun z => kE (.inr (.inr ?_)) _ (Same.refl _)) (fun z => ?_)⟩
    · have := of_decide_eq_true z
      rw [List.length_map] at this
      omega
    have hl : ws.length ≤ 1000 := Classical.byContradiction fun q => z (decide_eq_true (by rw [List.length_map]; omega))
    have good : ¬ BadSeal k d r e s' ws := by
      rintro (q | q | q)
      · exact q hp
      · exact q hs
      · omega
    refine ⟨_, rfl, _, rfl, _, rfl, _, rfl, _, rfl, _, _, rfl, rfl, ⟨by decide, by decide⟩, _, rfl, _, _, rfl, rfl, (by show (0 : Int) < 65521; decide), ?_⟩
    refine ⟨_, rfl, pl, _, rfl, .inr hS, Nat.le_of_lt (small _ (by simp; omega)), fun q2 n2 => ?_⟩
    have ew : V.int k :: V.int d :: V.int r :: V.int e :: V.int (s' / 65521) :: V.int (s' % 65521) :: (ws.map V.int ++ []) = (hdM k d r e s' ws).map V.int := by unfold hdM; rw [List.map_append, List.append_nil]; rfl
    dsimp only
    rw [ew]
    have dW : upd H q2 (.lst ((hdM k d r e s' ws).map V.int)) q2 = some (.lst ((hdM k d r e s' ws).map V.int)) := upd_same
    have S2 := Same.new (o := .lst ((hdM k d r e s' ws).map V.int)) n2
    have hlW := hdM_length k d r e s' ws
    generalize hG : hdM k d r e s' ws = W at dW hlW S2 ⊢
    generalize upd H q2 (.lst (W.map V.int)) = H2 at dW S2 ⊢
    refine ⟨_, rfl, q2, _, rfl, .inr (SqL.of dW), _, rfl, q2, W, rfl, SqL.of dW, by omega, fun C H3 s3 nC hC => ⟨C, _, rfl, .inl (SqT.of hC), Nat.le_of_lt (small _ (by simp; omega)), fun q4 n4 => ?_⟩⟩
    have n0 : H q4 = none := same_none (S2.trans s3) n4
    refine kQ good q4 _ ((S2.trans s3).trans (Same.new n4)) n0 ?_
    rw [upd_same]
    unfold sealM
    rw [hG, List.map_append]
    rfl
theorem sc_is_whole : FnScope ["sector"] ["sector"] (defScope s_is_whole) := ⟨rfl, rfl, rfl, by decide +kernel, rfl, by decide +kernel, by decide +kernel⟩
theorem ok_is_whole (T : Txt K mg a) : FnOk P w K mg base CX0 2 a.f_is_whole a.d_is_whole ["sector"] (sp_is_whole K a) := by
  refine T.F_is_whole.ok sc_is_whole (fun vs H Q E h => ?len) (fun cdv A outer s H vs Q E hr h => ?body)
  case len =>
    exact sp_is_whole_len h
  case body =>
    obtain ⟨l, ws, rfl, hS, hlen, kT, kF⟩ := h
    have hml : (ws.map V.int).length = ws.length := List.length_map _
    refine ⟨_, (pss_cons (ps_if (pt_not (pt_chain op_le op_le pe_int (pe_op op_sub (pe_op op_sub (pe_callB call_len_seq (by rfl) T.n_len PySem.boot_len (pa_cons (pv 0) pa_nil)) (pe_const T.g_HEADER_WORDS)) (pe_const T.g_CHECK_WORDS)) (pe_const T.g_MAX_PAYLOAD)))
      (pss_one (ps_ret pe_bl))
      pss_nil)
      (pss_cons (ps_if (PW.pt (pw_or (pt_cmpR op_lt (pe_callB (cr_min rfl) (by rfl) T.n_min (by decide +kernel) (pa_cons (pv 0) pa_nil)) pe_int (nomark _)) (pw_or1 (pt_cmpR op_ge (pe_callB (cr_max rfl) (by rfl) T.n_max (by decide +kernel) (pa_cons (pv 0) pa_nil)) (pe_const T.g_PRIME) (nomark _)))))
      (pss_one (ps_ret pe_bl))
      pss_nil)
      (pss_one (ps_ret (pe_cmpR (op_eqD hr.units) (pe_callTy call_tuple_of (by rfl) T.n_tuple (by decide +kernel) (pa_cons (pe_slice sl_list (pv 0) (po_some (pe_un un_neg (pe_const T.g_CHECK_WORDS))) po_none) pa_nil)) (pe_call (ok_check_words T) (hr.mono (by decide)) rfl T.g_check_words T.F_check_words.kp T.d_check_words .nil pass0 (pa_cons (pe_slice sl_list (pv 0) po_none (po_some (pe_un un_neg (pe_const T.g_CHECK_WORDS)))) pa_nil)) (nomark _)))))), ?_⟩
    refine ⟨_, rfl, l, _, rfl, .inl hS, _, _, rfl, rfl, _, _, rfl, rfl, _, _, rfl, rfl, _, rfl, ite2 (fun a1 => ⟨_, _, rfl, rfl, _, rfl, ite2 (fun z => kF (fun g => ?_) _ (Same.refl _)) (fun z => ?_)⟩) (fun a1 => ⟨_, rfl, iteT (kF (fun g => a1 (decide_eq_true ?_)) _ (Same.refl _))⟩)⟩
    · rw [decide_eq_true (show ((ws.map V.int).length : Int) - 6 - 2 ≤ 1000 by have := g.1.2; omega)] at z
      cases z
    rotate_left
    · have := g.1.1
      omega
    have a1 := of_decide_eq_true a1
    have a2 : ((ws.map V.int).length : Int) - 6 - 2 ≤ 1000 := Classical.byContradiction fun q => z (by rw [decide_eq_false q]; rfl)
    have l8 : 8 ≤ ws.length := by omega
    have l9 : ws.length ≤ 1008 := by omega
    refine ⟨_, rfl, l, ws, rfl, hS, by omega, fun m hm hmin => ⟨_, _, rfl, rfl, _, rfl, ite2 (fun z => kF (fun g => ?_) _ (Same.refl _)) (fun z1 => ⟨_, rfl, l, ws, rfl, hS, by omega, fun M hM hmax => ⟨_, _, rfl, rfl, _, rfl, ite2 (fun z => kF (fun g => ?_) _ (Same.refl _)) (fun z2 => ?_)⟩⟩)⟩⟩
    · have := (g.2.1 m hm).1
      have := of_decide_eq_true z
      omega
    · have := (g.2.1 M hM).2
      have := of_decide_eq_true z
      omega
    have wds : ∀ w ∈ ws, Wd w := fun w hw => by
      have x1 := hmin w hw
      have x2 := hmax w hw
      have x3 : ¬ m < 0 := fun q => z1 (decide_eq_true q)
      have x4 : ¬ 65521 ≤ M := fun q => z2 (decide_eq_true q)
      exact ⟨by omega, by omega⟩
    refine ⟨_, rfl, _, rfl, _, rfl, l, _, rfl, hS, fun q1 n1 => ?_⟩
    rw [cut_last (by omega), hml, ← List.map_drop]
    have S1 := Same.new (o := .lst ((ws.drop (ws.length - 2)).map V.int)) n1
    refine ⟨q1, _, rfl, .inl ⟨SqL.of upd_same, fun q2 n2 => ?_⟩⟩
    have S2 := Same.new (o := .tup ((ws.drop (ws.length - 2)).map V.int)) n2
    have dT : upd (upd H q1 (.lst ((ws.drop (ws.length - 2)).map V.int))) q2 (.tup ((ws.drop (ws.length - 2)).map V.int)) q2 = some (.tup ((ws.drop (ws.length - 2)).map V.int)) := upd_same
    refine ⟨_, rfl, _, rfl, _, rfl, l, _, rfl, S2.seq (S1.seq hS), fun q3 n3 => ?_⟩
    rw [cut_but (by omega), hml, ← List.map_take]
    have S3 := Same.new (o := .lst ((ws.take (ws.length - 2)).map V.int)) n3
    refine ⟨q3, _, rfl, SqL.of upd_same, by rw [List.length_take]; omega, fun C H4 s4 nC dC => ?_⟩
    have sA := ((S1.trans S2).trans S3).trans s4
    refine ⟨_, _, dp_tints (SqT.of (s4 _ _ (S3 _ _ dT))), dp_tints (xs := [_, _]) (SqT.of dC), shaped_tints _, shaped_tints _, ?_⟩
    rw [eqv_tints]
    by_cases q : ws.drop (ws.length - 2) = [ck1 (ws.take (ws.length - 2)), ck2 (ws.take (ws.length - 2))]
    · rw [decide_eq_true q]
      exact kT ⟨⟨l8, l9⟩, wds, q⟩ _ sA
    · rw [decide_eq_false q]
      exact kF (fun g => q g.2.2) _ sA
theorem sc_law_word : FnScope ["pot", "kind"] ["pot"] (defScope s_law_word) := ⟨rfl, rfl, rfl, by decide +kernel, rfl, by decide +kernel, by decide +kernel⟩
theorem ok_law_word (T : Txt K mg a) : FnOk P w K mg base CX0 2 a.f_law_word a.d_law_word ["pot"] (sp_law_word K a) := by
  refine T.F_law_word.ok sc_law_word (fun vs H Q E h => ?len) (fun cdv A outer s H vs Q E hr h => ?body)
  case len =>
    exact sp_law_word_len h
  case body =>
    obtain ⟨p, l, rfl, hP, k⟩ := h
    refine ⟨_, (pss_cons (ps_set (i := 1) sc_law_word.nd rfl (Or.inl rfl) (pe_call (ok_law_next T) (hr.mono (by decide)) rfl T.g_law_next T.F_law_next.kp T.d_law_next .nil pass0 (pa_cons (pv 0) (pa_cons pe_int pa_nil))))
      (pss_cons (ps_if (pt_cmpR op_eq (pv 1) pe_int (nomark _))
      (pss_one (ps_ret pe_int))
      pss_nil)
      (pss_cons (ps_if (pt_cmpR op_eq (pv 1) pe_int (nomark _))
      (pss_one (ps_ret (pe_op op_sub pe_int (pe_call (ok_law_next T) (hr.mono (by decide)) rfl T.g_law_next T.F_law_next.kp T.d_law_next .nil pass0 (pa_cons (pv 0) (pa_cons pe_int pa_nil))))))
      pss_nil)
      (pss_cons (ps_if (pt_cmpR op_lt (pv 1) pe_int (nomark _))
      (pss_one (ps_ret (pe_call (ok_law_next T) (hr.mono (by decide)) rfl T.g_law_next T.F_law_next.kp T.d_law_next .nil pass0 (pa_cons (pv 0) (pa_cons pe_int pa_nil)))))
      pss_nil)
      (pss_one (ps_ret (pe_call (ok_law_next T) (hr.mono (by decide)) rfl T.g_law_next T.F_law_next.kp T.d_law_next .nil pass0 (pa_cons (pv 0) (pa_cons pe_int pa_nil))))))))), ?_⟩
    refine ⟨_, rfl, p, l, 8, rfl, hP, by decide, by decide, fun c H1 c0 c1 P1 o1 => ?_⟩
    refine ⟨_, rfl, rfl, _, rfl, ?_⟩
    refine ite2 (fun _ => k _ _ ⟨by decide, by decide⟩ P1 o1) (fun _ => ?_)
    refine ⟨_, rfl, rfl, _, rfl, ?_⟩
    refine ite2 (fun _ => ?_) (fun _ => ?_)
    · exact ⟨_, rfl, p, l, 3, rfl, P1, by decide, by decide, fun v H2 v0 v1 P2 o2 => ⟨_, _, rfl, rfl, k _ _ ⟨by omega, by omega⟩ P2 (o1.trans o2)⟩⟩
    · refine ⟨_, rfl, _, _, rfl, rfl, _, rfl, ?_⟩
      refine ite2 (fun _ => ?_) (fun _ => ?_)
      · exact ⟨_, rfl, p, l, 9, rfl, P1, by decide, by decide, fun v H2 v0 v1 P2 o2 => k _ _ ⟨by omega, by omega⟩ P2 (o1.trans o2)⟩
      · exact ⟨_, rfl, p, l, 65521, rfl, P1, by decide, by decide, fun v H2 v0 v1 P2 o2 => k _ _ ⟨by omega, by omega⟩ P2 (o1.trans o2)⟩
theorem sc_law_factors : FnScope ["places", "x", "found", "i", "above", "below", "j"] ["places", "x"] (defScope s_law_factors) := ⟨rfl, rfl, rfl, by decide +kernel, rfl, by decide +kernel, by decide +kernel⟩
theorem ok_law_factors (T : Txt K mg a) : FnOk P w K mg base CX0 2 a.f_law_factors a.d_law_factors ["places", "x"] (sp_law_factors K a) := by
  refine T.F_law_factors.ok sc_law_factors (fun vs H Q E h => ?len) (fun cdv A outer s H vs Q E hr h => ?body)
  case len =>
    exact sp_law_factors_len h
  case body =>
    obtain ⟨L, d, x, rfl, hL, hd, k⟩ := h
    refine ⟨_, (pss_cons (ps_set (i := 2) sc_law_factors.nd rfl (Or.inl rfl) (pe_lst pa_nil))
      (pss_cons (ps_for PassesOwn.never rfl (pi_range1 (by rfl) T.n_range (pa_cons (pe_callB call_len_seq (by rfl) T.n_len PySem.boot_len (pa_cons (pv 0) pa_nil)) pa_nil)) (pg_name (i := 3) sc_law_factors.nd rfl (Or.inl rfl))
      (pss_cons (ps_set (i := 4) sc_law_factors.nd rfl (Or.inl rfl) pe_int)
      (pss_cons (ps_set (i := 5) sc_law_factors.nd rfl (Or.inl rfl) pe_int)
      (pss_cons (ps_for PassesOwn.never rfl (pi_range1 (by rfl) T.n_range (pa_cons (pe_callB call_len_seq (by rfl) T.n_len PySem.boot_len (pa_cons (pv 0) pa_nil)) pa_nil)) (pg_name (i := 6) sc_law_factors.nd rfl (Or.inl rfl))
      (pss_one (ps_if (pt_cmpR op_ne (pv 3) (pv 6) (nomark _))
      (pss_cons (ps_set (i := 4) sc_law_factors.nd rfl (Or.inl rfl) (pe_op op_mod (pe_callTy call_int1 (by rfl) T.n_int (by decide +kernel) (pa_cons (pe_op op_mul (pv 4) (pe_op op_sub (pv 1) (pe_ix ix_list (pv 0) (pv 6) (fun _ _ => rfl)))) pa_nil)) pe_int))
      (pss_one (ps_set (i := 5) sc_law_factors.nd rfl (Or.inl rfl) (pe_op op_mod (pe_callTy call_int1 (by rfl) T.n_int (by decide +kernel) (pa_cons (pe_op op_mul (pv 5) (pe_op op_sub (pe_ix ix_list (pv 0) (pv 3) (fun _ _ => rfl)) (pe_ix ix_list (pv 0) (pv 6) (fun _ _ => rfl)))) pa_nil)) pe_int))))
      pss_nil)))
      (pss_one (ps_expr (pe_bm PySem.F.plainAttrs_list PySem.F.slot_list_append PySem.F.type_list_append mt_append (pv 2) (pa_cons (pe_op op_mod (pe_callTy call_int1 (by rfl) T.n_int (by decide +kernel) (pa_cons (pe_op op_mul (pv 4) (pe_call (ok_law_inverse T) (hr.mono (by decide)) rfl T.g_law_inverse T.F_law_inverse.kp T.d_law_inverse .nil pass0 (pa_cons (pv 5) pa_nil))) pa_nil)) pe_int) pa_nil))))))))
      (pss_one (ps_ret (pv 2))))), ?_⟩
    refine ⟨Nat.zero_le _, fun D nD => ?_⟩
    have sD := Same.new (o := .lst []) nD
    refine ⟨_, rfl, L, _, rfl, .inl (sD.seq hL), _, rfl, by omega, by rw [List.length_map, upto_len]; omega, ?_⟩
    rw [List.length_map, upto_len, Int.toNat_natCast]
    refine for_range (lo := 0) (n := d) (fun i σ H' => ∃ (v3 v4 v5 v6 : Option V), σ = [some (.ref L), some (.int x), some (.ref D), v3, v4, v5, v6] ∧ Same H H' ∧ H' D = some (.lst (((facM d x).take i).map V.int))) ⟨none, none, none, none, rfl, sD, upd_same⟩ ?_ ?_
    · rintro i σ H' hi ⟨v3, v4, v5, v6, rfl, s1, dD⟩
      refine ⟨_, rfl, L, _, rfl, .inl (s1.seq hL), _, rfl, by omega, by rw [List.length_map, upto_len]; omega, ?_⟩
      rw [List.length_map, upto_len, Int.toNat_natCast]
      have gi : ∀ m, m < d → (upto d)[m]? = some (m : Int) := fun m hm => by simp [upto, hm]
      refine for_range (lo := 0) (n := d) (fun j σ H2 => ∃ (v6 : Option V), σ = [some (.ref L), some (.int x), some (.ref D), some (.int (0 + (i : Nat))), some (.int (facA i x j)), some (.int (facA i (i : Int) j)), v6] ∧ H2 = H') ⟨v6, rfl, rfl⟩ ?_ ?_
      · rintro j σ H2 hj ⟨v6, rfl, rfl⟩
        have gj := gi j hj
        have ga := facA_word i x j
        have gb := facA_word i (i : Int) j
        refine ⟨_, rfl, _, rfl, rfl, _, rfl, ite2 (fun q => ?_) (fun q => ?_)⟩
        · have ne : i ≠ j := fun z => by
            subst z
            simp at q
          refine ⟨_, rfl, _, rfl, _, rfl, _, rfl, L, _, _, _, rfl, rfl, s1.seq hL, at_of (j := j) (by omega) (by rw [List.getElem?_map, gj]; rfl), _, _, rfl, rfl, _, _, rfl, rfl, .inl ⟨by omega, by omega⟩, .inl ⟨_, rfl, _, _, rfl, rfl, (by show (0 : Int) < 65521; decide), ?_⟩⟩
          refine ⟨_, rfl, _, rfl, _, rfl, L, _, _, _, rfl, rfl, s1.seq hL, at_of (j := i) (by omega) (by rw [List.getElem?_map, gi i hi]; rfl), _, rfl, _, rfl, L, _, _, _, rfl, rfl, s1.seq hL, at_of (j := j) (by omega) (by rw [List.getElem?_map, gj]; rfl), _, _, rfl, rfl, _, _, rfl, rfl, .inl ⟨by omega, by omega⟩, .inl ⟨_, rfl, _, _, rfl, rfl, (by show (0 : Int) < 65521; decide), ?_⟩⟩
          refine ⟨some (.int (0 + (j : Nat))), ?_, rfl⟩
          rw [facA_succ, facA_succ, if_neg ne, if_neg ne]
          rw [show (0 : Int) + (j : Nat) = (j : Int) by omega]
          rfl
        · have ne : i = j := by
            refine Classical.byContradiction fun z => q ?_
            simp
            omega
          refine ⟨some (.int (0 + (j : Nat))), ?_, rfl⟩
          rw [facA_succ, facA_succ, if_pos ne, if_pos ne]
          rfl
      · rintro σ H2 ⟨v6, rfl, rfl⟩
        refine ⟨_, rfl, .inl ⟨rfl, _, SqL.of dD⟩, _, rfl, _, rfl, facA i (i : Int) d, rfl, fun H3 s3 => ?_⟩
        have g1 := facA_word i x d
        have g2 : 0 ≤ powM (facA i (i : Int) d) ∧ powM (facA i (i : Int) d) < 65521 := powF_word _ _
        have dD3 := s3 _ _ dD
        have hk : (facM d x)[i]? = some (facA i x d * powM (facA i (i : Int) d) % 65521) := by
          unfold facM
          rw [List.getElem?_map, List.getElem?_range hi]
          rfl
        refine ⟨_, _, rfl, rfl, .inl ⟨by omega, by omega⟩, .inl ⟨_, rfl, _, _, rfl, rfl, (by show (0 : Int) < 65521; decide), ?_⟩⟩
        refine ⟨D, _, _, rfl, rfl, dD3, small _ (by simp; omega), _, _, _, _, rfl, same_put (s1.trans s3) nD, ?_⟩
        rw [upd_same, take_snoc hk, List.map_append]
        rfl
    rintro σ H' ⟨v3, v4, v5, v6, rfl, s1, dD⟩
    rw [List.take_of_length_le (by rw [facM_len]; exact Nat.le_refl _)] at dD
    exact ⟨_, rfl, k D H' s1 nD dD⟩
theorem sc_law_places : FnScope ["pot", "count", "rows", "disks", "places", "k", "disk"] ["pot", "count", "rows"] (defScope s_law_places) := ⟨rfl, rfl, rfl, by decide +kernel, rfl, by decide +kernel, by decide +kernel⟩
theorem ok_law_places (T : Txt K mg a) : FnOk P w K mg base CX0 2 a.f_law_places a.d_law_places ["pot", "count", "rows"] (sp_law_places K a) := by
  refine T.F_law_places.ok sc_law_places (fun vs H Q E h => ?len) (fun cdv A outer s H vs Q E hr h => ?body)
  case len =>
    exact sp_law_places_len h
  case body =>
    obtain ⟨p, l, c, m, rfl, hP, hc, m0, m1, k⟩ := h
    refine ⟨_, (pss_cons (ps_setLc (i := 3) (own := [("k", 5)]) (g := (gName 5)) (by rfl) sc_law_places.nd rfl rfl (sw_true rfl rfl rfl (by decide +kernel)) (pi_range1 (by rfl) T.n_range (pa_cons pe_int pa_nil)) (blkOk_by (own := [("k", 5)]) (N := ["pot", "count", "rows", "disks", "places", "k", "disk"]) (sc := defScope s_law_places) (by decide +kernel))
      (fun _ _ _ _ _ => (pg_name (i := 5) sc_law_places.nd rfl (Or.inl rfl))) (fun _ _ _ _ _ => pts_nil) (fun _ _ _ _ _ => (pv 5)))
      (pss_cons (ps_set (i := 4) sc_law_places.nd rfl (Or.inl rfl) (pe_lst pa_nil))
      (pss_cons (ps_for PassesOwn.never rfl (pi_range1 (by rfl) T.n_range (pa_cons (pv 1) pa_nil)) (pg_name (i := 5) sc_law_places.nd rfl (Or.inl rfl))
      (pss_cons (ps_set (i := 6) sc_law_places.nd rfl (Or.inl rfl) (pe_bm PySem.F.plainAttrs_list PySem.F.slot_list_pop PySem.F.type_list_pop mt_popAt (pv 3) (pa_cons (pe_call (ok_law_next T) (hr.mono (by decide)) rfl T.g_law_next T.F_law_next.kp T.d_law_next .nil pass0 (pa_cons (pv 0) (pa_cons (pe_callB call_len_seq (by rfl) T.n_len PySem.boot_len (pa_cons (pv 3) pa_nil)) pa_nil))) pa_nil)))
      (pss_one (ps_expr (pe_bm PySem.F.plainAttrs_list PySem.F.slot_list_append PySem.F.type_list_append mt_append (pv 4) (pa_cons (pe_tup (pa_cons (pv 6) (pa_cons (pe_call (ok_law_next T) (hr.mono (by decide)) rfl T.g_law_next T.F_law_next.kp T.d_law_next .nil pass0 (pa_cons (pv 0) (pa_cons (pv 2) pa_nil))) pa_nil))) pa_nil))))))
      (pss_one (ps_ret (pv 4)))))), ?_⟩
    refine ⟨8, rfl, by decide, by decide, fun D nD => lc_it walk_range (fun i H' => Same H H' ∧ H' D = some (.lst ((upto i).map V.int))) ⟨Same.new nD, upd_same⟩ (fun _ _ _ _ => True.intro) ?_ ?_⟩
    · rintro i y H1 H2 hi ⟨s1, hD⟩ ⟨rfl, rfl⟩
      refine ⟨rfl, _, rfl, _, hD, small _ (by rw [List.length_map, upto_len]; omega), same_put s1 nD, ?_⟩
      rw [upd_same]
      unfold upto
      rw [List.range_succ, List.map_append, List.map_append]
      simp
    rintro H1 ⟨s1, hD⟩
    refine ⟨Nat.zero_le _, fun R nR => ?_⟩
    have s2 := s1.trans (Same.new (o := .lst []) nR)
    have P2 := hP.same s2
    have hD2 : upd H1 R (.lst []) D = some (.lst ((upto 8).map V.int)) := Same.new nR _ _ hD
    have nR0 : H R = none := same_none s1 nR
    have nDR : D ≠ R := ne_of_none hD nR
    have offD := hP.off nD
    have offR := hP.off nR0
    refine ⟨_, rfl, _, rfl, by omega, by omega, ?_⟩
    rw [Int.toNat_natCast]
    refine for_range (lo := 0) (n := c) (fun i σ H' => ∃ (v5 v6 : Option V) (ds : List Int) (L : List (Addr × Int × Int)), σ = [some (.ref p), some (.int (c : Int)), some (.int m), some (.ref D), some (.ref R), v5, v6] ∧ But p H H' ∧ Pot H' p l ∧ H' D = some (.lst (ds.map V.int)) ∧ PtsO H' R L ∧ L.length = i ∧ ds.length + i = 8 ∧
        (∀ e ∈ L, (0 ≤ e.2.1 ∧ e.2.1 < 8) ∧ (0 ≤ e.2.2 ∧ e.2.2 < m)) ∧ (∀ x ∈ ds, 0 ≤ x ∧ x < 8) ∧ (ds ++ L.map fun e => e.2.1).Nodup) ⟨none, none, upto 8, [], rfl, s2.but, P2, hD2, ⟨upd_same, fun _ m => nomatch m⟩, rfl, by rw [upto_len], fun _ m => (nomatch m), by decide, by decide⟩ ?_ ?_
    · rintro i σ H2 hi ⟨v5, v6, ds, L, rfl, b2, P2, hD2, LL, lL, ld, rL, rd, nd⟩
      have hD0 : 0 < ds.length := by omega
      have offR2 := P2.noList LL.1
      refine ⟨_, rfl, .inl ⟨rfl, _, SqL.of hD2⟩, _, rfl, _, rfl, D, _, rfl, .inl (SqL.of hD2), p, l, (ds.length : Int), by rw [List.length_map]; rfl, P2, by omega, by omega, fun v H3 v0 v1 P3 o3 => ?_⟩
      obtain ⟨vn, rfl⟩ : ∃ n : Nat, v = (n : Int) := ⟨v.toNat, by omega⟩
      have hv : vn < ds.length := by omega
      have hx : ds[vn]? = some ds[vn] := List.getElem?_eq_getElem hv
      have hD3 : H3 D = some (.lst (ds.map V.int)) := by rw [o3 _ offD.1.symm]; exact hD2
      have LL3 := LL.but P2 offR.1.symm o3.but
      refine ⟨D, _, _, vn, _, rfl, rfl, hD3, by omega, by omega, seqIx_nat (by rw [List.length_map]; omega), by rw [List.getElem?_map, hx]; rfl, ?_⟩
      have er : (ds.map V.int).eraseIdx vn = (ds.eraseIdx vn).map V.int := erase_map _ _ _
      rw [er]
      have offR4 : D ≠ p := offD.1.symm
      have P4 : Pot (upd H3 D (.lst ((ds.eraseIdx vn).map V.int))) p l := P3.only Only.upd offD.1 offD.2
      have LL4 : PtsO (upd H3 D (.lst ((ds.eraseIdx vn).map V.int))) R L := ⟨by rw [upd_ne nDR.symm]; exact LL3.1, fun e m => by
        rw [upd_ne (ne_of (LL3.2 e m) hD3 (by intro q; cases q))]
        exact LL3.2 e m⟩
      have b4 : But p H (upd H3 D (.lst ((ds.eraseIdx vn).map V.int))) := fun b o e nb => by
        rw [upd_ne (ne_of_none e nD)]
        exact o3.but _ _ (b2 b o e nb) nb
      have hD4 : upd H3 D (.lst ((ds.eraseIdx vn).map V.int)) D = some (.lst ((ds.eraseIdx vn).map V.int)) := upd_same
      generalize upd H3 D (.lst ((ds.eraseIdx vn).map V.int)) = H4 at P4 LL4 b4 hD4 ⊢
      refine ⟨_, rfl, .inl ⟨rfl, _, SqL.of LL4.1⟩, _, rfl, _, rfl, _, rfl, p, l, m, rfl, P4, m0, by omega, fun r H5 r0 r1 P5 o5 => ⟨by show 2 ≤ sizeLine; decide, fun t nt => ?_⟩⟩
      have LL5 := (LL4.but P4 offR.1.symm o5.but).same (Same.new (o := .tup [V.int ds[vn], V.int r]) nt)
      have P6 := P5.new (o := .tup [V.int ds[vn], V.int r]) nt
      have hD6 := Same.new (o := .tup [V.int ds[vn], V.int r]) nt _ _ (show H5 D = some (.lst ((ds.eraseIdx vn).map V.int)) by rw [o5 _ offD.1.symm]; exact hD4)
      have b6 := (b4.trans o5.but).new (o := .tup [V.int ds[vn], V.int r]) nt
      have dt : upd H5 t (.tup [V.int ds[vn], V.int r]) t = some (.tup [.int ds[vn], .int r]) := upd_same
      generalize upd H5 t (.tup [V.int ds[vn], V.int r]) = H6 at LL5 P6 hD6 b6 dt ⊢
      have ntR : t ≠ R := (ne_of dt LL5.1 (by intro q; cases q))
      refine ⟨R, _, _, rfl, rfl, LL5.1, small _ (by rw [List.length_map]; omega), ?_⟩
      have el : (L.map fun e => V.ref e.1) ++ [V.ref t] = (L ++ [(t, ds[vn], r)]).map fun e => V.ref e.1 := by rw [List.map_append]; rfl
      rw [el]
      have mem : ∀ e ∈ L ++ [(t, ds[vn], r)], e ∈ L ∨ e = (t, ds[vn], r) := fun e m => by simpa using m
      have pm : (ds.eraseIdx vn ++ (L ++ [(t, ds[vn], r)]).map fun e => e.2.1).Perm (ds ++ L.map fun e => e.2.1) := by
        rw [List.map_append, ← List.append_assoc]
        refine (List.perm_append_singleton _ _).trans ?_
        exact List.Perm.append_right _ (erase_perm ds vn hv)
      refine ⟨_, _, ds.eraseIdx vn, L ++ [(t, ds[vn], r)], rfl, fun b o e nb => ?_, P6.only Only.upd offR.1 offR.2, ?_, ⟨upd_same, fun e m => ?_⟩, by simp [lL], ?_, fun e m => ?_, fun x m => rd x (List.mem_of_mem_eraseIdx m), pm.nodup_iff.mpr nd⟩
      · rw [upd_ne (ne_of_none e nR0)]
        exact b6 b o e nb
      · rw [upd_ne nDR]
        exact hD6
      · rcases mem e m with m | rfl
        · rw [upd_ne (ne_of (LL5.2 e m) LL5.1 (by intro q; cases q))]
          exact LL5.2 e m
        · rw [upd_ne ntR]
          exact dt
      · rw [List.length_eraseIdx, if_pos hv]
        omega
      · rcases mem e m with m | rfl
        · exact rL e m
        · exact ⟨rd _ (List.mem_of_getElem? hx), r0, r1⟩
    rintro σ H2 ⟨v5, v6, ds, L, rfl, b2, P2, hD2, LL, lL, ld, rL, rd, nd⟩
    refine ⟨_, rfl, k R L H2 b2 P2 nR0 LL lL rL ?_⟩
    exact (List.nodup_append.mp nd).2.1
theorem sc_law_spoil : FnScope ["pot", "images", "place", "stamp", "disk", "row", "sector", "kind", "at"] ["pot", "images", "place", "stamp"] (defScope s_law_spoil) := ⟨rfl, rfl, rfl, by decide +kernel, rfl, by decide +kernel, by decide +kernel⟩
theorem ok_law_spoil (T : Txt K mg a) : FnOk P w K mg base CX0 2 a.f_law_spoil a.d_law_spoil ["pot", "images", "place", "stamp"] (sp_law_spoil K a) := by
  refine T.F_law_spoil.ok sc_law_spoil (fun vs H Q E h => ?len) (fun cdv A outer s H vs Q E hr h => ?body)
  case len =>
    exact sp_law_spoil_len h
  case body =>
    obtain ⟨X, p, l, I, Pa, Sa, sc0, st, dk, d, r, e, s, ws, rfl, P0, Xp, hx, hI, ls, r64, hPa, hSa, hs, s9, d8, r8, hw, lw, hsc, esc, gd, k⟩ := h
    refine ⟨_, (pss_cons (ps_asg (pv 2) (pg_tup rfl (pgs_cons (pg_name (i := 4) sc_law_spoil.nd rfl (Or.inl rfl)) (pgs_cons (pg_name (i := 5) sc_law_spoil.nd rfl (Or.inl rfl)) pgs_nil))))
      (pss_cons (ps_set (i := 6) sc_law_spoil.nd rfl (Or.inl rfl) (pe_ix ix_list (pe_ix ix_list (pv 1) (pv 4) (fun _ _ => rfl)) (pv 5) (fun _ _ => rfl)))
      (pss_cons (ps_set (i := 7) sc_law_spoil.nd rfl (Or.inl rfl) (pe_call (ok_law_next T) (hr.mono (by decide)) rfl T.g_law_next T.F_law_next.kp T.d_law_next .nil pass0 (pa_cons (pv 0) (pa_cons pe_int pa_nil))))
      (pss_one (ps_if (pt_cmpR op_eq (pv 7) pe_int (nomark _))
      (pss_one (ps_asg pe_non (pg_sub (pv 1) (pv 4) set_list)))
      (pss_one (ps_if (pt_cmpR op_eq (pv 7) pe_int (nomark _))
      (pss_one (ps_asg pe_non (pg_sub (pe_ix ix_list (pv 1) (pv 4) (fun _ _ => rfl)) (pv 5) set_list)))
      (pss_one (ps_if (pt_cmpR op_eq (pv 7) pe_int (nomark _))
      (pss_cons (ps_set (i := 8) sc_law_spoil.nd rfl (Or.inl rfl) (pe_call (ok_law_next T) (hr.mono (by decide)) rfl T.g_law_next T.F_law_next.kp T.d_law_next .nil pass0 (pa_cons (pv 0) (pa_cons (pe_callB call_len_seq (by rfl) T.n_len PySem.boot_len (pa_cons (pv 6) pa_nil)) pa_nil))))
      (pss_one (ps_asg (pe_op op_cat (pe_op op_cat (pe_slice sl_list (pv 6) po_none (po_some (pv 8))) (pe_lst (pa_cons (pe_op op_mod (pe_callTy call_int1 (by rfl) T.n_int (by decide +kernel) (pa_cons (pe_op op_add (pe_op op_add (pe_ix ix_list (pv 6) (pv 8) (fun _ _ => rfl)) pe_int) (pe_call (ok_law_next T) (hr.mono (by decide)) rfl T.g_law_next T.F_law_next.kp T.d_law_next .nil pass0 (pa_cons (pv 0) (pa_cons pe_int pa_nil)))) pa_nil)) pe_int) pa_nil))) (pe_slice sl_list (pv 6) (po_some (pe_op op_add (pv 8) pe_int)) po_none)) (pg_sub (pe_ix ix_list (pv 1) (pv 4) (fun _ _ => rfl)) (pv 5) set_list))))
      (pss_one (ps_asg (pe_call (ok_law_seal T) (hr.mono (by decide)) rfl T.g_law_seal T.F_law_seal.kp T.d_law_seal .nil pass0 (pa_cons pe_int (pa_cons (pv 4) (pa_cons (pv 5) (pa_cons (pe_tup (pa_cons (pe_ix ix_tup (pv 3) pe_int (fun _ _ => rfl)) (pa_cons (pe_op op_add (pe_ix ix_tup (pv 3) pe_int (fun _ _ => rfl)) pe_int) pa_nil))) (pa_cons (pe_slice sl_list (pv 6) (po_some pe_int) (po_some (pe_op op_sub (pe_callB call_len_seq (by rfl) T.n_len PySem.boot_len (pa_cons (pv 6) pa_nil)) pe_int))) pa_nil)))))) (pg_sub (pe_ix ix_list (pv 1) (pv 4) (fun _ _ => rfl)) (pv 5) set_list)))))))))))), ?_⟩
    obtain ⟨_, _, _, hp0⟩ := P0.list
    have tp : ∀ {q xs}, H q = some (.tup xs) → q ≠ p := fun h => ne_of h hp0 (by intro z; cases z)
    obtain ⟨S, hS⟩ : ∃ S, S = sealM 3 (d : Int) (r : Int) e s ws := ⟨_, rfl⟩
    have lS : S.length = ws.length + 8 := by rw [hS, sealM_length]
    have gS : Good S 3 (d : Int) (r : Int) := by rw [hS]; exact seal_good ⟨by decide, by omega, by omega⟩ hs hw (by omega)
    have pS : payM S = ws := by rw [hS, seal_pay]
    have il := item_lt gd
    have rr : r < dk.rows.length := by rw [r64 d dk gd]; exact r8
    have hD := hI.hD d dk gd
    obtain ⟨dk', gd', hrow⟩ := sec_some hsc
    rw [gd] at gd'
    cases gd'
    have hR := hI.hR d dk r sc0 gd hrow
    obtain ⟨Sc, S'⟩ := sc0
    dsimp only at esc hR
    rw [esc, ← hS] at hR
    have hSc := hR.1
    refine ⟨_, rfl, Pa, _, rfl, SqT.of hPa, rfl, _, _, rfl, _, _, rfl, rfl, ?_⟩
    refine ⟨_, rfl, _, rfl, I, _, _, _, rfl, rfl, SqL.of hI.hI, at_of (j := d) rfl (dk_get gd), _, rfl, dk.A, _, _, _, rfl, rfl, SqL.of hD.1, at_of (j := r) rfl (row_get hrow), ?_⟩
    refine ⟨_, rfl, p, l, 4, rfl, P0, by decide, by decide, fun kd H2 kd0 kd1 P2 o1 => ?_⟩
    have b2 : But p H H2 := o1.but
    have hSa2 := o1.but _ _ hSa (tp hSa)
    have hSc2 : H2 Sc = some (.lst (S.map V.int)) := o1.but _ _ hSc (P0.noList hSc fun _ _ _ => ints_pot)
    have hI2 := hI.draw o1.but Xp
    -- what follows a store in the row
    have fin : ∀ {H0 : Hp}, But p H H0 → Pot H0 p l → ∀ o : Option (Addr × List Int), (∀ sc, o = some sc → H sc.1 = none ∧ H0 sc.1 = some (.lst (sc.2.map V.int)) ∧ sc.2.length ≤ ws.length + 9 ∧ (∀ w ∈ sc.2, Wd w) ∧ ¬ (Good sc.2 3 (d : Int) (r : Int) ∧ stampM sc.2 = (e, s) ∧ (payM sc.2).length = ws.length)) → Q .non (upd H0 dk.A (.lst ((dk.rows.map rowV).set r (rowV o)))) := fun {H0} b0 P0' o ho => by
      rw [map_set_row]
      have hI0 := hI.draw b0 Xp
      have hD0 := hI0.hD d dk gd
      have lA : l ≠ dk.A := by
        obtain ⟨_, _, _, _, _, z2, _⟩ := id P0
        exact fun z => (hI.ints r64 (by decide) (by have := item_lt gd; omega) z2).1 ⟨d, dk, gd, z⟩
      have im := hI0.put gd (r := r) (o := o) fun sc z => by
        obtain ⟨h1, h2, h3, _⟩ := ho sc z
        refine ⟨h2, fun y => ?_, by omega⟩
        rcases y with y | y | ⟨i, dk', g, y⟩
        · exact hx _ h1 y
        · rw [y, hI.hI] at h1; cases h1
        · rw [y, (hI.hD i dk' g).1] at h1; cases h1
      refine k _ _ (P0'.only Only.upd (fun z => hD.2.2 (by rw [← z]; exact Xp)) lA) im (putS_len _ _ _ _) (putS_rows r64) (fun i n => by rw [putS_get, if_neg n]) (fun dk' z => ?_) (fun rr' sc z => ?_) (fun sc z => ?_) fun b ob eb n1 n2 n3 => by rw [upd_ne n3]; exact b0 b ob eb n1
      · obtain ⟨dk0, z1, z2, _⟩ := putS_some z
        rw [gd] at z1
        cases z1
        exact z2
      · by_cases y : rr' = r
        · subst y
          rw [putS_sec gd rr] at z
          exact .inr ⟨(ho sc z).2.2.2.1, (ho sc z).2.2.1⟩
        · rw [putS_sec_ne (.inr fun w => y w.symm)] at z
          exact .inl z
      · rw [putS_sec gd rr] at z
        exact (ho sc z).2.2.2.2
    have old : ∀ {H0 : Hp} {q : Addr}, But p H H0 → Pot H0 p l → H0 q = none → H q = none := fun {H0 q} b0 P0' h => by
      cases z : H q with
      | none => rfl
      | some ob =>
        by_cases y : q = p
        · obtain ⟨_, _, _, hp2⟩ := P0'.list
          rw [y, hp2] at h; cases h
        · rw [b0 _ _ z y] at h; cases h
    -- kind 0
    refine ⟨_, rfl, rfl, _, rfl, ite2 (fun c => ?_) (fun c => ?_)⟩
    · refine ⟨_, rfl, _, rfl, I, _, _, d, rfl, rfl, hI2.hI, by rw [List.length_map]; exact ixN_nat il, ?_⟩
      have e0 : (st.map dkV).set d V.non = (st.set d none).map dkV := set_dk st d none
      rw [e0]
      have lI : l ≠ I := by
        obtain ⟨_, _, _, _, _, z2, _⟩ := id P0
        exact (hI.ints r64 (by decide) (by have := item_lt gd; omega) z2).2
      refine k _ _ (P2.only Only.upd (fun z => hI.ip (by rw [← z]; exact Xp)) lI) (hI2.drop d) (by rw [List.length_set]) (fun i x z => ?_) (fun i n => by rw [List.getElem?_set, if_neg (fun y => n y.symm)]) (fun dk' z => absurd ⟨dk', z⟩ setS_gone) (fun rr' sc z => absurd (by obtain ⟨x, z, _⟩ := sec_some z; exact ⟨x, z⟩) setS_gone) (fun sc z => ?_) fun b ob eb n1 n2 n3 => by rw [upd_ne n2]; exact b2 b ob eb n1
      · rcases setS_some z with ⟨_, z⟩ | ⟨_, z⟩
        · cases z
        · exact r64 i x z
      · obtain ⟨x, z, _⟩ := sec_some z
        exact absurd ⟨x, z⟩ setS_gone
    clear c
    -- kind 1
    refine ⟨_, rfl, rfl, _, rfl, ite2 (fun c => ?_) (fun c => ?_)⟩
    · refine ⟨_, rfl, _, rfl, I, _, _, _, rfl, rfl, SqL.of hI2.hI, at_of (j := d) rfl (dk_get gd), _, rfl, dk.A, _, _, r, rfl, rfl, (hI2.hD d dk gd).1, by rw [List.length_map]; exact ixN_nat rr, ?_⟩
      exact fin b2 P2 none fun sc z => nomatch z
    clear c
    -- kind 2
    refine ⟨_, rfl, rfl, _, rfl, ite2 (fun c => ?_) (fun c => ?_)⟩
    · refine ⟨_, rfl, _, rfl, Sc, _, rfl, .inl (SqL.of hSc2), p, l, _, rfl, P2, by rw [List.length_map]; omega, by rw [List.length_map]; omega, fun j H3 j0 j1 P3 o3 => ?_⟩
      rw [List.length_map] at j1
      obtain ⟨at', rfl⟩ : ∃ n : Nat, j = (n : Int) := ⟨j.toNat, by omega⟩
      have hat : at' < S.length := by omega
      have hSc3 : H3 Sc = some (.lst (S.map V.int)) := o3.but _ _ hSc2 (P2.noList hSc2 fun _ _ _ => ints_pot)
      obtain ⟨w0, hw0⟩ : ∃ w0, S[at']? = some w0 := ⟨_, List.getElem?_eq_getElem hat⟩
      have gw : (S.map V.int)[at']? = some (.int w0) := by rw [List.getElem?_map, hw0]; rfl
      have ww : Wd w0 := gS.2.2.2.1 w0 (List.mem_of_getElem? hw0)
      refine ⟨_, rfl, _, rfl, _, rfl, Sc, _, rfl, SqL.of hSc3, fun q1 n1 => ?_⟩
      have x4 := Same.new (o := .lst (cutV (S.map V.int) none (some (at' : Int)))) n1
      have d4 : upd H3 q1 (.lst (cutV (S.map V.int) none (some (at' : Int)))) q1 = some (.lst (cutV (S.map V.int) none (some (at' : Int)))) := upd_same
      have q1p : q1 ≠ p := (P3.off n1).1.symm
      generalize upd H3 q1 (.lst (cutV (S.map V.int) none (some (at' : Int)))) = H4 at x4 d4 ⊢
      have P4 := P3.same x4
      have hSc4 := x4 _ _ hSc3
      refine ⟨_, rfl, _, rfl, Sc, _, _, _, rfl, rfl, SqL.of hSc4, at_of (j := at') rfl gw, _, _, rfl, rfl, _, rfl, p, l, 65520, rfl, P4, by decide, by decide, fun u H5 u0 u1 P5 o5 => ⟨_, _, rfl, rfl, .inl ⟨_, rfl, _, _, rfl, rfl, (by show (0 : Int) < 65521; decide), by show 1 ≤ sizeLine; decide, fun q2 n2 => ?_⟩⟩⟩
      obtain ⟨v, hv⟩ : ∃ v : Int, v = (w0 + 1 + u) % 65521 := ⟨_, rfl⟩
      have d5 := o5.but _ _ d4 q1p
      have hSc5 : H5 Sc = some (.lst (S.map V.int)) := o5.but _ _ hSc4 (P4.noList hSc4 fun _ _ _ => ints_pot)
      have x6 := Same.new (o := .lst [V.int v]) n2
      have d6 : upd H5 q2 (.lst [V.int v]) q2 = some (.lst [V.int v]) := upd_same
      show rCat (V.ref q1) (V.ref q2) (upd H5 q2 (.lst [V.int ((w0 + 1 + u) % 65521)])) _
      rw [← hv]
      generalize upd H5 q2 (.lst [V.int v]) = H6 at x6 d6 ⊢
      have c1 : (cutV (S.map V.int) none (some (at' : Int))).length ≤ 200 := by rw [cut_take, List.length_take, List.length_map]; omega
      refine ⟨q1, q2, _, _, rfl, rfl, x6 _ _ d5, d6, Nat.le_of_lt (small _ (by show _ + 1 ≤ _; omega)), fun q3 n3 => ?_⟩
      have x7 := Same.new (o := .lst (cutV (S.map V.int) none (some (at' : Int)) ++ [V.int v])) n3
      have d7 : upd H6 q3 (.lst (cutV (S.map V.int) none (some (at' : Int)) ++ [V.int v])) q3 = some (.lst (cutV (S.map V.int) none (some (at' : Int)) ++ [V.int v])) := upd_same
      generalize upd H6 q3 (.lst (cutV (S.map V.int) none (some (at' : Int)) ++ [V.int v])) = H7 at x7 d7 ⊢
      have hSc7 := x7 _ _ (x6 _ _ hSc5)
      refine ⟨_, rfl, _, rfl, _, _, rfl, rfl, _, rfl, Sc, _, rfl, SqL.of hSc7, fun q4 n4 => ?_⟩
      have c2 : (cutV (S.map V.int) (some ((at' : Int) + 1)) none).length ≤ 200 := by rw [show ((at' : Int) + 1) = ((at' + 1 : Nat) : Int) from rfl, cut_drop, List.length_drop, List.length_map]; omega
      have x8 := Same.new (o := .lst (cutV (S.map V.int) (some ((at' : Int) + 1)) none)) n4
      have d8' : upd H7 q4 (.lst (cutV (S.map V.int) (some ((at' : Int) + 1)) none)) q4 = some (.lst (cutV (S.map V.int) (some ((at' : Int) + 1)) none)) := upd_same
      generalize upd H7 q4 (.lst (cutV (S.map V.int) (some ((at' : Int) + 1)) none)) = H8 at x8 d8' ⊢
      refine ⟨q3, q4, _, _, rfl, rfl, x8 _ _ d7, d8', Nat.le_of_lt (small _ (by rw [List.length_append]; show _ + 1 + _ ≤ _; omega)), fun q5 n5 => ?_⟩
      rw [set_cut19 S at' v hat]
      have x9 := Same.new (o := .lst ((S.set at' v).map V.int)) n5
      have d9 : upd H8 q5 (.lst ((S.set at' v).map V.int)) q5 = some (.lst ((S.set at' v).map V.int)) := upd_same
      have x59 := ((x6.trans x7).trans x8)
      have P8 := P5.same x59
      have b8 : But p H H8 := (((b2.trans o3.but).trans x4.but).trans o5.but).trans x59.but
      have n5' := old b8 P8 n5
      generalize upd H8 q5 (.lst ((S.set at' v).map V.int)) = H9 at x9 d9 ⊢
      have P9 := P8.same x9
      have b9 : But p H H9 := b8.trans x9.but
      have hI9 := hI.draw b9 Xp
      refine ⟨_, rfl, _, rfl, I, _, _, _, rfl, rfl, SqL.of hI9.hI, at_of (j := d) rfl (dk_get gd), _, rfl, dk.A, _, _, r, rfl, rfl, (hI9.hD d dk gd).1, by rw [List.length_map]; exact ixN_nat rr, ?_⟩
      refine fin b9 P9 (some (q5, S.set at' v)) fun sc z => ?_
      cases z
      refine ⟨n5', d9, by rw [List.length_set]; omega, fun w m => by
        rcases List.mem_or_eq_of_mem_set m with m | m
        · exact gS.2.2.2.1 w m
        · rw [m, hv]
          exact ⟨Int.emod_nonneg _ (by decide), Int.emod_lt_of_pos _ (by decide)⟩, fun y => one_changed gS.2.2 hat (fun y2 => ?_) y.1.2.2⟩
      have := z_mod_eq y2
      rw [getD_item hw0, hv] at this
      have h1 := ww.1
      have h2 := ww.2
      omega
    clear c
    -- kind 3
    refine ⟨_, rfl, _, rfl, _, rfl, Sa, _, _, _, rfl, rfl, SqT.of hSa2, at_of (j := 0) rfl rfl, _, rfl, Sa, _, _, _, rfl, rfl, SqT.of hSa2, at_of (j := 1) rfl rfl, _, _, rfl, rfl, by show 2 ≤ sizeLine; decide, fun t nt => ?_⟩
    have x4 := Same.new (o := .tup [V.int e, .int (s + 1)]) nt
    have dt : upd H2 t (.tup [V.int e, .int (s + 1)]) t = some (.tup [V.int e, .int (s + 1)]) := upd_same
    generalize upd H2 t (.tup [V.int e, .int (s + 1)]) = H4 at x4 dt ⊢
    have hSc4 := x4 _ _ hSc2
    have P4 := P2.same x4
    have b4 : But p H H4 := b2.trans x4.but
    refine ⟨_, rfl, _, rfl, _, rfl, Sc, _, rfl, .inl (SqL.of hSc4), _, _, rfl, rfl, _, rfl, Sc, _, rfl, SqL.of hSc4, fun pl npl => ?_⟩
    have epl : cutV (S.map V.int) (some 6) (some (((S.map V.int).length : Nat) - 2)) = ws.map V.int := by
      rw [List.length_map, lS, show (6 : Int) = ((6 : Nat) : Int) from rfl, show (((ws.length + 8 : Nat) : Int) - 2) = ((ws.length + 6 : Nat) : Int) by omega, cut_mid, ← List.map_drop, ← List.map_take]
      have : (S.drop 6).take (ws.length + 6 - 6) = payM S := by unfold payM; rw [lS, show ws.length + 6 - 6 = ws.length + 8 - 8 by omega]
      rw [this, pS]
    rw [epl]
    have spl := Same.new (o := .lst (ws.map V.int)) npl
    have dpl : upd H4 pl (.lst (ws.map V.int)) pl = some (.lst (ws.map V.int)) := upd_same
    have dt5 := spl _ _ dt
    generalize upd H4 pl (.lst (ws.map V.int)) = H5 at spl dpl dt5 ⊢
    have P5 := P4.same spl
    have b5 : But p H H5 := b4.trans spl.but
    refine ⟨3, d, r, t, pl, e, s + 1, ws, rfl, SqT.of dt5, dpl, by omega, fun D H6 s6 nD dD => ?_⟩
    have b6 : But p H H6 := b5.trans s6.but
    have P6 := P5.same s6
    have hI6 := hI.draw b6 Xp
    refine ⟨_, rfl, _, rfl, I, _, _, _, rfl, rfl, SqL.of hI6.hI, at_of (j := d) rfl (dk_get gd), _, rfl, dk.A, _, _, r, rfl, rfl, (hI6.hD d dk gd).1, by rw [List.length_map]; exact ixN_nat rr, ?_⟩
    refine fin b6 P6 (some (D, sealM 3 (d : Int) (r : Int) e (s + 1) ws)) fun sc z => ?_
    cases z
    refine ⟨old b5 P5 nD, dD, by rw [sealM_length]; omega, sealM_words ⟨by decide, by omega, by omega⟩ ⟨hs.1, by have := hs.2; omega⟩ hw, fun y => ?_⟩
    have z2 := y.2.1
    rw [seal_stamp] at z2
    have := congrArg Prod.snd z2
    dsimp only at this
    omega
theorem sc_law_set_up : FnScope ["pot", "places", "stamp", "pieces", "images", "k", "disk", "row"] ["pot", "places", "stamp", "pieces"] (defScope s_law_set_up) := ⟨rfl, rfl, rfl, by decide +kernel, rfl, by decide +kernel, by decide +kernel⟩
theorem ok_law_set_up (T : Txt K mg a) : FnOk P w K mg base CX0 2 a.f_law_set_up a.d_law_set_up ["pot", "places", "stamp", "pieces"] (sp_law_set_up K a) := by
  refine T.F_law_set_up.ok sc_law_set_up (fun vs H Q E h => ?len) (fun cdv A outer s H vs Q E hr h => ?body)
  case len =>
    exact sp_law_set_up_len h
  case body =>
    obtain ⟨X, p, PL, Sa, PD, l, L, ep, sr, F, rfl, hx, P10, LL10, l6, rL, ndL, dT10, hs, LF, lF, hF, k⟩ := h
    refine ⟨_, (pss_cons (ps_setLc (i := 4) (own := [("k", 5)]) (g := (gName 5)) (by rfl) sc_law_set_up.nd rfl rfl (sw_true rfl rfl rfl (by decide +kernel)) (pi_range1 (by rfl) T.n_range (pa_cons pe_int pa_nil)) (blkOk_by (own := [("k", 5)]) (N := ["pot", "places", "stamp", "pieces", "images", "k", "disk", "row"]) (sc := defScope s_law_set_up) (by decide +kernel))
      (fun _ _ _ _ _ => (pg_name (i := 5) sc_law_set_up.nd rfl (Or.inl rfl))) (fun _ _ _ _ _ => pts_nil) (fun _ _ _ _ _ => (pe_op op_rep (pe_lst (pa_cons pe_non pa_nil)) pe_int)))
      (pss_cons (ps_for PassesOwn.never rfl (pi_range1 (by rfl) T.n_range (pa_cons (pe_callB call_len_seq (by rfl) T.n_len PySem.boot_len (pa_cons (pv 1) pa_nil)) pa_nil)) (pg_name (i := 5) sc_law_set_up.nd rfl (Or.inl rfl))
      (pss_cons (ps_asg (pe_ix ix_list (pv 1) (pv 5) (fun _ _ => rfl)) (pg_tup rfl (pgs_cons (pg_name (i := 6) sc_law_set_up.nd rfl (Or.inl rfl)) (pgs_cons (pg_name (i := 7) sc_law_set_up.nd rfl (Or.inl rfl)) pgs_nil))))
      (pss_one (ps_asg (pe_call (ok_law_seal T) (hr.mono (by decide)) rfl T.g_law_seal T.F_law_seal.kp T.d_law_seal .nil pass0 (pa_cons pe_int (pa_cons (pv 6) (pa_cons (pv 7) (pa_cons (pv 2) (pa_cons (pe_ix ix_list (pv 3) (pv 5) (fun _ _ => rfl)) pa_nil)))))) (pg_sub (pe_ix ix_list (pv 4) (pv 6) (fun _ _ => rfl)) (pv 7) set_list)))))
      (pss_one (ps_ret (pv 4))))), ?_⟩
    refine ⟨8, rfl, by decide, by decide, fun I nI => ?_⟩
    refine lc_it walk_range (n := 8) (fun i H' => ∃ as : List Addr, Same H H' ∧ H' I = some (.lst (as.map V.ref)) ∧ as.length = i ∧ as.Nodup ∧ ∀ A ∈ as, H' A = some (.lst (blk64.map rowV)) ∧ A ≠ I ∧ H A = none) ⟨[], Same.new nI, upd_same, rfl, List.nodup_nil, fun _ m => nomatch m⟩ (fun _ _ _ _ => True.intro) ?_ ?_
    · rintro i y H3 H4 hi ⟨as, s3, d3, la, nd, ha⟩ ⟨rfl, rfl⟩
      refine ⟨rfl, by show 1 ≤ sizeLine; decide, fun q nq => ?_⟩
      have sq := Same.new (o := .lst [V.non]) nq
      refine ⟨q, 64, _, rfl, rfl, upd_same, by decide, by decide, by decide, fun A nA => ?_⟩
      have e4 : (List.replicate (64 : Int).toNat [V.non]).flatten = blk64.map rowV := rfl
      rw [e4]
      have s4 := sq.trans (Same.new (o := .lst (blk64.map rowV)) nA)
      have dA : upd (upd H4 q (.lst [V.non])) A (.lst (blk64.map rowV)) A = some (.lst (blk64.map rowV)) := upd_same
      have nA3 := same_none sq nA
      generalize upd (upd H4 q (.lst [V.non])) A (.lst (blk64.map rowV)) = H5 at s4 dA ⊢
      have d5 := s4 _ _ d3
      have AI : A ≠ I := (ne_of_none d3 nA3).symm
      refine ⟨_, d5, small _ (by rw [List.length_map]; omega), as ++ [A], same_put (s3.trans s4) nI, by rw [upd_same, List.map_append]; rfl, by rw [List.length_append, la]; rfl, ?_, ?_⟩
      · rw [List.nodup_append]
        refine ⟨nd, by simp, fun x m z m' e => ?_⟩
        rw [List.mem_singleton.mp m'] at e
        exact ne_of_none (ha x m).1 nA3 e
      · intro x m
        rcases List.mem_append.mp m with m | m
        · have := ha x m
          exact ⟨by rw [upd_ne this.2.1]; exact s4 _ _ this.1, this.2⟩
        · rw [List.mem_singleton.mp m]
          exact ⟨by rw [upd_ne AI]; exact dA, AI, same_none s3 nA3⟩
    rintro H11 ⟨as, s11, d11, la, nd, ha⟩
    obtain ⟨st0, hst0⟩ : ∃ st0 : Sts, st0 = as.map fun A => some ⟨A, blk64⟩ := ⟨_, rfl⟩
    have g0 : ∀ (i : Nat) (dk : DkO), st0[i]? = some (some dk) → ∃ A, as[i]? = some A ∧ dk = ⟨A, blk64⟩ := fun i dk g => by
      rw [hst0, List.getElem?_map] at g
      cases z : as[i]? with
      | none => rw [z] at g; cases g
      | some A => rw [z] at g; cases g; exact ⟨A, rfl, rfl⟩
    have l0 : st0.length = 8 := by rw [hst0, List.length_map, la]
    have I0 : ImM H11 X I st0 := by
      refine ⟨?_, hx _ nI, fun i dk g => ?_, fun i j dk dk' g1 g2 e => ?_, fun i dk r sc g1 g2 => ?_⟩
      · rw [d11, hst0, List.map_map]
        rfl
      · obtain ⟨A, hA, rfl⟩ := g0 i dk g
        have := ha A (List.mem_of_getElem? hA)
        exact ⟨this.1, this.2.1, hx _ this.2.2⟩
      · obtain ⟨A, hA, rfl⟩ := g0 i dk g1
        obtain ⟨B, hB, rfl⟩ := g0 j dk' g2
        have e : A = B := e
        subst e
        have h1 := item_lt hA
        have h2 := item_lt hB
        have e1 : as[i] = A := Option.some.inj ((List.getElem?_eq_getElem h1).symm.trans hA)
        have e2 : as[j] = A := Option.some.inj ((List.getElem?_eq_getElem h2).symm.trans hB)
        rcases Nat.lt_trichotomy i j with z | z | z
        · exact absurd (e1.trans e2.symm) (List.pairwise_iff_getElem.mp nd i j h1 h2 z)
        · exact z
        · exact absurd (e2.trans e1.symm) (List.pairwise_iff_getElem.mp nd j i h2 h1 z)
      · obtain ⟨A, _, rfl⟩ := g0 i dk g1
        exact absurd g2 blk64_none
    have r0 : ∀ (i : Nat) (dk : DkO), st0[i]? = some (some dk) → dk.rows.length = 64 ∧ H dk.A = none := fun i dk g => by
      obtain ⟨A, hA, rfl⟩ := g0 i dk g
      exact ⟨rfl, (ha A (List.mem_of_getElem? hA)).2.2⟩
    have all0 : ∀ x : Nat, x < 8 → ∃ dk, st0[x]? = some (some dk) := fun x hx => by
      obtain ⟨A, hA⟩ : ∃ A, as[x]? = some A := ⟨_, List.getElem?_eq_getElem (by rw [la]; exact hx)⟩
      exact ⟨⟨A, blk64⟩, by rw [hst0, List.getElem?_map, hA]; rfl⟩
    have sec0 : ∀ x r : Nat, secS st0 x r = none := fun x r => by
      cases z : secS st0 x r with
      | none => rfl
      | some sc =>
        obtain ⟨dk, h1, h2⟩ := sec_some z
        obtain ⟨A, _, rfl⟩ := g0 x dk h1
        exact absurd h2 blk64_none
    clear g0 hst0 ha nd la d11 as
    -- the sectors
    refine ⟨_, rfl, PL, _, rfl, .inl (SqL.of (s11 _ _ LL10.1)), _, rfl, by omega, by rw [List.length_map]; omega, ?_⟩
    rw [List.length_map, Int.toNat_natCast]
    refine for_range (lo := 0) (n := L.length) (fun i σ H' => ∃ (v5 v6 v7 : Option V) (st : Sts), σ = [some (.ref p), some (.ref PL), some (.ref Sa), some (.ref PD), some (.ref I), v5, v6, v7] ∧ Same H H' ∧ ImM H' X I st ∧ st.length = 8 ∧
      (∀ (i : Nat) (dk : DkO), st[i]? = some (some dk) → dk.rows.length = 64 ∧ H dk.A = none) ∧ (∀ x : Nat, x < 8 → ∃ dk, st[x]? = some (some dk)) ∧ (∀ (j : Nat) q f, j < i → L[j]? = some q → F[j]? = some f → ∃ sc, secS st q.2.1.toNat q.2.2.toNat = some sc ∧ sc.2 = sealM 3 q.2.1 q.2.2 ep sr f.2) ∧
      ∀ x r sc, secS st x r = some sc → (∀ w ∈ sc.2, Wd w) ∧ sc.2.length ≤ 60) ⟨none, none, none, st0, rfl, s11, I0, l0, r0, all0, fun j q f hj => absurd hj (Nat.not_lt_zero _), fun x r sc z => by rw [sec0] at z; cases z⟩ ?_ ?_
    · clear I0 l0 r0 all0 sec0 s11
      rintro i σ H1 hi ⟨v5, v6, v7, st, rfl, s1, im, lst, rst, alst, done, wst⟩
      rw [Int.zero_add]
      obtain ⟨q, hq⟩ : ∃ q, L[i]? = some q := ⟨_, List.getElem?_eq_getElem (by omega)⟩
      have mq := List.mem_of_getElem? hq
      obtain ⟨⟨x0, x8⟩, y0, y64⟩ := rL q mq
      obtain ⟨f, hf⟩ : ∃ f, F[i]? = some f := ⟨_, List.getElem?_eq_getElem (by omega)⟩
      have mf := List.mem_of_getElem? hf
      obtain ⟨f2, f3⟩ := hF f mf
      have gq : (L.map fun e => V.ref e.1)[i]? = some (V.ref q.1) := by rw [List.getElem?_map, hq]; rfl
      have LL1 := LL10.same s1
      have LF1 := LF.same s1
      have tq := LL1.2 q mq
      obtain ⟨dn, edn⟩ : ∃ n : Nat, q.2.1 = (n : Int) := ⟨q.2.1.toNat, by omega⟩
      obtain ⟨rn, ern⟩ : ∃ n : Nat, q.2.2 = (n : Int) := ⟨q.2.2.toNat, by omega⟩
      have dn8 : dn < 8 := by omega
      have rn64 : rn < 64 := by omega
      obtain ⟨dk, gd⟩ := alst dn dn8
      refine ⟨_, rfl, _, rfl, PL, _, _, _, rfl, rfl, SqL.of LL1.1, at_of (j := i) rfl gq, q.1, _, rfl, SqT.of tq, rfl, _, _, rfl, _, _, rfl, rfl, ?_⟩
      refine ⟨_, rfl, _, rfl, _, rfl, _, rfl, _, rfl, PD, _, _, _, rfl, rfl, SqL.of LF1.1, at_of (j := i) rfl (refs_get hf), 3, q.2.1, q.2.2, Sa, f.1, ep, sr, f.2, rfl, SqT.of (s1 _ _ dT10), (LF1.2 f mf).1, by omega, fun D H2 s2 nD dD => ?_⟩
      have im2 := im.same s2
      have hD2 := im2.hD dn dk gd
      refine ⟨_, rfl, _, rfl, I, _, _, _, rfl, rfl, SqL.of im2.hI, at_of (j := dn) edn (dk_get gd), _, rfl, dk.A, _, _, rn, rfl, rfl, hD2.1, by rw [ern, List.length_map, (rst dn dk gd).1]; exact ixN_nat rn64, ?_⟩
      have e9 : (dk.rows.map rowV).set rn (V.ref D) = (dk.rows.set rn (some (D, sealM 3 q.2.1 q.2.2 ep sr f.2))).map rowV := map_set_row dk.rows rn (some (D, sealM 3 q.2.1 q.2.2 ep sr f.2))
      rw [e9]
      have nD0 := same_none s1 nD
      have im3 := im2.put gd (r := rn) (o := some (D, sealM 3 q.2.1 q.2.2 ep sr f.2)) fun sc z => by
        cases z
        refine ⟨dD, fun y => ?_, by rw [sealM_length]; omega⟩
        rcases y with y | y | ⟨i, dk', g, y⟩
        · exact hx _ nD0 y
        · rw [show (D, sealM 3 q.2.1 q.2.2 ep sr f.2).1 = D from rfl] at y
          rw [y, im.hI] at nD; cases nD
        · rw [show (D, sealM 3 q.2.1 q.2.2 ep sr f.2).1 = D from rfl] at y
          rw [y, (im.hD i dk' g).1] at nD; cases nD
      have hrn : rn < dk.rows.length := by rw [(rst dn dk gd).1]; exact rn64
      refine ⟨_, _, _, putS st dn rn (some (D, sealM 3 q.2.1 q.2.2 ep sr f.2)), rfl, same_put (s1.trans s2) (rst dn dk gd).2, im3, by rw [putS_len]; exact lst, fun j dk' g => ?_, fun x hx => ?_, fun j u g hj hu hg => ?_, fun x r sc z => ?_⟩
      · obtain ⟨dk0, g0, e1, e2⟩ := putS_some g
        rw [e1]
        refine ⟨?_, (rst j dk0 g0).2⟩
        rw [e2]
        split
        · rw [List.length_set]; exact (rst j dk0 g0).1
        · exact (rst j dk0 g0).1
      · obtain ⟨dk0, g0⟩ := alst x hx
        exact ⟨_, putS_back g0⟩
      · by_cases c : j = i
        · subst c
          rw [hq] at hu
          cases hu
          rw [hf] at hg
          cases hg
          refine ⟨(D, sealM 3 q.2.1 q.2.2 ep sr f.2), ?_, rfl⟩
          rw [show q.2.1.toNat = dn by omega, show q.2.2.toNat = rn by omega]
          exact putS_sec gd hrn
        · obtain ⟨sc, h1, h2⟩ := done j u g (by omega) hu hg
          refine ⟨sc, ?_, h2⟩
          rw [putS_sec_ne (.inl ?_)]
          · exact h1
          · intro z
            have h3 := place_ne ndL hu hq c
            have h4 := (rL u (List.mem_of_getElem? hu)).1
            omega
      · by_cases c : dn = x ∧ rn = r
        · obtain ⟨rfl, rfl⟩ := c
          rw [putS_sec gd hrn] at z
          cases z
          exact ⟨sealM_words ⟨by decide, by omega, by omega⟩ hs f3, by rw [sealM_length]; omega⟩
        · rw [putS_sec_ne (by omega)] at z
          exact wst x r sc z
    rintro σ H1 ⟨v5, v6, v7, st, rfl, s1, im, lst, rst, alst, done, wst⟩
    exact ⟨_, rfl, k I st H1 s1 im nI lst rst alst (fun j q f hq hf => done j q f (by have := item_lt hq; omega) hq hf) wst⟩
theorem sc_weights : FnScope ["places", "x", "at", "place"] ["places", "x"] (defScope s_weights) := ⟨rfl, rfl, rfl, by decide +kernel, rfl, by decide +kernel, by decide +kernel⟩
theorem ok_weights (T : Txt K mg a) : FnOk P w K mg base CX0 3 a.f_weights a.d_weights ["places", "x"] (sp_weights K a) := by
  refine T.F_weights.ok sc_weights (fun vs H Q E h => ?len) (fun cdv A outer s H vs Q E hr h => ?body)
  case len =>
    exact sp_weights_len h
  case body =>
    obtain ⟨l, ws, x, rfl, hW, hap, hlen, k⟩ := h
    refine ⟨_, (pss_one (ps_ret (pe_lc (own := [("at", 2), ("place", 3)]) (g := (gTup K 2 (gCons (gName 2) (gCons (gName 3) gNil)))) (by rfl) sc_weights.nd (pi_enum (by rfl) T.n_enumerate (pa_cons (pv 0) pa_nil)) (blkOk_by (own := [("at", 2), ("place", 3)]) (N := ["places", "x", "at", "place"]) (sc := defScope s_weights) (by decide +kernel))
      (fun _ _ _ _ _ => (pg_tup rfl (pgs_cons (pg_name (i := 2) sc_weights.nd rfl (Or.inl rfl)) (pgs_cons (pg_name (i := 3) sc_weights.nd rfl (Or.inl rfl)) pgs_nil)))) (fun _ _ _ _ _ => pts_nil) (fun _ _ _ _ _ => (pe_call (ok_weight T) (hr.mono (by decide)) rfl T.g_weight T.F_weight.kp T.d_weight .nil pass0 (pa_cons (pv 3) (pa_cons (pe_op op_cat (pe_slice (by exact sl_list : SlR _ (rSlL K)) (pv 0) po_none (po_some (pv 2))) (pe_slice (by exact sl_list : SlR _ (rSlL K)) (pv 0) (po_some (pe_op op_add (pv 2) pe_int)) po_none)) (pa_cons (pv 1) pa_nil)))))))), ?_⟩
    have hS : SqL K H l (ws.map V.int) := SqL.of hW
    refine ⟨_, rfl, l, _, rfl, hS, fun D new => lc_it walk_enum (fun i H' => Same H H' ∧ H' D = some (.lst (((weightsM ws x).take i).map V.int))) ⟨Same.new new, upd_same⟩ (fun i H' _ q => q.1.seq hS) ?_ ?_⟩
    · rintro i y H1 H2 hi ⟨s1, hD⟩ ⟨t, u, v, rfl, ht, rfl, hu, hv⟩
      cases hu
      obtain ⟨c, hc, rfl⟩ := int_item hv
      have s2 : Same H1 (upd H1 t (.tup [V.int (i : Nat), V.int c])) := Same.new ht
      have s3 := s1.trans s2
      have w3 := s3 _ _ hW
      refine ⟨t, _, rfl, SqT.of upd_same, rfl, _, _, rfl, _, _, rfl, rfl, ?_⟩
      refine ⟨rfl, _, rfl, _, rfl, _, rfl, _, rfl, l, _, rfl, SqL.of w3, fun p1 n1 => ?_⟩
      have s4 := Same.new (o := .lst (cutV (ws.map V.int) none (some ((i : Nat) : Int)))) n1
      refine ⟨_, rfl, _, rfl, _, _, rfl, rfl, _, rfl, l, _, rfl, SqL.of (s4 _ _ w3), fun p2 n2 => ?_⟩
      have s5 := Same.new (o := .lst (cutV (ws.map V.int) (some (((i : Nat) : Int) + 1)) none)) n2
      have q1 := s5 _ _ (upd_same (H := upd H1 t (.tup [V.int (i : Nat), V.int c])) (a := p1) (o := .lst (cutV (ws.map V.int) none (some ((i : Nat) : Int)))))
      refine ⟨p1, p2, _, _, rfl, rfl, q1, upd_same, ?_, fun p3 n3 => ?_⟩
      · have a1 := cutV_length (ws.map V.int) none (some ((i : Nat) : Int))
        have a2 := cutV_length (ws.map V.int) (some (((i : Nat) : Int) + 1)) none
        rw [List.length_map] at a1 a2
        exact Nat.le_of_lt (small _ (by omega))
      · have eo : cutV (ws.map V.int) none (some ((i : Nat) : Int)) ++ cutV (ws.map V.int) (some (((i : Nat) : Int) + 1)) none = (others ws i).map V.int := by
          rw [cut_take, show (((i : Nat) : Int) + 1) = ((i + 1 : Nat) : Int) from rfl, cut_drop]
          simp [others, List.map_append, List.map_take, List.map_drop]
        rw [eo]
        have s6 := Same.new (o := .lst ((others ws i).map V.int)) n3
        have hi' : i < ws.length := by simpa using hi
        have gc : ws.getD i 0 = c := getD_item hc
        have ok := wgt_ok (others_apart hap hi')
        rw [gc] at ok
        refine ⟨_, rfl, c, p3, others ws i, x, rfl, SqL.of upd_same, ok, fun H7 s7 => ?_⟩
        have s8 := (((s3.trans s4).trans s5).trans s6).trans s7
        have d8 := s7 _ _ (s6 _ _ (s5 _ _ (s4 _ _ (s2 _ _ hD))))
        refine ⟨_, d8, small _ (by simp; omega), fun b o e => ?_, ?_⟩
        · rw [upd_ne (ne_of_none e new)]
          exact s8 b o e
        · rw [upd_same, take_snoc (weightsM_get hi'), List.map_append, gc]
          rfl
    · rintro H' ⟨s', hD⟩
      rw [List.take_of_length_le (by rw [weightsM_length]; simp)] at hD
      exact k D H' s' new hD
theorem sc_unseal : FnScope ["sector", "kind", "disk", "row", "epoch", "high", "low"] ["sector", "kind", "disk", "row"] (defScope s_unseal) := ⟨rfl, rfl, rfl, by decide +kernel, rfl, by decide +kernel, by decide +kernel⟩
theorem ok_unseal (T : Txt K mg a) : FnOk P w K mg base CX0 3 a.f_unseal a.d_unseal ["sector", "kind", "disk", "row"] (sp_unseal K a) := by
  refine T.F_unseal.ok sc_unseal (fun vs H Q E h => ?len) (fun cdv A outer s H vs Q E hr h => ?body)
  case len =>
    exact sp_unseal_len h
  case body =>
    obtain ⟨sv, k, d, r, rfl, h⟩ := h
    refine ⟨_, (pss_cons (ps_if (PW.pt (pw_or (pt_cmpR op_isN (pv 0) pe_non (nomark _)) (pw_or (pt_not (pt_val (pe_call (ok_is_place T) (hr.mono (by decide)) rfl T.g_is_place T.F_is_place.kp T.d_is_place .nil pass0 (pa_cons (pv 1) (pa_cons (pv 2) (pa_cons (pv 3) pa_nil)))))) (pw_or1 (pt_cmpR (op_neD hr.units) (pe_slice sl_list (pv 0) po_none (po_some pe_int)) (pe_lst (pa_cons (pv 1) (pa_cons (pv 2) (pa_cons (pv 3) pa_nil)))) (nomark _))))))
      (pss_one (ps_ret pe_non))
      pss_nil)
      (pss_cons (ps_if (pt_not (pt_val (pe_call (ok_is_whole T) (hr.mono (by decide)) rfl T.g_is_whole T.F_is_whole.kp T.d_is_whole .nil pass0 (pa_cons (pv 0) pa_nil))))
      (pss_one (ps_ret pe_non))
      pss_nil)
      (pss_cons (ps_asg (pe_slice sl_list (pv 0) (po_some pe_int) (po_some (pe_const T.g_HEADER_WORDS))) (pg_lst rfl (pgs_cons (pg_name (i := 4) sc_unseal.nd rfl (Or.inl rfl)) (pgs_cons (pg_name (i := 5) sc_unseal.nd rfl (Or.inl rfl)) (pgs_cons (pg_name (i := 6) sc_unseal.nd rfl (Or.inl rfl)) pgs_nil)))))
      (pss_one (ps_ret (pe_tup (pa_cons (pe_tup (pa_cons (pv 4) (pa_cons (pe_op op_add (pe_op op_mul (pv 5) (pe_const T.g_PRIME)) (pv 6)) pa_nil))) (pa_cons (pe_slice sl_list (pv 0) (po_some (pe_const T.g_HEADER_WORDS)) (po_some (pe_un un_neg (pe_const T.g_CHECK_WORDS)))) pa_nil)))))))), ?_⟩
    rcases h with ⟨rfl, kN⟩ | ⟨l, ws, rfl, hS, hlen, kN, kQ⟩
    · exact ⟨_, rfl, rfl, _, rfl, ite2 (fun _ => kN _ (Same.refl _)) (fun q => absurd rfl q)⟩
    have hml : (ws.map V.int).length = ws.length := List.length_map _
    refine ⟨_, rfl, rfl, _, rfl, ite2 (fun q => by cases q) (fun _ => ?_)⟩
    refine ⟨_, rfl, _, rfl, _, rfl, k, d, r, rfl, fun hp => ⟨true, rfl, iteF ?_⟩, fun hn => ⟨false, rfl, iteT (kN (fun g => hn g.1) _ (Same.refl _))⟩⟩
    refine ⟨_, rfl, _, rfl, l, _, rfl, hS, fun q1 n1 => ?_⟩
    rw [show cutV (ws.map V.int) none (some 3) = (ws.take 3).map V.int from (cut_take _ 3).trans List.map_take.symm]
    have S1 := Same.new (o := .lst ((ws.take 3).map V.int)) n1
    refine ⟨_, rfl, _, rfl, _, rfl, by show 3 ≤ sizeLine; decide, fun q2 n2 => ?_⟩
    have S2 := Same.new (o := .lst [V.int k, .int d, .int r]) n2
    have d1 := S2 _ _ (upd_same (H := H) (a := q1) (o := .lst ((ws.take 3).map V.int)))
    refine ⟨_, _, dp_ints (SqL.of d1), dp_ints (xs := [k, d, r]) (SqL.of upd_same), shaped_ints _, shaped_ints _, _, rfl, ?_⟩
    rw [eqv_ints]
    have sA := S1.trans S2
    refine ite2 (fun z => kN (fun g => ?_) _ sA) (fun z => ?_)
    · rw [decide_eq_true g.2.1] at z
      cases z
    have h3 : ws.take 3 = [k, d, r] := Classical.byContradiction fun q => z (by rw [decide_eq_false q]; rfl)
    clear d1
    generalize upd (upd H q1 (.lst ((ws.take 3).map V.int))) q2 (.lst [V.int k, .int d, .int r]) = H2 at sA ⊢
    refine ⟨_, rfl, l, ws, rfl, sA.seq hS, hlen, fun hw H3 s3 => ⟨true, rfl, iteF ?_⟩, fun hw H3 s3 => ⟨false, rfl, iteT (kN (fun g => hw g.2.2) _ (sA.trans s3))⟩⟩
    have sB := sA.trans s3
    have hg : Good ws k d r := ⟨hp, h3, hw⟩
    have l8 := hw.1.1
    refine ⟨_, rfl, _, rfl, _, rfl, l, _, rfl, sB.seq hS, fun q3 n3 => ?_⟩
    rw [cut_mid36 (by omega), mid_items (by omega)]
    refine ⟨q3, _, rfl, SqL.of upd_same, rfl, _, _, rfl, _, _, rfl, _, _, rfl, rfl, ?_⟩
    have S3 := Same.new (o := .lst [V.int (ws.getD 3 0), .int (ws.getD 4 0), .int (ws.getD 5 0)]) n3
    have sC := sB.trans S3
    generalize upd H3 q3 (.lst [V.int (ws.getD 3 0), .int (ws.getD 4 0), .int (ws.getD 5 0)]) = H4 at sC ⊢
    have w4 : Wd (ws.getD 4 0) := by
      have : ws[4]? = some ws[4] := List.getElem?_eq_getElem (by omega)
      rw [getD_item this]
      exact hw.2.1 _ (List.getElem_mem _)
    refine ⟨_, rfl, _, rfl, _, _, rfl, rfl, .inl ⟨by have := w4.1; omega, by have := w4.2; omega⟩, _, rfl, _, _, rfl, rfl, by show 2 ≤ sizeLine; decide, fun S nS => ?_⟩
    have S4 := Same.new (o := .tup [V.int (ws.getD 3 0), .int (ws.getD 4 0 * 65521 + ws.getD 5 0)]) nS
    refine ⟨_, rfl, _, rfl, _, rfl, _, rfl, l, _, rfl, S4.seq (sC.seq hS), fun D nD => ?_⟩
    rw [cut_pay (by omega), hml, ← List.map_drop, ← List.map_take]
    have S5 := Same.new (o := .lst (((ws.drop 6).take (ws.length - 8)).map V.int)) nD
    refine ⟨by show 2 ≤ sizeLine; decide, fun Tt nT => ?_⟩
    have S6 := Same.new (o := .tup [V.ref S, .ref D]) nT
    have sD := ((sC.trans S4).trans S5).trans S6
    refine kQ hg Tt S D _ sD (same_none ((sC.trans S4).trans S5) nT) (same_none (sC.trans S4) nD) upd_same (S6 _ _ (S5 _ _ upd_same)) (S6 _ _ upd_same)
theorem sc_piece_requests : FnScope ["images", "places", "stamp", "pieces", "numbers", "requests", "number", "disk", "row"] ["images", "places", "stamp", "pieces", "numbers"] (defScope s_piece_requests) := ⟨rfl, rfl, rfl, by decide +kernel, rfl, by decide +kernel, by decide +kernel⟩
theorem ok_piece_requests (T : Txt K mg a) : FnOk P w K mg base CX0 3 a.f_piece_requests a.d_piece_requests ["images", "places", "stamp", "pieces", "numbers"] (sp_piece_requests K a) := by
  refine T.F_piece_requests.ok sc_piece_requests (fun vs H Q E h => ?len) (fun cdv A outer s H vs Q E hr h => ?body)
  case len =>
    exact sp_piece_requests_len h
  case body =>
    obtain ⟨I, P, st, R, N, ims, pls, e, s', F, ns, rfl, hI, hl, hP, hpl, hT, hs, hR, hrow, hF, hN, hns, ln, k⟩ := h
    refine ⟨_, (pss_cons (ps_set (i := 5) sc_piece_requests.nd rfl (Or.inl rfl) (pe_lst pa_nil))
      (pss_cons (ps_for PassesOwn.never rfl (pi_list (pv 4)) (pg_name (i := 6) sc_piece_requests.nd rfl (Or.inl rfl))
      (pss_cons (ps_asg (pe_ix ix_list (pv 1) (pv 6) (fun _ _ => rfl)) (pg_tup rfl (pgs_cons (pg_name (i := 7) sc_piece_requests.nd rfl (Or.inl rfl)) (pgs_cons (pg_name (i := 8) sc_piece_requests.nd rfl (Or.inl rfl)) pgs_nil))))
      (pss_one (ps_if (pt_val (pe_call (ok_is_present T) (hr.mono (by decide)) rfl T.g_is_present T.F_is_present.kp T.d_is_present .nil pass0 (pa_cons (pv 0) (pa_cons (pv 7) pa_nil))))
      (pss_one (ps_expr (pe_bm PySem.F.plainAttrs_list PySem.F.slot_list_append PySem.F.type_list_append mt_append (pv 5) (pa_cons (pe_tup (pa_cons pe_str (pa_cons (pv 7) (pa_cons (pv 8) (pa_cons (pe_call (ok_seal T) (hr.mono (by decide)) rfl T.g_seal T.F_seal.kp T.d_seal .nil passL (pa_cons (pe_const T.g_PIECE) (pa_cons (pv 7) (pa_cons (pv 8) (pa_cons (pv 2) (pa_cons (pe_ix ix_list (pv 3) (pv 6) (fun _ _ => rfl)) pa_nil)))))) pa_nil))))) pa_nil))))
      pss_nil))))
      (pss_one (ps_ret (pv 5))))), ?_⟩
    refine ⟨Nat.zero_le _, fun D nD => ?_⟩
    refine ⟨_, rfl, N, rfl, ⟨_, (Same.new nD).seq hN⟩, for_list (K := K) (a := N) (xs := (ns.map fun (i : Nat) => (i : Int)).map V.int) (fun i σ H' => ∃ (v1 v2 v3 : Option V) (L : List Rq), σ = [some (.ref I), some (.ref P), some (.ref st), some (.ref R), some (.ref N), some (.ref D), v1, v2, v3] ∧ Same H H' ∧ WRq H' D L ∧ L.map rqM = reqM ims pls e s' (snds F) (ns.take i))
      ⟨none, none, none, [], rfl, Same.new nD, ⟨upd_same, fun _ m => nomatch m⟩, rfl⟩ (fun i σ H' _ ⟨_, _, _, _, _, s2, _⟩ => s2.seq hN) ?_ ?_⟩
    · rintro i y σ H' hi ⟨v1, v2, v3, L, rfl, s2, WL, eL⟩
      obtain ⟨c, hc, rfl⟩ := int_item hi
      obtain ⟨n, hn, rfl⟩ : ∃ n : Nat, ns[i]? = some n ∧ c = (n : Int) := by
        rw [List.getElem?_map] at hc
        cases q : ns[i]? with
        | none => rw [q] at hc; cases hc
        | some n => rw [q] at hc; exact ⟨n, rfl, (Option.some.inj hc).symm⟩
      have ln' := hns n (List.mem_of_getElem? hn)
      obtain ⟨as, hA, lA, hAt⟩ := (hP.same s2).old
      have hp : pls[n]? = some pls[n] := List.getElem?_eq_getElem ln'
      have ha : as[n]? = some as[n] := List.getElem?_eq_getElem (by omega)
      obtain ⟨⟨q0, q8⟩, ⟨r0, r4⟩⟩ := hpl pls[n] (List.getElem_mem _)
      refine ⟨_, rfl, _, rfl, P, _, _, _, rfl, rfl, hA, at_of (j := n) rfl (by rw [List.getElem?_map, ha]; rfl), as[n], _, rfl, hAt n _ _ ha hp, rfl, _, _, rfl, _, _, rfl, rfl, ?_⟩
      refine ⟨_, rfl, _, rfl, I, ims, pls[n].1.toNat, by rw [Int.toNat_of_nonneg q0]; rfl, s2.seq hI, hl, ?_⟩
      have gp : pls.getD n (0, 0) = pls[n] := getD_item hp
      have e1 : reqM ims pls e s' (snds F) (ns.take (i + 1)) = reqM ims pls e s' (snds F) (ns.take i) ++ oneM ims pls e s' (snds F) n := by
        unfold reqM
        rw [take_snoc hn, List.flatMap_append]
        simp
      cases hpr : presentM ims pls[n].1.toNat with
      | false =>
        refine ⟨false, rfl, iteF ?_⟩
        refine ⟨_, _, _, L, rfl, s2, WL, ?_⟩
        rw [e1, eL]
        unfold oneM
        rw [gp, hpr]
        simp
      | true =>
        have hf : F[n]? = some F[n] := List.getElem?_eq_getElem (by omega)
        have mf := List.mem_of_getElem? hf
        have hR2 := hR.same s2
        refine ⟨true, rfl, iteT ?_⟩
        refine ⟨_, rfl, .inl ⟨rfl, _, SqL.of WL.1⟩, _, rfl, _, rfl, _, rfl, _, rfl, _, rfl, _, rfl, _, rfl, R, _, _, _, rfl, rfl, hR2.1, at_of (j := n) rfl (refs_get hf), 3, pls[n].1, pls[n].2, st, F[n].1, e, s', F[n].2, rfl, s2.tup hT, hR2.2 _ mf, by have := hrow _ mf; omega, fun b => absurd b ?_, fun _ S H3 s3 nS dS => ?_⟩
        · rintro (b | b | b)
          · exact b ⟨⟨by decide, by decide⟩, ⟨q0, q8⟩, ⟨r0, r4⟩⟩
          · exact b hs
          · have := hrow _ mf
            omega
        refine ⟨by show 4 ≤ sizeLine; decide, fun t nt => ?_⟩
        have WL3 := (WL.same s3).same (Same.new (o := .tup [.str "write", V.int pls[n].1, V.int pls[n].2, V.ref S]) nt)
        have dS2 := Same.new (o := .tup [.str "write", V.int pls[n].1, V.int pls[n].2, V.ref S]) nt _ _ dS
        have dt : upd H3 t (.tup [.str "write", V.int pls[n].1, V.int pls[n].2, V.ref S]) t = some (.tup [.str "write", .int pls[n].1, .int pls[n].2, .ref S]) := upd_same
        have s5 := (s2.trans s3).trans (Same.new (o := .tup [.str "write", V.int pls[n].1, V.int pls[n].2, V.ref S]) nt)
        have ntD : t ≠ D := (ne_of_none (WL.same s3).1 nt).symm
        have nSD : S ≠ D := (ne_of_none WL.1 nS).symm
        generalize upd H3 t (.tup [.str "write", V.int pls[n].1, V.int pls[n].2, V.ref S]) = H5 at WL3 dS2 dt s5 ⊢
        have lL : L.length ≤ 100 := by
          have := congrArg List.length eL
          rw [List.length_map] at this
          have h2 := req_len ims pls e s' (snds F) (ns.take i)
          rw [List.length_take] at h2
          omega
        refine ⟨D, _, _, rfl, rfl, WL3.1, small _ (by rw [List.length_map]; omega), ?_⟩
        have el : L.map rqV ++ [V.ref t] = (L ++ [(⟨t, S, pls[n].1, pls[n].2, sealM 3 pls[n].1 pls[n].2 e s' F[n].2⟩ : Rq)]).map rqV := by rw [List.map_append]; rfl
        rw [el]
        refine ⟨_, _, _, _, rfl, same_put s5 nD, WRq.put fun e' m => ?_, ?_⟩
        · rcases List.mem_append.mp m with m | m
          · exact WL3.2 e' m
          · have : e' = ⟨t, S, pls[n].1, pls[n].2, sealM 3 pls[n].1 pls[n].2 e s' F[n].2⟩ := by simpa using m
            subst this
            exact ⟨⟨dt, ntD⟩, dS2, nSD⟩
        · rw [List.map_append, e1, eL]
          unfold oneM
          rw [gp, hpr, snds_get hf]
          rfl
    rintro σ H' ⟨v1, v2, v3, L, rfl, s2, WL, eL⟩
    rw [List.take_of_length_le (by simp)] at eL
    exact ⟨_, rfl, k D L H' s2 nD WL eL⟩
theorem sc_law_words : FnScope ["pot", "count", "k"] ["pot", "count"] (defScope s_law_words) := ⟨rfl, rfl, rfl, by decide +kernel, rfl, by decide +kernel, by decide +kernel⟩
theorem ok_law_words (T : Txt K mg a) : FnOk P w K mg base CX0 3 a.f_law_words a.d_law_words ["pot", "count"] (sp_law_words K a) := by
  refine T.F_law_words.ok sc_law_words (fun vs H Q E h => ?len) (fun cdv A outer s H vs Q E hr h => ?body)
  case len =>
    exact sp_law_words_len h
  case body =>
    obtain ⟨p, l, n, rfl, hP, n0, n5, k⟩ := h
    refine ⟨_, (pss_one (ps_ret (pe_lc (own := [("k", 2)]) (g := (gName 2)) (by rfl) sc_law_words.nd (pi_range1 (by rfl) T.n_range (pa_cons (pv 1) pa_nil)) (blkOk_by (own := [("k", 2)]) (N := ["pot", "count", "k"]) (sc := defScope s_law_words) (by decide +kernel))
      (fun _ _ _ _ _ => (pg_name (i := 2) sc_law_words.nd rfl (Or.inl rfl))) (fun _ _ _ _ _ => pts_nil) (fun _ _ _ _ _ => (pe_call (ok_law_word T) (hr.mono (by decide)) rfl T.g_law_word T.F_law_word.kp T.d_law_word .nil pass0 (pa_cons (pv 0) pa_nil)))))), ?_⟩
    refine ⟨_, rfl, n, rfl, by omega, by omega, fun D new => lc_it walk_range (fun i H' => ∃ ws : List Int, But p H H' ∧ Pot H' p l ∧ H' D = some (.lst (ws.map V.int)) ∧ ws.length = i ∧ ∀ w ∈ ws, Wd w)
      ⟨[], (Same.new new).but, hP.new new, upd_same, rfl, fun _ m => nomatch m⟩ (fun _ _ _ _ => True.intro) ?_ ?_⟩
    · rintro i y H1 H2 hi ⟨ws, b1, P1, d1, hl, hw⟩ ⟨rfl, rfl⟩
      have off := hP.off new
      refine ⟨rfl, _, rfl, p, l, rfl, P1, fun v H3 wv P3 o3 => ?_⟩
      refine ⟨_, by rw [o3 _ off.1.symm]; exact d1, small _ (by simp; omega), ws ++ [v], ?_, P3.only Only.upd off.1 off.2, ?_, by simp [hl], ?_⟩
      · intro b o e nb
        rw [upd_ne (ne_of_none e new), o3 _ nb]
        exact b1 b o e nb
      · rw [upd_same, List.map_append]
        rfl
      · intro w m
        rcases List.mem_append.mp m with m | m
        · exact hw w m
        · have : w = v := by simpa using m
          rw [this]
          exact wv
    · rintro H' ⟨ws, b1, P1, d1, hl, hw⟩
      exact k D ws H' hl hw new d1 b1 P1
theorem sc_law_pieces : FnScope ["words", "data", "count", "size", "filled", "pieces", "k", "factors", "j", "i"] ["words", "data", "count"] (defScope s_law_pieces) := ⟨rfl, rfl, rfl, by decide +kernel, rfl, by decide +kernel, by decide +kernel⟩
theorem ok_law_pieces (T : Txt K mg a) : FnOk P w K mg base CX0 3 a.f_law_pieces a.d_law_pieces ["words", "data", "count"] (sp_law_pieces K a) := by
  refine T.F_law_pieces.ok sc_law_pieces (fun vs H Q E h => ?len) (fun cdv A outer s H vs Q E hr h => ?body)
  case len =>
    exact sp_law_pieces_len h
  case body =>
    obtain ⟨W, ws, d, c, rfl, hW, hlen, d1, dc, c6, k⟩ := h
    refine ⟨_, (pss_cons (ps_set (i := 3) sc_law_pieces.nd rfl (Or.inr rfl) (pe_op op_fdiv (pe_op op_sub (pe_op op_add (pe_callB call_len_seq (by rfl) T.n_len PySem.boot_len (pa_cons (pv 0) pa_nil)) (pv 1)) pe_int) (pv 1)))
      (pss_cons (ps_set (i := 4) sc_law_pieces.nd rfl (Or.inr rfl) (pe_op op_cat (pv 0) (pe_op op_rep (pe_lst (pa_cons pe_int pa_nil)) (pe_op op_sub (pe_op op_mul (pv 3) (pv 1)) (pe_callB call_len_seq (by rfl) T.n_len PySem.boot_len (pa_cons (pv 0) pa_nil))))))
      (pss_cons (ps_set (i := 5) sc_law_pieces.nd rfl (Or.inr rfl) (pe_lc (own := [("k", 6)]) (g := (gName 6)) (by rfl) sc_law_pieces.nd (pi_range1 (by rfl) T.n_range (pa_cons (pv 1) pa_nil)) (blkOk_by (own := [("k", 6)]) (N := ["words", "data", "count", "size", "filled", "pieces", "k", "factors", "j", "i"]) (sc := defScope s_law_pieces) (by decide +kernel))
      (fun _ _ _ _ _ => (pg_name (i := 6) sc_law_pieces.nd rfl (Or.inl rfl))) (fun _ _ _ _ _ => pts_nil) (fun _ _ _ _ _ => (pe_slice (by exact sl_list : SlR _ (rSlL K)) (pv 4) (po_some (pe_op op_mul (pv 6) (pv 3))) (po_some (pe_op op_mul (pe_op op_add (pv 6) pe_int) (pv 3)))))))
      (pss_cons (ps_for PassesOwn.never rfl (pi_range2 (by rfl) T.n_range (pa_cons (pv 1) (pa_cons (pv 2) pa_nil))) (pg_name (i := 6) sc_law_pieces.nd rfl (Or.inl rfl))
      (pss_cons (ps_set (i := 7) sc_law_pieces.nd rfl (Or.inr rfl) (pe_call (ok_law_factors T) (hr.mono (by decide)) rfl T.g_law_factors T.F_law_factors.kp T.d_law_factors .nil pass0 (pa_cons (pe_lc (own := [("j", 8)]) (g := (gName 8)) (by rfl) sc_law_pieces.nd (pi_range1 (by rfl) T.n_range (pa_cons (pv 1) pa_nil)) (blkOk_by (own := [("j", 8)]) (N := ["words", "data", "count", "size", "filled", "pieces", "k", "factors", "j", "i"]) (sc := defScope s_law_pieces) (by decide +kernel))
      (fun _ _ _ _ _ => (pg_name (i := 8) sc_law_pieces.nd rfl (Or.inl rfl))) (fun _ _ _ _ _ => pts_nil) (fun _ _ _ _ _ => (pv 8))) (pa_cons (pv 6) pa_nil))))
      (pss_one (ps_expr (pe_bm PySem.F.plainAttrs_list PySem.F.slot_list_append PySem.F.type_list_append mt_append (pv 5) (pa_cons (pe_lc (own := [("i", 9)]) (g := (gName 9)) (by rfl) sc_law_pieces.nd (pi_range1 (by rfl) T.n_range (pa_cons (pv 3) pa_nil)) (blkOk_by (own := [("i", 9)]) (N := ["words", "data", "count", "size", "filled", "pieces", "k", "factors", "j", "i"]) (sc := defScope s_law_pieces) (by decide +kernel))
      (fun _ _ _ _ _ => (pg_name (i := 9) sc_law_pieces.nd rfl (Or.inr rfl))) (fun _ _ _ _ _ => pts_nil) (fun _ _ _ _ _ => (pe_op op_mod (pe_callTy call_int1 (by rfl) T.n_int (by decide +kernel) (pa_cons (pe_callB (by exact cr_sum rfl : CallR _ _ (rSum K)) (by rfl) T.n_sum (by decide +kernel) (pa_cons (pe_lc (own := [("j", 8)]) (g := (gName 8)) (by rfl) sc_law_pieces.nd (pi_range1 (by rfl) T.n_range (pa_cons (pv 1) pa_nil)) (blkOk_by (own := [("j", 8)]) (N := ["words", "data", "count", "size", "filled", "pieces", "k", "factors", "j", "i"]) (by kernel_rfl))
      (fun _ _ _ _ _ => (pg_name (i := 8) sc_law_pieces.nd rfl (Or.inl rfl))) (fun _ _ _ _ _ => pts_nil) (fun _ _ _ _ _ => (pe_op op_mul (pe_ix (by exact ix_list : IxR _ (rIxL K)) (pv 7) (pv 8) (fun _ _ => rfl)) (pe_ix (by exact ix_list : IxR _ (rIxL K)) (pe_ix (by exact ix_list : IxR _ (rIxL K)) (pv 5) (pv 8) (fun _ _ => rfl)) (pv 9) (fun _ _ => rfl))))) pa_nil)) pa_nil)) pe_int))) pa_nil))))))
      (pss_one (ps_ret (pv 5))))))), ?_⟩
    refine ⟨_, rfl, W, _, rfl, .inl (SqL.of hW), _, rfl, _, _, rfl, rfl, _, _, rfl, rfl, _, rfl, _, _, rfl, rfl, ⟨by omega, by omega⟩, ?_⟩
    have esz : (((ws.map V.int).length : Int) + (d : Int) - 1) / (d : Int) = ((sizeM ws.length d : Nat) : Int) := by
      rw [List.length_map]
      unfold sizeM
      rw [show (ws.length : Int) + (d : Int) - 1 = ((ws.length + d - 1 : Nat) : Int) by omega]
      rfl
    have szl := size_lt ws.length d d1
    have sle := size_le ws.length d d1
    have fl := fill_len ws d d1
    show gName 3 (V.int ((((ws.map V.int).length : Int) + (d : Int) - 1) / (d : Int))) _ _ _
    rw [esz]
    refine ⟨_, rfl, ?_⟩
    have hb8 : sizeM ws.length d * d ≤ sizeM ws.length d * 6 := Nat.mul_le_mul_left _ (by omega)
    generalize hsz : sizeM ws.length d = sz at szl sle fl hb8 ⊢
    refine ⟨(by show 1 ≤ sizeLine; decide), fun q nq => ?_⟩
    have sq := Same.new (o := .lst [V.int 0]) nq
    refine ⟨_, rfl, _, rfl, _, _, rfl, rfl, .inl ⟨by omega, by omega⟩, _, rfl, W, _, rfl, .inl (SqL.of (sq _ _ hW)), _, _, rfl, rfl, q, ((sz * d - ws.length : Nat) : Int), _, rfl, congrArg V.int (by rw [List.length_map]; omega), upd_same, by omega, by omega, ?_, fun q2 n2 => ?_⟩
    · rw [Int.toNat_natCast]
      exact Nat.le_of_lt (small _ (by simp; omega))
    rw [Int.toNat_natCast, rep_zero]
    have s2 := sq.trans (Same.new (o := .lst ((List.replicate (sz * d - ws.length) (0 : Int)).map V.int)) n2)
    refine ⟨W, q2, _, _, rfl, rfl, s2 _ _ hW, upd_same, Nat.le_of_lt (small _ (by simp; omega)), fun q3 n3 => ?_⟩
    have eW : ws.map V.int ++ (List.replicate (sz * d - ws.length) (0 : Int)).map V.int = (fillM ws d).map V.int := by unfold fillM; rw [hsz, List.map_append]
    rw [eW]
    have s3 := s2.trans (Same.new (o := .lst ((fillM ws d).map V.int)) n3)
    have dF : upd (upd (upd H q (.lst [V.int 0])) q2 (.lst ((List.replicate (sz * d - ws.length) (0 : Int)).map V.int))) q3 (.lst ((fillM ws d).map V.int)) q3 = some (.lst ((fillM ws d).map V.int)) := upd_same
    generalize upd (upd (upd H q (.lst [V.int 0])) q2 (.lst ((List.replicate (sz * d - ws.length) (0 : Int)).map V.int))) q3 (.lst ((fillM ws d).map V.int)) = H3 at s3 dF ⊢
    have cl := cuts_len ws d
    refine ⟨_, rfl, _, rfl, by omega, by omega, fun D nD => ?_⟩
    rw [Int.toNat_natCast]
    refine lc_it walk_range (fun i H' => ∃ F : List (Addr × List Int), Same H3 H' ∧ LA H' D F ∧ snds F = (cutsM ws d).take i) ⟨[], Same.new nD, ⟨upd_same, fun _ m => nomatch m⟩, rfl⟩ (fun _ _ _ _ => True.intro) ?_ ?_
    · rintro i y H4 H5 hi ⟨F, s4, LF, eF⟩ ⟨rfl, rfl⟩
      have hlt : (i + 1) * sz ≤ sz * 6 := by rw [Nat.mul_comm]; exact Nat.mul_le_mul_left _ (by omega)
      have hlt2 : i * sz ≤ (i + 1) * sz := Nat.mul_le_mul_right _ (by omega)
      refine ⟨rfl, _, rfl, _, rfl, _, rfl, _, _, rfl, rfl, .inl ⟨by omega, by omega⟩, _, rfl, _, rfl, _, _, rfl, rfl, _, rfl, _, _, rfl, rfl, .inl ⟨by omega, by omega⟩, _, rfl, q3, _, rfl, SqL.of (s4 _ _ dF), fun C nC => ?_⟩
      rw [show (0 : Int) + (i : Nat) = (i : Int) by omega, show ((i : Int) + 1) * (sz : Int) = (((i + 1) * sz : Nat) : Int) by push_cast; rfl, show (i : Int) * (sz : Int) = ((i * sz : Nat) : Int) by push_cast; rfl, cut_ints]
      have er : ((fillM ws d).drop (i * sz)).take ((i + 1) * sz - i * sz) = (cutsM ws d).getD i [] := by
        have q : (cutsM ws d)[i]? = some (((fillM ws d).drop (i * sz)).take sz) := by unfold cutsM; rw [List.getElem?_map, List.getElem?_range hi, hsz]; rfl
        rw [getD_item q, show (i + 1) * sz - i * sz = sz by rw [Nat.succ_mul]; omega]
      rw [er]
      have gi : (cutsM ws d)[i]? = some ((cutsM ws d).getD i []) := by rw [List.getD_eq_getElem?_getD, List.getElem?_eq_getElem (by omega)]; rfl
      generalize (cutsM ws d).getD i [] = row at gi ⊢
      have sC := Same.new (o := .lst (row.map V.int)) nC
      have LC := LF.same sC
      have nCD : C ≠ D := (ne_of_none LF.1 nC).symm
      have lF : F.length ≤ i := by
        have := congrArg List.length eF
        rw [snds_len, List.length_take] at this
        omega
      refine ⟨_, LC.1, small _ (by rw [refs_len]; omega), F ++ [(C, row)], same_put (s4.trans sC) nD, ?_, ?_⟩
      · rw [show refs F ++ [V.ref C] = refs (F ++ [(C, row)]) by unfold refs; rw [List.map_append]; rfl]
        refine LA.put fun e' me => ?_
        rcases List.mem_append.mp me with me | me
        · exact LC.2 e' me
        · have : e' = (C, row) := by simpa using me
          subst this
          exact ⟨upd_same, nCD⟩
      · rw [take_snoc gi, ← eF, snds, List.map_append]
        rfl
    rintro H4 ⟨F, s4, LF, eF⟩
    rw [List.take_of_length_le (by omega)] at eF
    have lF : F.length = d := by rw [← snds_len, eF, cl]
    have s4' := s3.trans s4
    have nD0 := same_none s3 nD
    refine ⟨_, rfl, _, rfl, _, _, rfl, ⟨by omega, by omega, by omega, by omega⟩, ?_⟩
    rw [show ((c : Int) - (d : Int)).toNat = c - d by omega]
    have rows : ∀ r ∈ cutsM ws d, r.length = sz := fun r m => by rw [← hsz]; exact cuts_row d1 r m
    have est : ∀ i, i < c - d → (stripeM ws d c)[d + i]? = some (pieceM (upto d) (cutsM ws d) ((d + i : Nat) : Int) sz) := fun i hi => by
      unfold stripeM
      rw [List.getElem?_append_right (by omega), List.getElem?_map, List.getElem?_range (by omega), hsz, cl]
      show some (pieceM _ _ ((d + (d + i - d) : Nat) : Int) _) = _
      rw [show d + (d + i - d) = d + i by omega]
    refine for_range (lo := (d : Int)) (n := c - d) (fun i σ H' => ∃ (v6 v7 : Option V) (G : List (Addr × List Int)), σ = [some (.ref W), some (.int (d : Int)), some (.int (c : Int)), some (.int (sz : Int)), some (.ref q3), some (.ref D), v6, v7, none, none] ∧ Same H H' ∧ LA H' D G ∧ snds G = (stripeM ws d c).take (d + i))
      ⟨none, none, F, rfl, s4', LF, by rw [eF]; unfold stripeM; rw [List.take_append_of_le_length (by omega), List.take_of_length_le (by omega)]⟩ ?_ ?_
    · rintro i σ H5 hi ⟨v6, v7, G, rfl, s5, LG, eG⟩
      have lG : G.length = d + i := by
        have := congrArg List.length eG
        rw [snds_len, List.length_take, stripe_len dc] at this
        omega
      -- factors = _law_factors([j for j in range(data)], k)
      refine ⟨_, rfl, _, rfl, by omega, by omega, fun E nE => ?_⟩
      rw [Int.toNat_natCast]
      refine lc_it walk_range (fun m H' => Same H5 H' ∧ H' E = some (.lst ((upto m).map V.int))) ⟨Same.new nE, upd_same⟩ (fun _ _ _ _ => True.intro) ?_ ?_
      · rintro m y H6 H7 hm ⟨s6, hE⟩ ⟨rfl, rfl⟩
        refine ⟨rfl, _, rfl, _, hE, small _ (by rw [List.length_map, upto_len]; omega), same_put s6 nE, ?_⟩
        rw [upd_same]
        unfold upto
        rw [List.range_succ, List.map_append, List.map_append]
        simp
      rintro H6 ⟨s6, hE⟩
      refine ⟨_, rfl, E, d, (d : Int) + (i : Nat), rfl, SqL.of hE, by omega, fun Fc H7 s7 nFc dFc => ?_⟩
      have exd : ((d : Int) + (i : Nat)) = ((d + i : Nat) : Int) := by omega
      rw [exd] at dFc ⊢
      rw [facM_eq (by omega) (by omega)] at dFc
      have wl := weightsM_length (upto d) ((d + i : Nat) : Int)
      rw [upto_len] at wl
      have LG7 := LG.same (s6.trans s7)
      -- pieces.append([..])
      refine ⟨_, rfl, .inl ⟨rfl, _, SqL.of LG7.1⟩, _, rfl, _, rfl, by omega, by omega, fun C nC => ?_⟩
      rw [Int.toNat_natCast]
      refine lc_it walk_range (fun m H' => Same H7 H' ∧ H' C = some (.lst (((pieceM (upto d) (cutsM ws d) ((d + i : Nat) : Int) sz).take m).map V.int))) ⟨Same.new nC, upd_same⟩ (fun _ _ _ _ => True.intro) ?_ ?_
      · rintro m y H8 H8' hm ⟨s8, hC⟩ ⟨rfl, rfl⟩
        refine ⟨rfl, _, rfl, _, rfl, by omega, by omega, fun B nB => ?_⟩
        rw [Int.toNat_natCast]
        have colM : ∀ j, j < d → ∃ e, G[j]? = some e ∧ e.2 = (cutsM ws d).getD j [] ∧ e.2.length = sz := fun j hj => by
          have hG : G[j]? = some G[j] := List.getElem?_eq_getElem (by omega)
          have h2 : (snds G)[j]? = some G[j].2 := by rw [List.getElem?_map, hG]; rfl
          rw [eG, List.getElem?_take, if_pos (by omega)] at h2
          unfold stripeM at h2
          rw [List.getElem?_append_left (by omega)] at h2
          exact ⟨_, hG, (getD_item h2).symm, rows _ (List.mem_of_getElem? h2)⟩
        refine lc_it walk_range (fun t H' => Same H8' H' ∧ H' B = some (.lst (((List.range t).map fun j => (weightsM (upto d) ((d + i : Nat) : Int)).getD j 0 * ((cutsM ws d).map fun r => r.getD m 0).getD j 0).map V.int))) ⟨Same.new nB, upd_same⟩ (fun _ _ _ _ => True.intro) ?_ ?_
        · rintro t y H9 H9' ht ⟨s9, hB⟩ ⟨rfl, rfl⟩
          obtain ⟨e, hGe, e2, le⟩ := colM t ht
          have hw : (weightsM (upto d) ((d + i : Nat) : Int))[t]? = some (weightsM (upto d) ((d + i : Nat) : Int))[t] := List.getElem?_eq_getElem (by omega)
          have he : e.2[m]? = some e.2[m] := List.getElem?_eq_getElem (by omega)
          have LG9 := (LG7.same s8).same s9
          have mGe := List.mem_of_getElem? hGe
          have wb : 0 ≤ (weightsM (upto d) ((d + i : Nat) : Int))[t] ∧ (weightsM (upto d) ((d + i : Nat) : Int))[t] < 65521 := by
            have e1 := weightsM_get (x := ((d + i : Nat) : Int)) (ws := upto d) (i := t) (by rw [upto_len]; omega)
            rw [hw] at e1
            rw [Option.some.inj e1]
            exact wgt_word _ _ _
          refine ⟨rfl, _, rfl, _, rfl, Fc, _, _, _, rfl, rfl, SqL.of (s9 _ _ (s8 _ _ dFc)), at_of (j := t) (by omega) (by rw [List.getElem?_map, hw]; rfl), ?_⟩
          refine ⟨_, rfl, _, rfl, D, _, _, _, rfl, rfl, SqL.of LG9.1, at_of (j := t) (by omega) (refs_get hGe), _, rfl, e.1, _, _, _, rfl, rfl, SqL.of (LG9.2 _ mGe).1, at_of (j := m) (by omega) (by rw [List.getElem?_map, he]; rfl), _, _, rfl, rfl, .inl ⟨by omega, by omega⟩, ?_⟩
          refine ⟨_, hB, small _ (by simp; omega), same_put s9 nB, ?_⟩
          rw [upd_same, List.range_succ, List.map_append, List.map_append]
          have q1 : (weightsM (upto d) ((d + i : Nat) : Int)).getD t 0 = (weightsM (upto d) ((d + i : Nat) : Int))[t] := getD_item hw
          have q2 : ((cutsM ws d).map fun r => r.getD m 0).getD t 0 = e.2[m] := by
            have : (cutsM ws d)[t]? = some e.2 := by rw [e2, List.getD_eq_getElem?_getD, List.getElem?_eq_getElem (by omega)]; rfl
            exact getD_item (by rw [List.getElem?_map, this]; show some (e.2.getD m 0) = _; rw [getD_item he])
          show some (HO.lst (_ ++ [V.int ((weightsM (upto d) ((d + i : Nat) : Int))[t] * e.2[m])])) = some (HO.lst (_ ++ [V.int ((weightsM (upto d) ((d + i : Nat) : Int)).getD t 0 * ((cutsM ws d).map fun r => r.getD m 0).getD t 0)]))
          rw [q1, q2]
        rintro H9 ⟨s9, hB⟩
        refine ⟨B, _, rfl, SqL.of hB, .inl ⟨_, rfl, _, _, rfl, rfl, (by show (0 : Int) < 65521; decide), ?_⟩⟩
        have ev : ((List.range d).map fun j => (weightsM (upto d) ((d + i : Nat) : Int)).getD j 0 * ((cutsM ws d).map fun r => r.getD m 0).getD j 0).sum % 65521 = valM (upto d) ((cutsM ws d).map fun r => r.getD m 0) ((d + i : Nat) : Int) := by
          unfold valM dotR
          rw [wl]
        have g : (pieceM (upto d) (cutsM ws d) ((d + i : Nat) : Int) sz)[m]? = some (valM (upto d) ((cutsM ws d).map fun r => r.getD m 0) ((d + i : Nat) : Int)) := by simp [pieceM, hm]
        refine ⟨_, s9 _ _ hC, small _ (by simp [pieceM]; omega), same_put (s8.trans s9) nC, ?_⟩
        rw [upd_same, take_snoc g, List.map_append]
        show some (HO.lst (_ ++ [V.int (((List.range d).map fun j => (weightsM (upto d) ((d + i : Nat) : Int)).getD j 0 * ((cutsM ws d).map fun r => r.getD m 0).getD j 0).sum % 65521)])) = _
        rw [ev]
        rfl
      rintro H8 ⟨s8, hC⟩
      have lp : (pieceM (upto d) (cutsM ws d) ((d + i : Nat) : Int) sz).length = sz := by simp [pieceM]
      rw [List.take_of_length_le (by omega)] at hC
      have LG8 := LG7.same s8
      have nCD : C ≠ D := (ne_of_none LG7.1 nC).symm
      refine ⟨D, _, _, rfl, rfl, LG8.1, small _ (by rw [refs_len]; omega), ?_⟩
      generalize hrow : pieceM (upto d) (cutsM ws d) ((d + i : Nat) : Int) sz = row at hC lp
      refine ⟨_, _, G ++ [(C, row)], rfl, same_put (((s5.trans s6).trans s7).trans s8) nD0, ?_, ?_⟩
      · rw [show refs G ++ [V.ref C] = refs (G ++ [(C, row)]) by unfold refs; rw [List.map_append]; rfl]
        refine LA.put fun e' me => ?_
        rcases List.mem_append.mp me with me | me
        · exact LG8.2 e' me
        · have : e' = (C, row) := by simpa using me
          subst this
          exact ⟨hC, nCD⟩
      · have g := est i hi
        rw [hrow] at g
        rw [show d + (i + 1) = d + i + 1 by omega, take_snoc g, ← eG, snds, List.map_append]
        rfl
    rintro σ H5 ⟨v6, v7, G, rfl, s5, LG, eG⟩
    rw [List.take_of_length_le (by rw [stripe_len dc]; omega)] at eG
    exact ⟨_, rfl, k D G H5 s5 nD0 LG eG⟩
theorem sc_piece_at : FnScope ["known", "places", "number", "factors", "column", "factor", "word"] ["known", "places", "number"] (defScope s_piece_at) := ⟨rfl, rfl, rfl, by decide +kernel, rfl, by decide +kernel, by decide +kernel⟩
theorem ok_piece_at (T : Txt K mg a) : FnOk P w K mg base CX0 4 a.f_piece_at a.d_piece_at ["known", "places", "number"] (sp_piece_at K a) := by
  refine T.F_piece_at.ok sc_piece_at (fun vs H Q E h => ?len) (fun cdv A outer s H vs Q E hr h => ?body)
  case len =>
    exact sp_piece_at_len h
  case body =>
    obtain ⟨R, P, F, ws, x, n, rfl, hR, hP, hap, hlen, hne, h8, hn, hrow, k⟩ := h
    refine ⟨_, (pss_cons (ps_set (i := 3) sc_piece_at.nd rfl (Or.inr rfl) (pe_call (ok_weights T) (hr.mono (by decide)) rfl T.g_weights T.F_weights.kp T.d_weights .nil pass0 (pa_cons (pv 1) (pa_cons (pv 2) pa_nil))))
      (pss_one (ps_ret (pe_lc (own := [("column", 4)]) (g := (gName 4)) (by rfl) sc_piece_at.nd (pi_zipS (by rfl) T.n_zip (pv 0)) (blkOk_by (own := [("column", 4)]) (N := ["known", "places", "number", "factors", "column", "factor", "word"]) (sc := defScope s_piece_at) (by decide +kernel))
      (fun _ _ _ _ _ => (pg_name (i := 4) sc_piece_at.nd rfl (Or.inl rfl))) (fun _ _ _ _ _ => pts_nil) (fun _ _ _ _ _ => (pe_op op_mod (pe_callB (by exact cr_sum rfl : CallR _ _ (rSum K)) (by rfl) T.n_sum (by decide +kernel) (pa_cons (pe_lc (own := [("factor", 5), ("word", 6)]) (g := (gTup K 2 (gCons (gName 5) (gCons (gName 6) gNil)))) (by rfl) sc_piece_at.nd (by exact pi_zipM (by rfl) T.n_zip (pa_cons (pv 3) (pa_cons (pv 4) pa_nil)) : PI _ _ _ (iZipM K _)) (blkOk_by (own := [("factor", 5), ("word", 6)]) (N := ["known", "places", "number", "factors", "column", "factor", "word"]) (by kernel_rfl))
      (fun _ _ _ _ _ => (pg_tup rfl (pgs_cons (pg_name (i := 5) sc_piece_at.nd rfl (Or.inl rfl)) (pgs_cons (pg_name (i := 6) sc_piece_at.nd rfl (Or.inl rfl)) pgs_nil)))) (fun _ _ _ _ _ => pts_nil) (fun _ _ _ _ _ => (pe_op op_mul (pv 5) (pv 6)))) pa_nil)) (pe_const T.g_PRIME))))))), ?_⟩
    refine ⟨_, rfl, _, rfl, P, ws, x, rfl, hP, hap, by omega, fun D1 H1 s1 n1 h1 => ?_⟩
    have R1 := hR.same s1
    have wl : (weightsM ws x).length = F.length := by rw [weightsM_length, hlen]
    have hr : (F.map (·.1)).map V.ref = refs F := by simp [refs]
    refine ⟨_, rfl, R, F.map (·.1), rfl, by rw [hr]; exact R1.1, by simpa using hne, by simpa using h8, fun l hl => ?_, ?_⟩
    · obtain ⟨e, me, rfl⟩ := List.mem_map.1 hl
      exact ⟨_, R1.2 e me⟩
    refine fun D new => lc_it (walk_cols hne hrow) (fun i H' => Same H1 H' ∧ H' D = some (.lst (((pieceM ws (snds F) x n).take i).map V.int))) ⟨Same.new new, upd_same⟩ (fun i H' _ q e m => q.1.seq (R1.2 e m)) ?_ ?_
    · rintro i y Ha Hb hi ⟨s2, hD⟩ ⟨T, rfl, hT, rfl⟩
      refine ⟨rfl, ?_⟩
      have s3 : Same Ha (upd Ha T (.tup (((snds F).map fun r => r.getD i 0).map V.int))) := Same.new hT
      have d1 := s3 _ _ (s2 _ _ h1)
      have cl : ((snds F).map fun r => r.getD i 0).length = F.length := by simp [snds]
      refine ⟨_, rfl, _, rfl, D1, T, _, _, rfl, SqL.of d1, SqT.of upd_same, fun G nG => lc_it (walk_zipM (n := F.length) (by rw [List.length_map]; exact wl) (by rw [List.length_map]; exact cl)) (fun j H' => Same (upd Ha T (.tup (((snds F).map fun r => r.getD i 0).map V.int))) H' ∧ H' G = some (.lst (((List.range j).map fun j => (weightsM ws x).getD j 0 * ((snds F).map fun r => r.getD i 0).getD j 0).map V.int)))
        ⟨Same.new nG, upd_same⟩ (fun i H' _ q => ⟨q.1.seq (SqL.of d1), q.1.tup (SqT.of upd_same)⟩) ?_ ?_⟩
      · rintro j y Hc Hd hj ⟨s4, hG⟩ ⟨t, u, v, rfl, ht, rfl, hu, hv⟩
        obtain ⟨c, hc, rfl⟩ := int_item hu
        obtain ⟨d, hd, rfl⟩ := int_item hv
        have s5 : Same Hc (upd Hc t (.tup [V.int c, V.int d])) := Same.new ht
        refine ⟨t, _, rfl, SqT.of upd_same, rfl, _, _, rfl, _, _, rfl, rfl, ?_⟩
        have wc : 0 ≤ c ∧ c < 65521 := by
          have e1 := weightsM_get (x := x) (ws := ws) (i := j) (by omega)
          rw [hc] at e1
          rw [Option.some.inj e1]
          exact wgt_word _ _ _
        refine ⟨rfl, _, rfl, _, rfl, _, _, rfl, rfl, .inl ⟨by omega, by omega⟩, _, s5 _ _ hG, small _ (by simp; omega), fun b o e => ?_, ?_⟩
        · rw [upd_ne (ne_of_none e nG)]
          exact s5 _ _ (s4 b o e)
        · rw [upd_same, List.range_succ, List.map_append, List.map_append]
          have e1 : (weightsM ws x).getD j 0 = c := getD_item hc
          have e2 : ((snds F).map fun r => r.getD i 0).getD j 0 = d := getD_item hd
          show some (HO.lst (_ ++ [V.int (c * d)])) = some (HO.lst (_ ++ [V.int ((weightsM ws x).getD j 0 * ((snds F).map fun r => r.getD i 0).getD j 0)]))
          rw [e1, e2]
      · rintro H3 ⟨s4, hG⟩
        refine ⟨G, _, rfl, SqL.of hG, _, _, rfl, rfl, (by show (0 : Int) < 65521; decide), ?_⟩
        have e : ((List.range F.length).map fun j => (weightsM ws x).getD j 0 * ((snds F).map fun r => r.getD i 0).getD j 0).sum % 65521 = valM ws ((snds F).map fun r => r.getD i 0) x := by
          unfold valM dotR
          rw [wl]
        have g : (pieceM ws (snds F) x n)[i]? = some (valM ws ((snds F).map fun r => r.getD i 0) x) := by simp [pieceM, hi]
        refine ⟨_, s4 _ _ (s3 _ _ hD), small _ (by simp [pieceM]; omega), fun b o e' => ?_, ?_⟩
        · rw [upd_ne (ne_of_none e' new)]
          exact s4 _ _ (s3 _ _ (s2 b o e'))
        · rw [upd_same, take_snoc g, List.map_append]
          show some (HO.lst (_ ++ [V.int (((List.range F.length).map fun j => (weightsM ws x).getD j 0 * ((snds F).map fun r => r.getD i 0).getD j 0).sum % 65521)])) = _
          rw [e]
          rfl
    · rintro H' ⟨s2, hD⟩
      have e : (pieceM ws (snds F) x n).take n = pieceM ws (snds F) x n := List.take_of_length_le (by simp [pieceM])
      rw [e] at hD
      exact k D H' (s1.trans s2) (Classical.byContradiction fun q => by cases q' : H D with | none => exact q q' | some o => exact absurd (s1 _ _ q') (by rw [new]; exact fun z => nomatch z)) hD
theorem sc_good_piece : FnScope ["images", "place", "stamp", "size", "disk", "row", "found"] ["images", "place", "stamp", "size"] (defScope s_good_piece) := ⟨rfl, rfl, rfl, by decide +kernel, rfl, by decide +kernel, by decide +kernel⟩
theorem ok_good_piece (T : Txt K mg a) : FnOk P w K mg base CX0 4 a.f_good_piece a.d_good_piece ["images", "place", "stamp", "size"] (sp_good_piece K a) := by
  refine T.F_good_piece.ok sc_good_piece (fun vs H Q E h => ?len) (fun cdv A outer s H vs Q E hr h => ?body)
  case len =>
    exact sp_good_piece_len h
  case body =>
    obtain ⟨X, I, Pa, Sa, st, d, r, e, s, n, o, rfl, hI, ls, lr, hP, hS, hg, k0, k1⟩ := h
    refine ⟨_, (pss_cons (ps_asg (pv 1) (pg_tup rfl (pgs_cons (pg_name (i := 4) sc_good_piece.nd rfl (Or.inl rfl)) (pgs_cons (pg_name (i := 5) sc_good_piece.nd rfl (Or.inl rfl)) pgs_nil))))
      (pss_cons (ps_set (i := 6) sc_good_piece.nd rfl (Or.inl rfl) (pe_call (ok_unseal T) (hr.mono (by decide)) rfl T.g_unseal T.F_unseal.kp T.d_unseal .nil pass0 (pa_cons (pe_call (ok_sector_at T) (hr.mono (by decide)) rfl T.g_sector_at T.F_sector_at.kp T.d_sector_at .nil pass0 (pa_cons (pv 0) (pa_cons (pv 4) (pa_cons (pv 5) pa_nil)))) (pa_cons (pe_const T.g_PIECE) (pa_cons (pv 4) (pa_cons (pv 5) pa_nil))))))
      (pss_cons (ps_if (PW.pt (pw_or (pt_cmpR op_isN (pv 6) pe_non (nomark _)) (pw_or (pt_cmpR (op_neD hr.units) (pe_ix ix_tup (pv 6) pe_int (fun _ _ => rfl)) (pv 2) (nomark _)) (pw_or1 (pt_cmpR op_ne (pe_callB call_len_seq (by rfl) T.n_len PySem.boot_len (pa_cons (pe_ix ix_tup (pv 6) pe_int (fun _ _ => rfl)) pa_nil)) (pv 3) (nomark _))))))
      (pss_one (ps_ret pe_non))
      pss_nil)
      (pss_one (ps_ret (pe_ix ix_tup (pv 6) pe_int (fun _ _ => rfl))))))), ?_⟩
    have bad : (∀ sc, secS st d r = some sc → ¬ (Good sc.2 3 (d : Int) (r : Int) ∧ stampM sc.2 = (e, s) ∧ (payM sc.2).length = n)) → ∀ H', Same H H' → Q .non H' := fun hn => k0 (by
      cases o with
      | none => rfl
      | some ws =>
        obtain ⟨sc, z, g1, g2, g3, _⟩ := hg
        exact absurd ⟨g1, g2, g3⟩ (hn sc z))
    refine ⟨_, rfl, Pa, _, rfl, hP, rfl, _, _, rfl, _, _, rfl, rfl, ?_⟩
    refine ⟨_, rfl, _, rfl, _, rfl, X, I, st, d, r, rfl, hI, ls, lr, _, rfl, _, rfl, secV st d r, 3, d, r, rfl, ?_⟩
    rcases hss : secS st d r with _ | sc
    · refine .inl ⟨by unfold secV; rw [hss]; rfl, fun H1 s1 => ⟨_, rfl, rfl, _, rfl, ?_⟩⟩
      rw [decide_eq_true rfl]
      exact iteT (iteT (bad (fun sc z => by rw [hss] at z; cases z) _ s1))
    obtain ⟨dk, e1, e2⟩ := sec_some hss
    have hR := hI.hR d dk _ sc e1 e2
    refine .inr ⟨sc.1, sc.2, by unfold secV; rw [hss]; rfl, SqL.of hR.1, by omega, fun ng H1 s1 => ⟨_, rfl, rfl, _, rfl, ?_⟩, fun g T' S' D' H1 s1 nT nD dT dS dD => ⟨_, rfl, rfl, _, rfl, ?_⟩⟩
    · rw [decide_eq_true rfl]
      exact iteT (iteT (bad (fun sc' z h => by rw [hss] at z; cases z; exact ng h.1) _ s1))
    rw [decide_eq_false (show ¬ V.ref T' = V.non from fun z => nomatch z)]
    have z1 : SqT K H1 S' (([sc.2.getD 3 0, sc.2.getD 4 0 * 65521 + sc.2.getD 5 0] : List Int).map V.int) := SqT.of dS
    have z2 : SqT K H1 Sa (([e, s] : List Int).map V.int) := s1.tup hS
    refine iteF ⟨_, rfl, T', _, _, _, rfl, rfl, SqT.of dT, at_of (j := 0) rfl rfl, _, rfl, _, _, dp_tints z1, dp_tints z2, shaped_tints _, shaped_tints _, _, rfl, ?_⟩
    rw [eqv_tints]
    by_cases c : stampM sc.2 = (e, s)
    · have c' : sc.2.getD 3 0 = e ∧ sc.2.getD 4 0 * 65521 + sc.2.getD 5 0 = s := ⟨congrArg Prod.fst c, congrArg Prod.snd c⟩
      rw [decide_eq_true (by rw [c'.1, c'.2])]
      refine iteF ⟨_, rfl, T', _, _, _, rfl, rfl, SqT.of dT, at_of (j := 1) rfl rfl, D', _, rfl, .inl (SqL.of dD), _, rfl, rfl, _, rfl, ?_⟩
      rw [List.length_map]
      by_cases c2 : (payM sc.2).length = n
      · rw [decide_eq_true (show V.int ((payM sc.2).length : Nat) = V.int (n : Int) by rw [c2])]
        refine iteF ⟨_, rfl, T', _, _, _, rfl, rfl, SqT.of dT, at_of (j := 1) rfl rfl, ?_⟩
        cases o with
        | none => exact absurd ⟨g, c, c2⟩ (hg sc hss)
        | some ws =>
          obtain ⟨sc', y, _, _, _, y2⟩ := hg
          rw [hss] at y
          cases y
          rw [y2] at dD
          exact k1 ws rfl D' H1 s1 nD dD
      · rw [decide_eq_false (show ¬ V.int ((payM sc.2).length : Nat) = V.int (n : Int) from fun z => c2 (by have := V.int.inj z; omega))]
        exact iteT (bad (fun sc' z h => by rw [hss] at z; cases z; exact c2 h.2.2) _ s1)
    · rw [decide_eq_false (show ¬ [sc.2.getD 3 0, sc.2.getD 4 0 * 65521 + sc.2.getD 5 0] = [e, s] from fun z => c (by
        injection z with w1 w2
        injection w2 with w2 _
        show (sc.2.getD 3 0, sc.2.getD 4 0 * 65521 + sc.2.getD 5 0) = _
        rw [w1, w2]))]
      exact iteT (iteT (bad (fun sc' z h => by rw [hss] at z; cases z; exact c h.2.1) _ s1))
theorem sc_recover : FnScope ["pieces", "data", "places", "known", "whole", "number", "piece", "place"] ["pieces", "data"] (defScope s_recover) := ⟨rfl, rfl, rfl, by decide +kernel, rfl, by decide +kernel, by decide +kernel⟩
theorem ok_recover (T : Txt K mg a) : FnOk P w K mg base (L2N.CX P w) 5 a.f_recover a.d_recover ["pieces", "data"] (sp_recover K a) := by
  refine T.F_recover.okN sc_recover (fun vs H Q E h => ?len) (fun cdv A outer s H vs Q E hr h => ?body)
  case len =>
    exact sp_recover_len h
  case body =>
    obtain ⟨R, F, data, rfl, hR, h50, h500, kB, kF, kQ⟩ := h
    have hml : (refsO F).length = F.length := List.length_map _
    refine ⟨_, (pss_cons (ps_set (i := 2) sc_recover.nd rfl (Or.inl rfl) (pe_slice sl_list (pe_call (ok_present_numbers T) (hr.mono (by decide)) rfl T.g_present_numbers T.F_present_numbers.kp T.d_present_numbers .nil (L2N.passes_call (L2N.takes_of rfl rfl rfl rfl) (fun _ _ _ _ z => z)) (pa_cons (pv 0) (pa_cons (pv 1) pa_nil))) po_none (po_some (pv 1))))
      (pss_cons (ps_setLc (i := 3) (own := [("place", 7)]) (g := (gName 7)) (by rfl) sc_recover.nd rfl rfl (sw_true rfl rfl rfl (by decide +kernel)) (pi_list (pv 2)) (blkOk_by (own := [("place", 7)]) (N := ["pieces", "data", "places", "known", "whole", "number", "piece", "place"]) (sc := defScope s_recover) (by decide +kernel))
      (fun _ _ _ _ _ => (pg_name (i := 7) sc_recover.nd rfl (Or.inl rfl))) (fun _ _ _ _ _ => pts_nil) (fun _ _ _ _ _ => (pe_ix (by exact ix_list : IxR _ (rIxL K)) (pv 0) (pv 7) (fun _ _ => rfl))))
      (pss_cons (ps_set (i := 4) sc_recover.nd rfl (Or.inl rfl) (pe_lst pa_nil))
      (pss_cons (ps_for (passes_of rfl) rfl (pi_enum (by rfl) T.n_enumerate (pa_cons (pv 0) pa_nil)) (pg_tup rfl (pgs_cons (pg_name (i := 5) sc_recover.nd rfl (Or.inl rfl)) (pgs_cons (pg_name (i := 6) sc_recover.nd rfl (Or.inl rfl)) pgs_nil)))
      (pss_one (ps_expr (pe_bm PySem.F.plainAttrs_list PySem.F.slot_list_append PySem.F.type_list_append mt_append (pv 4) (pa_cons (pe_ifExp (pt_cmpR op_isN (pv 6) pe_non (nomark _)) (pe_call (ok_piece_at T) (hr.mono (by decide)) rfl T.g_piece_at T.F_piece_at.kp T.d_piece_at .nil pass0 (pa_cons (pv 3) (pa_cons (pv 2) (pa_cons (pv 5) pa_nil)))) (pe_callTy call_list_of (by rfl) T.n_list (by decide +kernel) (pa_cons (pv 6) pa_nil))) pa_nil)))))
      (pss_one (ps_ret (pv 4))))))), ?_⟩
    -- places = present_numbers(pieces, data)[:data]
    refine ⟨_, rfl, _, rfl, R, F, data, rfl, hR, h50, kB, kF, fun nB nF D1 H1 s1 n1 d1 => ?_⟩
    obtain ⟨a1, a2, a3, a4⟩ : F.length ≤ 8 ∧ 1 ≤ data ∧ data ≤ F.length ∧ ¬ BadLen (snds (rowsP F)) := by
      refine ⟨Classical.byContradiction fun q => nB (.inl (by omega)), Classical.byContradiction fun q => nB (.inr (.inl (by omega))), Classical.byContradiction fun q => nB (.inr (.inr (.inl (by omega)))), fun q => nB (.inr (.inr (.inr q)))⟩
    obtain ⟨d, rfl⟩ : ∃ n : Nat, data = (n : Int) := ⟨data.toNat, by omega⟩
    have dp : d ≤ (presM F).length := Classical.byContradiction fun q => nF (by unfold Few; omega)
    refine ⟨_, rfl, _, rfl, D1, _, rfl, SqL.of d1, fun Pl nPl => ?_⟩
    have ec : cutV ((intsN (presM F)).map V.int) none (some (d : Int)) = (intsN ((presM F).take d)).map V.int := by
      rw [cut_take]
      unfold intsN
      rw [List.map_take, List.map_take]
    rw [ec]
    have s2 := s1.trans (Same.new (o := .lst ((intsN ((presM F).take d)).map V.int)) nPl)
    have dPl : upd H1 Pl (.lst ((intsN ((presM F).take d)).map V.int)) Pl = some (.lst ((intsN ((presM F).take d)).map V.int)) := upd_same
    generalize upd H1 Pl (.lst ((intsN ((presM F).take d)).map V.int)) = H2 at s2 dPl ⊢
    have tl : ((presM F).take d).length = d := by rw [List.length_take]; omega
    have il : (intsN ((presM F).take d)).length = d := by unfold intsN; rw [List.length_map, tl]
    have hR2 := hR.same s2
    -- known = [pieces[place] for place in places]
    refine ⟨_, rfl, Pl, rfl, ⟨_, SqL.of dPl⟩, fun Kn nK => lc_list (K := K) (a := Pl) (xs := (intsN ((presM F).take d)).map V.int) (fun i H' => Same H2 H' ∧ H' Kn = some (.lst (refs ((((presM F).take d).map (rowAt F)).take i)))) ⟨Same.new nK, upd_same⟩ (fun i H' _ q => q.1.seq (SqL.of dPl)) ?_ ?_⟩
    · rintro i y H3 hi ⟨s3, hC⟩
      obtain ⟨c, hc, rfl⟩ := int_item hi
      obtain ⟨m, hm, rfl⟩ : ∃ m : Nat, ((presM F).take d)[i]? = some m ∧ c = (m : Int) := by
        unfold intsN at hc
        rw [List.getElem?_map] at hc
        cases q : ((presM F).take d)[i]? with
        | none => rw [q] at hc; cases hc
        | some m => rw [q] at hc; exact ⟨m, rfl, (Option.some.inj hc).symm⟩
      have hg := (presM_lt (List.mem_of_mem_take (List.mem_of_getElem? hm))).2
      have g : (((presM F).take d).map (rowAt F))[i]? = some (rowAt F m) := by rw [List.getElem?_map, hm]; rfl
      refine ⟨rfl, _, rfl, _, rfl, R, _, _, _, rfl, rfl, s3.seq hR2.1, at_of (j := m) rfl (refsO_get hg), _, hC, small _ (by simp [refs]; omega), same_put s3 nK, ?_⟩
      rw [upd_same, take_snoc g]
      unfold refs
      rw [List.map_append]
      rfl
    rintro H3 ⟨s3, hC⟩
    rw [List.take_of_length_le (by simp [intsN])] at hC
    have s4 := s2.trans s3
    have hR3 := hR2.same s3
    have dP3 := s3 _ _ dPl
    have len : ∀ i ∈ presM F, (rowAt F i).2.length = ((snds (rowsP F)).getD 0 []).length := fun i m => Classical.byContradiction fun q => a4 ⟨_, List.mem_map.mpr ⟨_, List.mem_map.mpr ⟨i, m, rfl⟩, rfl⟩, q⟩
    have RLC : RL K H3 Kn (((presM F).take d).map (rowAt F)) := ⟨SqL.of hC, fun e me => by
      obtain ⟨i, mi, rfl⟩ := List.mem_map.mp me
      exact hR3.rows i (List.mem_of_mem_take mi)⟩
    generalize hn : ((snds (rowsP F)).getD 0 []).length = n at h500 kQ len ⊢
    -- whole = []
    refine ⟨Nat.zero_le _, fun Wh nWh => ?_⟩
    have nWh0 : H Wh = none := same_none s4 nWh
    -- for number, piece in enumerate(pieces)
    refine ⟨_, rfl, R, _, rfl, (Same.new nWh).seq hR3.1, for_it walk_enum (fun i σ H' => ∃ (v5 v6 : Option V) (G : List (Addr × List Int)), σ = [some (.ref R), some (.int (d : Int)), some (.ref Pl), some (.ref Kn), some (.ref Wh), v5, v6, none] ∧ Same H3 H' ∧ LA H' Wh G ∧ (G.map (·.1)).Nodup ∧ (∀ e ∈ G, H e.1 = none) ∧ snds G = (recM F d n).take i)
      ⟨none, none, [], rfl, Same.new nWh, ⟨upd_same, fun _ m => nomatch m⟩, List.nodup_nil, fun _ m => (nomatch m), rfl⟩ (fun i σ H' _ ⟨_, _, _, _, s', _⟩ => s'.seq hR3.1) ?_ ?_⟩
    · rintro i y σ H4 H5 hi ⟨v5, v6, G, rfl, s5, LG, nd, hG, eG⟩ ⟨t, u, v, rfl, ht, rfl, hu, hv⟩
      cases hu
      obtain ⟨o, ho, rfl⟩ := refsO_item hv
      have st := Same.new (o := .tup [V.int (i : Nat), refO o]) ht
      have LG1 := LG.same st
      have s6 := s5.trans st
      have dt : upd H4 t (.tup [V.int (i : Nat), refO o]) t = some (.tup [V.int (i : Nat), refO o]) := upd_same
      generalize upd H4 t (.tup [V.int (i : Nat), refO o]) = H6 at LG1 s6 dt ⊢
      have li : i < F.length := item_lt ho
      have lG : G.length = i := by rw [← snds_len, eG, List.length_take]; simp [recM]; omega
      have put : ∀ (D : Addr) (row : List Int) (H7 : Hp), Same H6 H7 → H6 D = none → H7 D = some (.lst (row.map V.int)) → (recM F d n)[i]? = some row →
          ∃ (v5 v6 : Option V) (G' : List (Addr × List Int)), [some (V.ref R), some (.int (d : Int)), some (.ref Pl), some (.ref Kn), some (.ref Wh), some (.int (i : Nat)), some (refO o), none] = [some (.ref R), some (.int (d : Int)), some (.ref Pl), some (.ref Kn), some (.ref Wh), v5, v6, none] ∧ Same H3 (upd H7 Wh (.lst (refs G ++ [V.ref D]))) ∧ LA (upd H7 Wh (.lst (refs G ++ [V.ref D]))) Wh G' ∧ (G'.map (·.1)).Nodup ∧ (∀ e ∈ G', H e.1 = none) ∧ snds G' = (recM F d n).take (i + 1) := by
        intro D row H7 s7 nD dD hrow
        have LG7 := LG1.same s7
        have nDW : D ≠ Wh := (ne_of_none LG1.1 nD).symm
        have er : refs G ++ [V.ref D] = refs (G ++ [(D, row)]) := by unfold refs; rw [List.map_append]; rfl
        rw [er]
        refine ⟨_, _, G ++ [(D, row)], rfl, same_put (s6.trans s7) nWh, LA.put fun e' me => ?_, ?_, fun e' me => ?_, ?_⟩
        · rcases List.mem_append.mp me with me | me
          · exact LG7.2 e' me
          · have : e' = (D, row) := by simpa using me
            subst this
            exact ⟨dD, nDW⟩
        · rw [List.map_append, List.nodup_append]
          refine ⟨nd, by simp, fun a ha b hb => ?_⟩
          obtain ⟨e, me, rfl⟩ := List.mem_map.1 ha
          have : b = D := by simpa using hb
          rw [this]
          exact ne_of_none (LG1.2 e me).1 nD
        · rcases List.mem_append.mp me with me | me
          · exact hG e' me
          · have : e' = (D, row) := by simpa using me
            subst this
            exact same_none (s4.trans s6) nD
        · rw [take_snoc hrow, ← eG]
          show (G ++ [(D, row)]).map (·.2) = _
          rw [List.map_append]
          rfl
      have gi := getD_item (d := none) ho
      refine ⟨t, _, rfl, SqT.of dt, rfl, _, _, rfl, _, _, rfl, rfl, ?_⟩
      refine ⟨_, rfl, .inl ⟨rfl, _, SqL.of LG1.1⟩, ?_⟩
      cases o with
      | none =>
        refine ⟨_, rfl, rfl, _, rfl, iteT ?_⟩
        have pw := (presM_pair F).sublist (List.take_sublist d _)
        refine ⟨_, rfl, _, rfl, _, rfl, Kn, Pl, _, intsN ((presM F).take d), ((i : Nat) : Int), n, rfl, RLC.same s6, s6 _ _ dP3, intsN_apart pw (fun j m => by have := (presM_lt (List.mem_of_mem_take m)).1; omega), by rw [il, List.length_map, tl], ?_, by rw [List.length_map, tl]; omega, h500, fun e me => ?_, fun D H7 s7 nD dD => ?_⟩
        · intro q
          have := congrArg List.length q
          rw [List.length_map, tl] at this
          simp at this
          omega
        · obtain ⟨j, mj, rfl⟩ := List.mem_map.mp me
          exact len j (List.mem_of_mem_take mj)
        · refine ⟨Wh, _, _, rfl, rfl, (LG1.same s7).1, small _ (by rw [refs_len]; omega), put D _ H7 s7 nD dD ?_⟩
          unfold recM
          rw [List.getElem?_map, List.getElem?_range li]
          show some (match F.getD i none with | some e => e.2 | none => _) = _
          rw [gi]
      | some e =>
        refine ⟨_, rfl, rfl, _, rfl, iteF ?_⟩
        refine ⟨_, rfl, e.1, _, rfl, .inl ((hR3.same s6).2 e (List.mem_of_getElem? ho)), fun D nD => ?_⟩
        have s7 := Same.new (o := .lst (e.2.map V.int)) nD
        refine ⟨Wh, _, _, rfl, rfl, (LG1.same s7).1, small _ (by rw [refs_len]; omega), put D _ _ s7 nD upd_same ?_⟩
        unfold recM
        rw [List.getElem?_map, List.getElem?_range li]
        show some (match F.getD i none with | some e => e.2 | none => _) = _
        rw [gi]
    rintro σ H4 ⟨v5, v6, G, rfl, s5, LG, nd, hG, eG⟩
    refine ⟨_, rfl, kQ nB nF Wh G H4 (s4.trans s5) nWh0 LG nd hG ?_⟩
    rw [eG, List.take_of_length_le (by simp [recM])]
    rfl
theorem sc_agree : FnScope ["pieces", "numbers", "data", "places", "known", "number", "place"] ["pieces", "numbers", "data"] (defScope s_agree) := ⟨rfl, rfl, rfl, by decide +kernel, rfl, by decide +kernel, by decide +kernel⟩
theorem ok_agree (T : Txt K mg a) : FnOk P w K mg base CX0 5 a.f_agree a.d_agree ["pieces", "numbers", "data"] (sp_agree K a) := by
  refine T.F_agree.ok sc_agree (fun vs H Q E h => ?len) (fun cdv A outer s H vs Q E hr h => ?body)
  case len =>
    exact sp_agree_len h
  case body =>
    obtain ⟨R, N, F, is, d, n, rfl, hR, hN, hp, hin, h8, d1, dl, hrow, h500, kT, kF⟩ := h
    refine ⟨_, (pss_cons (ps_set (i := 3) sc_agree.nd rfl (Or.inl rfl) (pe_slice sl_list (pv 1) po_none (po_some (pv 2))))
      (pss_cons (ps_setLc (i := 4) (own := [("place", 6)]) (g := (gName 6)) (by rfl) sc_agree.nd rfl rfl (sw_true rfl rfl rfl (by decide +kernel)) (pi_list (pv 3)) (blkOk_by (own := [("place", 6)]) (N := ["pieces", "numbers", "data", "places", "known", "number", "place"]) (sc := defScope s_agree) (by decide +kernel))
      (fun _ _ _ _ _ => (pg_name (i := 6) sc_agree.nd rfl (Or.inl rfl))) (fun _ _ _ _ _ => pts_nil) (fun _ _ _ _ _ => (pe_ix (by exact ix_list : IxR _ (rIxL K)) (pv 0) (pv 6) (fun _ _ => rfl))))
      (pss_cons (ps_for PassesOwn.never rfl (pi_list (pe_slice sl_list (pv 1) (po_some (pv 2)) po_none)) (pg_name (i := 5) sc_agree.nd rfl (Or.inl rfl))
      (pss_one (ps_if (pt_cmpR (op_neD hr.units) (pe_call (ok_piece_at T) (hr.mono (by decide)) rfl T.g_piece_at T.F_piece_at.kp T.d_piece_at .nil pass0 (pa_cons (pv 4) (pa_cons (pv 3) (pa_cons (pv 5) pa_nil)))) (pe_ix ix_list (pv 0) (pv 5) (fun _ _ => rfl)) (nomark _))
      (pss_one (ps_ret pe_bl))
      pss_nil)))
      (pss_one (ps_ret pe_bl))))), ?_⟩
    refine ⟨_, rfl, _, rfl, _, rfl, N, _, rfl, hN, fun Pl nPl => ?_⟩
    have ec : cutV ((intsN is).map V.int) none (some (d : Int)) = (intsN (is.take d)).map V.int := by
      rw [cut_take]
      unfold intsN
      rw [List.map_take, List.map_take]
    have ed : cutV ((intsN is).map V.int) (some (d : Int)) none = (intsN (is.drop d)).map V.int := by
      rw [cut_drop]
      unfold intsN
      rw [List.map_drop, List.map_drop]
    rw [ec]
    have s2 := Same.new (o := .lst ((intsN (is.take d)).map V.int)) nPl
    have dPl : upd H Pl (.lst ((intsN (is.take d)).map V.int)) Pl = some (.lst ((intsN (is.take d)).map V.int)) := upd_same
    generalize upd H Pl (.lst ((intsN (is.take d)).map V.int)) = H2 at s2 dPl ⊢
    have tl : (is.take d).length = d := by rw [List.length_take]; omega
    have il : (intsN (is.take d)).length = d := by unfold intsN; rw [List.length_map, tl]
    have hR2 := hR.same s2
    have lis : is.length ≤ 8 := by
      have h1 := presM_len F
      have nd : is.Nodup := hp.imp fun h => Nat.ne_of_lt h
      have := List.Nodup.length_le_of_subset nd (fun x m => hin x m)
      omega
    -- known = [pieces[place] for place in places]
    refine ⟨_, rfl, Pl, rfl, ⟨_, SqL.of dPl⟩, fun Kn nK => lc_list (K := K) (a := Pl) (xs := (intsN (is.take d)).map V.int) (fun i H' => Same H2 H' ∧ H' Kn = some (.lst (refs (((is.take d).map (rowAt F)).take i)))) ⟨Same.new nK, upd_same⟩ (fun i H' _ q => q.1.seq (SqL.of dPl)) ?_ ?_⟩
    · rintro i y H3 hi ⟨s3, hC⟩
      obtain ⟨c, hc, rfl⟩ := int_item hi
      obtain ⟨m, hm, rfl⟩ : ∃ m : Nat, (is.take d)[i]? = some m ∧ c = (m : Int) := by
        unfold intsN at hc
        rw [List.getElem?_map] at hc
        cases q : (is.take d)[i]? with
        | none => rw [q] at hc; cases hc
        | some m => rw [q] at hc; exact ⟨m, rfl, (Option.some.inj hc).symm⟩
      have hg := (presM_lt (hin _ (List.mem_of_mem_take (List.mem_of_getElem? hm)))).2
      have g : ((is.take d).map (rowAt F))[i]? = some (rowAt F m) := by rw [List.getElem?_map, hm]; rfl
      refine ⟨rfl, _, rfl, _, rfl, R, _, _, _, rfl, rfl, s3.seq hR2.1, at_of (j := m) rfl (refsO_get hg), _, hC, small _ (by simp [refs]; omega), same_put s3 nK, ?_⟩
      rw [upd_same, take_snoc g]
      unfold refs
      rw [List.map_append]
      rfl
    rintro H3 ⟨s3, hC⟩
    rw [List.take_of_length_le (by simp [intsN])] at hC
    have s4 := s2.trans s3
    have hR3 := hR2.same s3
    have dP3 := s3 _ _ dPl
    have RLC : RL K H3 Kn ((is.take d).map (rowAt F)) := ⟨SqL.of hC, fun e me => by
      obtain ⟨i, mi, rfl⟩ := List.mem_map.mp me
      exact hR3.rows i (hin _ (List.mem_of_mem_take mi))⟩
    -- for number in numbers[data:]
    refine ⟨_, rfl, _, rfl, _, rfl, N, _, rfl, s4.seq hN, fun Dr nDr => ?_⟩
    rw [ed]
    have s5 := Same.new (o := .lst ((intsN (is.drop d)).map V.int)) nDr
    have dDr : upd H3 Dr (.lst ((intsN (is.drop d)).map V.int)) Dr = some (.lst ((intsN (is.drop d)).map V.int)) := upd_same
    generalize upd H3 Dr (.lst ((intsN (is.drop d)).map V.int)) = H5 at s5 dDr ⊢
    refine ⟨Dr, rfl, ⟨_, SqL.of dDr⟩, for_list (K := K) (a := Dr) (xs := (intsN (is.drop d)).map V.int) (fun i σ H' => ∃ v5 : Option V, σ = [some (.ref R), some (.ref N), some (.int (d : Int)), some (.ref Pl), some (.ref Kn), v5, none] ∧ Same H5 H' ∧ ∀ (j m : Nat), j < i → (is.drop d)[j]? = some m → pieceM (intsN (is.take d)) (snds ((is.take d).map (rowAt F))) ((m : Nat) : Int) n = (rowAt F m).2)
      ⟨none, rfl, Same.refl _, fun j m hj => absurd hj (by omega)⟩ (fun i σ H' _ ⟨_, _, s', _⟩ => s'.seq (SqL.of dDr)) ?_ ?_⟩
    · rintro i y σ H6 hi ⟨v5, rfl, s6, hq⟩
      obtain ⟨c, hc, rfl⟩ := int_item hi
      obtain ⟨m, hm, rfl⟩ : ∃ m : Nat, (is.drop d)[i]? = some m ∧ c = (m : Int) := by
        unfold intsN at hc
        rw [List.getElem?_map] at hc
        cases q : (is.drop d)[i]? with
        | none => rw [q] at hc; cases hc
        | some m => rw [q] at hc; exact ⟨m, rfl, (Option.some.inj hc).symm⟩
      have mm := List.mem_of_mem_drop (List.mem_of_getElem? hm)
      have hg := presM_lt (hin _ mm)
      have s56 := s5.trans s6
      refine ⟨_, rfl, _, rfl, _, rfl, Kn, Pl, _, intsN (is.take d), ((m : Nat) : Int), n, rfl, RLC.same s56, s56 _ _ dP3, intsN_apart (hp.sublist (List.take_sublist d _)) (fun j q => by have := (presM_lt (hin _ (List.mem_of_mem_take q))).1; omega), by rw [il, List.length_map, tl], ?_, by rw [List.length_map, tl]; omega, h500, fun e me => ?_, fun D H7 s7 nD dD => ?_⟩
      · intro q
        have := congrArg List.length q
        rw [List.length_map, tl] at this
        simp at this
        omega
      · obtain ⟨j, mj, rfl⟩ := List.mem_map.mp me
        exact hrow j (List.mem_of_mem_take mj)
      have hR7 := hR3.same (s56.trans s7)
      refine ⟨_, rfl, _, rfl, R, _, _, _, rfl, rfl, hR7.1, at_of (j := m) rfl (refsO_get hg.2), _, _, dp_ints (SqL.of dD), dp_ints (hR7.rows m (hin _ mm)), shaped_ints _, shaped_ints _, _, rfl, ?_⟩
      rw [eqv_ints]
      refine ite2 (fun z => ?_) (fun z => ?_)
      · refine kF (fun g => ?_) _ (s4.trans (s56.trans s7))
        rw [decide_eq_true (g m (List.mem_of_getElem? hm))] at z
        cases z
      · have e : pieceM (intsN (is.take d)) (snds ((is.take d).map (rowAt F))) ((m : Nat) : Int) n = (rowAt F m).2 := Classical.byContradiction fun q => z (by rw [decide_eq_false q]; rfl)
        refine ⟨_, rfl, s6.trans s7, fun j m' hj hm' => ?_⟩
        by_cases q : j = i
        · subst q
          rw [hm] at hm'
          rw [← Option.some.inj hm']
          exact e
        · exact hq j m' (by omega) hm'
    rintro σ H6 ⟨v5, rfl, s6, hq⟩
    refine kT (fun m mm => ?_) _ (s4.trans (s5.trans s6))
    obtain ⟨j, hj⟩ := List.mem_iff_getElem?.mp mm
    exact hq j m (by have := item_lt hj; simp [intsN] at this ⊢; omega) hj
theorem sc_wrong_pieces : FnScope ["pieces", "data", "present", "most", "many", "culprits", "number"] ["pieces", "data"] (defScope s_wrong_pieces) := ⟨rfl, rfl, rfl, by decide +kernel, rfl, by decide +kernel, by decide +kernel⟩
theorem ok_wrong_pieces (T : Txt K mg a) : FnOk P w K mg base (L2N.CX P w) 6 a.f_wrong_pieces a.d_wrong_pieces ["pieces", "data"] (sp_wrong_pieces K a) := by
  refine T.F_wrong_pieces.okN sc_wrong_pieces (fun vs H Q E h => ?len) (fun cdv A outer s H vs Q E hr h => ?body)
  case len =>
    exact sp_wrong_pieces_len h
  case body =>
    obtain ⟨R, F, d, n, rfl, hR, hF, h500, d1, dF, kE, kQ⟩ := h
    have h8 := hF.1
    refine ⟨_, (pss_cons (ps_set (i := 2) sc_wrong_pieces.nd rfl (Or.inl rfl) (pe_call (ok_present_numbers T) (hr.mono (by decide)) rfl T.g_present_numbers T.F_present_numbers.kp T.d_present_numbers .nil (L2N.passes_call (L2N.takes_of rfl rfl rfl rfl) (fun _ _ _ _ z => z)) (pa_cons (pv 0) (pa_cons (pv 1) pa_nil))))
      (pss_cons (ps_set (i := 3) sc_wrong_pieces.nd rfl (Or.inl rfl) (pe_op op_fdiv (pe_op op_sub (pe_callB call_len_seq (by rfl) T.n_len PySem.boot_len (pa_cons (pv 2) pa_nil)) (pv 1)) pe_int))
      (pss_cons (ps_for (passes_of rfl) rfl (pi_range1 (by rfl) T.n_range (pa_cons (pe_op op_add (pv 3) pe_int) pa_nil)) (pg_name (i := 4) sc_wrong_pieces.nd rfl (Or.inl rfl))
      (pss_one (ps_for (passes_of rfl) rfl (by exact pi_combo (by rfl) T.n_combinations (pa_cons (pv 2) (pa_cons (pv 4) pa_nil)) : PI _ _ _ (iCmb K _)) (pg_name (i := 5) sc_wrong_pieces.nd rfl (Or.inr rfl))
      (pss_one (ps_if (pt_val (pe_call (ok_agree T) (hr.mono (by decide)) rfl T.g_agree T.F_agree.kp T.d_agree .nil pass0 (pa_cons (pv 0) (pa_cons (pe_lc (own := [("number", 6)]) (g := (gName 6)) (by rfl) sc_wrong_pieces.nd (pi_list (pv 2)) (blkOk_by (own := [("number", 6)]) (N := ["pieces", "data", "present", "most", "many", "culprits", "number"]) (sc := defScope s_wrong_pieces) (by decide +kernel))
      (fun _ _ _ _ _ => (pg_name (i := 6) sc_wrong_pieces.nd rfl (Or.inl rfl))) (fun _ _ _ _ _ => (pts_one (pt_cmpR (by exact op_notIn_seq : OpR _ _ (rIn K true)) (pv 6) (pv 5) (by rfl)))) (fun _ _ _ _ _ => (pv 6))) (pa_cons (pv 1) pa_nil)))))
      (pss_one (ps_ret (pe_callTy call_list_of (by rfl) T.n_list (by decide +kernel) (pa_cons (pv 5) pa_nil))))
      pss_nil)))))
      (pss_one (L2N.ps_raise rfl (L2N.takes_of rfl rfl rfl rfl) (L2N.pmk_own PySem.F.excBase_ValueError T.x_NotEnoughPieces T.g_NotEnoughPieces T.k_NotEnoughPieces (raises_own T.b_NotEnoughPieces T.t_NotEnoughPieces) (by exact rfl))))))), ?_⟩
    have nB : ¬ BadP F (d : Int) := good_rows h8 (by omega) (by omega) (rowsW_len hF)
    refine ⟨_, rfl, _, rfl, R, F, (d : Int), rfl, hR, by omega, fun b => absurd b nB, fun _ few H1 s1 => kE (fun S c => ?_) _ s1, fun _ nFew D H1 s1 nD dD => ?_⟩
    · have := c.2.1
      unfold Few at few
      omega
    have dpl : d ≤ (presM F).length := Classical.byContradiction fun q => nFew (by unfold Few; omega)
    have pl := presM_len F
    have xl : ((intsN (presM F)).map V.int).length = (presM F).length := by rw [List.length_map, intsN_len]
    obtain ⟨mo, emo⟩ : ∃ mo : Nat, mo = ((presM F).length - d) / 2 := ⟨_, rfl⟩
    have eq : (((presM F).length : Int) - (d : Int)) / 2 = (mo : Int) := by omega
    refine ⟨_, rfl, D, _, rfl, .inl (SqL.of dD), _, rfl, _, _, rfl, rfl, _, _, rfl, rfl, ⟨by decide, by decide⟩, ?_⟩
    rw [xl]
    dsimp only
    rw [eq]
    refine ⟨_, rfl, _, _, rfl, rfl, _, rfl, by omega, by omega, ?_⟩
    rw [show ((mo : Int) + 1).toNat = mo + 1 by omega]
    refine for_range (lo := 0) (n := mo + 1) (fun i σ H' => ∃ (v4 v5 v6 : Option V), σ = [some (.ref R), some (.int (d : Int)), some (.ref D), some (.int (mo : Int)), v4, v5, v6] ∧ Same H1 H' ∧ ∀ S, Cul F d n S → i ≤ S.length) ⟨none, none, none, rfl, Same.refl _, fun _ _ => Nat.zero_le _⟩ ?_ ?_
    · rintro i σ H2 hi ⟨v4, v5, v6, rfl, s2, hno⟩
      have hi2 : 2 * i + d ≤ (presM F).length := by omega
      refine ⟨_, rfl, _, rfl, D, i, _, (by rw [Int.zero_add]), s2.seq (SqL.of dD), by omega, by omega, by omega, ?_⟩
      rw [xl]
      refine for_it walk_combo (fun j σ H' => ∃ (v5 v6 : Option V), σ = [some (.ref R), some (.int (d : Int)), some (.ref D), some (.int (mo : Int)), some (.int (0 + (i : Nat))), v5, v6] ∧ Same H1 H' ∧ ∀ (j' : Nat) (c : List Nat), j' < j → (CB.cmb 0 (presM F).length i)[j']? = some c → ¬ Cul F d n (c.map fun j => (presM F).getD (j - 0) 0)) ⟨v5, v6, rfl, s2, fun j' c h => absurd h (by omega)⟩ (fun _ _ _ _ _ => True.intro) ?_ ?_
      · rintro j y σ H3 H4 hj ⟨v5, v6, rfl, s3, hq⟩ ⟨T', c, rfl, nT, rfl, hc⟩
        have hcm := List.mem_of_getElem? hc
        obtain ⟨cl, cb⟩ := cmb_len _ _ _ _ hcm
        have hsub := cmb_sub (presM F) 0 i c hcm
        rw [pick_ints (fun k m => by have := cb k m; omega)]
        generalize hS : (c.map fun j => (presM F).getD (j - 0) 0) = S at hsub ⊢
        have lS : S.length = i := by rw [← hS, List.length_map]; exact cl
        have sT := Same.new (o := .tup ((intsN S).map V.int)) nT
        have dT : upd H3 T' (.tup ((intsN S).map V.int)) T' = some (.tup ((intsN S).map V.int)) := upd_same
        generalize upd H3 T' (.tup ((intsN S).map V.int)) = H5 at sT dT ⊢
        have s15 := s3.trans sT
        have k1 := less_len S (presM_nodup F)
        refine ⟨_, rfl, _, rfl, D, rfl, ⟨_, s15.seq (SqL.of dD)⟩, fun Lc nLc => lc_list (K := K) (a := D) (xs := (intsN (presM F)).map V.int) (fun i' H' => Same H5 H' ∧ H' Lc = some (.lst ((intsN (lessM ((presM F).take i') S)).map V.int))) ⟨Same.new nLc, upd_same⟩ (fun i' H' _ q => (s15.trans q.1).seq (SqL.of dD)) ?_ ?_⟩
        · rintro i' y H6 hy ⟨s6, hL⟩
          obtain ⟨m, hm, rfl⟩ := intsN_item hy
          have hi' := item_lt hm
          have le : (lessM ((presM F).take i') S).length ≤ i' := Nat.le_trans (List.length_filter_le _ _) (by rw [List.length_take]; omega)
          refine ⟨rfl, _, rfl, _, rfl, T', _, rfl, .inr (SqT.of (s6 _ _ dT)), rfl, flat_intsN S, _, rfl, ?_⟩
          rw [inV_less]
          rw [less_take hm]
          by_cases q : m ∈ S
          · have e1 : (if m ∉ S then [m] else []) = ([] : List Nat) := if_neg fun z => z q
            rw [e1, decide_eq_false (fun z => z q : ¬ (m ∉ S)), List.append_nil]
            exact iteF ⟨s6, hL⟩
          · have e1 : (if m ∉ S then [m] else []) = [m] := if_pos q
            rw [e1, decide_eq_true q]
            refine iteT ⟨_, rfl, _, hL, small _ (by rw [List.length_map, intsN_len]; omega), same_put s6 nLc, ?_⟩
            rw [upd_same]
            unfold intsN
            rw [List.map_append, List.map_append]
            rfl
        rintro H6 ⟨s6, hL⟩
        rw [List.take_of_length_le (by rw [xl]; exact Nat.le_refl _)] at hL
        have s16 := s15.trans s6
        refine ⟨_, rfl, R, Lc, F, lessM (presM F) S, d, n, rfl, (hR.same s1).same s16, SqL.of hL, less_pair (presM_pair F), fun i m => (less_mem.mp m).1, h8, d1, by omega, fun i m => (hF.2 i (less_mem.mp m).1).1, h500, fun ag H7 s7 => ?_, fun ag H7 s7 => ?_⟩
        · refine ⟨_, rfl, iteT ⟨_, rfl, T', _, rfl, .inr (SqT.of (s7 _ _ (s6 _ _ dT))), fun l nl => kQ S l _ ⟨⟨hsub, by omega, ag⟩, fun S' c' => by rw [lS]; exact hno S' c'⟩ ((s1.trans (s16.trans s7)).trans (Same.new nl)) ?_ upd_same⟩⟩
          cases q : H l with
          | none => rfl
          | some o => rw [(s1.trans (s16.trans s7)) _ _ q] at nl; cases nl
        · refine ⟨_, rfl, iteF ⟨_, _, rfl, s16.trans s7, fun j' c' hj' hc' => ?_⟩⟩
          by_cases q : j' = j
          · subst q
            rw [hc] at hc'
            rw [← Option.some.inj hc', hS]
            exact fun c => ag c.2.2
          · exact hq j' c' (by omega) hc'
      rintro σ H3 ⟨v5, v6, rfl, s3, hq⟩
      refine ⟨_, _, _, rfl, s3, fun S hS => ?_⟩
      have h1 := hno S hS
      refine Nat.lt_of_le_of_ne h1 fun z => ?_
      obtain ⟨c, hc, e⟩ := sub_cmb hS.1 0
      rw [← z] at hc
      obtain ⟨j', hj'⟩ := List.mem_iff_getElem?.mp hc
      refine hq j' c (item_lt hj') hj' ?_
      rw [e]
      exact hS
    rintro σ H2 ⟨v4, v5, v6, rfl, s2, hno⟩
    refine kE (fun S c => ?_) _ (s1.trans s2)
    have h1 := hno S c
    have h2 := c.2.1
    omega
theorem sc_repair_stripe : FnScope ["images", "places", "stamp", "length", "data", "size", "pieces", "wrong", "right", "broken", "place", "number", "piece"] ["images", "places", "stamp", "length", "data"] (defScope s_repair_stripe) := ⟨rfl, rfl, rfl, by decide +kernel, rfl, by decide +kernel, by decide +kernel⟩
theorem ok_repair_stripe (T : Txt K mg a) : FnOk P w K mg base (L2.CX P w) 7 a.f_repair_stripe a.d_repair_stripe ["images", "places", "stamp", "length", "data"] (sp_repair_stripe K a) := by
  refine T.F_repair_stripe.okX sc_repair_stripe (fun vs H Q E h => ?len) (fun cdv A outer s H vs Q E hr h => ?body)
  case len =>
    exact sp_repair_stripe_len h
  case body =>
    obtain ⟨X, I, P, Sa, st, pls, e, s, W, d, os, C, rfl, hI, ls, lr, hP, hpl, hS, hst, d1, d2, l6, lW, wW, hos, ndC, hoff, hcase, kE, kQ⟩ := h
    refine ⟨_, (pss_cons (ps_set (i := 5) sc_repair_stripe.nd rfl (Or.inr rfl) (pe_call (ok_piece_size T) (hr.mono (by decide)) rfl T.g_piece_size T.F_piece_size.kp T.d_piece_size .nil pass0 (pa_cons (pv 3) (pa_cons (pv 4) pa_nil))))
      (pss_cons (ps_setLc (i := 6) (own := [("place", 10)]) (g := (gName 10)) (by rfl) sc_repair_stripe.nd rfl rfl (sw_true rfl rfl rfl (by decide +kernel)) (pi_list (pv 1)) (blkOk_by (own := [("place", 10)]) (N := ["images", "places", "stamp", "length", "data", "size", "pieces", "wrong", "right", "broken", "place", "number", "piece"]) (sc := defScope s_repair_stripe) (by decide +kernel))
      (fun _ _ _ _ _ => (pg_name (i := 10) sc_repair_stripe.nd rfl (Or.inl rfl))) (fun _ _ _ _ _ => pts_nil) (fun _ _ _ _ _ => (pe_call (ok_good_piece T) (hr.mono (by decide)) rfl T.g_good_piece T.F_good_piece.kp T.d_good_piece .nil pass0 (pa_cons (pv 0) (pa_cons (pv 10) (pa_cons (pv 2) (pa_cons (pv 5) pa_nil)))))))
      (pss_cons (L2H.ps_try_onlyX rfl rfl ⟨rfl, by decide, .inl T.g_NotEnoughPieces⟩ (L2H.passesAt_of rfl) (takes_of rfl rfl rfl rfl)
      (fun W pn xe tk tk2 _ => (pss_one (ps_set (i := 7) sc_repair_stripe.nd rfl (Or.inr rfl) (pe_callS (ok_wrong_pieces T) (hr.mono (by decide)) rfl T.g_wrong_pieces T.F_wrong_pieces.kp T.d_wrong_pieces (fun σ => L2N.passAt tk σ) (pa_cons (pv 6) (pa_cons (pv 4) pa_nil))))))
      (fun a oe cls d pn hz hf tko hot => (pss_one (L2H.ps_raiseHN hot tko (L2H.own5 PySem.F.excBase_ValueError T.x_Damaged T.g_Damaged T.k_Damaged (raises_own T.b_Damaged T.t_Damaged) (by exact rfl))))))
      (pss_cons (ps_setLc (i := 8) (own := [("number", 11), ("piece", 12)]) (g := (gTup K 2 (gCons (gName 11) (gCons (gName 12) gNil)))) (by rfl) sc_repair_stripe.nd rfl rfl (sw_true rfl rfl rfl (by decide +kernel)) (pi_enum (by rfl) T.n_enumerate (pa_cons (pv 6) pa_nil)) (blkOk_by (own := [("number", 11), ("piece", 12)]) (N := ["images", "places", "stamp", "length", "data", "size", "pieces", "wrong", "right", "broken", "place", "number", "piece"]) (sc := defScope s_repair_stripe) (by decide +kernel))
      (fun _ _ _ _ _ => (pg_tup rfl (pgs_cons (pg_name (i := 11) sc_repair_stripe.nd rfl (Or.inl rfl)) (pgs_cons (pg_name (i := 12) sc_repair_stripe.nd rfl (Or.inl rfl)) pgs_nil)))) (fun _ _ _ _ _ => pts_nil) (fun _ _ _ _ _ => (pe_ifExp (pt_cmpR (by exact op_in_seq : OpR _ _ (rIn K false)) (pv 11) (pv 7) (by rfl)) pe_non (pv 12))))
      (pss_cons (ps_setLc (i := 9) (own := [("number", 11), ("piece", 12)]) (g := (gTup K 2 (gCons (gName 11) (gCons (gName 12) gNil)))) (by rfl) sc_repair_stripe.nd rfl rfl (sw_true rfl rfl rfl (by decide +kernel)) (pi_enum (by rfl) T.n_enumerate (pa_cons (pv 8) pa_nil)) (blkOk_by (own := [("number", 11), ("piece", 12)]) (N := ["images", "places", "stamp", "length", "data", "size", "pieces", "wrong", "right", "broken", "place", "number", "piece"]) (sc := defScope s_repair_stripe) (by decide +kernel))
      (fun _ _ _ _ _ => (pg_tup rfl (pgs_cons (pg_name (i := 11) sc_repair_stripe.nd rfl (Or.inl rfl)) (pgs_cons (pg_name (i := 12) sc_repair_stripe.nd rfl (Or.inl rfl)) pgs_nil)))) (fun _ _ _ _ _ => (pts_one (pt_cmpR op_isN (pv 12) pe_non (nomark _)))) (fun _ _ _ _ _ => (pv 11)))
      (pss_one (ps_ret (pe_call (ok_piece_requests T) (hr.mono (by decide)) rfl T.g_piece_requests T.F_piece_requests.kp T.d_piece_requests .nil pass0 (pa_cons (pv 0) (pa_cons (pv 1) (pa_cons (pv 2) (pa_cons (pe_call ((ok_recover T)).ofN (hr.mono (by decide)) rfl T.g_recover T.F_recover.kp T.d_recover .nil (passes_call (takes_of rfl rfl rfl rfl) (fun _ _ _ _ z => z)) (pa_cons (pv 8) (pa_cons (pv 4) pa_nil))) (pa_cons (pv 9) pa_nil))))))))))))), ?_⟩
    refine ⟨_, rfl, _, rfl, W.length, d, rfl, d1, by omega, ?_⟩
    obtain ⟨Lp, hLp, ep, hp⟩ := id hP
    have lLp : Lp.length = pls.length := by rw [← ep, List.length_map]
    obtain ⟨n, hn⟩ : ∃ n, n = sizeM W.length d := ⟨_, rfl⟩
    have szl := size_lt W.length d d1
    rw [← hn] at hos ⊢
    have osw := os_words hos
    have los := hos.1
    refine ⟨_, rfl, P, rfl, ⟨_, hLp⟩, fun R nR => lc_list (K := K) (a := P) (xs := Lp.map fun e => V.ref e.1) (fun i H' => Same H H' ∧ ∃ F : List ORow, H' R = some (.lst (refsO F)) ∧ F.length = i ∧ sndO F = os.take i ∧ ∀ e, some e ∈ F → H' e.1 = some (.lst (e.2.map V.int)) ∧ e.1 ≠ R) ⟨Same.new nR, [], upd_same, rfl, rfl, fun _ m => nomatch m⟩ (fun i H' _ q => q.1.seq hLp) ?_ ?_⟩
    · rintro i y H2 hy ⟨s2, F, dR2, lF, eF, hF⟩
      obtain ⟨q, hq, rfl⟩ : ∃ q, Lp[i]? = some q ∧ y = V.ref q.1 := by
        rw [List.getElem?_map] at hy
        cases z : Lp[i]? with
        | none => rw [z] at hy; cases hy
        | some q => rw [z] at hy; exact ⟨q, rfl, (Option.some.inj hy).symm⟩
      have il := item_lt hq
      have mq := List.mem_of_getElem? hq
      have gp : pls[i]? = some q.2 := by rw [← ep, List.getElem?_map, hq]; rfl
      obtain ⟨⟨q0, q8⟩, r0, r8⟩ := hpl q.2 (List.mem_of_getElem? gp)
      obtain ⟨o, ho⟩ : ∃ o, os[i]? = some o := ⟨_, List.getElem?_eq_getElem (by omega)⟩
      have gi := hos.2 i q.2 o gp ho
      have sq : SqT K H2 q.1 [.int ((q.2.1.toNat : Nat) : Int), .int ((q.2.2.toNat : Nat) : Int)] := by
        have := s2.tup (hp q mq)
        rw [show ((q.2.1.toNat : Nat) : Int) = q.2.1 by omega, show ((q.2.2.toNat : Nat) : Int) = q.2.2 by omega]
        exact this
      have fin : ∀ (x : ORow) (H3 : Hp), Same H2 H3 → x.map Prod.snd = o → (∀ e, x = some e → H3 e.1 = some (.lst (e.2.map V.int)) ∧ e.1 ≠ R) → ∃ acc, H3 R = some (.lst acc) ∧ acc.length < sizeLine ∧ Same H (upd H3 R (.lst (acc ++ [refO x]))) ∧ ∃ F : List ORow, upd H3 R (.lst (acc ++ [refO x])) R = some (.lst (refsO F)) ∧ F.length = i + 1 ∧ sndO F = os.take (i + 1) ∧ ∀ e, some e ∈ F → upd H3 R (.lst (acc ++ [refO x])) e.1 = some (.lst (e.2.map V.int)) ∧ e.1 ≠ R := fun x H3 s3 ex hx => by
        refine ⟨_, s3 _ _ dR2, small _ (by rw [List.length_map]; omega), same_put (s2.trans s3) nR, F ++ [x], by rw [upd_same, show refsO (F ++ [x]) = refsO F ++ [refO x] from List.map_append], by rw [List.length_append, lF]; rfl, by rw [take_snoc ho, ← eF, ← ex, show sndO (F ++ [x]) = sndO F ++ [x.map Prod.snd] from List.map_append], fun e m => ?_⟩
        rcases List.mem_append.mp m with m | m
        · obtain ⟨a1, a2⟩ := hF e m
          exact ⟨by rw [upd_ne a2]; exact s3 _ _ a1, a2⟩
        · obtain ⟨a1, a2⟩ := hx e (List.mem_singleton.mp m).symm
          exact ⟨by rw [upd_ne a2]; exact a1, a2⟩
      refine ⟨rfl, _, rfl, _, rfl, _, rfl, _, rfl, X, I, q.1, Sa, st, q.2.1.toNat, q.2.2.toNat, e, s, n, o, rfl, hI.same s2, ls, lr, sq, s2.tup hS, gi, fun ho H3 s3 => ?_, fun ws ho D H3 s3 nD dD => ?_⟩
      · exact fin none H3 s3 ho.symm fun e z => nomatch z
      · exact fin (some (D, ws)) H3 s3 ho.symm fun e z => by
          cases z
          exact ⟨dD, (ne_of_none dR2 nD).symm⟩
    rintro H1 ⟨s1, F, dR1, lF, eF, hF⟩
    rw [List.length_map] at lF eF
    rw [List.take_of_length_le (by omega)] at eF
    have epr : presM F = presO os := by rw [presM_snd, eF]
    have hRO : RO K H1 R F := ⟨SqL.of dR1, fun e m => SqL.of (hF e m).1⟩
    have fos : ∀ (i : Nat) (e : Addr × List Int), F[i]? = some (some e) → os[i]? = some (some e.2) := fun i e h => by rw [← eF, sndO_get h]; rfl
    have hRW : RowsW F n := ⟨by omega, fun i m => by
      obtain ⟨a1, a2⟩ := osw i _ (fos i _ (presM_lt m).2)
      exact ⟨a1, a2⟩⟩
    have rowS : ∀ k, k < F.length → ((stripeM W d pls.length).getD k []).length = n ∧ ∀ w ∈ (stripeM W d pls.length).getD k [], Wd w := fun k hk => by
      obtain ⟨r, hr⟩ : ∃ r, (stripeM W d pls.length)[k]? = some r := ⟨_, List.getElem?_eq_getElem (by rw [stripe_len d2]; omega)⟩
      rw [getD_item hr, hn]
      exact ⟨stripe_row d1 _ (List.mem_of_getElem? hr), stripe_words wW _ (List.mem_of_getElem? hr)⟩
    have pol : ∀ t, t < n → ∃ f, Pol d f ∧ ∀ k : Nat, k < F.length → z (((stripeM W d pls.length).getD k []).getD t 0) = f (z (k : Int)) := fun t ht => by
      obtain ⟨f, h1, h2⟩ := stripe_pol (W := W) (c := pls.length) (show d ≤ 8 by omega) (by rw [← hn]; exact ht)
      exact ⟨f, h1, fun k hk => h2 k (by omega)⟩
    have hr : ∀ i ∈ presM F, i ∉ C → (rowAt F i).2 = (stripeM W d pls.length).getD i [] := fun i m ni => hoff.1 i _ (fos i _ (presM_lt m).2) ni
    have hr2 : ∀ (i : Nat) (e : Addr × List Int), F[i]? = some (some e) → i ∉ C → e.2 = (stripeM W d pls.length).getD i [] := fun i e h ni => hoff.1 i _ (fos i e h) ni
    have hne : ∀ i ∈ C, (rowAt F i).2 ≠ (stripeM W d pls.length).getD i [] := fun i m => by
      obtain ⟨ws, h1, h2⟩ := hoff.2 i m
      rw [← eF, List.getElem?_map] at h1
      cases q : F[i]? with
      | none => rw [q] at h1; cases h1
      | some o =>
        rw [q] at h1
        cases o with
        | none => cases h1
        | some e =>
          rw [rowAt_of q]
          have : e.2 = ws := Option.some.inj (Option.some.inj h1)
          rw [this]
          exact h2
    have inC : ∀ i ∈ C, i ∈ presM F := fun i m => by
      obtain ⟨ws, h1, h2⟩ := hoff.2 i m
      rw [← eF, List.getElem?_map] at h1
      cases q : F[i]? with
      | none => rw [q] at h1; cases h1
      | some o =>
        rw [q] at h1
        cases o with
        | none => cases h1
        | some e => exact presM_iff.mpr ⟨e, q⟩
    have pF := presM_len F
    -- try
    refine ⟨_, rfl, _, rfl, R, F, d, n, rfl, hRO, hRW, by omega, d1, by omega, fun no H2 s2 => ?_, fun S D H2 hLe s2 nD dD => ?_⟩
    · refine ⟨true, T.u_NotEnoughPieces_NotEnoughPieces, fun _ ad hb => ?_, fun z => Bool.noConfusion z⟩
      refine kE ?_ _ (s1.trans s2)
      rcases hcase with c | c
      · exact c
      · exact absurd (changed_cul2 hRW pol ndC (by rw [epr]; exact c) hr) (no _)
    have hL2 := hLe.1.2.1
    have many : 2 * C.length + d ≤ (presO os).length := by
      rcases hcase with c | c
      · rw [epr] at hL2
        omega
      · exact c
    have eS := changed_least2 hRW pol rowS ndC (by rw [epr]; exact many) hr hne hLe
    have memS : ∀ i, i ∈ S ↔ i ∈ C := fun i => by
      rw [eS, List.mem_filter, decide_eq_true_eq]
      exact ⟨fun q => q.2, fun q => ⟨inC i q, q⟩⟩
    clear hcase kE
    -- right
    obtain ⟨RM, hRM⟩ : ∃ RM : List ORow, RM = (List.range F.length).map fun i => if i ∈ C then none else F.getD i none := ⟨_, rfl⟩
    have lRM : RM.length = F.length := by rw [hRM, List.length_map, List.length_range]
    have gRM : ∀ (i : Nat) (o : ORow), F[i]? = some o → RM[i]? = some (if i ∈ C then none else o) := fun i o h => by
      rw [hRM, List.getElem?_map, List.getElem?_range (item_lt h)]
      exact congrArg some (by show (if i ∈ C then none else F.getD i none) = _; rw [getD_item h])
    have s02 := s1.trans s2
    have hRO2 := hRO.same s2
    refine ⟨_, rfl, R, _, rfl, hRO2.1, fun D2 nD2 => lc_it walk_enum (fun i H' => Same H2 H' ∧ H' D2 = some (.lst (refsO (RM.take i)))) ⟨Same.new nD2, upd_same⟩ (fun i H' _ q => q.1.seq hRO2.1) ?_ ?_⟩
    · rintro i y H3 H4 hi ⟨s3, d3⟩ ⟨t, u, v, rfl, ht, rfl, hu, hv⟩
      cases hu
      obtain ⟨o, ho, rfl⟩ := refsO_item hv
      have s4 : Same H3 (upd H3 t (.tup [V.int (i : Nat), refO o])) := Same.new ht
      refine ⟨t, _, rfl, SqT.of upd_same, rfl, _, _, rfl, _, _, rfl, rfl, ?_⟩
      have d4 := s4 _ _ d3
      have s5 := s3.trans s4
      generalize upd H3 t (.tup [V.int (i : Nat), refO o]) = H5 at s4 d4 s5 ⊢
      have go := gRM i o ho
      have fin : ∀ x : ORow, RM[i]? = some x → ∃ acc, H5 D2 = some (.lst acc) ∧ acc.length < sizeLine ∧ Same H2 (upd H5 D2 (.lst (acc ++ [refO x]))) ∧ upd H5 D2 (.lst (acc ++ [refO x])) D2 = some (.lst (refsO (RM.take (i + 1)))) := fun x hx =>
        ⟨_, d4, small _ (by rw [List.length_map, List.length_take]; omega), same_put s5 nD2, by rw [upd_same, take_snoc hx, show refsO (RM.take i ++ [x]) = refsO (RM.take i) ++ [refO x] from List.map_append]⟩
      refine ⟨rfl, _, rfl, _, rfl, D, _, rfl, .inl (SqL.of (s5 _ _ dD)), rfl, flat_intsN _, _, rfl, ?_⟩
      rw [inV_in]
      by_cases c : i ∈ C
      · rw [decide_eq_true ((memS i).mpr c)]
        rw [if_pos c] at go
        exact iteT (fin none go)
      · rw [decide_eq_false (fun z => c ((memS i).mp z))]
        rw [if_neg c] at go
        exact iteF ⟨_, rfl, fin o go⟩
    rintro H3 ⟨s3, d3⟩
    rw [List.length_map, ← lRM, List.take_length] at d3
    have s03 := s02.trans s3
    have hRO3 := hRO2.same s3
    have mRM : ∀ (i : Nat) (e : Addr × List Int), RM[i]? = some (some e) → F[i]? = some (some e) ∧ i ∉ C := fun i e h => by
      have hi : F[i]? = some (F[i]'(by rw [← lRM]; exact item_lt h)) := List.getElem?_eq_getElem _
      have := gRM i _ hi
      rw [h] at this
      have this := Option.some.inj this
      by_cases c : i ∈ C
      · rw [if_pos c] at this; cases this
      · rw [if_neg c] at this
        rw [hi, ← this]
        exact ⟨rfl, c⟩
    have hROR : RO K H3 D2 RM := ⟨SqL.of d3, fun e m => by
      obtain ⟨i, hi⟩ := List.mem_iff_getElem?.mp m
      exact hRO3.2 e (List.mem_of_getElem? (mRM i e hi).1)⟩
    -- broken
    have bm : ∀ i, i < RM.length → ((os.getD i none).isNone = true ∨ i ∈ C ↔ RM.getD i none = none) := fun i hi => by
      have hF' : F[i]? = some (F[i]'(by rw [← lRM]; exact hi)) := List.getElem?_eq_getElem _
      rw [getD_item (gRM i _ hF'), ← eF, getD_item (sndO_get hF')]
      by_cases c : i ∈ C
      · simp [c]
      · rw [if_neg c]
        cases F[i]'(by rw [← lRM]; exact hi) <;> simp [c]
    obtain ⟨BN, hBN⟩ : ∃ BN : Nat → List Nat, BN = fun i => (List.range i).filter fun j => (RM.getD j none).isNone := ⟨_, rfl⟩
    have lBN : ∀ i, (BN i).length ≤ i := fun i => by rw [hBN]; exact Nat.le_trans (List.length_filter_le _ _) (by rw [List.length_range]; exact Nat.le_refl _)
    have sBN : ∀ i, BN (i + 1) = BN i ++ if (RM.getD i none).isNone then [i] else [] := fun i => by
      rw [hBN]
      show List.filter _ _ = _
      rw [List.range_succ, List.filter_append]
      congr 1
      simp only [List.filter_cons, List.filter_nil]
    refine ⟨_, rfl, D2, _, rfl, hROR.1, fun D3 nD3 => lc_it walk_enum (fun i H' => Same H3 H' ∧ H' D3 = some (.lst ((intsN (BN i)).map V.int))) ⟨Same.new nD3, by rw [hBN]; exact upd_same⟩ (fun i H' _ q => q.1.seq hROR.1) ?_ ?_⟩
    · rintro i y H4 H5 hi ⟨s4, d4⟩ ⟨t, u, v, rfl, ht, rfl, hu, hv⟩
      cases hu
      obtain ⟨o, ho, rfl⟩ := refsO_item hv
      rw [List.length_map] at hi
      have s5 : Same H4 (upd H4 t (.tup [V.int (i : Nat), refO o])) := Same.new ht
      refine ⟨t, _, rfl, SqT.of upd_same, rfl, _, _, rfl, _, _, rfl, rfl, ?_⟩
      have d5 := s5 _ _ d4
      have s6 := s4.trans s5
      generalize upd H4 t (.tup [V.int (i : Nat), refO o]) = H6 at s5 d5 s6 ⊢
      have gi := getD_item (d := none) ho
      have li := lBN i
      refine ⟨rfl, _, rfl, rfl, _, rfl, ?_⟩
      cases o with
      | none =>
        rw [decide_eq_true (show refO none = V.non from rfl)]
        refine iteT ⟨_, rfl, _, d5, small _ (by rw [List.length_map, intsN_len]; omega), same_put s6 nD3, ?_⟩
        rw [sBN i, gi, upd_same]
        unfold intsN
        rw [List.map_append, List.map_append]
        rfl
      | some e =>
        rw [decide_eq_false (show ¬ refO (some e) = V.non from fun z => nomatch z)]
        refine iteF ⟨s6, ?_⟩
        rw [sBN i, gi]
        show _ = some (HO.lst ((intsN (_ ++ [])).map V.int))
        rw [List.append_nil]
        exact d5
    rintro H4 ⟨s4, d4⟩
    rw [List.length_map] at d4
    have eB : BN RM.length = brkM os C := by
      rw [hBN]
      unfold brkM
      rw [lRM, show F.length = os.length by omega]
      refine List.filter_congr fun i m => ?_
      have hi : i < RM.length := by have := List.mem_range.mp m; omega
      have b := bm i hi
      show (RM.getD i none).isNone = (decide (i ∈ C) || (os.getD i none).isNone)
      cases q : RM.getD i none with
      | none =>
        rcases b.mpr q with z | z
        · rw [z, Bool.or_true]
          rfl
        · rw [decide_eq_true z]
          rfl
      | some e =>
        have : ¬ ((os.getD i none).isNone = true ∨ i ∈ C) := fun z => by
          have := b.mp z
          rw [q] at this
          cases this
        rw [decide_eq_false fun z => this (.inr z), Bool.eq_false_iff.mpr fun z => this (.inl z)]
        rfl
    rw [eB] at d4
    have s04 := s03.trans s4
    have hROR4 := hROR.same s4
    have rowlen : ∀ e, some e ∈ RM → e.2.length = n := fun e m => by
      obtain ⟨i, hi⟩ := List.mem_iff_getElem?.mp m
      exact (osw i _ (fos i e (mRM i e hi).1)).1
    have dRM : d ≤ (presM RM).length := by
      have k1 := less_len C (presM_nodup F)
      have k2 : (lessM (presM F) C).length ≤ (presM RM).length := List.Nodup.length_le_of_subset ((less_pair (presM_pair F)).imp fun h => Nat.ne_of_lt h) fun x m => by
        obtain ⟨m1, m2⟩ := less_mem.mp m
        have := gRM x _ (presM_lt m1).2
        rw [if_neg m2] at this
        exact presM_iff.mpr ⟨_, this⟩
      rw [epr] at k1 k2
      omega
    have nB : ¬ BadP RM (d : Int) := good_rows (by omega) (by omega) (by omega) rowlen
    obtain ⟨u, hu⟩ : ∃ u, u ∈ presM RM := List.exists_mem_of_length_pos (by omega)
    have fl : ((snds (rowsP RM)).getD 0 []).length = n := first_eq rowlen (presM_lt hu).2
    refine ⟨_, rfl, _, rfl, _, rfl, _, rfl, _, rfl, D2, RM, (d : Int), rfl, hROR4, by omega, first_len fun x m => by rw [rowlen x m]; omega, fun b => absurd b nB, fun _ b => absurd b (by unfold Few; omega), fun _ _ D4 G H5 s5 n5 LG nd fr eG => ?_⟩
    rw [fl, Int.toNat_natCast, hn, rec_stripe d1 (by omega) (show RM.length ≤ pls.length by omega) (by omega) d2 dRM wW (fun i e h => hr2 i e (mRM i e h).1 (mRM i e h).2)] at eG
    have eG2 : snds G = stripeM W d pls.length := by
      rw [eG]
      refine List.ext_getElem (by rw [List.length_map, List.length_range, stripe_len d2]; omega) fun i h1 h2 => ?_
      rw [List.getElem_map, List.getElem_range]
      exact getD_item (List.getElem?_eq_getElem h2)
    have lG : G.length = pls.length := by rw [← snds_len, eG2, stripe_len d2]
    have s05 := s04.trans s5
    have hI5 := hI.same s05
    refine ⟨_, rfl, I, P, Sa, D4, D3, adrs st, pls, e, s, G, brkM os C, rfl, by rw [adrs_refI]; exact SqL.of hI5.hI, by unfold adrs; rw [List.length_map]; exact ls, hP.same s05, hpl, s05.tup hS, hst, LG.rl, fun r m => ?_, lG, SqL.of (s5 _ _ d4), fun x m => ?_, ?_, fun Dq L H6 s6 nDq WL eL => kQ many Dq L H6 (s05.trans s6) WL (by rw [eL, eG2])⟩
    · have := stripe_row (ws := W) (c := pls.length) d1 r.2 (by rw [← eG2]; exact List.mem_map.mpr ⟨r, m, rfl⟩)
      omega
    · have := List.mem_range.mp (List.mem_filter.mp m).1
      omega
    · unfold brkM
      refine Nat.le_trans (List.length_filter_le _ _) ?_
      rw [List.length_range]
      omega
theorem sc_law_answer : FnScope ["images", "places", "stamp", "length", "data", "e"] ["images", "places", "stamp", "length", "data"] (defScope s_law_answer) := ⟨rfl, rfl, rfl, by decide +kernel, rfl, by decide +kernel, by decide +kernel⟩
theorem ok_law_answer (T : Txt K mg a) : FnOk P w K mg base CX0 8 a.f_law_answer a.d_law_answer ["images", "places", "stamp", "length", "data"] (sp_law_answer K a) := by
  refine T.F_law_answer.ok sc_law_answer (fun vs H Q E h => ?len) (fun cdv A outer s H vs Q E hr h => ?body)
  case len =>
    exact sp_law_answer_len h
  case body =>
    obtain ⟨X, I, P, Sa, st, pls, e, s, W, d, os, C, rfl, hI, ls, lr, hP, hpl, hS, hst, d1, d2, l6, lW, wW, hos, ndC, hoff, hcase, k0, k1⟩ := h
    refine ⟨_, (pss_cons (ps_try_as (i := 5) rfl rfl sc_law_answer.nd rfl rfl ⟨rfl, by decide, .inl T.g_PoolError⟩ takes0
      (fun W pn xe tk _ => (pss_one (ps_ret (pe_callS (ok_repair_stripe T) (hr.mono (by decide)) rfl T.g_repair_stripe T.F_repair_stripe.kp T.d_repair_stripe (fun σ => passAt tk σ) (pa_cons (pv 0) (pa_cons (pv 1) (pa_cons (pv 2) (pa_cons (pv 3) (pa_cons (pv 4) pa_nil)))))))))
      (fun a oe cls d pn hz hf => (pss_one (ps_if (pt_val (pe_callB (call_isE' hz hf) (by rfl) T.n_isinstance (by decide +kernel) (pa_cons (pv 5) (pa_cons (pe_glob (v := .ref _) rfl T.g_Damaged rfl) pa_nil))))
      (pss_one (ps_ret pe_non))
      pss_nil))))
      (pss_one (ps_ret pe_bl))), ?_⟩
    refine ⟨_, rfl, _, rfl, _, rfl, _, rfl, _, rfl, X, I, P, Sa, st, pls, e, s, W, d, os, C, rfl, hI, ls, lr, hP, hpl, hS, hst, d1, d2, l6, lW, wW, hos, ndC, hoff, hcase, fun few H1 s1 => ?_, fun many D L H1 s1 wl el => k1 many D L H1 s1 wl el⟩
    refine ⟨true, T.u_Damaged_PoolError, fun _ ad hb => ?_, fun z => Bool.noConfusion z⟩
    refine ⟨_, rfl, _, rfl, rfl, T.E_Damaged, _, _, true, rfl, fun _ z => z, T.i_Damaged_Damaged, ?_⟩
    exact ⟨_, rfl, iteT (k0 few _ s1)⟩
theorem sc_law : FnScope ["script", "pot", "count", "data", "words", "places", "stamp", "pieces", "images", "budget", "wrong", "hit", "k", "at", "place", "new", "lost", "bad", "shown", "found", "due", "disk", "row"] ["script"] (defScope s_law) := ⟨rfl, rfl, rfl, by decide +kernel, rfl, by decide +kernel, by decide +kernel⟩
theorem ok_law (T : Txt K mg a) : EntryOk P w K mg base a.f_law a.d_law "script" (sp_law K a) := by
  refine entry_of T.F_law sc_law (k := 8) (by decide) (fun cdv A outer s H vs Q E hg hr h => ?body)
  case body =>
    obtain ⟨s, ns, rfl, hS, short, k⟩ := h
    refine ⟨_, (pss_cons (ps_set (i := 1) sc_law.nd rfl (Or.inl rfl) (pe_call (ok_law_pot T) (hr.mono (by decide)) rfl T.g_law_pot T.F_law_pot.kp T.d_law_pot .nil pass0 (pa_cons (pv 0) pa_nil)))
      (pss_cons (ps_set (i := 2) sc_law.nd rfl (Or.inl rfl) (pe_op op_add pe_int (pe_call (ok_law_next T) (hr.mono (by decide)) rfl T.g_law_next T.F_law_next.kp T.d_law_next .nil pass0 (pa_cons (pv 1) (pa_cons pe_int pa_nil)))))
      (pss_cons (ps_set (i := 3) sc_law.nd rfl (Or.inl rfl) (pe_op op_add pe_int (pe_call (ok_law_next T) (hr.mono (by decide)) rfl T.g_law_next T.F_law_next.kp T.d_law_next .nil pass0 (pa_cons (pv 1) (pa_cons (pv 2) pa_nil)))))
      (pss_cons (ps_set (i := 4) sc_law.nd rfl (Or.inl rfl) (pe_call (ok_law_words T) (hr.mono (by decide)) rfl T.g_law_words T.F_law_words.kp T.d_law_words .nil pass0 (pa_cons (pv 1) (pa_cons (pe_call (ok_law_next T) (hr.mono (by decide)) rfl T.g_law_next T.F_law_next.kp T.d_law_next .nil pass0 (pa_cons (pv 1) (pa_cons pe_int pa_nil))) pa_nil))))
      (pss_cons (ps_set (i := 5) sc_law.nd rfl (Or.inr rfl) (pe_call (ok_law_places T) (hr.mono (by decide)) rfl T.g_law_places T.F_law_places.kp T.d_law_places .nil pass0 (pa_cons (pv 1) (pa_cons (pv 2) (pa_cons pe_int pa_nil)))))
      (pss_cons (ps_set (i := 6) sc_law.nd rfl (Or.inl rfl) (pe_tup (pa_cons (pe_op op_add pe_int (pe_call (ok_law_next T) (hr.mono (by decide)) rfl T.g_law_next T.F_law_next.kp T.d_law_next .nil pass0 (pa_cons (pv 1) (pa_cons pe_int pa_nil)))) (pa_cons (pe_call (ok_law_next T) (hr.mono (by decide)) rfl T.g_law_next T.F_law_next.kp T.d_law_next .nil pass0 (pa_cons (pv 1) (pa_cons (pe_op op_pow pe_int pe_int) pa_nil))) pa_nil))))
      (pss_cons (ps_set (i := 7) sc_law.nd rfl (Or.inl rfl) (pe_call (ok_law_pieces T) (hr.mono (by decide)) rfl T.g_law_pieces T.F_law_pieces.kp T.d_law_pieces .nil pass0 (pa_cons (pv 4) (pa_cons (pv 3) (pa_cons (pv 2) pa_nil)))))
      (pss_cons (ps_set (i := 8) sc_law.nd rfl (Or.inr rfl) (pe_call (ok_law_set_up T) (hr.mono (by decide)) rfl T.g_law_set_up T.F_law_set_up.kp T.d_law_set_up .nil pass0 (pa_cons (pv 1) (pa_cons (pv 5) (pa_cons (pv 6) (pa_cons (pv 7) pa_nil))))))
      (pss_cons (ps_set (i := 9) sc_law.nd rfl (Or.inl rfl) (pe_op op_sub (pv 2) (pv 3)))
      (pss_cons (ps_set (i := 10) sc_law.nd rfl (Or.inl rfl) pe_int)
      (Evl.pss_cut (ps_if (PW.pt (pw_and (pt_cmpR op_gt (pe_callB call_len_seq (by rfl) T.n_len PySem.boot_len (pa_cons (pv 4) pa_nil)) pe_int (nomark _)) (pw_and1 (pt_cmpR op_eq (pe_call (ok_law_next T) (hr.mono (by decide)) rfl T.g_law_next T.F_law_next.kp T.d_law_next .nil pass0 (pa_cons (pv 1) (pa_cons pe_int pa_nil))) pe_int (nomark _)))))
      (pss_one (ps_set (i := 10) sc_law.nd rfl (Or.inl rfl) (pe_call (ok_law_next T) (hr.mono (by decide)) rfl T.g_law_next T.F_law_next.kp T.d_law_next .nil pass0 (pa_cons (pv 1) (pa_cons (pe_op op_add (pe_op op_fdiv (pv 9) pe_int) pe_int) pa_nil)))))
      pss_nil)
      (pss_cons (ps_set (i := 11) sc_law.nd rfl (Or.inl rfl) (pe_lst pa_nil))
      (pss_cons (ps_for PassesOwn.never rfl (pi_range1 (by rfl) T.n_range (pa_cons (pv 10) pa_nil)) (pg_name (i := 12) sc_law.nd rfl (Or.inl rfl))
      (pss_cons (ps_set (i := 13) sc_law.nd rfl (Or.inl rfl) (pe_call (ok_law_next T) (hr.mono (by decide)) rfl T.g_law_next T.F_law_next.kp T.d_law_next .nil pass0 (pa_cons (pv 1) (pa_cons (pv 2) pa_nil))))
      (pss_one (ps_if (pt_cmpR op_notIn_seq (pv 13) (pv 11) (by rfl))
      (pss_cons (ps_expr (pe_bm PySem.F.plainAttrs_list PySem.F.slot_list_append PySem.F.type_list_append mt_append (pv 11) (pa_cons (pv 13) pa_nil)))
      (pss_cons (ps_set (i := 14) sc_law.nd rfl (Or.inl rfl) (pe_call (ok_law_next T) (hr.mono (by decide)) rfl T.g_law_next T.F_law_next.kp T.d_law_next .nil pass0 (pa_cons (pv 1) (pa_cons (pe_callB call_len_seq (by rfl) T.n_len PySem.boot_len (pa_cons (pe_ix ix_list (pv 7) (pv 13) (fun _ _ => rfl)) pa_nil)) pa_nil))))
      (pss_cons (ps_set (i := 15) sc_law.nd rfl (Or.inl rfl) (pe_callTy call_list_of (by rfl) T.n_list (by decide +kernel) (pa_cons (pe_ix ix_list (pv 7) (pv 13) (fun _ _ => rfl)) pa_nil)))
      (pss_cons (ps_asg (pe_op op_mod (pe_callTy call_int1 (by rfl) T.n_int (by decide +kernel) (pa_cons (pe_op op_add (pe_op op_add (pe_ix ix_list (pv 15) (pv 14) (fun _ _ => rfl)) pe_int) (pe_call (ok_law_next T) (hr.mono (by decide)) rfl T.g_law_next T.F_law_next.kp T.d_law_next .nil pass0 (pa_cons (pv 1) (pa_cons pe_int pa_nil)))) pa_nil)) pe_int) (pg_sub (pv 15) (pv 14) set_list))
      (pss_one (ps_asg (pe_call (ok_law_seal T) (hr.mono (by decide)) rfl T.g_law_seal T.F_law_seal.kp T.d_law_seal .nil pass0 (pa_cons pe_int (pa_cons (pe_ix ix_tup (pe_ix ix_list (pv 5) (pv 13) (fun _ _ => rfl)) pe_int (fun _ _ => rfl)) (pa_cons (pe_ix ix_tup (pe_ix ix_list (pv 5) (pv 13) (fun _ _ => rfl)) pe_int (fun _ _ => rfl)) (pa_cons (pv 6) (pa_cons (pv 15) pa_nil)))))) (pg_sub (pe_ix ix_list (pv 8) (pe_ix ix_tup (pe_ix ix_list (pv 5) (pv 13) (fun _ _ => rfl)) pe_int (fun _ _ => rfl)) (fun _ _ => rfl)) (pe_ix ix_tup (pe_ix ix_list (pv 5) (pv 13) (fun _ _ => rfl)) pe_int (fun _ _ => rfl)) set_list)))))))
      pss_nil))))
      (pss_cons (ps_set (i := 16) sc_law.nd rfl (Or.inl rfl) (pe_op op_sub (pv 9) (pe_op op_mul pe_int (pe_callB call_len_seq (by rfl) T.n_len PySem.boot_len (pa_cons (pv 11) pa_nil)))))
      (Evl.pss_cut (ps_if (PW.pt (pw_and (pt_cmpR op_eq (pe_callB call_len_seq (by rfl) T.n_len PySem.boot_len (pa_cons (pv 11) pa_nil)) pe_int (nomark _)) (pw_and1 (pt_cmpR op_eq (pe_call (ok_law_next T) (hr.mono (by decide)) rfl T.g_law_next T.F_law_next.kp T.d_law_next .nil pass0 (pa_cons (pv 1) (pa_cons pe_int pa_nil))) pe_int (nomark _)))))
      (pss_one (ps_set (i := 16) sc_law.nd rfl (Or.inl rfl) (pv 2)))
      pss_nil)
      (pss_cons (ps_set (i := 16) sc_law.nd rfl (Or.inl rfl) (pe_call (ok_law_next T) (hr.mono (by decide)) rfl T.g_law_next T.F_law_next.kp T.d_law_next .nil pass0 (pa_cons (pv 1) (pa_cons (pe_op op_add (pv 16) pe_int) pa_nil))))
      (pss_cons (ps_set (i := 17) sc_law.nd rfl (Or.inl rfl) (pe_lst pa_nil))
      (pss_cons (ps_for PassesOwn.never rfl (pi_range1 (by rfl) T.n_range (pa_cons (pv 16) pa_nil)) (pg_name (i := 12) sc_law.nd rfl (Or.inl rfl))
      (pss_cons (ps_set (i := 13) sc_law.nd rfl (Or.inl rfl) (pe_call (ok_law_next T) (hr.mono (by decide)) rfl T.g_law_next T.F_law_next.kp T.d_law_next .nil pass0 (pa_cons (pv 1) (pa_cons (pv 2) pa_nil))))
      (pss_one (ps_if (PW.pt (pw_and (pt_cmpR op_notIn_seq (pv 13) (pv 11) (by rfl)) (pw_and1 (pt_cmpR op_notIn_seq (pv 13) (pv 17) (by rfl)))))
      (pss_cons (ps_expr (pe_bm PySem.F.plainAttrs_list PySem.F.slot_list_append PySem.F.type_list_append mt_append (pv 17) (pa_cons (pv 13) pa_nil)))
      (pss_one (ps_expr (pe_call (ok_law_spoil T) (hr.mono (by decide)) rfl T.g_law_spoil T.F_law_spoil.kp T.d_law_spoil .nil pass0 (pa_cons (pv 1) (pa_cons (pv 8) (pa_cons (pe_ix ix_list (pv 5) (pv 13) (fun _ _ => rfl)) (pa_cons (pv 6) pa_nil))))))))
      pss_nil))))
      (pss_cons (ps_set (i := 18) sc_law.nd rfl (Or.inl rfl) (pe_callB (cr_repr hg hr.units) (by rfl) T.n_repr (by decide +kernel) (pa_cons (pv 8) pa_nil)))
      (Evl.pss_cut (ps_set (i := 19) sc_law.nd rfl (Or.inl rfl) (pe_call (ok_law_answer T) (hr.mono (by decide)) rfl T.g_law_answer T.F_law_answer.kp T.d_law_answer .nil pass0 (pa_cons (pv 8) (pa_cons (pv 5) (pa_cons (pv 6) (pa_cons (pe_callB call_len_seq (by rfl) T.n_len PySem.boot_len (pa_cons (pv 4) pa_nil)) (pa_cons (pv 3) pa_nil)))))))
      (pss_cons (ps_if (pt_cmpR op_ne (pe_callB (cr_repr hg hr.units) (by rfl) T.n_repr (by decide +kernel) (pa_cons (pv 8) pa_nil)) (pv 18) (nomark _))
      (pss_one (ps_ret pe_bl))
      pss_nil)
      (pss_cons (ps_if (pt_cmpR op_lt (pe_op op_sub (pv 2) (pe_callB call_len_seq (by rfl) T.n_len PySem.boot_len (pa_cons (pv 17) pa_nil))) (pv 3) (nomark _))
      (pss_one (ps_ret (pe_cmpR op_isN (pv 19) pe_non (nomark _))))
      pss_nil)
      (pss_cons (ps_setLc (i := 20) (own := [("k", 12)]) (g := (gName 12)) (by rfl) sc_law.nd rfl rfl (sw_true rfl rfl rfl (by decide +kernel)) (pi_list (pe_callB cr_sorted (by rfl) T.n_sorted (by decide +kernel) (pa_cons (pe_op op_cat (pv 11) (pv 17)) pa_nil))) (blkOk_by (own := [("k", 12)]) (N := ["script", "pot", "count", "data", "words", "places", "stamp", "pieces", "images", "budget", "wrong", "hit", "k", "at", "place", "new", "lost", "bad", "shown", "found", "due", "disk", "row"]) (sc := defScope s_law) (by decide +kernel))
      (fun _ _ _ _ _ => (pg_name (i := 12) sc_law.nd rfl (Or.inl rfl))) (fun _ _ _ _ _ => (pts_one (pt_cmpR op_notN (pe_ix (by exact ix_list : IxR _ (rIxL K)) (pv 8) (pe_ix (by exact ix_tup : IxR _ (rIxT K)) (pe_ix (by exact ix_list : IxR _ (rIxL K)) (pv 5) (pv 12) (fun _ _ => rfl)) pe_int (fun _ _ => rfl)) (fun _ _ => rfl)) pe_non (nomark _)))) (fun _ _ _ _ _ => (pv 12)))
      (pss_cons (ps_if (PW.pt (pw_or (pt_not (pt_val (pe_callB call_isi (by rfl) T.n_isinstance (by decide +kernel) (pa_cons (pv 19) (pa_cons (pe_bltn (v := .ty "list") (by rfl) T.n_list (by decide +kernel) rfl) pa_nil))))) (pw_or1 (pt_cmpR op_ne (pe_callB call_len_seq (by rfl) T.n_len PySem.boot_len (pa_cons (pv 19) pa_nil)) (pe_callB call_len_seq (by rfl) T.n_len PySem.boot_len (pa_cons (pv 20) pa_nil)) (nomark _)))))
      (pss_one (ps_ret pe_bl))
      pss_nil)
      (pss_cons (ps_for PassesOwn.never rfl (pi_range1 (by rfl) T.n_range (pa_cons (pe_callB call_len_seq (by rfl) T.n_len PySem.boot_len (pa_cons (pv 20) pa_nil)) pa_nil)) (pg_name (i := 12) sc_law.nd rfl (Or.inl rfl))
      (pss_cons (ps_asg (pe_ix ix_list (pv 5) (pe_ix ix_list (pv 20) (pv 12) (fun _ _ => rfl)) (fun _ _ => rfl)) (pg_tup rfl (pgs_cons (pg_name (i := 21) sc_law.nd rfl (Or.inl rfl)) (pgs_cons (pg_name (i := 22) sc_law.nd rfl (Or.inl rfl)) pgs_nil))))
      (pss_one (ps_if (pt_not (pt_val (pe_call (ok_law_is_write T) (hr.mono (by decide)) rfl T.g_law_is_write T.F_law_is_write.kp T.d_law_is_write .nil pass0 (pa_cons (pe_ix ix_list (pv 19) (pv 12) (fun _ _ => rfl)) (pa_cons (pv 21) (pa_cons (pv 22) (pa_cons (pe_call (ok_law_seal T) (hr.mono (by decide)) rfl T.g_law_seal T.F_law_seal.kp T.d_law_seal .nil pass0 (pa_cons pe_int (pa_cons (pv 21) (pa_cons (pv 22) (pa_cons (pv 6) (pa_cons (pe_ix ix_list (pv 7) (pe_ix ix_list (pv 20) (pv 12) (fun _ _ => rfl)) (fun _ _ => rfl)) pa_nil)))))) pa_nil)))))))
      (pss_one (ps_ret pe_bl))
      pss_nil))))
      (pss_one (ps_ret pe_bl))))))))))))))))))))))))))), ?_⟩
    refine ⟨_, rfl, s, ns, rfl, hS, by omega, fun p l H1 hp hl s1 P1 => ?_⟩
    refine ⟨_, rfl, p, l, 6, rfl, P1, by decide, by decide, fun c H2 c0 c1 P2 o2 => ⟨_, _, rfl, rfl, ?_⟩⟩
    obtain ⟨cn, ec⟩ : ∃ n : Nat, 1 + c = (n : Int) := ⟨(1 + c).toNat, by omega⟩
    dsimp only
    rw [ec]
    refine ⟨_, rfl, _, rfl, p, l, (cn : Int), rfl, P2, by omega, by omega, fun c' H3 c0' c1' P3 o3 => ⟨_, _, rfl, rfl, ?_⟩⟩
    obtain ⟨d, ed⟩ : ∃ n : Nat, 1 + c' = (n : Int) := ⟨(1 + c').toNat, by omega⟩
    dsimp only
    rw [ed]
    have d1 : 1 ≤ d := by omega
    have dc : d ≤ cn := by omega
    have c6 : cn ≤ 6 := by omega
    clear c0 c1 c0' c1' ec ed
    -- words = _law_words(pot, _law_next(pot, 31))
    refine ⟨_, rfl, _, rfl, p, l, 31, rfl, P3, by decide, by decide, fun wn H4 w0 w1 P4 o4 => ?_⟩
    refine ⟨p, l, wn, rfl, P4, by omega, by omega, fun W ws H5 lw ww nW dW b5 P5 => ?_⟩
    have nWp : W ≠ p := (P4.off nW).1.symm
    have lw30 : ws.length ≤ 30 := by omega
    clear lw w0 w1
    -- places = _law_places(pot, count, 64)
    refine ⟨_, rfl, _, rfl, p, l, cn, 64, rfl, P5, by omega, by decide, by decide, fun PL L H6 b6 P6 nPL LL lL rL ndL => ?_⟩
    have nPp : PL ≠ p := (P5.off nPL).1.symm
    have dW6 : H6 W = some (.lst (ws.map V.int)) := b6 _ _ dW nWp
    -- stamp
    refine ⟨_, rfl, p, l, 65520, rfl, P6, by decide, by decide, fun e H7 e0 e1 P7 o7 => ⟨_, _, rfl, rfl, ?_⟩⟩
    dsimp only
    refine ⟨_, rfl, _, _, rfl, rfl, ⟨by decide, by decide, by decide⟩, p, l, 10 ^ 9, rfl, P7, by decide, by decide, fun sr H8 f0 f1 P8 o8 => ⟨by show 2 ≤ sizeLine; decide, fun Sa nst => ?_⟩⟩
    have hs : Stp (1 + e) sr := ⟨⟨by omega, by omega⟩, ⟨f0, by have : sr < 1000000000 := f1; omega⟩⟩
    have s9 : sr < 4000000000 := by have : sr < 1000000000 := f1; omega
    generalize 1 + e = ep at hs ⊢
    clear e0 e1 f0 f1
    have offst := P8.off nst
    have b78 : But p H6 H8 := o7.but.trans o8.but
    have LL8 := LL.but P6 nPp b78
    have dW8 := b78 _ _ dW6 nWp
    have P9 := P8.new (o := .tup [V.int ep, .int sr]) nst
    have dT : upd H8 Sa (.tup [V.int ep, .int sr]) Sa = some (.tup [.int ep, .int sr]) := upd_same
    have sst := Same.new (o := .tup [V.int ep, .int sr]) nst
    have LL9 := LL8.same sst
    have dW9 := sst _ _ dW8
    clear LL8 dW8 dW6 LL dW b78 P8
    generalize upd H8 Sa (.tup [V.int ep, .int sr]) = H9 at P9 dT LL9 dW9 sst ⊢
    have wW : ∀ w ∈ ws, Wd w := ww
    clear ww
    -- pieces
    refine ⟨_, rfl, _, rfl, _, rfl, W, ws, d, cn, rfl, dW9, by omega, d1, dc, c6, fun PD F H10 s10 nPD LF eF => ?_⟩
    have LL10 := LL9.same s10
    have dW10 := s10 _ _ dW9
    have dT10 := s10 _ _ dT
    have P10 := P9.same s10
    have lF : F.length = cn := by rw [← snds_len, eF, stripe_len dc]
    have rowF : ∀ (j : Nat) (f : Addr × List Int), F[j]? = some f → f.2 = (stripeM ws d cn).getD j [] ∧ f.2.length = sizeM ws.length d ∧ ∀ w ∈ f.2, Wd w := fun j f hf => by
      have h1 : (stripeM ws d cn)[j]? = some f.2 := by rw [← eF, List.getElem?_map, hf]; rfl
      exact ⟨(getD_item h1).symm, stripe_row d1 _ (List.mem_of_getElem? h1), stripe_words wW _ (List.mem_of_getElem? h1)⟩
    have szl := size_lt ws.length d d1
    have nPDp : PD ≠ p := (P9.off nPD).1.symm
    clear LL9 dW9 dT P9 s10 nPD sst b5 b6 P5 P6 P7 P3 P4 P2 P1 o2 o3 o4 o7 o8
    -- images
    refine ⟨_, rfl, _, rfl, _, rfl, _, rfl, (fun q => q = p), p, PL, Sa, PD, l, L, ep, sr, F, rfl, fun q nq z => (P10.off nq).1 z.symm, P10, LL10, by omega, rL, ndL, dT10, hs, LF, by omega, fun f m => ?_, fun I st H11 s11 im nI lst rst alst done wst => ?_⟩
    · obtain ⟨j, hj⟩ := List.mem_iff_getElem?.mp m
      obtain ⟨_, f2, f3⟩ := rowF j f hj
      exact ⟨by omega, f3⟩
    have rowS : ∀ j, j < cn → ((stripeM ws d cn).getD j []).length = sizeM ws.length d ∧ ∀ w ∈ (stripeM ws d cn).getD j [], Wd w := fun j hj => by
      obtain ⟨r, hr⟩ : ∃ r, (stripeM ws d cn)[j]? = some r := ⟨_, List.getElem?_eq_getElem (by rw [stripe_len dc]; exact hj)⟩
      rw [getD_item hr]
      exact ⟨stripe_row d1 _ (List.mem_of_getElem? hr), stripe_words wW _ (List.mem_of_getElem? hr)⟩
    have hR : InR L := rL
    obtain ⟨n, hn⟩ : ∃ n, n = sizeM ws.length d := ⟨_, rfl⟩
    have n30 : n ≤ 30 := by omega
    rw [← hn] at rowS
    have R0 : Rs H10 st L ep sr (stripeM ws d cn) n ((stripeM ws d cn).map some) [] [] := by
      refine ⟨lst, rst, wst, by rw [List.length_map, stripe_len dc]; omega, fun _ m => (nomatch m), fun _ m => (nomatch m), fun j hj _ _ => ?_, fun j q hq => ⟨fun w hw => ?_, fun hw => ?_⟩, List.nodup_nil, List.nodup_nil, fun _ m => (nomatch m)⟩
      · obtain ⟨r, hr⟩ : ∃ r, (stripeM ws d cn)[j]? = some r := ⟨_, List.getElem?_eq_getElem (by rw [stripe_len dc]; omega)⟩
        rw [List.getElem?_map, hr, getD_item hr]
        rfl
      · have jl := item_lt hq
        obtain ⟨r, hr⟩ : ∃ r, (stripeM ws d cn)[j]? = some r := ⟨_, List.getElem?_eq_getElem (by rw [stripe_len dc]; omega)⟩
        rw [List.getElem?_map, hr] at hw
        have hw : r = w := Option.some.inj (Option.some.inj hw)
        subst hw
        obtain ⟨f, hf⟩ : ∃ f, F[j]? = some f := ⟨_, List.getElem?_eq_getElem (by omega)⟩
        obtain ⟨f1, f2, f3⟩ := rowF j f hf
        obtain ⟨sc, h1, h2⟩ := done j q f hq hf
        rw [getD_item hr] at f1
        rw [f1] at f2 f3 h2
        exact ⟨by rw [hn]; exact f2, f3, sc, h1, h2⟩
      · rw [List.getElem?_map] at hw
        cases z : (stripeM ws d cn)[j]? with
        | none => rw [z] at hw; cases hw
        | some r => rw [z] at hw; cases hw
    generalize hos : (stripeM ws d cn).map some = os0 at R0
    have P11 := P10.same s11
    clear lst rst alst done wst hos
    -- budget, wrong
    refine ⟨_, rfl, _, rfl, _, _, rfl, rfl, ?_⟩
    refine ⟨fun σ H' => ∃ wn : Nat, σ = [some (.ref s), some (.ref p), some (.int (cn : Int)), some (.int (d : Int)), some (.ref W), some (.ref PL), some (.ref Sa), some (.ref PD), some (.ref I), some (.int ((cn : Int) - (d : Int))), some (.int (wn : Int)), none, none, none, none, none, none, none, none, none, none, none, none] ∧ 2 * wn ≤ cn - d ∧ (0 < wn → 0 < ws.length) ∧ Pot H' p l ∧ But p H11 H', ?_, ?_⟩
    · refine ⟨_, rfl, W, _, rfl, .inl (SqL.of (s11 _ _ dW10)), _, _, rfl, rfl, _, rfl, ite2 (fun z => ?_) (fun z => ?_)⟩
      · have z := of_decide_eq_true z
        rw [List.length_map] at z
        refine ⟨_, rfl, p, l, 3, rfl, P11, by decide, by decide, fun u H3 u0 u1 P3 o3 => ⟨rfl, _, rfl, ?_⟩⟩
        refine ite2 (fun _ => ?_) (fun _ => ⟨0, rfl, by omega, fun z => absurd z (by omega), P3, o3.but⟩)
        refine ⟨_, rfl, _, rfl, _, _, rfl, rfl, ⟨by decide, by decide⟩, _, _, rfl, rfl, p, l, _, rfl, P3, by omega, by omega, fun v H4 v0 v1 P4 o4 => ?_⟩
        exact ⟨v.toNat, by rw [show ((v.toNat : Nat) : Int) = v by omega]; rfl, by omega, fun _ => by omega, P4, o3.but.trans o4.but⟩
      · exact iteF ⟨0, rfl, by omega, fun z => absurd z (by omega), P11, fun _ _ e _ => e⟩
    rintro σ H12 ⟨wn, rfl, w1, w2, P12, b12⟩
    have im12 := im.draw b12 rfl
    have b1012 : But p H10 H12 := s11.but.trans b12
    clear im P11 b12
    -- hit
    refine ⟨Nat.zero_le _, fun Hd nHd => ?_⟩
    have nH10 : H10 Hd = none := but_none b1012 (P12.off nHd).1.symm nHd
    have sH := Same.new (o := .lst []) nHd
    have dH : upd H12 Hd (.lst []) Hd = some (.lst ((intsN []).map V.int)) := upd_same
    have im13 : ImM (upd H12 Hd (.lst [])) (fun q => q = p ∨ q = Hd) I st := (im12.more (X' := fun q => q = p ∨ q = Hd) fun q o e z => z.elim id fun z => by rw [z, nHd] at e; cases e).same sH
    have offH := P12.off nHd
    have P13 := P12.same sH
    have b13 : But p H10 (upd H12 Hd (.lst [])) := b1012.trans sH.but
    generalize upd H12 Hd (.lst []) = H13 at dH im13 P13 b13 ⊢
    clear im12 sH P12 b1012
    refine ⟨_, rfl, _, rfl, by omega, by omega, ?_⟩
    rw [Int.toNat_natCast]
    obtain ⟨IV, hIV⟩ : ∃ IV : Nat → L2.St → Hp → Prop, ∀ i σ H', IV i σ H' ↔ ∃ (v12 v13 v14 v15 : Option V) (st : Sts) (os : List (Option (List Int))) (hh : List Nat), σ = [some (.ref s), some (.ref p), some (.int (cn : Int)), some (.int (d : Int)), some (.ref W), some (.ref PL), some (.ref Sa), some (.ref PD), some (.ref I), some (.int ((cn : Int) - (d : Int))), some (.int (wn : Int)), some (.ref Hd), v12, v13, v14, v15, none, none, none, none, none, none, none] ∧ Pot H' p l ∧ But p H10 H' ∧ ImM H' (fun q => q = p ∨ q = Hd) I st ∧
      H' Hd = some (.lst ((intsN hh).map V.int)) ∧ hh.length ≤ i ∧ Rs H10 st L ep sr (stripeM ws d cn) n os hh [] := ⟨fun i σ H' => _, fun i σ H' => Iff.rfl⟩
    refine for_range (lo := 0) (n := wn) IV ((hIV _ _ _).mpr ⟨none, none, none, none, st, os0, [], rfl, P13, b13, im13, dH, Nat.le_refl _, R0⟩) ?_ ?_
    · clear im13 R0 dH b13 P13 st os0
      intro i σ H4 hi hiv
      obtain ⟨v12, v13, v14, v15, st, os, hh, rfl, P4, b4, im, dH, lh, R1⟩ := (hIV _ _ _).mp hiv
      clear hiv
      refine ⟨_, rfl, _, rfl, p, l, (cn : Int), rfl, P4, by omega, by omega, fun a1 H5 a0 a2 P5 o5 => ?_⟩
      obtain ⟨aj, rfl⟩ : ∃ n : Nat, a1 = (n : Int) := ⟨a1.toNat, by omega⟩
      have haj : aj < cn := by omega
      have b5 : But p H10 H5 := b4.trans o5.but
      have im5 := im.draw o5.but (.inl rfl)
      have dH5 := o5.but _ _ dH offH.1.symm
      clear im P4 b4 dH o5
      refine ⟨_, rfl, _, rfl, Hd, _, rfl, .inl (SqL.of dH5), rfl, flat_ints19 _, _, rfl, ?_⟩
      rw [inV_ints19]
      by_cases c : aj ∈ hh
      · rw [decide_eq_true (mem_intsN.mpr c)]
        exact iteF ((hIV _ _ _).mpr ⟨_, _, _, _, st, os, hh, rfl, P5, b5, im5, dH5, by omega, R1⟩)
      rw [decide_eq_false (fun z => c (mem_intsN.mp z))]
      refine iteT ?_
      refine ⟨_, rfl, .inl ⟨rfl, _, SqL.of dH5⟩, _, rfl, Hd, _, _, rfl, rfl, dH5, small _ (by rw [List.length_map]; unfold intsN; rw [List.length_map]; omega), ?_⟩
      have eb : (intsN hh).map V.int ++ [V.int (aj : Int)] = (intsN (hh ++ [aj])).map V.int := by unfold intsN; rw [List.map_append, List.map_append]; rfl
      rw [eb]
      have im6 : ImM (upd H5 Hd (.lst ((intsN (hh ++ [aj])).map V.int))) (fun q => q = p ∨ q = Hd) I st := im5.but fun q o e nx => by rw [upd_ne fun z => nx (.inr z)]; exact e
      have P6 : Pot (upd H5 Hd (.lst ((intsN (hh ++ [aj])).map V.int))) p l := P5.only Only.upd offH.1 offH.2
      have b6 : But p H10 (upd H5 Hd (.lst ((intsN (hh ++ [aj])).map V.int))) := fun b o e n => by rw [upd_ne (ne_of_none e nH10)]; exact b5 b o e n
      have dH6 : upd H5 Hd (.lst ((intsN (hh ++ [aj])).map V.int)) Hd = some (.lst ((intsN (hh ++ [aj])).map V.int)) := upd_same
      generalize upd H5 Hd (.lst ((intsN (hh ++ [aj])).map V.int)) = H6 at im6 P6 b6 dH6 ⊢
      clear im5 P5 b5 dH5
      have LL6 := LL10.but P10 nPp b6
      have LF6 := LF.but P10 nPDp b6
      have Tp : ∀ {H' : Hp}, But p H10 H' → H' Sa = some (.tup [.int ep, .int sr]) := fun b => b _ _ dT10 (by
        obtain ⟨_, _, _, hp2⟩ := P10.list
        exact ne_of dT10 hp2 (by intro z; cases z))
      obtain ⟨q, hq⟩ : ∃ q, L[aj]? = some q := ⟨_, List.getElem?_eq_getElem (by omega)⟩
      have mq := List.mem_of_getElem? hq
      obtain ⟨⟨x0, x8⟩, y0, y64⟩ := rL q mq
      have gq : (L.map fun e => V.ref e.1)[aj]? = some (V.ref q.1) := by rw [List.getElem?_map, hq]; rfl
      obtain ⟨f, hf⟩ : ∃ f, F[aj]? = some f := ⟨_, List.getElem?_eq_getElem (by omega)⟩
      have mf := List.mem_of_getElem? hf
      obtain ⟨f1, f2, f3⟩ := rowF aj f hf
      rw [← hn] at f2
      have osj := R1.ho aj (by omega) c (by simp)
      obtain ⟨_, _, sc, hsc, esc⟩ := (R1.ok aj q hq).1 _ osj
      obtain ⟨dk, gd, hrow⟩ := sec_some hsc
      have hrn := item_lt hrow
      have n0 : 0 < n := by
        have := w2 (by omega)
        rw [hn]
        unfold sizeM
        exact Nat.div_pos (by omega) (by omega)
      refine ⟨_, rfl, _, rfl, _, rfl, PD, _, _, _, rfl, rfl, SqL.of LF6.1, at_of (j := aj) rfl (refs_get hf), f.1, _, rfl, .inl (SqL.of (LF6.2 f mf).1), p, l, _, rfl, P6, by rw [List.length_map]; omega, by rw [List.length_map]; omega, fun pj' H7 pl0 pl1 P7 o7 => ?_⟩
      rw [List.length_map] at pl1
      obtain ⟨pj, rfl⟩ : ∃ n : Nat, pj' = (n : Int) := ⟨pj'.toNat, by omega⟩
      have b7 : But p H10 H7 := b6.trans o7.but
      have im7 := im6.draw o7.but (.inl rfl)
      have dH7 := o7.but _ _ dH6 offH.1.symm
      have LF7 := LF.but P10 nPDp b7
      refine ⟨_, rfl, _, rfl, PD, _, _, _, rfl, rfl, SqL.of LF7.1, at_of (j := aj) rfl (refs_get hf), f.1, _, rfl, .inl (SqL.of (LF7.2 f mf).1), fun Nw nNw => ?_⟩
      have sN := Same.new (o := .lst (f.2.map V.int)) nNw
      have dN : upd H7 Nw (.lst (f.2.map V.int)) Nw = some (.lst (f.2.map V.int)) := upd_same
      have P8 := P7.same sN
      have oN := P7.off nNw
      have b8 : But p H10 (upd H7 Nw (.lst (f.2.map V.int))) := b7.trans sN.but
      have im8 := im7.same sN
      have dH8 := sN _ _ dH7
      have NH : Nw ≠ Hd := (ne_of_none dH7 nNw).symm
      have nN10 : H10 Nw = none := but_none b7 oN.1.symm nNw
      have nmut : ¬ mutS (fun q => q = p ∨ q = Hd) I st Nw := fun y => by
        rcases y with (y | y) | y | ⟨i, dk', g, y⟩
        · exact oN.1 y.symm
        · exact NH y
        · rw [y, im7.hI] at nNw; cases nNw
        · rw [y, (im7.hD i dk' g).1] at nNw; cases nNw
      have nrow : ∀ (i : Nat) (dk : DkO) (r : Nat) (s : Addr × List Int), st[i]? = some (some dk) → dk.rows[r]? = some (some s) → s.1 ≠ Nw := fun i dk r s e1 e2 z => by
        have := (im7.hR i dk r s e1 e2).1
        rw [z, nNw] at this
        cases this
      generalize upd H7 Nw (.lst (f.2.map V.int)) = H8 at sN dN P8 b8 im8 dH8 ⊢
      clear im6 P6 b6 dH6 LF6 im7 dH7 LF7 P7 sN o7
      obtain ⟨w0, hw0⟩ : ∃ w0, f.2[pj]? = some w0 := ⟨_, List.getElem?_eq_getElem (by omega)⟩
      have gw : (f.2.map V.int)[pj]? = some (.int w0) := by rw [List.getElem?_map, hw0]; rfl
      have ww := f3 w0 (List.mem_of_getElem? hw0)
      -- new[place] = ..
      refine ⟨_, rfl, _, rfl, Nw, _, _, _, rfl, rfl, SqL.of dN, at_of (j := pj) rfl gw, _, _, rfl, rfl, _, rfl, p, l, 65520, rfl, P8, by decide, by decide, fun u H9' u0 u1 P9 o9 => ⟨_, _, rfl, rfl, .inl ⟨_, rfl, _, _, rfl, rfl, (by show (0 : Int) < 65521; decide), ?_⟩⟩⟩
      obtain ⟨v, hv⟩ : ∃ v : Int, v = (w0 + 1 + u) % 65521 := ⟨_, rfl⟩
      have dN9 := o9.but _ _ dN oN.1.symm
      have b9 : But p H10 H9' := b8.trans o9.but
      have im9 := im8.draw o9.but (.inl rfl)
      have dH9 := o9.but _ _ dH8 offH.1.symm
      clear im8 P8 b8 dH8 dN o9
      refine ⟨_, rfl, _, rfl, Nw, _, _, pj, rfl, rfl, dN9, by rw [List.length_map]; exact ixN_nat (by omega), ?_⟩
      dsimp only
      rw [← hv]
      have e10 : (f.2.map V.int).set pj (V.int v) = (f.2.set pj v).map V.int := by rw [List.map_set]
      rw [e10]
      have im10 : ImM (upd H9' Nw (.lst ((f.2.set pj v).map V.int))) (fun q => q = p ∨ q = Hd) I st := by
        have hI := im9.hI
        refine ⟨by rw [upd_ne fun z => nmut (.inr (.inl z.symm))]; exact hI, im9.ip, fun i dk e => ⟨by rw [upd_ne fun z => nmut (.inr (.inr ⟨i, dk, e, z.symm⟩))]; exact (im9.hD i dk e).1, (im9.hD i dk e).2⟩, im9.hU, fun i dk r s e1 e2 => ?_⟩
        obtain ⟨a1, a2, a3⟩ := im9.hR i dk r s e1 e2
        refine ⟨?_, a2, a3⟩
        rw [upd_ne (nrow i dk r s e1 e2)]
        exact a1
      have P10' : Pot (upd H9' Nw (.lst ((f.2.set pj v).map V.int))) p l := P9.only Only.upd oN.1 oN.2
      have b10 : But p H10 (upd H9' Nw (.lst ((f.2.set pj v).map V.int))) := fun b o e n => by rw [upd_ne (ne_of_none e nN10)]; exact b9 b o e n
      have dN10 : upd H9' Nw (.lst ((f.2.set pj v).map V.int)) Nw = some (.lst ((f.2.set pj v).map V.int)) := upd_same
      have dH10 : upd H9' Nw (.lst ((f.2.set pj v).map V.int)) Hd = some (.lst ((intsN (hh ++ [aj])).map V.int)) := by rw [upd_ne NH.symm]; exact dH9
      generalize upd H9' Nw (.lst ((f.2.set pj v).map V.int)) = H11' at im10 P10' b10 dN10 dH10 ⊢
      clear im9 P9 b9 dN9 dH9
      have LL11 := LL10.but P10 nPp b10
      have tq := LL11.2 q mq
      have edt : q.2.1 = ((q.2.1.toNat : Nat) : Int) := by omega
      have ert : q.2.2 = ((q.2.2.toNat : Nat) : Int) := by omega
      have lnew : (f.2.set pj v).length = n := by rw [List.length_set]; exact f2
      have wnew : ∀ x ∈ f.2.set pj v, Wd x := fun x m => by
        rcases List.mem_or_eq_of_mem_set m with m | m
        · exact f3 x m
        · rw [m, hv]
          exact ⟨Int.emod_nonneg _ (by decide), Int.emod_lt_of_pos _ (by decide)⟩
      have nnew : f.2.set pj v ≠ (stripeM ws d cn).getD aj [] := fun z => by
        rw [← f1] at z
        have e1 : (f.2.set pj v)[pj]? = some v := by rw [List.getElem?_set, if_pos rfl, if_pos (by omega)]
        rw [z, hw0] at e1
        have e2 := Option.some.inj e1
        rw [hv] at e2
        have h1 := ww.1
        have h2 := ww.2
        omega
      refine ⟨_, rfl, _, rfl, PL, _, _, _, rfl, rfl, SqL.of LL11.1, at_of (j := aj) rfl gq, q.1, _, _, _, rfl, rfl, SqT.of tq, at_of (j := 0) rfl rfl, ?_⟩
      refine ⟨_, rfl, _, rfl, PL, _, _, _, rfl, rfl, SqL.of LL11.1, at_of (j := aj) rfl gq, q.1, _, _, _, rfl, rfl, SqT.of tq, at_of (j := 1) rfl rfl, _, rfl, _, rfl, 3, q.2.1, q.2.2, Sa, Nw, ep, sr, f.2.set pj v, rfl, SqT.of (Tp b10), dN10, by omega, fun D H12 s12 nD dD => ?_⟩
      have im12 := im10.same s12
      have hD12 := im12.hD q.2.1.toNat dk gd
      have LL12 := LL11.same s12
      have P12 := P10'.same s12
      refine ⟨_, rfl, _, rfl, _, rfl, PL, _, _, _, rfl, rfl, SqL.of LL12.1, at_of (j := aj) rfl gq, q.1, _, _, _, rfl, rfl, SqT.of (LL12.2 q mq), at_of (j := 0) rfl rfl, I, _, _, _, rfl, rfl, SqL.of im12.hI, at_of (j := q.2.1.toNat) edt (dk_get gd), _, rfl, _, rfl, PL, _, _, _, rfl, rfl, SqL.of LL12.1, at_of (j := aj) rfl gq, q.1, _, _, _, rfl, rfl, SqT.of (LL12.2 q mq), at_of (j := 1) rfl rfl, dk.A, _, _, q.2.2.toNat, rfl, rfl, hD12.1, ?_, ?_⟩
      · rw [ert, List.length_map]
        exact ixN_nat hrn
      have e9 : (dk.rows.map rowV).set q.2.2.toNat (V.ref D) = (dk.rows.set q.2.2.toNat (some (D, sealM 3 q.2.1 q.2.2 ep sr (f.2.set pj v)))).map rowV := map_set_row dk.rows q.2.2.toNat (some (D, sealM 3 q.2.1 q.2.2 ep sr (f.2.set pj v)))
      rw [e9]
      have im13 := im12.put gd (r := q.2.2.toNat) (o := some (D, sealM 3 q.2.1 q.2.2 ep sr (f.2.set pj v))) fun sc z => by
        cases z
        refine ⟨dD, fun y => ?_, by rw [sealM_length, lnew]; omega⟩
        rcases y with (y | y) | y | ⟨i, dk', g, y⟩
        · exact (P10'.off nD).1 y.symm
        · rw [show (D, sealM 3 q.2.1 q.2.2 ep sr (f.2.set pj v)).1 = D from rfl] at y
          rw [y, dH10] at nD; cases nD
        · rw [show (D, sealM 3 q.2.1 q.2.2 ep sr (f.2.set pj v)).1 = D from rfl] at y
          rw [y, im10.hI] at nD; cases nD
        · rw [show (D, sealM 3 q.2.1 q.2.2 ep sr (f.2.set pj v)).1 = D from rfl] at y
          rw [y, (im10.hD i dk' g).1] at nD; cases nD
      have R2 := R1.hit hR ndL hs (by omega) (D := D) hq c gd lnew wnew nnew
      have b12 : But p H10 H12 := b10.trans s12.but
      have lA : l ≠ dk.A := by
        obtain ⟨_, _, _, _, _, z2, _⟩ := id P12
        exact fun z => (im12.ints (fun i dk g => (R1.rst i dk g).1) (by decide) (by have := item_lt gd; omega) z2).1 ⟨_, dk, gd, z⟩
      have hnA := (R1.rst _ dk gd).2
      exact (hIV _ _ _).mpr ⟨_, _, _, _, _, _, _, rfl, P12.only Only.upd (fun z => hD12.2.2 (.inl z.symm)) lA, fun b o e n => by rw [upd_ne (ne_of_none e hnA)]; exact b12 b o e n, im13, by rw [upd_ne fun z => hD12.2.2 (.inr z.symm)]; exact s12 _ _ dH10, by rw [List.length_append, List.length_singleton]; omega, R2⟩
    rintro σ H4 hiv
    obtain ⟨v12, v13, v14, v15, st1, os1, hh, rfl, P4, b4, im4, dH4, lh, R1⟩ := (hIV _ _ _).mp hiv
    clear hiv hIV IV im13 R0 dH b13 P13 st os0
    have h2 : 2 * hh.length ≤ cn - d := by omega
    clear w1 w2 lh
    have hhn : ((intsN hh).map V.int).length = hh.length := by rw [List.length_map, intsN_len]
    refine ⟨_, rfl, _, rfl, Hd, _, rfl, .inl (SqL.of dH4), _, _, rfl, rfl, .inl ⟨by decide, by decide⟩, _, _, rfl, rfl, ?_⟩
    rw [hhn]
    refine ⟨fun σ H' => ∃ ln : Nat, σ = [some (.ref s), some (.ref p), some (.int (cn : Int)), some (.int (d : Int)), some (.ref W), some (.ref PL), some (.ref Sa), some (.ref PD), some (.ref I), some (.int ((cn : Int) - (d : Int))), some (.int (wn : Int)), some (.ref Hd), v12, v13, v14, v15, some (.int (ln : Int)), none, none, none, none, none, none] ∧ ln ≤ 6 ∧ (hh = [] ∨ ln ≤ cn - d - 2 * hh.length) ∧ Pot H' p l ∧ But p H4 H', ?_, ?_⟩
    · refine ⟨_, rfl, Hd, _, rfl, .inl (SqL.of dH4), rfl, _, rfl, ite2 (fun z => ?_) (fun z => ?_)⟩
      · have z := of_decide_eq_true z
        rw [hhn] at z
        have z : hh = [] := List.length_eq_zero_iff.mp (by have := V.int.inj z; omega)
        refine ⟨_, rfl, p, l, 4, rfl, P4, by decide, by decide, fun u H3 u0 u1 P3 o3 => ⟨rfl, _, rfl, ?_⟩⟩
        refine ite2 (fun _ => ⟨_, rfl, cn, rfl, by omega, .inl z, P3, o3.but⟩) (fun _ => ⟨cn - d, ?_, by omega, .inl z, P3, o3.but⟩)
        rw [z]
        show _ = [some (V.ref s), _, _, _, _, _, _, _, _, _, _, _, _, _, _, _, some (V.int ((cn - d : Nat) : Int)), _, _, _, _, _, _]
        rw [show ((cn - d : Nat) : Int) = (cn : Int) - (d : Int) - 2 * ((([] : List Nat).length : Nat) : Int) by simp; omega]
        rfl
      · refine iteF ⟨cn - d - 2 * hh.length, ?_, by omega, .inr (Nat.le_refl _), P4, fun _ _ e _ => e⟩
        rw [show ((cn - d - 2 * hh.length : Nat) : Int) = (cn : Int) - (d : Int) - 2 * ((hh.length : Nat) : Int) by omega]
        rfl
    rintro σ H5 ⟨ln, rfl, ln6, hln, P5, b5⟩
    refine ⟨_, rfl, _, rfl, _, _, rfl, rfl, p, l, _, rfl, P5, by omega, by omega, fun lv' H6 lv0 lv1 P6 o6 => ?_⟩
    obtain ⟨lv, rfl⟩ : ∃ n : Nat, lv' = (n : Int) := ⟨lv'.toNat, by omega⟩
    have hlv : lv ≤ 6 ∧ (hh = [] ∨ lv ≤ cn - d - 2 * hh.length) := ⟨by omega, hln.imp id fun h => by omega⟩
    have b46 := b5.trans o6.but
    have dH6 := b46 _ _ dH4 offH.1.symm
    have im6 := im4.draw b46 (.inl rfl)
    have b6 : But p H10 H6 := b4.trans b46
    clear b46 b5 P5 o6 im4 dH4 b4 P4 hln ln6
    -- bad
    refine ⟨Nat.zero_le _, fun Bd nBd => ?_⟩
    have nB10 : H10 Bd = none := but_none b6 (P6.off nBd).1.symm nBd
    have HB : Hd ≠ Bd := ne_of_none dH6 nBd
    have sB := Same.new (o := .lst []) nBd
    have dB : upd H6 Bd (.lst []) Bd = some (.lst ((intsN []).map V.int)) := upd_same
    have im7 : ImM (upd H6 Bd (.lst [])) (fun q => (q = p ∨ q = Hd) ∨ q = Bd) I st1 := (im6.more (X' := fun q => (q = p ∨ q = Hd) ∨ q = Bd) fun q o e z => z.elim id fun z => by rw [z, nBd] at e; cases e).same sB
    have offB := P6.off nBd
    have P7 := P6.same sB
    have b7 : But p H10 (upd H6 Bd (.lst [])) := b6.trans sB.but
    have dH7 := sB _ _ dH6
    generalize upd H6 Bd (.lst []) = H7 at dB im7 P7 b7 dH7 ⊢
    clear im6 sB P6 b6 dH6
    refine ⟨_, rfl, _, rfl, by omega, by omega, ?_⟩
    rw [Int.toNat_natCast]
    obtain ⟨IV, hIV⟩ : ∃ IV : Nat → L2.St → Hp → Prop, ∀ i σ H', IV i σ H' ↔ ∃ (v12 v13 : Option V) (st : Sts) (os : List (Option (List Int))) (bs : List Nat), σ = [some (.ref s), some (.ref p), some (.int (cn : Int)), some (.int (d : Int)), some (.ref W), some (.ref PL), some (.ref Sa), some (.ref PD), some (.ref I), some (.int ((cn : Int) - (d : Int))), some (.int (wn : Int)), some (.ref Hd), v12, v13, v14, v15, some (.int (lv : Int)), some (.ref Bd), none, none, none, none, none] ∧ Pot H' p l ∧ But p H10 H' ∧ ImM H' (fun q => (q = p ∨ q = Hd) ∨ q = Bd) I st ∧
      H' Hd = some (.lst ((intsN hh).map V.int)) ∧ H' Bd = some (.lst ((intsN bs).map V.int)) ∧ bs.length ≤ i ∧ Rs H10 st L ep sr (stripeM ws d cn) n os hh bs := ⟨fun i σ H' => _, fun i σ H' => Iff.rfl⟩
    refine for_range (lo := 0) (n := lv) IV ((hIV _ _ _).mpr ⟨v12, v13, st1, os1, [], rfl, P7, b7, im7, dH7, dB, Nat.le_refl _, R1⟩) ?_ ?_
    · clear im7 R1 dB dH7 b7 P7 st1 os1
      intro i σ H4 hi hiv
      obtain ⟨v12, v13, st, os, bs, rfl, P4, b4, im, dH, dB, lb, R1⟩ := (hIV _ _ _).mp hiv
      clear hiv
      refine ⟨_, rfl, _, rfl, p, l, (cn : Int), rfl, P4, by omega, by omega, fun a1 H5 a0 a2 P5 o5 => ?_⟩
      obtain ⟨aj, rfl⟩ : ∃ n : Nat, a1 = (n : Int) := ⟨a1.toNat, by omega⟩
      have haj : aj < cn := by omega
      have b5 : But p H10 H5 := b4.trans o5.but
      have im5 := im.draw o5.but (.inl (.inl rfl))
      have dH5 := o5.but _ _ dH offH.1.symm
      have dB5 := o5.but _ _ dB offB.1.symm
      clear im P4 b4 dH dB o5
      refine ⟨_, rfl, _, rfl, Hd, _, rfl, .inl (SqL.of dH5), rfl, flat_ints19 _, _, rfl, ?_⟩
      rw [inV_ints19]
      by_cases c : aj ∈ hh
      · rw [decide_eq_true (mem_intsN.mpr c)]
        exact iteF (iteF ((hIV _ _ _).mpr ⟨_, _, st, os, bs, rfl, P5, b5, im5, dH5, dB5, by omega, R1⟩))
      rw [decide_eq_false (fun z => c (mem_intsN.mp z))]
      refine iteT ?_
      refine ⟨_, rfl, _, rfl, Bd, _, rfl, .inl (SqL.of dB5), rfl, flat_ints19 _, _, rfl, ?_⟩
      rw [inV_ints19]
      by_cases c2 : aj ∈ bs
      · rw [decide_eq_true (mem_intsN.mpr c2)]
        exact iteF ((hIV _ _ _).mpr ⟨_, _, st, os, bs, rfl, P5, b5, im5, dH5, dB5, by omega, R1⟩)
      rw [decide_eq_false (fun z => c2 (mem_intsN.mp z))]
      refine iteT ?_
      refine ⟨_, rfl, .inl ⟨rfl, _, SqL.of dB5⟩, _, rfl, Bd, _, _, rfl, rfl, dB5, small _ (by rw [List.length_map]; unfold intsN; rw [List.length_map]; omega), ?_⟩
      have eb : (intsN bs).map V.int ++ [V.int (aj : Int)] = (intsN (bs ++ [aj])).map V.int := by unfold intsN; rw [List.map_append, List.map_append]; rfl
      rw [eb]
      have im6 : ImM (upd H5 Bd (.lst ((intsN (bs ++ [aj])).map V.int))) (fun q => (q = p ∨ q = Hd) ∨ q = Bd) I st := im5.but fun q o e nx => by rw [upd_ne fun z => nx (.inr z)]; exact e
      have P6 : Pot (upd H5 Bd (.lst ((intsN (bs ++ [aj])).map V.int))) p l := P5.only Only.upd offB.1 offB.2
      have b6 : But p H10 (upd H5 Bd (.lst ((intsN (bs ++ [aj])).map V.int))) := fun b o e n => by rw [upd_ne (ne_of_none e nB10)]; exact b5 b o e n
      have dB6 : upd H5 Bd (.lst ((intsN (bs ++ [aj])).map V.int)) Bd = some (.lst ((intsN (bs ++ [aj])).map V.int)) := upd_same
      have dH6 : upd H5 Bd (.lst ((intsN (bs ++ [aj])).map V.int)) Hd = some (.lst ((intsN hh).map V.int)) := by rw [upd_ne HB]; exact dH5
      generalize upd H5 Bd (.lst ((intsN (bs ++ [aj])).map V.int)) = H6 at im6 P6 b6 dB6 dH6 ⊢
      clear im5 P5 b5 dB5 dH5
      have LL6 := LL10.but P10 nPp b6
      have dT6 : H6 Sa = some (.tup [.int ep, .int sr]) := b6 _ _ dT10 (by
        obtain ⟨_, _, _, hp2⟩ := P10.list
        exact ne_of dT10 hp2 (by intro z; cases z))
      obtain ⟨q, hq⟩ : ∃ q, L[aj]? = some q := ⟨_, List.getElem?_eq_getElem (by omega)⟩
      have mq := List.mem_of_getElem? hq
      obtain ⟨⟨x0, x8⟩, y0, y64⟩ := rL q mq
      have gq : (L.map fun e => V.ref e.1)[aj]? = some (V.ref q.1) := by rw [List.getElem?_map, hq]; rfl
      have tq := LL6.2 q mq
      have edt : q.2.1 = ((q.2.1.toNat : Nat) : Int) := by omega
      have ert : q.2.2 = ((q.2.2.toNat : Nat) : Int) := by omega
      have osj := R1.ho aj (by omega) c c2
      obtain ⟨lrow, wrow, sc, hsc, esc⟩ := (R1.ok aj q hq).1 _ osj
      obtain ⟨dk, gd, hrow⟩ := sec_some hsc
      have hD6 := im6.hD _ dk gd
      have hnA := (R1.rst _ dk gd).2
      refine ⟨_, rfl, _, rfl, _, rfl, _, rfl, PL, _, _, _, rfl, rfl, SqL.of LL6.1, at_of (j := aj) rfl gq, _, rfl, (fun q => (q = p ∨ q = Hd) ∨ q = Bd), p, l, I, q.1, Sa, sc, st, dk, q.2.1.toNat, q.2.2.toNat, ep, sr, (stripeM ws d cn).getD aj [], rfl, P6, .inl (.inl rfl), fun x nx z => ?_, im6, by rw [R1.ls]; omega, fun i dk g => (R1.rst i dk g).1, by rw [← edt, ← ert]; exact tq, dT6, hs, s9, by omega, by omega, wrow, by omega, hsc, by rw [esc, ← edt, ← ert], gd, fun st' H7 P7 im7 l7 r7 same7 A7 w7 g7 fr7 => ?_⟩
      · rcases z with (z | z) | z
        · exact (P6.off nx).1 z.symm
        · rw [z, dH6] at nx; cases nx
        · rw [z, dB6] at nx; cases nx
      rw [lrow] at g7 w7
      exact (hIV _ _ _).mpr ⟨_, _, _, _, _, rfl, P7, fun b o e n => fr7 b o (b6 b o e n) n (ne_of_none e nI) (ne_of_none e hnA), im7, fr7 _ _ dH6 offH.1.symm (fun z => im6.ip (.inl (.inr z.symm))) (fun z => hD6.2.2 (.inl (.inr z.symm))), fr7 _ _ dB6 offB.1.symm (fun z => im6.ip (.inr z.symm)) (fun z => hD6.2.2 (.inr z.symm)), by rw [List.length_append, List.length_singleton]; omega, R1.bad hR ndL (by omega) hq c c2 gd l7 r7 same7 A7 w7 g7⟩
    rintro σ H4 hiv
    obtain ⟨v12, v13, st, os, bs, rfl, P4, b4, im, dH, dB4, lb, R2⟩ := (hIV _ _ _).mp hiv
    clear hiv hIV IV im7 R1 dB dH7 b7 P7 st1 os1
    have rp := rp_st19 (by rw [R2.ls]; omega) (fun i dk g => (R2.rst i dk g).1) R2.wst
    refine ⟨_, rfl, I, stD19 st, rfl, dp_st19 im, rp.h, rp.nd, Nat.le_trans rp.d (by decide), rp.shown (by decide) (by decide), ?_⟩
    have LL4 := LL10.but P10 nPp b4
    have LF4 := LF.but P10 nPDp b4
    have dT4 : H4 Sa = some (.tup [.int ep, .int sr]) := b4 _ _ dT10 (by
      obtain ⟨_, _, _, hp2⟩ := P10.list
      exact ne_of dT10 hp2 (by intro z; cases z))
    have dW4 := b4 _ _ dW10 nWp
    have lpl : (L.map (·.2)).length = cn := by rw [List.length_map, lL]
    have cnt := R2.count
    have osA := R2.osAt hR hs (by omega)
    have off := R2.off
    have lbs : bs.length ≤ lv := lb
    have hcase : (presO os).length < d ∨ 2 * hh.length + d ≤ (presO os).length := by
      rcases hlv.2 with z | z
      · have e0 : hh.length = 0 := by rw [z]; rfl
        rw [e0]
        omega
      · right
        omega
    refine ⟨fun σ H' => ∃ fv : V, σ = [some (.ref s), some (.ref p), some (.int (cn : Int)), some (.int (d : Int)), some (.ref W), some (.ref PL), some (.ref Sa), some (.ref PD), some (.ref I), some (.int ((cn : Int) - (d : Int))), some (.int (wn : Int)), some (.ref Hd), v12, v13, v14, v15, some (.int (lv : Int)), some (.ref Bd), some (.str (stD19 st).shown), some fv, none, none, none] ∧ Same H4 H' ∧ ((fv = .non ∧ (presO os).length < d) ∨ ∃ Dq Lq, fv = .ref Dq ∧ WRq H' Dq Lq ∧ Lq.map rqM = reqM (adrs st) (L.map (·.2)) ep sr (stripeM ws d cn) (brkM os hh) ∧ d ≤ (presO os).length), ?_, ?_⟩
    · refine ⟨_, rfl, _, rfl, _, rfl, _, rfl, W, _, rfl, .inl (SqL.of dW4), _, rfl, (fun q => (q = p ∨ q = Hd) ∨ q = Bd), I, PL, Sa, st, L.map (·.2), ep, sr, ws, d, os, hh, by rw [List.length_map]; rfl, im, by rw [R2.ls]; omega, fun i dk g => by rw [(R2.rst i dk g).1]; decide, LL4.at, fun q m => ?_, SqT.of dT4, hs, d1, by omega, by omega, by omega, wW, by rw [← hn]; exact osA, R2.nh, by rw [lpl]; exact off, hcase, fun few H6 s6 => ⟨.non, rfl, s6, .inl ⟨rfl, few⟩⟩, fun many D Lq H6 s6 wl el => ⟨.ref D, rfl, s6, .inr ⟨D, Lq, rfl, wl, by rw [el, lpl], by omega⟩⟩⟩
      obtain ⟨u, mu, rfl⟩ := List.mem_map.mp m
      have := rL u mu
      exact ⟨this.1, this.2.1, by omega⟩
    rintro σ H6 ⟨fv, rfl, s6, hf⟩
    have im6 := im.same s6
    refine ⟨_, rfl, I, stD19 st, rfl, dp_st19 im6, rp.h, rp.nd, Nat.le_trans rp.d (by decide), rp.shown (by decide) (by decide), _, rfl, rfl, _, rfl, iteNS rfl ?_⟩
    refine ⟨_, rfl, _, rfl, Bd, _, rfl, .inl (SqL.of (s6 _ _ dB4)), _, _, rfl, rfl, _, rfl, _, _, rfl, rfl, _, rfl, ?_⟩
    rw [List.length_map, intsN_len]
    rcases hf with ⟨rfl, few⟩ | ⟨Dq, Lq, rfl, WL, eL, many⟩
    · rw [decide_eq_true (show (cn : Int) - (bs.length : Nat) < (d : Int) by omega)]
      refine iteT ⟨_, rfl, rfl, ?_⟩
      rw [decide_eq_true rfl]
      exact k _
    rw [decide_eq_false (show ¬ (cn : Int) - (bs.length : Nat) < (d : Int) by omega)]
    refine iteF ?_
    -- due
    obtain ⟨B, hB⟩ : ∃ B, B = brkM os hh := ⟨_, rfl⟩
    have lB : B.length ≤ 6 := by
      rw [hB]
      unfold brkM
      refine Nat.le_trans (List.length_filter_le _ _) ?_
      rw [List.length_range, R2.lo]
      omega
    have bB : ∀ x ∈ B, x < cn := fun x m => by
      rw [hB] at m
      have := List.mem_range.mp (List.mem_filter.mp m).1
      rw [R2.lo] at this
      omega
    have lhh : hh.length ≤ 6 := by omega
    have eHB : (intsN hh).map V.int ++ (intsN bs).map V.int = (intsN (hh ++ bs)).map V.int := by unfold intsN; rw [List.map_append, List.map_append]
    refine ⟨_, rfl, _, rfl, Hd, Bd, _, _, rfl, rfl, s6 _ _ dH, s6 _ _ dB4, Nat.le_of_lt (small _ (by rw [List.length_map, List.length_map, intsN_len, intsN_len]; omega)), fun q1 n1 => ?_⟩
    rw [eHB]
    refine ⟨q1, _, rfl, SqL.of upd_same, by rw [intsN_len, List.length_append]; omega, fun ns' q2 perm pw n2 => ?_⟩
    rw [R2.sorted perm pw, ← hB]
    have s7 := (s6.trans (Same.new n1)).trans (Same.new (o := .lst ((intsN B).map V.int)) n2)
    have d7 : upd (upd H6 q1 (.lst ((intsN (hh ++ bs)).map V.int))) q2 (.lst ((intsN B).map V.int)) q2 = some (.lst ((intsN B).map V.int)) := upd_same
    have WL7 := (WL.same (Same.new n1)).same (Same.new (o := .lst ((intsN B).map V.int)) n2)
    generalize upd (upd H6 q1 (.lst ((intsN (hh ++ bs)).map V.int))) q2 (.lst ((intsN B).map V.int)) = H7 at s7 d7 WL7 ⊢
    have im7 := im.same s7
    have LL7 := LL4.same s7
    obtain ⟨pr, hpr⟩ : ∃ pr : Nat → Bool, pr = fun i => presentM (adrs st) ((L.map fun (e : Addr × Int × Int) => e.2).getD i (0, 0)).1.toNat := ⟨_, rfl⟩
    refine ⟨q2, rfl, ⟨_, SqL.of d7⟩, fun Du nDu => lc_list (K := K) (a := q2) (xs := (intsN B).map V.int) (fun i H' => Same H7 H' ∧ H' Du = some (.lst ((intsN ((B.take i).filter pr)).map V.int))) ⟨Same.new nDu, upd_same⟩ (fun i H' _ q => q.1.seq (SqL.of d7)) ?_ ?_⟩
    · rintro i y H8 hy ⟨s8, d8⟩
      obtain ⟨m, hm, rfl⟩ := intsN_item hy
      have hm6 := bB m (List.mem_of_getElem? hm)
      obtain ⟨q, hq⟩ : ∃ q, L[m]? = some q := ⟨_, List.getElem?_eq_getElem (by omega)⟩
      have mq := List.mem_of_getElem? hq
      obtain ⟨⟨x0, x8⟩, y0, y64⟩ := rL q mq
      have gq : (L.map fun e => V.ref e.1)[m]? = some (V.ref q.1) := by rw [List.getElem?_map, hq]; rfl
      have LL8 := LL7.same s8
      have im8 := im7.same s8
      obtain ⟨o, ho⟩ : ∃ o, st[q.2.1.toNat]? = some o := ⟨_, List.getElem?_eq_getElem (by rw [R2.ls]; omega)⟩
      have gp : (L.map fun (e : Addr × Int × Int) => e.2).getD m (0, 0) = q.2 := getD_item (by rw [List.getElem?_map, hq]; rfl)
      have ep' : pr m = o.isSome := by
        rw [hpr]
        show presentM (adrs st) ((L.map fun (e : Addr × Int × Int) => e.2).getD m (0, 0)).1.toNat = _
        rw [gp]
        unfold presentM adrs
        rw [getD_item (x := o.map DkO.A) (by rw [List.getElem?_map, ho]; rfl)]
        cases o <;> rfl
      have lt := List.length_filter_le pr (B.take i)
      rw [List.length_take] at lt
      refine ⟨rfl, _, rfl, _, rfl, _, rfl, PL, _, _, _, rfl, rfl, SqL.of LL8.1, at_of (j := m) rfl gq, q.1, _, _, _, rfl, rfl, SqT.of (LL8.2 q mq), at_of (j := 0) rfl rfl, I, _, _, _, rfl, rfl, SqL.of im8.hI, at_of (j := q.2.1.toNat) (by omega) (dk_get ho), rfl, _, rfl, ?_⟩
      cases o with
      | none =>
        refine iteF ⟨s8, ?_⟩
        rw [take_snoc hm, List.filter_append]
        have e1 : List.filter pr [m] = [] := by rw [List.filter_cons, ep']; rfl
        rw [e1, List.append_nil]
        exact d8
      | some dk =>
        refine iteT ⟨_, rfl, _, d8, small _ (by rw [List.length_map, intsN_len]; omega), same_put s8 nDu, ?_⟩
        rw [take_snoc hm, List.filter_append, upd_same]
        have e1 : List.filter pr [m] = [m] := by rw [List.filter_cons, ep']; rfl
        rw [e1]
        unfold intsN
        rw [List.map_append, List.map_append]
        rfl
    rintro H8 ⟨s8, d8⟩
    rw [List.length_map, intsN_len, List.take_length] at d8
    obtain ⟨U, hU⟩ : ∃ U, U = B.filter pr := ⟨_, rfl⟩
    rw [← hU] at d8
    have eL2 : Lq.map rqM = U.map fun i => (((L.map fun (e : Addr × Int × Int) => e.2).getD i (0, 0)).1, ((L.map fun (e : Addr × Int × Int) => e.2).getD i (0, 0)).2, sealM 3 ((L.map fun (e : Addr × Int × Int) => e.2).getD i (0, 0)).1 ((L.map fun (e : Addr × Int × Int) => e.2).getD i (0, 0)).2 ep sr ((stripeM ws d cn).getD i [])) := by
      rw [eL, req_filter, hU, hB, hpr]
    have lU : Lq.length = U.length := by rw [← List.length_map (f := rqM), eL2, List.length_map]
    have lU6 : U.length ≤ 6 := by
      rw [hU]
      exact Nat.le_trans (List.length_filter_le _ _) lB
    have WL8 := WL7.same s8
    refine ⟨_, rfl, _, _, _, _, true, rfl, .ty "list", .base (.lst WL8.1), kit_ty (by decide +kernel), true, rfl, iteF ?_⟩
    refine ⟨_, rfl, Dq, _, rfl, .inl (SqL.of WL8.1), _, rfl, Du, _, rfl, .inl (SqL.of d8), rfl, _, rfl, iteNS (congrArg V.int (by rw [List.length_map, List.length_map, intsN_len, lU])) ?_⟩
    refine ⟨_, rfl, Du, _, rfl, .inl (SqL.of d8), _, rfl, by omega, by rw [List.length_map, intsN_len]; omega, ?_⟩
    rw [List.length_map, intsN_len, Int.toNat_natCast]
    have s48 := s7.trans s8
    refine for_range (lo := 0) (n := U.length) (fun i σ H' => ∃ (v12 v21 v22 : Option V), σ = [some (.ref s), some (.ref p), some (.int (cn : Int)), some (.int (d : Int)), some (.ref W), some (.ref PL), some (.ref Sa), some (.ref PD), some (.ref I), some (.int ((cn : Int) - (d : Int))), some (.int (wn : Int)), some (.ref Hd), v12, v13, v14, v15, some (.int (lv : Int)), some (.ref Bd), some (.str (stD19 st).shown), some (.ref Dq), some (.ref Du), v21, v22] ∧ Same H8 H') ⟨v12, none, none, rfl, Same.refl _⟩ ?_ ?_
    · rintro i σ H9' hi ⟨v12, v21, v22, rfl, s9'⟩
      obtain ⟨m, hm⟩ : ∃ m, U[i]? = some m := ⟨_, List.getElem?_eq_getElem hi⟩
      have mU := List.mem_of_getElem? hm
      have hm6 := bB m (by rw [hU] at mU; exact (List.mem_filter.mp mU).1)
      have gm : ((intsN U).map V.int)[i]? = some (.int (m : Int)) := by unfold intsN; rw [List.getElem?_map, List.getElem?_map, hm]; rfl
      obtain ⟨q, hq⟩ : ∃ q, L[m]? = some q := ⟨_, List.getElem?_eq_getElem (by omega)⟩
      have mq := List.mem_of_getElem? hq
      have gq : (L.map fun e => V.ref e.1)[m]? = some (V.ref q.1) := by rw [List.getElem?_map, hq]; rfl
      have gp : (L.map fun (e : Addr × Int × Int) => e.2).getD m (0, 0) = q.2 := getD_item (by rw [List.getElem?_map, hq]; rfl)
      obtain ⟨f, hf⟩ : ∃ f, F[m]? = some f := ⟨_, List.getElem?_eq_getElem (by omega)⟩
      have mf := List.mem_of_getElem? hf
      obtain ⟨f1, f2, f3⟩ := rowF m f hf
      have s49 := s48.trans s9'
      have LL9 := LL4.same s49
      have LF9 := LF4.same s49
      have d9 := s9' _ _ d8
      have WL9 := WL8.same s9'
      obtain ⟨r, hr'⟩ : ∃ r, Lq[i]? = some r := ⟨_, List.getElem?_eq_getElem (by omega)⟩
      have mr := List.mem_of_getElem? hr'
      have er : rqM r = (q.2.1, q.2.2, sealM 3 q.2.1 q.2.2 ep sr f.2) := by
        have h1 : (Lq.map rqM)[i]? = some (rqM r) := by rw [List.getElem?_map, hr']; rfl
        rw [eL2, List.getElem?_map, hm] at h1
        have h1 := (Option.some.inj h1).symm
        dsimp only at h1
        rw [gp, ← f1] at h1
        exact h1
      have gr : (Lq.map rqV)[i]? = some (.ref r.t) := by rw [List.getElem?_map, hr']; rfl
      obtain ⟨⟨t1, _⟩, t2, _⟩ := WL9.2 _ mr
      injection er with q1' q2'
      injection q2' with q2' q3'
      rw [q1', q2'] at t1
      rw [q3'] at t2
      refine ⟨_, rfl, _, rfl, _, rfl, Du, _, _, _, rfl, rfl, SqL.of d9, at_of (j := i) (by omega) gm, PL, _, _, _, rfl, rfl, SqL.of LL9.1, at_of (j := m) rfl gq, q.1, _, rfl, SqT.of (LL9.2 q mq), rfl, _, _, rfl, _, _, rfl, rfl, ?_⟩
      refine ⟨_, rfl, _, rfl, Dq, _, _, _, rfl, rfl, SqL.of WL9.1, at_of (j := i) (by omega) gr, _, rfl, _, rfl, ?_⟩
      refine ⟨_, rfl, _, rfl, _, rfl, _, rfl, _, rfl, _, rfl, Du, _, _, _, rfl, rfl, SqL.of d9, at_of (j := i) (by omega) gm, PD, _, _, _, rfl, rfl, SqL.of LF9.1, at_of (j := m) rfl (refs_get hf), 3, q.2.1, q.2.2, Sa, f.1, ep, sr, f.2, rfl, SqT.of (s49 _ _ dT4), (LF9.2 f mf).1, by omega, fun S H10' s10' nS dS => ?_⟩
      exact ⟨r.t, r.s, S, q.2.1, q.2.2, _, rfl, s10' _ _ t1, s10' _ _ t2, SqL.of dS, true, rfl, iteF ⟨_, _, _, rfl, s9'.trans s10'⟩⟩
    rintro σ H9' ⟨v12, v21, v22, rfl, s9'⟩
    exact k _
end
theorem all_mk {l : PySem.W.OpenLaw} {w : World} {K : PySem.W.Frag} {h : Heap} {mg : Str → Option Value} {fa : Addr} (X : K.In h) (G : h.Ns mainGlobals mg) (hfa : mg "law" = some (.ref fa))
    {f_inverse : Addr} {oc_inverse kV_inverse dc_inverse pm_inverse cd_inverse ct_inverse : Value} {od_inverse an_inverse : Option Addr} {sl_inverse : Array (Option Value)}
    {f_weight : Addr} {oc_weight kV_weight dc_weight pm_weight cd_weight ct_weight : Value} {od_weight an_weight : Option Addr} {sl_weight : Array (Option Value)}
    {f_weights : Addr} {oc_weights kV_weights dc_weights pm_weights cd_weights ct_weights : Value} {od_weights an_weights : Option Addr} {sl_weights : Array (Option Value)}
    {f_check_lengths : Addr} {oc_check_lengths kV_check_lengths dc_check_lengths pm_check_lengths cd_check_lengths ct_check_lengths : Value} {od_check_lengths an_check_lengths : Option Addr} {sl_check_lengths : Array (Option Value)}
    {f_piece_at : Addr} {oc_piece_at kV_piece_at dc_piece_at pm_piece_at cd_piece_at ct_piece_at : Value} {od_piece_at an_piece_at : Option Addr} {sl_piece_at : Array (Option Value)}
    {f_present_numbers : Addr} {oc_present_numbers kV_present_numbers dc_present_numbers pm_present_numbers cd_present_numbers ct_present_numbers : Value} {od_present_numbers an_present_numbers : Option Addr} {sl_present_numbers : Array (Option Value)}
    {f_recover : Addr} {oc_recover kV_recover dc_recover pm_recover cd_recover ct_recover : Value} {od_recover an_recover : Option Addr} {sl_recover : Array (Option Value)}
    {f_agree : Addr} {oc_agree kV_agree dc_agree pm_agree cd_agree ct_agree : Value} {od_agree an_agree : Option Addr} {sl_agree : Array (Option Value)}
    {f_wrong_pieces : Addr} {oc_wrong_pieces kV_wrong_pieces dc_wrong_pieces pm_wrong_pieces cd_wrong_pieces ct_wrong_pieces : Value} {od_wrong_pieces an_wrong_pieces : Option Addr} {sl_wrong_pieces : Array (Option Value)}
    {f_is_present : Addr} {oc_is_present kV_is_present dc_is_present pm_is_present cd_is_present ct_is_present : Value} {od_is_present an_is_present : Option Addr} {sl_is_present : Array (Option Value)}
    {f_sector_at : Addr} {oc_sector_at kV_sector_at dc_sector_at pm_sector_at cd_sector_at ct_sector_at : Value} {od_sector_at an_sector_at : Option Addr} {sl_sector_at : Array (Option Value)}
    {f_check_words : Addr} {oc_check_words kV_check_words dc_check_words pm_check_words cd_check_words ct_check_words : Value} {od_check_words an_check_words : Option Addr} {sl_check_words : Array (Option Value)}
    {f_is_place : Addr} {oc_is_place kV_is_place dc_is_place pm_is_place cd_is_place ct_is_place : Value} {od_is_place an_is_place : Option Addr} {sl_is_place : Array (Option Value)}
    {f_seal : Addr} {oc_seal kV_seal dc_seal pm_seal cd_seal ct_seal : Value} {od_seal an_seal : Option Addr} {sl_seal : Array (Option Value)}
    {f_unseal : Addr} {oc_unseal kV_unseal dc_unseal pm_unseal cd_unseal ct_unseal : Value} {od_unseal an_unseal : Option Addr} {sl_unseal : Array (Option Value)}
    {f_is_whole : Addr} {oc_is_whole kV_is_whole dc_is_whole pm_is_whole cd_is_whole ct_is_whole : Value} {od_is_whole an_is_whole : Option Addr} {sl_is_whole : Array (Option Value)}
    {f_piece_size : Addr} {oc_piece_size kV_piece_size dc_piece_size pm_piece_size cd_piece_size ct_piece_size : Value} {od_piece_size an_piece_size : Option Addr} {sl_piece_size : Array (Option Value)}
    {f_piece_requests : Addr} {oc_piece_requests kV_piece_requests dc_piece_requests pm_piece_requests cd_piece_requests ct_piece_requests : Value} {od_piece_requests an_piece_requests : Option Addr} {sl_piece_requests : Array (Option Value)}
    {f_good_piece : Addr} {oc_good_piece kV_good_piece dc_good_piece pm_good_piece cd_good_piece ct_good_piece : Value} {od_good_piece an_good_piece : Option Addr} {sl_good_piece : Array (Option Value)}
    {f_repair_stripe : Addr} {oc_repair_stripe kV_repair_stripe dc_repair_stripe pm_repair_stripe cd_repair_stripe ct_repair_stripe : Value} {od_repair_stripe an_repair_stripe : Option Addr} {sl_repair_stripe : Array (Option Value)}
    {f_law_pot : Addr} {oc_law_pot kV_law_pot dc_law_pot pm_law_pot cd_law_pot ct_law_pot : Value} {od_law_pot an_law_pot : Option Addr} {sl_law_pot : Array (Option Value)}
    {f_law_next : Addr} {oc_law_next kV_law_next dc_law_next pm_law_next cd_law_next ct_law_next : Value} {od_law_next an_law_next : Option Addr} {sl_law_next : Array (Option Value)}
    {f_law_word : Addr} {oc_law_word kV_law_word dc_law_word pm_law_word cd_law_word ct_law_word : Value} {od_law_word an_law_word : Option Addr} {sl_law_word : Array (Option Value)}
    {f_law_words : Addr} {oc_law_words kV_law_words dc_law_words pm_law_words cd_law_words ct_law_words : Value} {od_law_words an_law_words : Option Addr} {sl_law_words : Array (Option Value)}
    {f_law_inverse : Addr} {oc_law_inverse kV_law_inverse dc_law_inverse pm_law_inverse cd_law_inverse ct_law_inverse : Value} {od_law_inverse an_law_inverse : Option Addr} {sl_law_inverse : Array (Option Value)}
    {f_law_factors : Addr} {oc_law_factors kV_law_factors dc_law_factors pm_law_factors cd_law_factors ct_law_factors : Value} {od_law_factors an_law_factors : Option Addr} {sl_law_factors : Array (Option Value)}
    {f_law_pieces : Addr} {oc_law_pieces kV_law_pieces dc_law_pieces pm_law_pieces cd_law_pieces ct_law_pieces : Value} {od_law_pieces an_law_pieces : Option Addr} {sl_law_pieces : Array (Option Value)}
    {f_law_seal : Addr} {oc_law_seal kV_law_seal dc_law_seal pm_law_seal cd_law_seal ct_law_seal : Value} {od_law_seal an_law_seal : Option Addr} {sl_law_seal : Array (Option Value)}
    {f_law_places : Addr} {oc_law_places kV_law_places dc_law_places pm_law_places cd_law_places ct_law_places : Value} {od_law_places an_law_places : Option Addr} {sl_law_places : Array (Option Value)}
    {f_law_is_write : Addr} {oc_law_is_write kV_law_is_write dc_law_is_write pm_law_is_write cd_law_is_write ct_law_is_write : Value} {od_law_is_write an_law_is_write : Option Addr} {sl_law_is_write : Array (Option Value)}
    {f_law_answer : Addr} {oc_law_answer kV_law_answer dc_law_answer pm_law_answer cd_law_answer ct_law_answer : Value} {od_law_answer an_law_answer : Option Addr} {sl_law_answer : Array (Option Value)}
    {f_law_spoil : Addr} {oc_law_spoil kV_law_spoil dc_law_spoil pm_law_spoil cd_law_spoil ct_law_spoil : Value} {od_law_spoil an_law_spoil : Option Addr} {sl_law_spoil : Array (Option Value)}
    {f_law_set_up : Addr} {oc_law_set_up kV_law_set_up dc_law_set_up pm_law_set_up cd_law_set_up ct_law_set_up : Value} {od_law_set_up an_law_set_up : Option Addr} {sl_law_set_up : Array (Option Value)}
    {f_law : Addr} {oc_law kV_law dc_law pm_law cd_law ct_law : Value} {od_law an_law : Option Addr} {sl_law : Array (Option Value)}
    {c_PoolError : Addr}
    {c_InvalidArgument : Addr}
    {c_NotEnoughPieces : Addr}
    {c_Damaged : Addr}
    {tk_PRIME : Tok}
    {tk_MAX_PIECES : Tok}
    {tk_MAX_DISKS : Tok}
    {tk_MAX_PAYLOAD : Tok}
    {tk_MAX_ROWS : Tok}
    {tk_LABEL : Tok}
    {tk_PIECE : Tok}
    {tk_HEADER_WORDS : Tok}
    {tk_CHECK_WORDS : Tok}
    (a_inverse : PySem.W.nsIn K mainGlobals "inverse" = some (some (.ref f_inverse)))
    (l_inverse : K.lookup f_inverse = some ⟨oc_inverse, od_inverse, .func (PySem.W.fnOf "inverse" "inverse" (defArgs s_inverse) (defBody s_inverse) (defScope s_inverse) .none kV_inverse dc_inverse pm_inverse an_inverse cd_inverse ct_inverse), sl_inverse⟩)
    (q_inverse : PySem.W.codeIn K cd_inverse "inverse" = true)
    (k_inverse : PySem.W.keepIn K (.ref f_inverse) = true)
    (a_weight : PySem.W.nsIn K mainGlobals "weight" = some (some (.ref f_weight)))
    (l_weight : K.lookup f_weight = some ⟨oc_weight, od_weight, .func (PySem.W.fnOf "weight" "weight" (defArgs s_weight) (defBody s_weight) (defScope s_weight) .none kV_weight dc_weight pm_weight an_weight cd_weight ct_weight), sl_weight⟩)
    (q_weight : PySem.W.codeIn K cd_weight "weight" = true)
    (k_weight : PySem.W.keepIn K (.ref f_weight) = true)
    (a_weights : PySem.W.nsIn K mainGlobals "weights" = some (some (.ref f_weights)))
    (l_weights : K.lookup f_weights = some ⟨oc_weights, od_weights, .func (PySem.W.fnOf "weights" "weights" (defArgs s_weights) (defBody s_weights) (defScope s_weights) .none kV_weights dc_weights pm_weights an_weights cd_weights ct_weights), sl_weights⟩)
    (q_weights : PySem.W.codeIn K cd_weights "weights" = true)
    (k_weights : PySem.W.keepIn K (.ref f_weights) = true)
    (a_check_lengths : PySem.W.nsIn K mainGlobals "check_lengths" = some (some (.ref f_check_lengths)))
    (l_check_lengths : K.lookup f_check_lengths = some ⟨oc_check_lengths, od_check_lengths, .func (PySem.W.fnOf "check_lengths" "check_lengths" (defArgs s_check_lengths) (defBody s_check_lengths) (defScope s_check_lengths) .none kV_check_lengths dc_check_lengths pm_check_lengths an_check_lengths cd_check_lengths ct_check_lengths), sl_check_lengths⟩)
    (q_check_lengths : PySem.W.codeIn K cd_check_lengths "check_lengths" = true)
    (k_check_lengths : PySem.W.keepIn K (.ref f_check_lengths) = true)
    (a_piece_at : PySem.W.nsIn K mainGlobals "piece_at" = some (some (.ref f_piece_at)))
    (l_piece_at : K.lookup f_piece_at = some ⟨oc_piece_at, od_piece_at, .func (PySem.W.fnOf "piece_at" "piece_at" (defArgs s_piece_at) (defBody s_piece_at) (defScope s_piece_at) .none kV_piece_at dc_piece_at pm_piece_at an_piece_at cd_piece_at ct_piece_at), sl_piece_at⟩)
    (q_piece_at : PySem.W.codeIn K cd_piece_at "piece_at" = true)
    (k_piece_at : PySem.W.keepIn K (.ref f_piece_at) = true)
    (a_present_numbers : PySem.W.nsIn K mainGlobals "present_numbers" = some (some (.ref f_present_numbers)))
    (l_present_numbers : K.lookup f_present_numbers = some ⟨oc_present_numbers, od_present_numbers, .func (PySem.W.fnOf "present_numbers" "present_numbers" (defArgs s_present_numbers) (defBody s_present_numbers) (defScope s_present_numbers) .none kV_present_numbers dc_present_numbers pm_present_numbers an_present_numbers cd_present_numbers ct_present_numbers), sl_present_numbers⟩)
    (q_present_numbers : PySem.W.codeIn K cd_present_numbers "present_numbers" = true)
    (k_present_numbers : PySem.W.keepIn K (.ref f_present_numbers) = true)
    (a_recover : PySem.W.nsIn K mainGlobals "recover" = some (some (.ref f_recover)))
    (l_recover : K.lookup f_recover = some ⟨oc_recover, od_recover, .func (PySem.W.fnOf "recover" "recover" (defArgs s_recover) (defBody s_recover) (defScope s_recover) .none kV_recover dc_recover pm_recover an_recover cd_recover ct_recover), sl_recover⟩)
    (q_recover : PySem.W.codeIn K cd_recover "recover" = true)
    (k_recover : PySem.W.keepIn K (.ref f_recover) = true)
    (a_agree : PySem.W.nsIn K mainGlobals "agree" = some (some (.ref f_agree)))
    (l_agree : K.lookup f_agree = some ⟨oc_agree, od_agree, .func (PySem.W.fnOf "agree" "agree" (defArgs s_agree) (defBody s_agree) (defScope s_agree) .none kV_agree dc_agree pm_agree an_agree cd_agree ct_agree), sl_agree⟩)
    (q_agree : PySem.W.codeIn K cd_agree "agree" = true)
    (k_agree : PySem.W.keepIn K (.ref f_agree) = true)
    (a_wrong_pieces : PySem.W.nsIn K mainGlobals "wrong_pieces" = some (some (.ref f_wrong_pieces)))
    (l_wrong_pieces : K.lookup f_wrong_pieces = some ⟨oc_wrong_pieces, od_wrong_pieces, .func (PySem.W.fnOf "wrong_pieces" "wrong_pieces" (defArgs s_wrong_pieces) (defBody s_wrong_pieces) (defScope s_wrong_pieces) .none kV_wrong_pieces dc_wrong_pieces pm_wrong_pieces an_wrong_pieces cd_wrong_pieces ct_wrong_pieces), sl_wrong_pieces⟩)
    (q_wrong_pieces : PySem.W.codeIn K cd_wrong_pieces "wrong_pieces" = true)
    (k_wrong_pieces : PySem.W.keepIn K (.ref f_wrong_pieces) = true)
    (a_is_present : PySem.W.nsIn K mainGlobals "is_present" = some (some (.ref f_is_present)))
    (l_is_present : K.lookup f_is_present = some ⟨oc_is_present, od_is_present, .func (PySem.W.fnOf "is_present" "is_present" (defArgs s_is_present) (defBody s_is_present) (defScope s_is_present) .none kV_is_present dc_is_present pm_is_present an_is_present cd_is_present ct_is_present), sl_is_present⟩)
    (q_is_present : PySem.W.codeIn K cd_is_present "is_present" = true)
    (k_is_present : PySem.W.keepIn K (.ref f_is_present) = true)
    (a_sector_at : PySem.W.nsIn K mainGlobals "sector_at" = some (some (.ref f_sector_at)))
    (l_sector_at : K.lookup f_sector_at = some ⟨oc_sector_at, od_sector_at, .func (PySem.W.fnOf "sector_at" "sector_at" (defArgs s_sector_at) (defBody s_sector_at) (defScope s_sector_at) .none kV_sector_at dc_sector_at pm_sector_at an_sector_at cd_sector_at ct_sector_at), sl_sector_at⟩)
    (q_sector_at : PySem.W.codeIn K cd_sector_at "sector_at" = true)
    (k_sector_at : PySem.W.keepIn K (.ref f_sector_at) = true)
    (a_check_words : PySem.W.nsIn K mainGlobals "check_words" = some (some (.ref f_check_words)))
    (l_check_words : K.lookup f_check_words = some ⟨oc_check_words, od_check_words, .func (PySem.W.fnOf "check_words" "check_words" (defArgs s_check_words) (defBody s_check_words) (defScope s_check_words) .none kV_check_words dc_check_words pm_check_words an_check_words cd_check_words ct_check_words), sl_check_words⟩)
    (q_check_words : PySem.W.codeIn K cd_check_words "check_words" = true)
    (k_check_words : PySem.W.keepIn K (.ref f_check_words) = true)
    (a_is_place : PySem.W.nsIn K mainGlobals "is_place" = some (some (.ref f_is_place)))
    (l_is_place : K.lookup f_is_place = some ⟨oc_is_place, od_is_place, .func (PySem.W.fnOf "is_place" "is_place" (defArgs s_is_place) (defBody s_is_place) (defScope s_is_place) .none kV_is_place dc_is_place pm_is_place an_is_place cd_is_place ct_is_place), sl_is_place⟩)
    (q_is_place : PySem.W.codeIn K cd_is_place "is_place" = true)
    (k_is_place : PySem.W.keepIn K (.ref f_is_place) = true)
    (a_seal : PySem.W.nsIn K mainGlobals "seal" = some (some (.ref f_seal)))
    (l_seal : K.lookup f_seal = some ⟨oc_seal, od_seal, .func (PySem.W.fnOf "seal" "seal" (defArgs s_seal) (defBody s_seal) (defScope s_seal) .none kV_seal dc_seal pm_seal an_seal cd_seal ct_seal), sl_seal⟩)
    (q_seal : PySem.W.codeIn K cd_seal "seal" = true)
    (k_seal : PySem.W.keepIn K (.ref f_seal) = true)
    (a_unseal : PySem.W.nsIn K mainGlobals "unseal" = some (some (.ref f_unseal)))
    (l_unseal : K.lookup f_unseal = some ⟨oc_unseal, od_unseal, .func (PySem.W.fnOf "unseal" "unseal" (defArgs s_unseal) (defBody s_unseal) (defScope s_unseal) .none kV_unseal dc_unseal pm_unseal an_unseal cd_unseal ct_unseal), sl_unseal⟩)
    (q_unseal : PySem.W.codeIn K cd_unseal "unseal" = true)
    (k_unseal : PySem.W.keepIn K (.ref f_unseal) = true)
    (a_is_whole : PySem.W.nsIn K mainGlobals "is_whole" = some (some (.ref f_is_whole)))
    (l_is_whole : K.lookup f_is_whole = some ⟨oc_is_whole, od_is_whole, .func (PySem.W.fnOf "is_whole" "is_whole" (defArgs s_is_whole) (defBody s_is_whole) (defScope s_is_whole) .none kV_is_whole dc_is_whole pm_is_whole an_is_whole cd_is_whole ct_is_whole), sl_is_whole⟩)
    (q_is_whole : PySem.W.codeIn K cd_is_whole "is_whole" = true)
    (k_is_whole : PySem.W.keepIn K (.ref f_is_whole) = true)
    (a_piece_size : PySem.W.nsIn K mainGlobals "piece_size" = some (some (.ref f_piece_size)))
    (l_piece_size : K.lookup f_piece_size = some ⟨oc_piece_size, od_piece_size, .func (PySem.W.fnOf "piece_size" "piece_size" (defArgs s_piece_size) (defBody s_piece_size) (defScope s_piece_size) .none kV_piece_size dc_piece_size pm_piece_size an_piece_size cd_piece_size ct_piece_size), sl_piece_size⟩)
    (q_piece_size : PySem.W.codeIn K cd_piece_size "piece_size" = true)
    (k_piece_size : PySem.W.keepIn K (.ref f_piece_size) = true)
    (a_piece_requests : PySem.W.nsIn K mainGlobals "piece_requests" = some (some (.ref f_piece_requests)))
    (l_piece_requests : K.lookup f_piece_requests = some ⟨oc_piece_requests, od_piece_requests, .func (PySem.W.fnOf "piece_requests" "piece_requests" (defArgs s_piece_requests) (defBody s_piece_requests) (defScope s_piece_requests) .none kV_piece_requests dc_piece_requests pm_piece_requests an_piece_requests cd_piece_requests ct_piece_requests), sl_piece_requests⟩)
    (q_piece_requests : PySem.W.codeIn K cd_piece_requests "piece_requests" = true)
    (k_piece_requests : PySem.W.keepIn K (.ref f_piece_requests) = true)
    (a_good_piece : PySem.W.nsIn K mainGlobals "good_piece" = some (some (.ref f_good_piece)))
    (l_good_piece : K.lookup f_good_piece = some ⟨oc_good_piece, od_good_piece, .func (PySem.W.fnOf "good_piece" "good_piece" (defArgs s_good_piece) (defBody s_good_piece) (defScope s_good_piece) .none kV_good_piece dc_good_piece pm_good_piece an_good_piece cd_good_piece ct_good_piece), sl_good_piece⟩)
    (q_good_piece : PySem.W.codeIn K cd_good_piece "good_piece" = true)
    (k_good_piece : PySem.W.keepIn K (.ref f_good_piece) = true)
    (a_repair_stripe : PySem.W.nsIn K mainGlobals "repair_stripe" = some (some (.ref f_repair_stripe)))
    (l_repair_stripe : K.lookup f_repair_stripe = some ⟨oc_repair_stripe, od_repair_stripe, .func (PySem.W.fnOf "repair_stripe" "repair_stripe" (defArgs s_repair_stripe) (defBody s_repair_stripe) (defScope s_repair_stripe) .none kV_repair_stripe dc_repair_stripe pm_repair_stripe an_repair_stripe cd_repair_stripe ct_repair_stripe), sl_repair_stripe⟩)
    (q_repair_stripe : PySem.W.codeIn K cd_repair_stripe "repair_stripe" = true)
    (k_repair_stripe : PySem.W.keepIn K (.ref f_repair_stripe) = true)
    (a_law_pot : PySem.W.nsIn K mainGlobals "_law_pot" = some (some (.ref f_law_pot)))
    (l_law_pot : K.lookup f_law_pot = some ⟨oc_law_pot, od_law_pot, .func (PySem.W.fnOf "_law_pot" "_law_pot" (defArgs s_law_pot) (defBody s_law_pot) (defScope s_law_pot) .none kV_law_pot dc_law_pot pm_law_pot an_law_pot cd_law_pot ct_law_pot), sl_law_pot⟩)
    (q_law_pot : PySem.W.codeIn K cd_law_pot "_law_pot" = true)
    (k_law_pot : PySem.W.keepIn K (.ref f_law_pot) = true)
    (a_law_next : PySem.W.nsIn K mainGlobals "_law_next" = some (some (.ref f_law_next)))
    (l_law_next : K.lookup f_law_next = some ⟨oc_law_next, od_law_next, .func (PySem.W.fnOf "_law_next" "_law_next" (defArgs s_law_next) (defBody s_law_next) (defScope s_law_next) .none kV_law_next dc_law_next pm_law_next an_law_next cd_law_next ct_law_next), sl_law_next⟩)
    (q_law_next : PySem.W.codeIn K cd_law_next "_law_next" = true)
    (k_law_next : PySem.W.keepIn K (.ref f_law_next) = true)
    (a_law_word : PySem.W.nsIn K mainGlobals "_law_word" = some (some (.ref f_law_word)))
    (l_law_word : K.lookup f_law_word = some ⟨oc_law_word, od_law_word, .func (PySem.W.fnOf "_law_word" "_law_word" (defArgs s_law_word) (defBody s_law_word) (defScope s_law_word) .none kV_law_word dc_law_word pm_law_word an_law_word cd_law_word ct_law_word), sl_law_word⟩)
    (q_law_word : PySem.W.codeIn K cd_law_word "_law_word" = true)
    (k_law_word : PySem.W.keepIn K (.ref f_law_word) = true)
    (a_law_words : PySem.W.nsIn K mainGlobals "_law_words" = some (some (.ref f_law_words)))
    (l_law_words : K.lookup f_law_words = some ⟨oc_law_words, od_law_words, .func (PySem.W.fnOf "_law_words" "_law_words" (defArgs s_law_words) (defBody s_law_words) (defScope s_law_words) .none kV_law_words dc_law_words pm_law_words an_law_words cd_law_words ct_law_words), sl_law_words⟩)
    (q_law_words : PySem.W.codeIn K cd_law_words "_law_words" = true)
    (k_law_words : PySem.W.keepIn K (.ref f_law_words) = true)
    (a_law_inverse : PySem.W.nsIn K mainGlobals "_law_inverse" = some (some (.ref f_law_inverse)))
    (l_law_inverse : K.lookup f_law_inverse = some ⟨oc_law_inverse, od_law_inverse, .func (PySem.W.fnOf "_law_inverse" "_law_inverse" (defArgs s_law_inverse) (defBody s_law_inverse) (defScope s_law_inverse) .none kV_law_inverse dc_law_inverse pm_law_inverse an_law_inverse cd_law_inverse ct_law_inverse), sl_law_inverse⟩)
    (q_law_inverse : PySem.W.codeIn K cd_law_inverse "_law_inverse" = true)
    (k_law_inverse : PySem.W.keepIn K (.ref f_law_inverse) = true)
    (a_law_factors : PySem.W.nsIn K mainGlobals "_law_factors" = some (some (.ref f_law_factors)))
    (l_law_factors : K.lookup f_law_factors = some ⟨oc_law_factors, od_law_factors, .func (PySem.W.fnOf "_law_factors" "_law_factors" (defArgs s_law_factors) (defBody s_law_factors) (defScope s_law_factors) .none kV_law_factors dc_law_factors pm_law_factors an_law_factors cd_law_factors ct_law_factors), sl_law_factors⟩)
    (q_law_factors : PySem.W.codeIn K cd_law_factors "_law_factors" = true)
    (k_law_factors : PySem.W.keepIn K (.ref f_law_factors) = true)
    (a_law_pieces : PySem.W.nsIn K mainGlobals "_law_pieces" = some (some (.ref f_law_pieces)))
    (l_law_pieces : K.lookup f_law_pieces = some ⟨oc_law_pieces, od_law_pieces, .func (PySem.W.fnOf "_law_pieces" "_law_pieces" (defArgs s_law_pieces) (defBody s_law_pieces) (defScope s_law_pieces) .none kV_law_pieces dc_law_pieces pm_law_pieces an_law_pieces cd_law_pieces ct_law_pieces), sl_law_pieces⟩)
    (q_law_pieces : PySem.W.codeIn K cd_law_pieces "_law_pieces" = true)
    (k_law_pieces : PySem.W.keepIn K (.ref f_law_pieces) = true)
    (a_law_seal : PySem.W.nsIn K mainGlobals "_law_seal" = some (some (.ref f_law_seal)))
    (l_law_seal : K.lookup f_law_seal = some ⟨oc_law_seal, od_law_seal, .func (PySem.W.fnOf "_law_seal" "_law_seal" (defArgs s_law_seal) (defBody s_law_seal) (defScope s_law_seal) .none kV_law_seal dc_law_seal pm_law_seal an_law_seal cd_law_seal ct_law_seal), sl_law_seal⟩)
    (q_law_seal : PySem.W.codeIn K cd_law_seal "_law_seal" = true)
    (k_law_seal : PySem.W.keepIn K (.ref f_law_seal) = true)
    (a_law_places : PySem.W.nsIn K mainGlobals "_law_places" = some (some (.ref f_law_places)))
    (l_law_places : K.lookup f_law_places = some ⟨oc_law_places, od_law_places, .func (PySem.W.fnOf "_law_places" "_law_places" (defArgs s_law_places) (defBody s_law_places) (defScope s_law_places) .none kV_law_places dc_law_places pm_law_places an_law_places cd_law_places ct_law_places), sl_law_places⟩)
    (q_law_places : PySem.W.codeIn K cd_law_places "_law_places" = true)
    (k_law_places : PySem.W.keepIn K (.ref f_law_places) = true)
    (a_law_is_write : PySem.W.nsIn K mainGlobals "_law_is_write" = some (some (.ref f_law_is_write)))
    (l_law_is_write : K.lookup f_law_is_write = some ⟨oc_law_is_write, od_law_is_write, .func (PySem.W.fnOf "_law_is_write" "_law_is_write" (defArgs s_law_is_write) (defBody s_law_is_write) (defScope s_law_is_write) .none kV_law_is_write dc_law_is_write pm_law_is_write an_law_is_write cd_law_is_write ct_law_is_write), sl_law_is_write⟩)
    (q_law_is_write : PySem.W.codeIn K cd_law_is_write "_law_is_write" = true)
    (k_law_is_write : PySem.W.keepIn K (.ref f_law_is_write) = true)
    (a_law_answer : PySem.W.nsIn K mainGlobals "_law_answer" = some (some (.ref f_law_answer)))
    (l_law_answer : K.lookup f_law_answer = some ⟨oc_law_answer, od_law_answer, .func (PySem.W.fnOf "_law_answer" "_law_answer" (defArgs s_law_answer) (defBody s_law_answer) (defScope s_law_answer) .none kV_law_answer dc_law_answer pm_law_answer an_law_answer cd_law_answer ct_law_answer), sl_law_answer⟩)
    (q_law_answer : PySem.W.codeIn K cd_law_answer "_law_answer" = true)
    (k_law_answer : PySem.W.keepIn K (.ref f_law_answer) = true)
    (a_law_spoil : PySem.W.nsIn K mainGlobals "_law_spoil" = some (some (.ref f_law_spoil)))
    (l_law_spoil : K.lookup f_law_spoil = some ⟨oc_law_spoil, od_law_spoil, .func (PySem.W.fnOf "_law_spoil" "_law_spoil" (defArgs s_law_spoil) (defBody s_law_spoil) (defScope s_law_spoil) .none kV_law_spoil dc_law_spoil pm_law_spoil an_law_spoil cd_law_spoil ct_law_spoil), sl_law_spoil⟩)
    (q_law_spoil : PySem.W.codeIn K cd_law_spoil "_law_spoil" = true)
    (k_law_spoil : PySem.W.keepIn K (.ref f_law_spoil) = true)
    (a_law_set_up : PySem.W.nsIn K mainGlobals "_law_set_up" = some (some (.ref f_law_set_up)))
    (l_law_set_up : K.lookup f_law_set_up = some ⟨oc_law_set_up, od_law_set_up, .func (PySem.W.fnOf "_law_set_up" "_law_set_up" (defArgs s_law_set_up) (defBody s_law_set_up) (defScope s_law_set_up) .none kV_law_set_up dc_law_set_up pm_law_set_up an_law_set_up cd_law_set_up ct_law_set_up), sl_law_set_up⟩)
    (q_law_set_up : PySem.W.codeIn K cd_law_set_up "_law_set_up" = true)
    (k_law_set_up : PySem.W.keepIn K (.ref f_law_set_up) = true)
    (a_law : PySem.W.nsIn K mainGlobals "law" = some (some (.ref f_law)))
    (l_law : K.lookup f_law = some ⟨oc_law, od_law, .func (PySem.W.fnOf "law" "law" (defArgs s_law) (defBody s_law) (defScope s_law) .none kV_law dc_law pm_law an_law cd_law ct_law), sl_law⟩)
    (q_law : PySem.W.codeIn K cd_law "law" = true)
    (k_law : PySem.W.keepIn K (.ref f_law) = true)
    (a_PRIME : PySem.W.nsIn K mainGlobals "PRIME" = some (some (.int 65521 tk_PRIME)))
    (a_MAX_PIECES : PySem.W.nsIn K mainGlobals "MAX_PIECES" = some (some (.int 8 tk_MAX_PIECES)))
    (a_MAX_DISKS : PySem.W.nsIn K mainGlobals "MAX_DISKS" = some (some (.int 8 tk_MAX_DISKS)))
    (a_MAX_PAYLOAD : PySem.W.nsIn K mainGlobals "MAX_PAYLOAD" = some (some (.int 1000 tk_MAX_PAYLOAD)))
    (a_MAX_ROWS : PySem.W.nsIn K mainGlobals "MAX_ROWS" = some (some (.int 4000 tk_MAX_ROWS)))
    (a_LABEL : PySem.W.nsIn K mainGlobals "LABEL" = some (some (.int 1 tk_LABEL)))
    (a_PIECE : PySem.W.nsIn K mainGlobals "PIECE" = some (some (.int 3 tk_PIECE)))
    (a_HEADER_WORDS : PySem.W.nsIn K mainGlobals "HEADER_WORDS" = some (some (.int 6 tk_HEADER_WORDS)))
    (a_CHECK_WORDS : PySem.W.nsIn K mainGlobals "CHECK_WORDS" = some (some (.int 2 tk_CHECK_WORDS)))
    (n_enumerate : PySem.W.nsIn K mainGlobals "enumerate" = some none)
    (n_len : PySem.W.nsIn K mainGlobals "len" = some none)
    (n_sum : PySem.W.nsIn K mainGlobals "sum" = some none)
    (n_zip : PySem.W.nsIn K mainGlobals "zip" = some none)
    (n_list : PySem.W.nsIn K mainGlobals "list" = some none)
    (n_range : PySem.W.nsIn K mainGlobals "range" = some none)
    (n_tuple : PySem.W.nsIn K mainGlobals "tuple" = some none)
    (n_min : PySem.W.nsIn K mainGlobals "min" = some none)
    (n_max : PySem.W.nsIn K mainGlobals "max" = some none)
    (n_int : PySem.W.nsIn K mainGlobals "int" = some none)
    (n_abs : PySem.W.nsIn K mainGlobals "abs" = some none)
    (n_isinstance : PySem.W.nsIn K mainGlobals "isinstance" = some none)
    (n_repr : PySem.W.nsIn K mainGlobals "repr" = some none)
    (n_sorted : PySem.W.nsIn K mainGlobals "sorted" = some none)
    (n_combinations : PySem.W.nsIn K mainGlobals "combinations" = some (some (.type "itertools.combinations")))
    (a_PoolError : PySem.W.nsIn K mainGlobals "PoolError" = some (some (.ref c_PoolError)))
    (x_PoolError : PySem.W.excIn K c_PoolError [.type "ValueError", .type "Exception", .type "BaseException", .type "object"] "ValueError.__new__" = true)
    (k_PoolError : PySem.W.keepIn K (.ref c_PoolError) = true)
    (b_PoolError : PySem.W.subIn K (.ref c_PoolError) (.type "BaseException") = some true)
    (t_PoolError : PySem.W.typeIn K (.ref c_PoolError) = some (.type "type"))
    (E1_PoolError : PySem.W.findIn K (.ref c_PoolError) "__getattribute__" = some (some (.builtin "BaseException.__getattribute__")))
    (E2_PoolError : PySem.W.findIn K (.ref c_PoolError) "__getattr__" = some none)
    (E3_PoolError : PySem.W.hasDictIn K c_PoolError = true)
    (E4_PoolError : PySem.W.findIn K (.ref c_PoolError) "__class__" = some (some (.builtin "object.__class__")))
    (s_PoolError : PySem.W.subIn K (.ref c_PoolError) (.ref c_PoolError) = some true)
    (E5_PoolError : PySem.W.mroIn K c_PoolError (.type "object") = some true)
    (a_InvalidArgument : PySem.W.nsIn K mainGlobals "InvalidArgument" = some (some (.ref c_InvalidArgument)))
    (x_InvalidArgument : PySem.W.excIn K c_InvalidArgument [.type "ValueError", .type "Exception", .type "BaseException", .type "object"] "ValueError.__new__" = true)
    (k_InvalidArgument : PySem.W.keepIn K (.ref c_InvalidArgument) = true)
    (b_InvalidArgument : PySem.W.subIn K (.ref c_InvalidArgument) (.type "BaseException") = some true)
    (t_InvalidArgument : PySem.W.typeIn K (.ref c_InvalidArgument) = some (.type "type"))
    (E1_InvalidArgument : PySem.W.findIn K (.ref c_InvalidArgument) "__getattribute__" = some (some (.builtin "BaseException.__getattribute__")))
    (E2_InvalidArgument : PySem.W.findIn K (.ref c_InvalidArgument) "__getattr__" = some none)
    (E3_InvalidArgument : PySem.W.hasDictIn K c_InvalidArgument = true)
    (E4_InvalidArgument : PySem.W.findIn K (.ref c_InvalidArgument) "__class__" = some (some (.builtin "object.__class__")))
    (s_InvalidArgument : PySem.W.subIn K (.ref c_InvalidArgument) (.ref c_InvalidArgument) = some true)
    (E5_InvalidArgument : PySem.W.mroIn K c_InvalidArgument (.type "object") = some true)
    (a_NotEnoughPieces : PySem.W.nsIn K mainGlobals "NotEnoughPieces" = some (some (.ref c_NotEnoughPieces)))
    (x_NotEnoughPieces : PySem.W.excIn K c_NotEnoughPieces [.type "ValueError", .type "Exception", .type "BaseException", .type "object"] "ValueError.__new__" = true)
    (k_NotEnoughPieces : PySem.W.keepIn K (.ref c_NotEnoughPieces) = true)
    (b_NotEnoughPieces : PySem.W.subIn K (.ref c_NotEnoughPieces) (.type "BaseException") = some true)
    (t_NotEnoughPieces : PySem.W.typeIn K (.ref c_NotEnoughPieces) = some (.type "type"))
    (E1_NotEnoughPieces : PySem.W.findIn K (.ref c_NotEnoughPieces) "__getattribute__" = some (some (.builtin "BaseException.__getattribute__")))
    (E2_NotEnoughPieces : PySem.W.findIn K (.ref c_NotEnoughPieces) "__getattr__" = some none)
    (E3_NotEnoughPieces : PySem.W.hasDictIn K c_NotEnoughPieces = true)
    (E4_NotEnoughPieces : PySem.W.findIn K (.ref c_NotEnoughPieces) "__class__" = some (some (.builtin "object.__class__")))
    (s_NotEnoughPieces : PySem.W.subIn K (.ref c_NotEnoughPieces) (.ref c_NotEnoughPieces) = some true)
    (E5_NotEnoughPieces : PySem.W.mroIn K c_NotEnoughPieces (.type "object") = some true)
    (a_Damaged : PySem.W.nsIn K mainGlobals "Damaged" = some (some (.ref c_Damaged)))
    (x_Damaged : PySem.W.excIn K c_Damaged [.type "ValueError", .type "Exception", .type "BaseException", .type "object"] "ValueError.__new__" = true)
    (k_Damaged : PySem.W.keepIn K (.ref c_Damaged) = true)
    (b_Damaged : PySem.W.subIn K (.ref c_Damaged) (.type "BaseException") = some true)
    (t_Damaged : PySem.W.typeIn K (.ref c_Damaged) = some (.type "type"))
    (E1_Damaged : PySem.W.findIn K (.ref c_Damaged) "__getattribute__" = some (some (.builtin "BaseException.__getattribute__")))
    (E2_Damaged : PySem.W.findIn K (.ref c_Damaged) "__getattr__" = some none)
    (E3_Damaged : PySem.W.hasDictIn K c_Damaged = true)
    (E4_Damaged : PySem.W.findIn K (.ref c_Damaged) "__class__" = some (some (.builtin "object.__class__")))
    (s_Damaged : PySem.W.subIn K (.ref c_Damaged) (.ref c_Damaged) = some true)
    (E5_Damaged : PySem.W.mroIn K c_Damaged (.type "object") = some true)
    (E6 : PySem.W.specialIn K (.builtin "object.__class__") "__get__" = some (some (.builtin "getset_descriptor.__get__")))
    (E7 : PySem.W.takesIn K (.builtin "object.__class__") = some true)
    (u_Damaged_PoolError : PySem.W.subIn K (.ref c_Damaged) (.ref c_PoolError) = some true)
    (u_NotEnoughPieces_NotEnoughPieces : PySem.W.subIn K (.ref c_NotEnoughPieces) (.ref c_NotEnoughPieces) = some true) :
    ∃ fd : FuncData, (∀ (s : Shared) (v : Value), BindsTo s fd ⟨[v], []⟩ [("script", v)]) ∧ ∀ base : Heap, K.In base → base.Ns mainGlobals mg → EntryOk l.prog w K mg base fa fd "script" (sp_law0 K) := by
  have e := hfa.symm.trans (PySem.W.mg_of X G a_law)
  cases e
  have F_inverse := fun_mk (st := s_inverse) l_inverse q_inverse k_inverse
  have d_inverse := F_inverse.binds (ps := ["a"]) fun _ _ _ _ _ _ us hl => match us, hl with | [_], _ => rfl
  have F_weight := fun_mk (st := s_weight) l_weight q_weight k_weight
  have d_weight := F_weight.binds (ps := ["place", "others", "x"]) fun _ _ _ _ _ _ us hl => match us, hl with | [_, _, _], _ => rfl
  have F_weights := fun_mk (st := s_weights) l_weights q_weights k_weights
  have d_weights := F_weights.binds (ps := ["places", "x"]) fun _ _ _ _ _ _ us hl => match us, hl with | [_, _], _ => rfl
  have F_check_lengths := fun_mk (st := s_check_lengths) l_check_lengths q_check_lengths k_check_lengths
  have d_check_lengths := F_check_lengths.binds (ps := ["pieces"]) fun _ _ _ _ _ _ us hl => match us, hl with | [_], _ => rfl
  have F_piece_at := fun_mk (st := s_piece_at) l_piece_at q_piece_at k_piece_at
  have d_piece_at := F_piece_at.binds (ps := ["known", "places", "number"]) fun _ _ _ _ _ _ us hl => match us, hl with | [_, _, _], _ => rfl
  have F_present_numbers := fun_mk (st := s_present_numbers) l_present_numbers q_present_numbers k_present_numbers
  have d_present_numbers := F_present_numbers.binds (ps := ["pieces", "data"]) fun _ _ _ _ _ _ us hl => match us, hl with | [_, _], _ => rfl
  have F_recover := fun_mk (st := s_recover) l_recover q_recover k_recover
  have d_recover := F_recover.binds (ps := ["pieces", "data"]) fun _ _ _ _ _ _ us hl => match us, hl with | [_, _], _ => rfl
  have F_agree := fun_mk (st := s_agree) l_agree q_agree k_agree
  have d_agree := F_agree.binds (ps := ["pieces", "numbers", "data"]) fun _ _ _ _ _ _ us hl => match us, hl with | [_, _, _], _ => rfl
  have F_wrong_pieces := fun_mk (st := s_wrong_pieces) l_wrong_pieces q_wrong_pieces k_wrong_pieces
  have d_wrong_pieces := F_wrong_pieces.binds (ps := ["pieces", "data"]) fun _ _ _ _ _ _ us hl => match us, hl with | [_, _], _ => rfl
  have F_is_present := fun_mk (st := s_is_present) l_is_present q_is_present k_is_present
  have d_is_present := F_is_present.binds (ps := ["images", "disk"]) fun _ _ _ _ _ _ us hl => match us, hl with | [_, _], _ => rfl
  have F_sector_at := fun_mk (st := s_sector_at) l_sector_at q_sector_at k_sector_at
  have d_sector_at := F_sector_at.binds (ps := ["images", "disk", "row"]) fun _ _ _ _ _ _ us hl => match us, hl with | [_, _, _], _ => rfl
  have F_check_words := fun_mk (st := s_check_words) l_check_words q_check_words k_check_words
  have d_check_words := F_check_words.binds (ps := ["words"]) fun _ _ _ _ _ _ us hl => match us, hl with | [_], _ => rfl
  have F_is_place := fun_mk (st := s_is_place) l_is_place q_is_place k_is_place
  have d_is_place := F_is_place.binds (ps := ["kind", "disk", "row"]) fun _ _ _ _ _ _ us hl => match us, hl with | [_, _, _], _ => rfl
  have F_seal := fun_mk (st := s_seal) l_seal q_seal k_seal
  have d_seal := F_seal.binds (ps := ["kind", "disk", "row", "stamp", "payload"]) fun _ _ _ _ _ _ us hl => match us, hl with | [_, _, _, _, _], _ => rfl
  have F_unseal := fun_mk (st := s_unseal) l_unseal q_unseal k_unseal
  have d_unseal := F_unseal.binds (ps := ["sector", "kind", "disk", "row"]) fun _ _ _ _ _ _ us hl => match us, hl with | [_, _, _, _], _ => rfl
  have F_is_whole := fun_mk (st := s_is_whole) l_is_whole q_is_whole k_is_whole
  have d_is_whole := F_is_whole.binds (ps := ["sector"]) fun _ _ _ _ _ _ us hl => match us, hl with | [_], _ => rfl
  have F_piece_size := fun_mk (st := s_piece_size) l_piece_size q_piece_size k_piece_size
  have d_piece_size := F_piece_size.binds (ps := ["length", "data"]) fun _ _ _ _ _ _ us hl => match us, hl with | [_, _], _ => rfl
  have F_piece_requests := fun_mk (st := s_piece_requests) l_piece_requests q_piece_requests k_piece_requests
  have d_piece_requests := F_piece_requests.binds (ps := ["images", "places", "stamp", "pieces", "numbers"]) fun _ _ _ _ _ _ us hl => match us, hl with | [_, _, _, _, _], _ => rfl
  have F_good_piece := fun_mk (st := s_good_piece) l_good_piece q_good_piece k_good_piece
  have d_good_piece := F_good_piece.binds (ps := ["images", "place", "stamp", "size"]) fun _ _ _ _ _ _ us hl => match us, hl with | [_, _, _, _], _ => rfl
  have F_repair_stripe := fun_mk (st := s_repair_stripe) l_repair_stripe q_repair_stripe k_repair_stripe
  have d_repair_stripe := F_repair_stripe.binds (ps := ["images", "places", "stamp", "length", "data"]) fun _ _ _ _ _ _ us hl => match us, hl with | [_, _, _, _, _], _ => rfl
  have F_law_pot := fun_mk (st := s_law_pot) l_law_pot q_law_pot k_law_pot
  have d_law_pot := F_law_pot.binds (ps := ["script"]) fun _ _ _ _ _ _ us hl => match us, hl with | [_], _ => rfl
  have F_law_next := fun_mk (st := s_law_next) l_law_next q_law_next k_law_next
  have d_law_next := F_law_next.binds (ps := ["pot", "limit"]) fun _ _ _ _ _ _ us hl => match us, hl with | [_, _], _ => rfl
  have F_law_word := fun_mk (st := s_law_word) l_law_word q_law_word k_law_word
  have d_law_word := F_law_word.binds (ps := ["pot"]) fun _ _ _ _ _ _ us hl => match us, hl with | [_], _ => rfl
  have F_law_words := fun_mk (st := s_law_words) l_law_words q_law_words k_law_words
  have d_law_words := F_law_words.binds (ps := ["pot", "count"]) fun _ _ _ _ _ _ us hl => match us, hl with | [_, _], _ => rfl
  have F_law_inverse := fun_mk (st := s_law_inverse) l_law_inverse q_law_inverse k_law_inverse
  have d_law_inverse := F_law_inverse.binds (ps := ["number"]) fun _ _ _ _ _ _ us hl => match us, hl with | [_], _ => rfl
  have F_law_factors := fun_mk (st := s_law_factors) l_law_factors q_law_factors k_law_factors
  have d_law_factors := F_law_factors.binds (ps := ["places", "x"]) fun _ _ _ _ _ _ us hl => match us, hl with | [_, _], _ => rfl
  have F_law_pieces := fun_mk (st := s_law_pieces) l_law_pieces q_law_pieces k_law_pieces
  have d_law_pieces := F_law_pieces.binds (ps := ["words", "data", "count"]) fun _ _ _ _ _ _ us hl => match us, hl with | [_, _, _], _ => rfl
  have F_law_seal := fun_mk (st := s_law_seal) l_law_seal q_law_seal k_law_seal
  have d_law_seal := F_law_seal.binds (ps := ["kind", "disk", "row", "stamp", "payload"]) fun _ _ _ _ _ _ us hl => match us, hl with | [_, _, _, _, _], _ => rfl
  have F_law_places := fun_mk (st := s_law_places) l_law_places q_law_places k_law_places
  have d_law_places := F_law_places.binds (ps := ["pot", "count", "rows"]) fun _ _ _ _ _ _ us hl => match us, hl with | [_, _, _], _ => rfl
  have F_law_is_write := fun_mk (st := s_law_is_write) l_law_is_write q_law_is_write k_law_is_write
  have d_law_is_write := F_law_is_write.binds (ps := ["request", "disk", "row", "sector"]) fun _ _ _ _ _ _ us hl => match us, hl with | [_, _, _, _], _ => rfl
  have F_law_answer := fun_mk (st := s_law_answer) l_law_answer q_law_answer k_law_answer
  have d_law_answer := F_law_answer.binds (ps := ["images", "places", "stamp", "length", "data"]) fun _ _ _ _ _ _ us hl => match us, hl with | [_, _, _, _, _], _ => rfl
  have F_law_spoil := fun_mk (st := s_law_spoil) l_law_spoil q_law_spoil k_law_spoil
  have d_law_spoil := F_law_spoil.binds (ps := ["pot", "images", "place", "stamp"]) fun _ _ _ _ _ _ us hl => match us, hl with | [_, _, _, _], _ => rfl
  have F_law_set_up := fun_mk (st := s_law_set_up) l_law_set_up q_law_set_up k_law_set_up
  have d_law_set_up := F_law_set_up.binds (ps := ["pot", "places", "stamp", "pieces"]) fun _ _ _ _ _ _ us hl => match us, hl with | [_, _, _, _], _ => rfl
  have F_law := fun_mk (st := s_law) l_law q_law k_law
  have d_law := F_law.binds (ps := ["script"]) fun _ _ _ _ _ _ us hl => match us, hl with | [_], _ => rfl
  have T : Txt K mg ⟨f_inverse, _, f_weight, _, f_weights, _, f_check_lengths, _, f_piece_at, _, f_present_numbers, _, f_recover, _, f_agree, _, f_wrong_pieces, _, f_is_present, _, f_sector_at, _, f_check_words, _, f_is_place, _, f_seal, _, f_unseal, _, f_is_whole, _, f_piece_size, _, f_piece_requests, _, f_good_piece, _, f_repair_stripe, _, f_law_pot, _, f_law_next, _, f_law_word, _, f_law_words, _, f_law_inverse, _, f_law_factors, _, f_law_pieces, _, f_law_seal, _, f_law_places, _, f_law_is_write, _, f_law_answer, _, f_law_spoil, _, f_law_set_up, _, fa, _, c_PoolError, c_InvalidArgument, c_NotEnoughPieces, c_Damaged⟩ := {
    F_inverse := F_inverse, g_inverse := PySem.W.mg_of X G a_inverse, d_inverse := d_inverse,
    F_weight := F_weight, g_weight := PySem.W.mg_of X G a_weight, d_weight := d_weight,
    F_weights := F_weights, g_weights := PySem.W.mg_of X G a_weights, d_weights := d_weights,
    F_check_lengths := F_check_lengths, g_check_lengths := PySem.W.mg_of X G a_check_lengths, d_check_lengths := d_check_lengths,
    F_piece_at := F_piece_at, g_piece_at := PySem.W.mg_of X G a_piece_at, d_piece_at := d_piece_at,
    F_present_numbers := F_present_numbers, g_present_numbers := PySem.W.mg_of X G a_present_numbers, d_present_numbers := d_present_numbers,
    F_recover := F_recover, g_recover := PySem.W.mg_of X G a_recover, d_recover := d_recover,
    F_agree := F_agree, g_agree := PySem.W.mg_of X G a_agree, d_agree := d_agree,
    F_wrong_pieces := F_wrong_pieces, g_wrong_pieces := PySem.W.mg_of X G a_wrong_pieces, d_wrong_pieces := d_wrong_pieces,
    F_is_present := F_is_present, g_is_present := PySem.W.mg_of X G a_is_present, d_is_present := d_is_present,
    F_sector_at := F_sector_at, g_sector_at := PySem.W.mg_of X G a_sector_at, d_sector_at := d_sector_at,
    F_check_words := F_check_words, g_check_words := PySem.W.mg_of X G a_check_words, d_check_words := d_check_words,
    F_is_place := F_is_place, g_is_place := PySem.W.mg_of X G a_is_place, d_is_place := d_is_place,
    F_seal := F_seal, g_seal := PySem.W.mg_of X G a_seal, d_seal := d_seal,
    F_unseal := F_unseal, g_unseal := PySem.W.mg_of X G a_unseal, d_unseal := d_unseal,
    F_is_whole := F_is_whole, g_is_whole := PySem.W.mg_of X G a_is_whole, d_is_whole := d_is_whole,
    F_piece_size := F_piece_size, g_piece_size := PySem.W.mg_of X G a_piece_size, d_piece_size := d_piece_size,
    F_piece_requests := F_piece_requests, g_piece_requests := PySem.W.mg_of X G a_piece_requests, d_piece_requests := d_piece_requests,
    F_good_piece := F_good_piece, g_good_piece := PySem.W.mg_of X G a_good_piece, d_good_piece := d_good_piece,
    F_repair_stripe := F_repair_stripe, g_repair_stripe := PySem.W.mg_of X G a_repair_stripe, d_repair_stripe := d_repair_stripe,
    F_law_pot := F_law_pot, g_law_pot := PySem.W.mg_of X G a_law_pot, d_law_pot := d_law_pot,
    F_law_next := F_law_next, g_law_next := PySem.W.mg_of X G a_law_next, d_law_next := d_law_next,
    F_law_word := F_law_word, g_law_word := PySem.W.mg_of X G a_law_word, d_law_word := d_law_word,
    F_law_words := F_law_words, g_law_words := PySem.W.mg_of X G a_law_words, d_law_words := d_law_words,
    F_law_inverse := F_law_inverse, g_law_inverse := PySem.W.mg_of X G a_law_inverse, d_law_inverse := d_law_inverse,
    F_law_factors := F_law_factors, g_law_factors := PySem.W.mg_of X G a_law_factors, d_law_factors := d_law_factors,
    F_law_pieces := F_law_pieces, g_law_pieces := PySem.W.mg_of X G a_law_pieces, d_law_pieces := d_law_pieces,
    F_law_seal := F_law_seal, g_law_seal := PySem.W.mg_of X G a_law_seal, d_law_seal := d_law_seal,
    F_law_places := F_law_places, g_law_places := PySem.W.mg_of X G a_law_places, d_law_places := d_law_places,
    F_law_is_write := F_law_is_write, g_law_is_write := PySem.W.mg_of X G a_law_is_write, d_law_is_write := d_law_is_write,
    F_law_answer := F_law_answer, g_law_answer := PySem.W.mg_of X G a_law_answer, d_law_answer := d_law_answer,
    F_law_spoil := F_law_spoil, g_law_spoil := PySem.W.mg_of X G a_law_spoil, d_law_spoil := d_law_spoil,
    F_law_set_up := F_law_set_up, g_law_set_up := PySem.W.mg_of X G a_law_set_up, d_law_set_up := d_law_set_up,
    F_law := F_law, g_law := PySem.W.mg_of X G a_law, d_law := d_law,
    g_PRIME := ⟨_, PySem.W.mg_of X G a_PRIME, ⟨_, rfl⟩⟩,
    g_MAX_PIECES := ⟨_, PySem.W.mg_of X G a_MAX_PIECES, ⟨_, rfl⟩⟩,
    g_MAX_DISKS := ⟨_, PySem.W.mg_of X G a_MAX_DISKS, ⟨_, rfl⟩⟩,
    g_MAX_PAYLOAD := ⟨_, PySem.W.mg_of X G a_MAX_PAYLOAD, ⟨_, rfl⟩⟩,
    g_MAX_ROWS := ⟨_, PySem.W.mg_of X G a_MAX_ROWS, ⟨_, rfl⟩⟩,
    g_LABEL := ⟨_, PySem.W.mg_of X G a_LABEL, ⟨_, rfl⟩⟩,
    g_PIECE := ⟨_, PySem.W.mg_of X G a_PIECE, ⟨_, rfl⟩⟩,
    g_HEADER_WORDS := ⟨_, PySem.W.mg_of X G a_HEADER_WORDS, ⟨_, rfl⟩⟩,
    g_CHECK_WORDS := ⟨_, PySem.W.mg_of X G a_CHECK_WORDS, ⟨_, rfl⟩⟩,
    n_enumerate := PySem.W.mg_none_of X G n_enumerate,
    n_len := PySem.W.mg_none_of X G n_len,
    n_sum := PySem.W.mg_none_of X G n_sum,
    n_zip := PySem.W.mg_none_of X G n_zip,
    n_list := PySem.W.mg_none_of X G n_list,
    n_range := PySem.W.mg_none_of X G n_range,
    n_tuple := PySem.W.mg_none_of X G n_tuple,
    n_min := PySem.W.mg_none_of X G n_min,
    n_max := PySem.W.mg_none_of X G n_max,
    n_int := PySem.W.mg_none_of X G n_int,
    n_abs := PySem.W.mg_none_of X G n_abs,
    n_isinstance := PySem.W.mg_none_of X G n_isinstance,
    n_repr := PySem.W.mg_none_of X G n_repr,
    n_sorted := PySem.W.mg_none_of X G n_sorted,
    n_combinations := PySem.W.mg_of X G n_combinations,
    g_PoolError := PySem.W.mg_of X G a_PoolError, x_PoolError := x_PoolError, k_PoolError := k_PoolError, b_PoolError := b_PoolError, t_PoolError := t_PoolError, E_PoolError := ⟨E1_PoolError, E2_PoolError, b_PoolError, E3_PoolError, E4_PoolError, E6, E7, E5_PoolError⟩,
    g_InvalidArgument := PySem.W.mg_of X G a_InvalidArgument, x_InvalidArgument := x_InvalidArgument, k_InvalidArgument := k_InvalidArgument, b_InvalidArgument := b_InvalidArgument, t_InvalidArgument := t_InvalidArgument, E_InvalidArgument := ⟨E1_InvalidArgument, E2_InvalidArgument, b_InvalidArgument, E3_InvalidArgument, E4_InvalidArgument, E6, E7, E5_InvalidArgument⟩,
    g_NotEnoughPieces := PySem.W.mg_of X G a_NotEnoughPieces, x_NotEnoughPieces := x_NotEnoughPieces, k_NotEnoughPieces := k_NotEnoughPieces, b_NotEnoughPieces := b_NotEnoughPieces, t_NotEnoughPieces := t_NotEnoughPieces, E_NotEnoughPieces := ⟨E1_NotEnoughPieces, E2_NotEnoughPieces, b_NotEnoughPieces, E3_NotEnoughPieces, E4_NotEnoughPieces, E6, E7, E5_NotEnoughPieces⟩,
    g_Damaged := PySem.W.mg_of X G a_Damaged, x_Damaged := x_Damaged, k_Damaged := k_Damaged, b_Damaged := b_Damaged, t_Damaged := t_Damaged, E_Damaged := ⟨E1_Damaged, E2_Damaged, b_Damaged, E3_Damaged, E4_Damaged, E6, E7, E5_Damaged⟩,
    u_Damaged_PoolError := PySem.W.exm_ref b_PoolError E3_PoolError t_PoolError u_Damaged_PoolError,
    u_NotEnoughPieces_NotEnoughPieces := PySem.W.exm_ref b_NotEnoughPieces E3_NotEnoughPieces t_NotEnoughPieces u_NotEnoughPieces_NotEnoughPieces,
    i_Damaged_Damaged := kit_self }
  exact ⟨PySem.W.fnOf "law" "law" (defArgs s_law) (defBody s_law) (defScope s_law) .none kV_law dc_law pm_law an_law cd_law ct_law, fun s v => .of_eq rfl, fun base _ _ => (ok_law T).imp fun vs H Q h => h⟩
theorem walk {l : PySem.W.OpenLaw} {q : Program} {loose : List Str} {XP : (Str → Option Value) → Heap → Prop} {YP : World → Heap → Prop} {d : DefRec} {K : Params → PySem.W.Frag} (hn : l.most = some 63) (hdf : d.params.defaults = [])
    (hY : ∀ (w : World) (h : Heap), YP w h → (K w.params).In h)
    (F : ∀ (w : World) (mg : Str → Option Value) (fa : Addr) (h : Heap), (K w.params).In h → h.Ns mainGlobals mg → mg d.name = some (.ref fa) →
      ∃ fd : FuncData, (∀ (s : Shared) (u : Value), BindsTo s fd ⟨[u], []⟩ [("script", u)]) ∧ ∀ base : Heap, (K w.params).In base → base.Ns mainGlobals mg → EntryOk l.prog w (K w.params) mg base fa fd "script" (sp_law0 (K w.params))) :
    PySem.W.WalkO q loose XP YP l.row.toRowW d [] (fun f vs => PySem.call f vs) :=
  L2.walk_entry (n := 63) (y := "script") (sp := fun w => sp_law0 (K w.params)) hn (by decide) hdf hY F (fun _ _ a ns hl _ hS => ⟨a, ns, rfl, hS, hl, fun _ => rfl⟩)
end PP
open PySem PySem.W PyProof.Rows
set_option maxRecDepth 100000 in
set_option maxHeartbeats 0 in
theorem PySem.Challenge.cw_paritypool_k20_repair_stripe_holds : PySem.Challenge.rw_paritypool_k20_repair_stripe.Holds := by
  w_on; o_law; k_head; (case hw => w_witness2)
  k_fill
  refine PP.walk (l := PySem.Challenge.rw_paritypool_k20_repair_stripe) rfl rfl (fun w h Y => PySem.W.kIn_of Y) ?F
  case F =>
    intro w mg fa h KX G hmg
    refine' PP.all_mk KX G hmg ?a_inverse ?l_inverse ?q_inverse ?k_inverse ?a_weight ?l_weight ?q_weight ?k_weight ?a_weights ?l_weights ?q_weights ?k_weights ?a_check_lengths ?l_check_lengths ?q_check_lengths ?k_check_lengths ?a_piece_at ?l_piece_at ?q_piece_at ?k_piece_at ?a_present_numbers ?l_present_numbers ?q_present_numbers ?k_present_numbers ?a_recover ?l_recover ?q_recover ?k_recover ?a_agree ?l_agree ?q_agree ?k_agree ?a_wrong_pieces ?l_wrong_pieces ?q_wrong_pieces ?k_wrong_pieces ?a_is_present ?l_is_present ?q_is_present ?k_is_present ?a_sector_at ?l_sector_at ?q_sector_at ?k_sector_at ?a_check_words ?l_check_words ?q_check_words ?k_check_words ?a_is_place ?l_is_place ?q_is_place ?k_is_place ?a_seal ?l_seal ?q_seal ?k_seal ?a_unseal ?l_unseal ?q_unseal ?k_unseal ?a_is_whole ?l_is_whole ?q_is_whole ?k_is_whole ?a_piece_size ?l_piece_size ?q_piece_size ?k_piece_size ?a_piece_requests ?l_piece_requests ?q_piece_requests ?k_piece_requests ?a_good_piece ?l_good_piece ?q_good_piece ?k_good_piece ?a_repair_stripe ?l_repair_stripe ?q_repair_stripe ?k_repair_stripe ?a_law_pot ?l_law_pot ?q_law_pot ?k_law_pot ?a_law_next ?l_law_next ?q_law_next ?k_law_next ?a_law_word ?l_law_word ?q_law_word ?k_law_word ?a_law_words ?l_law_words ?q_law_words ?k_law_words ?a_law_inverse ?l_law_inverse ?q_law_inverse ?k_law_inverse ?a_law_factors ?l_law_factors ?q_law_factors ?k_law_factors ?a_law_pieces ?l_law_pieces ?q_law_pieces ?k_law_pieces ?a_law_seal ?l_law_seal ?q_law_seal ?k_law_seal ?a_law_places ?l_law_places ?q_law_places ?k_law_places ?a_law_is_write ?l_law_is_write ?q_law_is_write ?k_law_is_write ?a_law_answer ?l_law_answer ?q_law_answer ?k_law_answer ?a_law_spoil ?l_law_spoil ?q_law_spoil ?k_law_spoil ?a_law_set_up ?l_law_set_up ?q_law_set_up ?k_law_set_up ?a_law ?l_law ?q_law ?k_law ?a_PRIME ?a_MAX_PIECES ?a_MAX_DISKS ?a_MAX_PAYLOAD ?a_MAX_ROWS ?a_LABEL ?a_PIECE ?a_HEADER_WORDS ?a_CHECK_WORDS ?n_enumerate ?n_len ?n_sum ?n_zip ?n_list ?n_range ?n_tuple ?n_min ?n_max ?n_int ?n_abs ?n_isinstance ?n_repr ?n_sorted ?n_combinations ?a_PoolError ?x_PoolError ?k_PoolError ?b_PoolError ?t_PoolError ?E1_PoolError ?E2_PoolError ?E3_PoolError ?E4_PoolError ?s_PoolError ?E5_PoolError ?a_InvalidArgument ?x_InvalidArgument ?k_InvalidArgument ?b_InvalidArgument ?t_InvalidArgument ?E1_InvalidArgument ?E2_InvalidArgument ?E3_InvalidArgument ?E4_InvalidArgument ?s_InvalidArgument ?E5_InvalidArgument ?a_NotEnoughPieces ?x_NotEnoughPieces ?k_NotEnoughPieces ?b_NotEnoughPieces ?t_NotEnoughPieces ?E1_NotEnoughPieces ?E2_NotEnoughPieces ?E3_NotEnoughPieces ?E4_NotEnoughPieces ?s_NotEnoughPieces ?E5_NotEnoughPieces ?a_Damaged ?x_Damaged ?k_Damaged ?b_Damaged ?t_Damaged ?E1_Damaged ?E2_Damaged ?E3_Damaged ?E4_Damaged ?s_Damaged ?E5_Damaged ?E6 ?E7 ?u_Damaged_PoolError ?u_NotEnoughPieces_NotEnoughPieces
    (case a_inverse => k_is)
    (case l_inverse => k_is)
    (case q_inverse => k_is)
    (case k_inverse => k_is)
    (case a_weight => k_is)
    (case l_weight => k_is)
    (case q_weight => k_is)
    (case k_weight => k_is)
    (case a_weights => k_is)
    (case l_weights => k_is)
    (case q_weights => k_is)
    (case k_weights => k_is)
    (case a_check_lengths => k_is)
    (case l_check_lengths => k_is)
    (case q_check_lengths => k_is)
    (case k_check_lengths => k_is)
    (case a_piece_at => k_is)
    (case l_piece_at => k_is)
    (case q_piece_at => k_is)
    (case k_piece_at => k_is)
    (case a_present_numbers => k_is)
    (case l_present_numbers => k_is)
    (case q_present_numbers => k_is)
    (case k_present_numbers => k_is)
    (case a_recover => k_is)
    (case l_recover => k_is)
    (case q_recover => k_is)
    (case k_recover => k_is)
    (case a_agree => k_is)
    (case l_agree => k_is)
    (case q_agree => k_is)
    (case k_agree => k_is)
    (case a_wrong_pieces => k_is)
    (case l_wrong_pieces => k_is)
    (case q_wrong_pieces => k_is)
    (case k_wrong_pieces => k_is)
    (case a_is_present => k_is)
    (case l_is_present => k_is)
    (case q_is_present => k_is)
    (case k_is_present => k_is)
    (case a_sector_at => k_is)
    (case l_sector_at => k_is)
    (case q_sector_at => k_is)
    (case k_sector_at => k_is)
    (case a_check_words => k_is)
    (case l_check_words => k_is)
    (case q_check_words => k_is)
    (case k_check_words => k_is)
    (case a_is_place => k_is)
    (case l_is_place => k_is)
    (case q_is_place => k_is)
    (case k_is_place => k_is)
    (case a_seal => k_is)
    (case l_seal => k_is)
    (case q_seal => k_is)
    (case k_seal => k_is)
    (case a_unseal => k_is)
    (case l_unseal => k_is)
    (case q_unseal => k_is)
    (case k_unseal => k_is)
    (case a_is_whole => k_is)
    (case l_is_whole => k_is)
    (case q_is_whole => k_is)
    (case k_is_whole => k_is)
    (case a_piece_size => k_is)
    (case l_piece_size => k_is)
    (case q_piece_size => k_is)
    (case k_piece_size => k_is)
    (case a_piece_requests => k_is)
    (case l_piece_requests => k_is)
    (case q_piece_requests => k_is)
    (case k_piece_requests => k_is)
    (case a_good_piece => k_is)
    (case l_good_piece => k_is)
    (case q_good_piece => k_is)
    (case k_good_piece => k_is)
    (case a_repair_stripe => k_is)
    (case l_repair_stripe => k_is)
    (case q_repair_stripe => k_is)
    (case k_repair_stripe => k_is)
    (case a_law_pot => k_is)
    (case l_law_pot => k_is)
    (case q_law_pot => k_is)
    (case k_law_pot => k_is)
    (case a_law_next => k_is)
    (case l_law_next => k_is)
    (case q_law_next => k_is)
    (case k_law_next => k_is)
    (case a_law_word => k_is)
    (case l_law_word => k_is)
    (case q_law_word => k_is)
    (case k_law_word => k_is)
    (case a_law_words => k_is)
    (case l_law_words => k_is)
    (case q_law_words => k_is)
    (case k_law_words => k_is)
    (case a_law_inverse => k_is)
    (case l_law_inverse => k_is)
    (case q_law_inverse => k_is)
    (case k_law_inverse => k_is)
    (case a_law_factors => k_is)
    (case l_law_factors => k_is)
    (case q_law_factors => k_is)
    (case k_law_factors => k_is)
    (case a_law_pieces => k_is)
    (case l_law_pieces => k_is)
    (case q_law_pieces => k_is)
    (case k_law_pieces => k_is)
    (case a_law_seal => k_is)
    (case l_law_seal => k_is)
    (case q_law_seal => k_is)
    (case k_law_seal => k_is)
    (case a_law_places => k_is)
    (case l_law_places => k_is)
    (case q_law_places => k_is)
    (case k_law_places => k_is)
    (case a_law_is_write => k_is)
    (case l_law_is_write => k_is)
    (case q_law_is_write => k_is)
    (case k_law_is_write => k_is)
    (case a_law_answer => k_is)
    (case l_law_answer => k_is)
    (case q_law_answer => k_is)
    (case k_law_answer => k_is)
    (case a_law_spoil => k_is)
    (case l_law_spoil => k_is)
    (case q_law_spoil => k_is)
    (case k_law_spoil => k_is)
    (case a_law_set_up => k_is)
    (case l_law_set_up => k_is)
    (case q_law_set_up => k_is)
    (case k_law_set_up => k_is)
    (case a_law => k_is)
    (case l_law => k_is)
    (case q_law => k_is)
    (case k_law => k_is)
    (case a_PRIME => k_is)
    (case a_MAX_PIECES => k_is)
    (case a_MAX_DISKS => k_is)
    (case a_MAX_PAYLOAD => k_is)
    (case a_MAX_ROWS => k_is)
    (case a_LABEL => k_is)
    (case a_PIECE => k_is)
    (case a_HEADER_WORDS => k_is)
    (case a_CHECK_WORDS => k_is)
    (case n_enumerate => k_is)
    (case n_len => k_is)
    (case n_sum => k_is)
    (case n_zip => k_is)
    (case n_list => k_is)
    (case n_range => k_is)
    (case n_tuple => k_is)
    (case n_min => k_is)
    (case n_max => k_is)
    (case n_int => k_is)
    (case n_abs => k_is)
    (case n_isinstance => k_is)
    (case n_repr => k_is)
    (case n_sorted => k_is)
    (case n_combinations => k_is)
    (case a_PoolError => k_is)
    (case x_PoolError => k_exc)
    (case k_PoolError => k_is)
    (case b_PoolError => k_is)
    (case t_PoolError => k_is)
    (case E1_PoolError => k_is)
    (case E2_PoolError => k_is)
    (case E3_PoolError => k_is)
    (case E4_PoolError => k_is)
    (case s_PoolError => first | rfl | k_is)
    (case E5_PoolError => k_is)
    (case a_InvalidArgument => k_is)
    (case x_InvalidArgument => k_exc)
    (case k_InvalidArgument => k_is)
    (case b_InvalidArgument => k_is)
    (case t_InvalidArgument => k_is)
    (case E1_InvalidArgument => k_is)
    (case E2_InvalidArgument => k_is)
    (case E3_InvalidArgument => k_is)
    (case E4_InvalidArgument => k_is)
    (case s_InvalidArgument => first | rfl | k_is)
    (case E5_InvalidArgument => k_is)
    (case a_NotEnoughPieces => k_is)
    (case x_NotEnoughPieces => k_exc)
    (case k_NotEnoughPieces => k_is)
    (case b_NotEnoughPieces => k_is)
    (case t_NotEnoughPieces => k_is)
    (case E1_NotEnoughPieces => k_is)
    (case E2_NotEnoughPieces => k_is)
    (case E3_NotEnoughPieces => k_is)
    (case E4_NotEnoughPieces => k_is)
    (case s_NotEnoughPieces => first | rfl | k_is)
    (case E5_NotEnoughPieces => k_is)
    (case a_Damaged => k_is)
    (case x_Damaged => k_exc)
    (case k_Damaged => k_is)
    (case b_Damaged => k_is)
    (case t_Damaged => k_is)
    (case E1_Damaged => k_is)
    (case E2_Damaged => k_is)
    (case E3_Damaged => k_is)
    (case E4_Damaged => k_is)
    (case s_Damaged => first | rfl | k_is)
    (case E5_Damaged => k_is)
    (case E6 => k_is)
    (case E7 => k_is)
    (case u_Damaged_PoolError => k_is)
    (case u_NotEnoughPieces_NotEnoughPieces => k_is)
