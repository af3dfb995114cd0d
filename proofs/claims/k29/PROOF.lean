import PyProof.Rows.All
import Wide.All
import OpenK.AllK
import Wide.FinOn
import HandS.ForMost
import HandS.ForExc
import HandS.ExcIs
import HandS.IsInst
import HandS.Evl
import HandS.Walk
import HandS.More
import HandS.Wide
import HandS.TupLen
import HandS.Star
import HandS.Text
import HandS.Iter
import HandS.Rev
import HandS.Conv
import HandS.TryOnly
import HandS.Style
import HandS.Zip
import KE.GoesEnumKw
import HandS.MakeKwOnly
import HandS.Defaults
import HandS.DictComp
import HandS.SortRule
import KE.SortData
import KE.KeyNested
import KE.KDictKeyed
import HandS.DictTup
import HandS.CallSlots
import HandS.Replace
import HandS.RaiseFrom
import HandS.HotCalls
import HandS.SuiteRaise
import HandS.WordsExc
import HandS.ExcCtx
import PySem.Challenge.RW_paritypool_k29_repairs
set_option Elab.async false
set_option linter.all false
set_option maxRecDepth 100000
set_option maxHeartbeats 2000000
namespace PySem
open Sem (wp)
namespace ZS

abbrev ZOb (h : Heap) (z TI TO : Addr) (f0 f1 : Value) : Prop :=
  h.get? z = some { cls := .type "zip", dict := none, data := .fields #[f0, f1, .bool false, .ref TI, .ref TO], slots := #[] }
abbrev refs1 (ps : List (Addr × Addr × Bool)) : List Value := ps.map fun p => .ref p.1
abbrev ZTup (h : Heap) (T : Addr) (xs : List Value) : Prop := h.get? T = some { cls := .type "tuple", data := .seq xs.toArray }
structure ZApart (z TI TO : Addr) (ps : List (Addr × Addr × Bool)) : Prop where
  TIz : TI ≠ z
  TOz : TO ≠ z
  TITO : TI ≠ TO
  it : ∀ p ∈ ps, p.1 ≠ z ∧ p.1 ≠ TI ∧ p.1 ≠ TO
  ls : ∀ p ∈ ps, p.2.1 ≠ z ∧ p.2.1 ≠ TO ∧ ∀ q ∈ ps, p.2.1 ≠ q.1
  nd : (ps.map (·.1)).Nodup
abbrev F0 (f : Value) : Prop := f = .none ∨ ∃ (a : Int) (t : Tok), f = .int a t
abbrev Keep (z TO : Addr) (ps : List (Addr × Addr × Bool)) (h h' : Heap) : Prop := ∀ c o, c ≠ z → c ≠ TO → (∀ p ∈ ps, c ≠ p.1) → h.get? c = some o → h'.get? c = some o

def clsI (k : Bool) : String := if k then "tuple_iterator" else "list_iterator"
def clsS (k : Bool) : String := if k then "tuple" else "list"
/-- an iterator over the list or tuple l, at its i-th item -/
def It1 (h : Heap) (it : Addr) (l : Addr × Bool) (i : Nat) : Prop := ∃ o, h.get? it = some o ∧ o.cls = .type (clsI l.2) ∧ o.data = .fields #[.ref l.1, .int i 0]
def Sq1 (h : Heap) (l : Addr × Bool) (items : Array Value) : Prop := ∃ o, h.get? l.1 = some o ∧ o.cls = .type (clsS l.2) ∧ ∃ n, o.data = .seq items n
theorem It1.extBut {h h' : Heap} {a b : Addr} {l : Addr × Bool} {i : Nat} (x : It1 h a l i) (hs : Heap.ExtBut b h h') (hab : a ≠ b) : It1 h' a l i := let ⟨o, ho, r⟩ := x; ⟨o, hs a o hab ho, r⟩
theorem It1.at {h h' : Heap} {a : Addr} {l : Addr × Bool} {i : Nat} (x : It1 h a l i) (hs : ∀ o, h.get? a = some o → h'.get? a = some o) : It1 h' a l i := let ⟨o, ho, r⟩ := x; ⟨o, hs o ho, r⟩
theorem Sq1.extBut {h h' : Heap} {b : Addr} {l : Addr × Bool} {xs : Array Value} (x : Sq1 h l xs) (hs : Heap.ExtBut b h h') (hab : l.1 ≠ b) : Sq1 h' l xs := let ⟨o, ho, r⟩ := x; ⟨o, hs l.1 o hab ho, r⟩
theorem nd_mid {ps1 ps2 : List (Addr × Addr × Bool)} {p : Addr × Addr × Bool} (h : ((ps1 ++ p :: ps2).map (·.1)).Nodup) : (∀ q ∈ ps1, q.1 ≠ p.1) ∧ (∀ q ∈ ps2, q.1 ≠ p.1) := by
  rw [List.map_append, List.map_cons, List.nodup_append] at h
  obtain ⟨_, h2, h3⟩ := h
  rw [List.nodup_cons] at h2
  exact ⟨fun q hq e => h3 q.1 (List.mem_map_of_mem hq) p.1 (by simp) e, fun q hq e => h2.1 (by rw [← e]; exact List.mem_map_of_mem hq)⟩

section
variable {prog : Program} {w : World} {A : Around} {E : Value → Shared → Prop} {s : Shared}

theorem nextOf_item {it : Addr} {l : Addr × Bool} {i : Nat} {items : Array Value} {x : Value} {Q : Value → Shared → Prop} (hit : It1 s.heap it l i)
    (hl : Sq1 s.heap l items) (hx : items[i]? = some x) (hQ : ∀ h', It1 h' it l (i + 1) → Heap.SameBut it s.heap h' → Q x { s with heap := h' }) :
    wpAny (model prog w) A (Builtin.SmallTypes.nextOf (.ref it)) Q E s := by
  obtain ⟨l, k⟩ := l
  cases k with
  | false => exact wpAny_nextOf_list_item hit hl hx hQ
  | true => exact RZ.nextOf_tuple_item hit hl hx hQ
theorem nextOf_end {it : Addr} {l : Addr × Bool} {i : Nat} {items : Array Value} {Q : Value → Shared → Prop} (hh : A.handled = none) (hit : It1 s.heap it l i)
    (hl : Sq1 s.heap l items) (hx : items[i]? = none) (hE : ∀ h' e, Heap.ExtBut it s.heap h' → (∃ o, h'.get? e = some o ∧ o.cls = .type "StopIteration") → E (.ref e) { s with heap := h' }) :
    wpAny (model prog w) A (Builtin.SmallTypes.nextOf (.ref it)) Q E s := by
  obtain ⟨l, k⟩ := l
  cases k with
  | false => exact wpAny_nextOf_list_end hh hit hl hx hE
  | true => exact RZ.nextOf_tuple_end hh hit hl hx hE
theorem pyIter_sq {l : Addr × Bool} {items : Array Value} {Q : Value → Shared → Prop} (hl : Sq1 s.heap l items)
    (hQ : Q (.ref s.heap.objs.size) { s with heap := s.heap.push { cls := .type (clsI l.2), data := .fields #[.ref l.1, .int 0 0] } }) : wpAny (model prog w) A (pyIter (.ref l.1)) Q E s := by
  obtain ⟨l, k⟩ := l
  cases k with
  | false => exact wpAny_pyIter_list hl hQ
  | true => exact wpAny_pyIter_tuple hl hQ
theorem updTup {T : Addr} {xs : List Value} {k : Nat} {x : Value} {Q : Unit → Shared → Prop} (hT : ZTup s.heap T xs) (hz : xs.length ≤ sizeLine)
    (h : ∀ h', ZTup h' T (xs.set k x) → Heap.SameBut T s.heap h' → Q () { s with heap := h' }) :
    wpAny (model prog w) A (updateSeq T (·.setIfInBounds k x)) Q E s := by
  refine wpAny_updateSeq hT rfl (h _ ?_ (Heap.SameBut.update ..)) (by simpa using hz) (by simp; omega)
  rw [ZTup, Heap.get?_update_self _ hT rfl]
  simp [Obj.mapSeq]

theorem wpAny_loadIfAlive {M : Model} {a : Addr} {Q : Option Obj → Shared → Prop} (h : Q (s.heap.get? a) s) : wpAny M A (loadIfAlive a) Q E s := fun _ _ _ => h
/-- the check whether the tuple is free: it may mark the zip object -/
theorem freeCheck {z TI TO : Addr} {f0 f1 : Value} {Q : Bool → Shared → Prop} (hz : ZOb s.heap z TI TO f0 f1) (hf : F0 f0)
    (h1 : Q true s) (h2 : ∀ h' f1', ZOb h' z TI TO f0 f1' → Heap.SameBut z s.heap h' → Q false { s with heap := h' }) :
    wpAny (model prog w) A (Builtin.SmallTypes.ownedTupleIsFree (.ref z)) Q E s := by
  unfold Builtin.SmallTypes.ownedTupleIsFree
  refine wpAny_bind (wpAny_field hz rfl (x := f0) rfl ?_)
  rcases hf with rfl | ⟨a, t, rfl⟩
  · exact wpAny_pure h1
  · refine wpAny_bind (wpAny_loadIfAlive ?_)
    cases hg : s.heap.get? a.toNat with
    | none => exact wpAny_pure h1
    | some o =>
      show wpAny _ _ (field (.ref z) 1 >>= _) _ _ _
      refine wpAny_bind (wpAny_field hz rfl (x := f1) rfl ?_)
      dsimp only
      split
      · refine wpAny_bind (wpAny_setField_rec hz (by simp) fun h₁ hz₁ hs₁ => ?_)
        exact wpAny_pure (h2 h₁ _ hz₁ hs₁)
      · exact wpAny_pure (h2 s.heap f1 hz ⟨rfl, fun _ _ => rfl⟩)

/-- one turn of zip(*lists): each list has an item at i -/
theorem zipS_next_item {z TI TO : Addr} {ps : List (Addr × Addr × Bool)} {i : Nat} {val : Addr × Bool → Value} {f0 f1 : Value} {ts : List Value} {Q : Value → Shared → Prop} (D : ZApart z TI TO ps)
    (hz : ZOb s.heap z TI TO f0 f1) (hf : F0 f0) (hTI : ZTup s.heap TI (refs1 ps)) (hTO : ZTup s.heap TO ts) (hts : ts.length = ps.length) (hn : ps.length ≤ sizeLine) (hne : ps ≠ [])
    (hit : ∀ p ∈ ps, It1 s.heap p.1 p.2 i) (hv : ∀ p ∈ ps, ∃ items, Sq1 s.heap p.2 items ∧ items[i]? = some (val p.2))
    (hQ : ∀ h' f0' f1', ZOb h' z TI TO f0' f1' → F0 f0' → (∃ ts', ZTup h' TO ts' ∧ ts'.length = ps.length) → (∀ p ∈ ps, It1 h' p.1 p.2 (i + 1)) → ZTup h' s.heap.objs.size (ps.map fun p => val p.2) →
      Keep z TO ps s.heap h' → Q (.ref s.heap.objs.size) { s with heap := h' }) :
    wpAny (model prog w) A (Builtin.«zip.__next__» ⟨[.ref z], []⟩) (fun fin s' => ∃ v, fin = .done (.ret v) ∧ Q v s') E s := by
  show wpAny _ _ (field (.ref z) 2 >>= _) _ _ _
  refine wpAny_bind (wpAny_field hz rfl (x := .bool false) rfl ?_)
  show wpAny _ _ (field (.ref z) 3 >>= _) _ _ _
  refine wpAny_bind (wpAny_field hz rfl (x := .ref TI) rfl ?_)
  refine wpAny_bind (wpAny_seqItems hTI rfl ?_)
  have hem : (refs1 ps).toArray.isEmpty = false := by cases ps with | nil => exact absurd rfl hne | cons _ _ => rfl
  simp only [hem]
  have hzlt : z < s.heap.objs.size := Heap.lt_size hz
  have hTOlt : TO < s.heap.objs.size := Heap.lt_size hTO
  show wpAny _ _ (Builtin.SmallTypes.ownedTupleIsFree (.ref z) >>= _) _ _ _
  refine wpAny_bind (freeCheck hz hf ?_ fun hA f1A hzA hsA => ?_)
  · simp only [if_true]
    refine wpAny_bind (wpAny_rule ?_)
    refine wpAny_bind (wpAny_field hz rfl (x := .ref TO) rfl ?_)
    refine wpAny_bind (wpAny_setField_rec hz (by simp) fun h₁ hz₁ hs₁ => ?_)
    replace hz₁ : ZOb h₁ z TI TO .ellipsis f1 := hz₁
    refine wpAny_bind ?_
    refine wpAny_forIn_list _ (fun rest b s' => ∃ ps1 ps2, ps = ps1 ++ ps2 ∧ rest = (refs1 ps2).zipIdx ps1.length ∧ b = (none, ()) ∧ ∃ h', s' = { s with heap := h' } ∧ ZOb h' z TI TO .ellipsis f1 ∧
      (∃ ts', ZTup h' TO ((ps1.map fun p => val p.2) ++ ts') ∧ ts'.length = ps2.length) ∧ (∀ p ∈ ps1, It1 h' p.1 p.2 (i + 1)) ∧ (∀ p ∈ ps2, It1 h' p.1 p.2 i) ∧ h'.objs.size = s.heap.objs.size ∧ Keep z TO ps s.heap h') _ ?_ ?_ _ _ ?_
    · rintro ⟨u, k⟩ rest b s' ⟨ps1, ps2, e, er, rfl, h', rfl, hz', ⟨ts', hTO', hl'⟩, ha, hb, hsz, hk⟩
      cases ps2 with
      | nil => simp at er
      | cons p ps2 =>
        simp only [refs1, List.map_cons, List.zipIdx_cons, List.cons.injEq, Prod.mk.injEq] at er
        obtain ⟨⟨rfl, rfl⟩, rfl⟩ := er
        cases ts' with
        | nil => simp at hl'
        | cons y ts' =>
        have hmem : p ∈ ps := by rw [e]; simp
        obtain ⟨pz, pTI, pTO⟩ := D.it p hmem
        obtain ⟨lz, lTO, lit⟩ := D.ls p hmem
        obtain ⟨items, hli, hx⟩ := hv p hmem
        obtain ⟨nd1, nd2⟩ := nd_mid (by rw [← e]; exact D.nd)
        have hli' : Sq1 h' p.2 items := by obtain ⟨o, ho, r⟩ := hli; exact ⟨o, hk _ _ lz lTO (fun q hq => lit q hq) ho, r⟩
        refine wpAny_bind (wpAny_onRaise ?_)
        show wpAny _ _ (Builtin.SmallTypes.nextOf (.ref p.1) >>= _) _ _ _
        refine wpAny_bind (nextOf_item (s := { s with heap := h' }) (hb p (by simp)) hli' hx fun h₂ h1₂ hs₂ => wpAny_pure ?_)
        have hTO₂ : ZTup h₂ TO ((ps1.map fun p => val p.2) ++ y :: ts') := hs₂.extBut _ _ (Ne.symm pTO) hTO'
        refine wpAny_bind (wpAny_seqItems (s := { s with heap := h₂ }) hTO₂ rfl ?_)
        have hlen : ((ps1.map fun p => val p.2) ++ y :: ts').length ≤ sizeLine := by
          rw [e] at hn; simp at hn hl' ⊢; omega
        refine wpAny_bind (updTup (s := { s with heap := h₂ }) hTO₂ hlen fun h₃ hTO₃ hs₃ => ?_)
        refine wpAny_bind (wpAny_letGo (wpAny_pure ?_))
        refine ⟨ps1 ++ [p], ps2, by rw [e]; simp, by simp [refs1], rfl, h₃, rfl, hs₃.extBut _ _ (Ne.symm D.TOz) (hs₂.extBut _ _ (Ne.symm pz) hz'), ⟨ts', ?_, by simpa using hl'⟩, ?_, ?_, ?_, ?_⟩
        · have e3 : (((ps1.map fun p => val p.2) ++ y :: ts').set ps1.length (val p.2)) = ((ps1 ++ [p]).map fun p => val p.2) ++ ts' := by
            rw [List.set_append_right _ _ (by simp)]; simp
          rw [← e3]; exact hTO₃
        · intro q hq
          rcases List.mem_append.1 hq with hq | hq
          · have hqm : q ∈ ps := by rw [e]; simp [hq]
            exact ((ha q hq).extBut hs₂.extBut (nd1 q hq)).extBut hs₃.extBut (D.it q hqm).2.2
          · simp only [List.mem_singleton] at hq
            subst hq
            exact h1₂.extBut hs₃.extBut pTO
        · intro q hq
          have hqm : q ∈ ps := by rw [e]; simp [hq]
          exact ((hb q (by simp [hq])).extBut hs₂.extBut (nd2 q hq)).extBut hs₃.extBut (D.it q hqm).2.2
        · rw [hs₃.1, hs₂.1]; exact hsz
        · intro c o c1 c2 c3 e'
          exact hs₃.extBut _ _ c2 (hs₂.extBut _ _ (c3 p hmem) (hk c o c1 c2 c3 e'))
    · rintro b s' ⟨ps1, ps2, e, er, rfl, h', rfl, hz', ⟨ts', hTO', hl'⟩, ha, hb, hsz, hk⟩
      have e2 : ps2 = [] := by
        cases ps2 with
        | nil => rfl
        | cons p ps2 => simp [refs1] at er
      subst e2
      have e3 : ts' = [] := by simpa using hl'
      subst e3
      simp only [List.append_nil] at e hTO'
      subst e
      refine wpAny_bind (wpAny_seqItems (s := { s with heap := h' }) hTO' rfl ?_)
      refine wpAny_bind (wpAny_newTuple (s := { s with heap := h' }) ?_ (by simpa using hn))
      show wpAny _ _ (Builtin.SmallTypes.ownedTupleHandOut (.ref z) (.ref h'.objs.size) >>= _) _ _ _
      refine wpAny_bind ?_
      unfold Builtin.SmallTypes.ownedTupleHandOut
      have hz₆ : ZOb (h'.push { cls := .type "tuple", data := .seq (ps.map fun p => val p.2).toArray.toList.toArray }) z TI TO .ellipsis f1 := Heap.get?_push_of_some _ hz'
      refine wpAny_bind (wpAny_setField_rec hz₆ (by simp) fun h₇ hz₇ hs₇ => ?_)
      replace hz₇ : ZOb h₇ z TI TO (rawInt h'.objs.size) f1 := hz₇
      refine wpAny_setField_rec hz₇ (by simp) fun h₈ hz₈ hs₈ => ?_
      replace hz₈ : ZOb h₈ z TI TO (rawInt h'.objs.size) (.bool false) := hz₈
      have hzl' : z < h'.objs.size := by rw [hsz]; exact hzlt
      have up : ∀ c o, c ≠ z → h'.get? c = some o → h₈.get? c = some o := fun c o c1 e => hs₈.extBut _ _ c1 (hs₇.extBut _ _ c1 (Heap.get?_push_of_some _ e))
      have hT₈ : ZTup h₈ h'.objs.size (ps.map fun p => val p.2) := by
        have z0 := hs₈.extBut _ _ (Nat.ne_of_gt hzl') (hs₇.extBut _ _ (Nat.ne_of_gt hzl') (Heap.get?_push_size h' rfl))
        simpa using z0
      refine wpAny_pure ⟨_, rfl, ?_⟩
      show Q (.ref h'.objs.size) _
      rw [hsz] at hT₈ ⊢
      exact hQ h₈ _ _ hz₈ (.inr ⟨_, _, rfl⟩) ⟨_, up _ _ D.TOz hTO', by simp⟩ (fun p hp => (ha p hp).at fun o e => up _ o (D.it p hp).1 e) hT₈ fun c o c1 c2 c3 e => up c o c1 (hk c o c1 c2 c3 e)
    · refine ⟨[], ps, rfl, rfl, rfl, h₁, rfl, hz₁, ⟨ts, hs₁.extBut _ _ D.TOz hTO, hts⟩, by simp, fun p hp => (hit p hp).extBut hs₁.extBut (D.it p hp).1, hs₁.1, fun c o c1 _ _ e => hs₁.extBut _ _ c1 e⟩
  · simp only [Bool.false_eq_true, if_false]
    refine wpAny_bind ?_
    rw [← Array.forIn_toList]
    refine wpAny_forIn_list _ (fun rest b s' => ∃ ps1 ps2, ps = ps1 ++ ps2 ∧ rest = (refs1 ps2) ∧ b = (none, (ps1.map fun p => val p.2).toArray) ∧ ∃ h', s' = { s with heap := h' } ∧ ZOb h' z TI TO f0 f1A ∧ ZTup h' TO ts ∧
      (∀ p ∈ ps1, It1 h' p.1 p.2 (i + 1)) ∧ (∀ p ∈ ps2, It1 h' p.1 p.2 i) ∧ h'.objs.size = s.heap.objs.size ∧ Keep z TO ps s.heap h') _ ?_ ?_ _ _ ?_
    · rintro u rest b s' ⟨ps1, ps2, e, er, rfl, h', rfl, hz', hTO', ha, hb, hsz, hk⟩
      cases ps2 with
      | nil => simp at er
      | cons p ps2 =>
        simp only [refs1, List.map_cons, List.cons.injEq] at er
        obtain ⟨rfl, rfl⟩ := er
        have hmem : p ∈ ps := by rw [e]; simp
        obtain ⟨pz, pTI, pTO⟩ := D.it p hmem
        obtain ⟨lz, lTO, lit⟩ := D.ls p hmem
        obtain ⟨items, hli, hx⟩ := hv p hmem
        obtain ⟨nd1, nd2⟩ := nd_mid (by rw [← e]; exact D.nd)
        have hli' : Sq1 h' p.2 items := by obtain ⟨o, ho, r⟩ := hli; exact ⟨o, hk _ _ lz lTO (fun q hq => lit q hq) ho, r⟩
        refine wpAny_bind (wpAny_holding ?_)
        show wpAny _ _ (Builtin.SmallTypes.nextOf (.ref p.1) >>= _) _ _ _
        refine wpAny_bind (nextOf_item (s := { s with heap := h' }) (hb p (by simp)) hli' hx fun h₂ h1₂ hs₂ => wpAny_pure ?_)
        refine wpAny_pure ?_
        refine ⟨ps1 ++ [p], ps2, by rw [e]; simp, rfl, by simp, h₂, rfl, hs₂.extBut _ _ (Ne.symm pz) hz', hs₂.extBut _ _ (Ne.symm pTO) hTO', ?_, ?_, ?_, ?_⟩
        · intro q hq
          rcases List.mem_append.1 hq with hq | hq
          · exact (ha q hq).extBut hs₂.extBut (nd1 q hq)
          · simp only [List.mem_singleton] at hq
            subst hq
            exact h1₂
        · intro q hq
          exact (hb q (by simp [hq])).extBut hs₂.extBut (nd2 q hq)
        · rw [hs₂.1]; exact hsz
        · intro c o c1 c2 c3 e'
          exact hs₂.extBut _ _ (c3 p hmem) (hk c o c1 c2 c3 e')
    · rintro b s' ⟨ps1, ps2, e, er, rfl, h', rfl, hz', hTO', ha, hb, hsz, hk⟩
      have e2 : ps2 = [] := by
        cases ps2 with
        | nil => rfl
        | cons p ps2 => simp [refs1] at er
      subst e2
      simp only [List.append_nil] at e
      subst e
      refine wpAny_bind (wpAny_newTuple (s := { s with heap := h' }) ?_ (by simpa using hn))
      refine wpAny_pure ⟨_, rfl, ?_⟩
      show Q (.ref h'.objs.size) _
      have up : ∀ c o, h'.get? c = some o → (h'.push { cls := .type "tuple", data := .seq (ps.map fun p => val p.2).toArray.toList.toArray }).get? c = some o := fun c o e => Heap.get?_push_of_some _ e
      have hT : ZTup (h'.push { cls := .type "tuple", data := .seq (ps.map fun p => val p.2).toArray.toList.toArray }) h'.objs.size (ps.map fun p => val p.2) := by
        have z0 : (h'.push { cls := .type "tuple", data := .seq (ps.map fun p => val p.2).toArray.toList.toArray }).get? h'.objs.size = _ := Heap.get?_push_size h' rfl
        simpa using z0
      rw [hsz] at hT
      rw [hsz]
      exact hQ _ _ _ (up _ _ hz') hf ⟨_, up _ _ hTO', hts⟩ (fun p hp => (ha p hp).at fun o e => up _ o e) hT fun c o c1 c2 c3 e => up c o (hk c o c1 c2 c3 e)
    · refine ⟨[], ps, rfl, rfl, rfl, hA, rfl, hzA, hsA.extBut _ _ D.TOz hTO, by simp, fun p hp => (hit p hp).extBut hsA.extBut (D.it p hp).1, hsA.1, fun c o c1 _ _ e => hsA.extBut _ _ c1 e⟩

/-- the last turn of zip(*lists): the first list has ended -/
theorem zipS_next_end {z TI TO : Addr} {p : Addr × Addr × Bool} {ps : List (Addr × Addr × Bool)} {i : Nat} {f0 f1 : Value} {ts : List Value} {items : Array Value} {Q : Fin → Shared → Prop} (hh : A.handled = none) (D : ZApart z TI TO (p :: ps))
    (hz : ZOb s.heap z TI TO f0 f1) (hf : F0 f0) (hTI : ZTup s.heap TI (refs1 (p :: ps))) (hTO : ZTup s.heap TO ts)
    (hit : It1 s.heap p.1 p.2 i) (hl : Sq1 s.heap p.2 items) (hx : items[i]? = none)
    (hE : ∀ h' e, Keep z TO (p :: ps) s.heap h' → (∃ o, h'.get? e = some o ∧ o.cls = .type "StopIteration") → E (.ref e) { s with heap := h' }) :
    wpAny (model prog w) A (Builtin.«zip.__next__» ⟨[.ref z], []⟩) Q E s := by
  show wpAny _ _ (field (.ref z) 2 >>= _) _ _ _
  refine wpAny_bind (wpAny_field hz rfl (x := .bool false) rfl ?_)
  show wpAny _ _ (field (.ref z) 3 >>= _) _ _ _
  refine wpAny_bind (wpAny_field hz rfl (x := .ref TI) rfl ?_)
  refine wpAny_bind (wpAny_seqItems hTI rfl ?_)
  have hem : (refs1 (p :: ps)).toArray.isEmpty = false := rfl
  simp only [hem]
  obtain ⟨pz, pTI, pTO⟩ := D.it p (by simp)
  obtain ⟨lz, lTO, lit⟩ := D.ls p (by simp)
  show wpAny _ _ (Builtin.SmallTypes.ownedTupleIsFree (.ref z) >>= _) _ _ _
  refine wpAny_bind (freeCheck hz hf ?_ fun hA f1A hzA hsA => ?_)
  · simp only [if_true]
    refine wpAny_bind (wpAny_rule ?_)
    refine wpAny_bind (wpAny_field hz rfl (x := .ref TO) rfl ?_)
    refine wpAny_bind (wpAny_setField_rec hz (by simp) fun h₁ hz₁ hs₁ => ?_)
    replace hz₁ : ZOb h₁ z TI TO .ellipsis f1 := hz₁
    refine wpAny_bind ?_
    simp only [refs1, List.map_cons, List.zipIdx_cons, List.forIn_cons]
    refine wpAny_bind (wpAny_bind (wpAny_onRaise ?_))
    show wpAny _ _ (Builtin.SmallTypes.nextOf (.ref p.1) >>= _) _ _ _
    refine wpAny_bind (nextOf_end (s := { s with heap := h₁ }) hh (hit.extBut hs₁.extBut pz) (hl.extBut hs₁.extBut lz) hx fun h₂ e hs₂ he => ?_)
    obtain ⟨oe, hoe, hce⟩ := he
    have hz₂ : ZOb h₂ z TI TO .ellipsis f1 := hs₂ _ _ (Ne.symm pz) hz₁
    have hez : e ≠ z := fun x => by subst x; rw [hz₂] at hoe; cases hoe; simp at hce
    refine wpAny_setField_rec (s := { s with heap := h₂ }) hz₂ (by simp) fun h₃ _ hs₃ => hE h₃ e (fun c o c1 c2 c3 x => hs₃.extBut _ _ c1 (hs₂ _ _ (c3 p (by simp)) (hs₁.extBut _ _ c1 x))) ⟨oe, hs₃.extBut _ _ hez hoe, hce⟩
  · simp only [Bool.false_eq_true, if_false]
    refine wpAny_bind ?_
    rw [← Array.forIn_toList]
    simp only [refs1, List.map_cons, List.forIn_cons]
    refine wpAny_bind (wpAny_bind (wpAny_holding ?_))
    show wpAny _ _ (Builtin.SmallTypes.nextOf (.ref p.1) >>= _) _ _ _
    refine wpAny_bind (nextOf_end (s := { s with heap := hA }) hh (hit.extBut hsA.extBut pz) (hl.extBut hsA.extBut lz) hx fun h₂ e hs₂ he => ?_)
    exact hE h₂ e (fun c o c1 c2 c3 x => hs₂ _ _ (c3 p (by simp)) (hsA.extBut _ _ c1 x)) he

theorem pyNext_zipS_item {z TI TO : Addr} {ps : List (Addr × Addr × Bool)} {i : Nat} {val : Addr × Bool → Value} {f0 f1 : Value} {ts : List Value} {Q : Option Value → Shared → Prop} (D : ZApart z TI TO ps)
    (hz : ZOb s.heap z TI TO f0 f1) (hf : F0 f0) (hTI : ZTup s.heap TI (refs1 ps)) (hTO : ZTup s.heap TO ts) (hts : ts.length = ps.length) (hn : ps.length ≤ sizeLine) (hne : ps ≠ [])
    (hit : ∀ p ∈ ps, It1 s.heap p.1 p.2 i) (hv : ∀ p ∈ ps, ∃ items, Sq1 s.heap p.2 items ∧ items[i]? = some (val p.2))
    (hQ : ∀ h' f0' f1', ZOb h' z TI TO f0' f1' → F0 f0' → (∃ ts', ZTup h' TO ts' ∧ ts'.length = ps.length) → (∀ p ∈ ps, It1 h' p.1 p.2 (i + 1)) → ZTup h' s.heap.objs.size (ps.map fun p => val p.2) →
      Keep z TO ps s.heap h' → Q (some (.ref s.heap.objs.size)) { s with heap := h' }) :
    wpAny (model prog w) A (pyNext (.ref z)) Q E s := by
  have hT : s.TypeIs (.ref z) "zip" := ⟨_, hz, rfl⟩
  unfold pyNext
  exact wpAny_bind (wpAny_attempt (wpAny_callSpecial?_slot (name := Str.ofString "__next__") hT F.slot_zip_next
    (wpAny_call_entry F.slot_zip_next hT F.entry_zip_next
      (zipS_next_item D hz hf hTI hTO hts hn hne hit hv fun h' a b a1 a2 a3 a4 a5 a6 => wpAny_pure (hQ h' a b a1 a2 a3 a4 a5 a6)) (F.args_zip_next_1 _))))

theorem pyNext_zipS_end {z TI TO : Addr} {p : Addr × Addr × Bool} {ps : List (Addr × Addr × Bool)} {i : Nat} {f0 f1 : Value} {ts : List Value} {items : Array Value} {Q : Option Value → Shared → Prop} (hh : A.handled = none) (D : ZApart z TI TO (p :: ps))
    (hz : ZOb s.heap z TI TO f0 f1) (hf : F0 f0) (hTI : ZTup s.heap TI (refs1 (p :: ps))) (hTO : ZTup s.heap TO ts)
    (hit : It1 s.heap p.1 p.2 i) (hl : Sq1 s.heap p.2 items) (hx : items[i]? = none)
    (hQ : ∀ h', Keep z TO (p :: ps) s.heap h' → Q none { s with heap := h' }) : wpAny (model prog w) A (pyNext (.ref z)) Q E s := by
  have hT : s.TypeIs (.ref z) "zip" := ⟨_, hz, rfl⟩
  unfold pyNext
  refine wpAny_bind (wpAny_attempt (wpAny_callSpecial?_slot (name := Str.ofString "__next__") hT F.slot_zip_next
    (wpAny_call_entry F.slot_zip_next hT F.entry_zip_next (zipS_next_end hh D hz hf hTI hTO hit hl hx fun h' e hk he => ?_) (F.args_zip_next_1 _))))
  obtain ⟨o, ho, hc⟩ := he
  refine wpAny_bind (wpAny_isInstance (T := "StopIteration") (b := true) ⟨o, ho, hc⟩ isSubtype_stop ?_)
  exact wpAny_pure (hQ _ hk)

theorem pyIter_zipS {z TI TO : Addr} {f0 f1 : Value} {Q : Value → Shared → Prop} (hz : ZOb s.heap z TI TO f0 f1) (h : Q (.ref z) s) : wpAny (model prog w) A (pyIter (.ref z)) Q E s := by
  have hT : s.TypeIs (.ref z) "zip" := ⟨_, hz, rfl⟩
  refine wpAny_pyIter_slot hT F.slot_zip_iter (wpAny_call_entry F.slot_zip_iter hT F.entry_zip_iter ?_ (F.args_zip_iter_1 _))
  show wpAny _ _ (ret (.ref z)) _ _ s
  exact wpAny_pure ⟨_, rfl, "zip", _, hT, F.slot_zip_next.lookup, h⟩

/-- the iterators laid one behind the other -/
def laid (h : Heap) : List (Addr × Bool) → Heap
  | [] => h
  | l :: ls => laid (h.push { cls := .type (clsI l.2), data := .fields #[.ref l.1, .int 0 0] }) ls
abbrev refsL (ls : List (Addr × Bool)) : List Value := ls.map fun l => Value.ref l.1
def pairs (n : Nat) : List (Addr × Bool) → List (Addr × Addr × Bool)
  | [] => []
  | l :: ls => (n, l) :: pairs (n + 1) ls

theorem typeCall_zip (xs : List Value) : checkTypeCall "zip" ⟨xs, []⟩ = pure () := by kernel_rfl
theorem newCall_zip0 : checkBuiltinCall "zip.__new__" ⟨[.type "zip"], []⟩ = pure () := by kernel_rfl
theorem newCall_zip1 (a : Value) : checkBuiltinCall "zip.__new__" ⟨[.type "zip", a], []⟩ = pure () := by kernel_rfl
theorem newCall_zip2 (a b : Value) : checkBuiltinCall "zip.__new__" ⟨[.type "zip", a, b], []⟩ = pure () := by kernel_rfl
theorem newCall_zip3 (a b c : Value) : checkBuiltinCall "zip.__new__" ⟨[.type "zip", a, b, c], []⟩ = pure () := by kernel_rfl
theorem newCall_zip4 (a b c d : Value) : checkBuiltinCall "zip.__new__" ⟨[.type "zip", a, b, c, d], []⟩ = pure () := by kernel_rfl
theorem newCall_zip5 (a b c d e : Value) : checkBuiltinCall "zip.__new__" ⟨[.type "zip", a, b, c, d, e], []⟩ = pure () := by kernel_rfl
theorem newCall_zip6 (a b c d e f : Value) : checkBuiltinCall "zip.__new__" ⟨[.type "zip", a, b, c, d, e, f], []⟩ = pure () := by kernel_rfl
theorem newCall_zip7 (a b c d e f g : Value) : checkBuiltinCall "zip.__new__" ⟨[.type "zip", a, b, c, d, e, f, g], []⟩ = pure () := by kernel_rfl
theorem newCall_zip8 (a b c d e f g h : Value) : checkBuiltinCall "zip.__new__" ⟨[.type "zip", a, b, c, d, e, f, g, h], []⟩ = pure () := by kernel_rfl
theorem newCall_zip : ∀ xs : List Value, xs.length ≤ 8 → checkBuiltinCall "zip.__new__" ⟨.type "zip" :: xs, []⟩ = pure ()
  | [], _ => newCall_zip0 
  | [a], _ => newCall_zip1 a
  | [a, b], _ => newCall_zip2 a b
  | [a, b, c], _ => newCall_zip3 a b c
  | [a, b, c, d], _ => newCall_zip4 a b c d
  | [a, b, c, d, e], _ => newCall_zip5 a b c d e
  | [a, b, c, d, e, f], _ => newCall_zip6 a b c d e f
  | [a, b, c, d, e, f, g], _ => newCall_zip7 a b c d e f g
  | [a, b, c, d, e, f, g, h], _ => newCall_zip8 a b c d e f g h
  | _ :: _ :: _ :: _ :: _ :: _ :: _ :: _ :: _ :: r, h => absurd h (by simp only [List.length_cons]; omega)
theorem objInit_zip1 (o a : Value) : argsOk "object.__init__" ⟨[o, a], []⟩ := by
  unfold argsOk; rw [signature?_of (id := "object.__init__") (n := ['_', '_', 't', 'i', 'n', 'i', '_', '_']) (o := ['t', 'c', 'e', 'j', 'b', 'o']) (by kernel_rfl) F.owner_object]; kernel_rfl
theorem objInit_zip2 (o a b : Value) : argsOk "object.__init__" ⟨[o, a, b], []⟩ := by
  unfold argsOk; rw [signature?_of (id := "object.__init__") (n := ['_', '_', 't', 'i', 'n', 'i', '_', '_']) (o := ['t', 'c', 'e', 'j', 'b', 'o']) (by kernel_rfl) F.owner_object]; kernel_rfl
theorem objInit_zip3 (o a b c : Value) : argsOk "object.__init__" ⟨[o, a, b, c], []⟩ := by
  unfold argsOk; rw [signature?_of (id := "object.__init__") (n := ['_', '_', 't', 'i', 'n', 'i', '_', '_']) (o := ['t', 'c', 'e', 'j', 'b', 'o']) (by kernel_rfl) F.owner_object]; kernel_rfl
theorem objInit_zip4 (o a b c d : Value) : argsOk "object.__init__" ⟨[o, a, b, c, d], []⟩ := by
  unfold argsOk; rw [signature?_of (id := "object.__init__") (n := ['_', '_', 't', 'i', 'n', 'i', '_', '_']) (o := ['t', 'c', 'e', 'j', 'b', 'o']) (by kernel_rfl) F.owner_object]; kernel_rfl
theorem objInit_zip5 (o a b c d e : Value) : argsOk "object.__init__" ⟨[o, a, b, c, d, e], []⟩ := by
  unfold argsOk; rw [signature?_of (id := "object.__init__") (n := ['_', '_', 't', 'i', 'n', 'i', '_', '_']) (o := ['t', 'c', 'e', 'j', 'b', 'o']) (by kernel_rfl) F.owner_object]; kernel_rfl
theorem objInit_zip6 (o a b c d e f : Value) : argsOk "object.__init__" ⟨[o, a, b, c, d, e, f], []⟩ := by
  unfold argsOk; rw [signature?_of (id := "object.__init__") (n := ['_', '_', 't', 'i', 'n', 'i', '_', '_']) (o := ['t', 'c', 'e', 'j', 'b', 'o']) (by kernel_rfl) F.owner_object]; kernel_rfl
theorem objInit_zip7 (o a b c d e f g : Value) : argsOk "object.__init__" ⟨[o, a, b, c, d, e, f, g], []⟩ := by
  unfold argsOk; rw [signature?_of (id := "object.__init__") (n := ['_', '_', 't', 'i', 'n', 'i', '_', '_']) (o := ['t', 'c', 'e', 'j', 'b', 'o']) (by kernel_rfl) F.owner_object]; kernel_rfl
theorem objInit_zip8 (o a b c d e f g h : Value) : argsOk "object.__init__" ⟨[o, a, b, c, d, e, f, g, h], []⟩ := by
  unfold argsOk; rw [signature?_of (id := "object.__init__") (n := ['_', '_', 't', 'i', 'n', 'i', '_', '_']) (o := ['t', 'c', 'e', 'j', 'b', 'o']) (by kernel_rfl) F.owner_object]; kernel_rfl
theorem objInit_zip (o : Value) : ∀ xs : List Value, xs ≠ [] → xs.length ≤ 8 → argsOk "object.__init__" ⟨o :: xs, []⟩
  | [], h, _ => absurd rfl h
  | [a], _, _ => objInit_zip1 o a
  | [a, b], _, _ => objInit_zip2 o a b
  | [a, b, c], _, _ => objInit_zip3 o a b c
  | [a, b, c, d], _, _ => objInit_zip4 o a b c d
  | [a, b, c, d, e], _, _ => objInit_zip5 o a b c d e
  | [a, b, c, d, e, f], _, _ => objInit_zip6 o a b c d e f
  | [a, b, c, d, e, f, g], _, _ => objInit_zip7 o a b c d e f g
  | [a, b, c, d, e, f, g, h], _, _ => objInit_zip8 o a b c d e f g h
  | _ :: _ :: _ :: _ :: _ :: _ :: _ :: _ :: _ :: r, _, h => absurd h (by simp only [List.length_cons]; omega)

theorem laid_append (h : Heap) : ∀ (l1 l2 : List (Addr × Bool)), laid h (l1 ++ l2) = laid (laid h l1) l2
  | [], _ => rfl
  | l :: l1, l2 => laid_append _ l1 l2
theorem laid_size : ∀ (ls : List (Addr × Bool)) (h : Heap), (laid h ls).objs.size = h.objs.size + ls.length
  | [], _ => rfl
  | l :: ls, h => by rw [laid, laid_size ls, Heap.size_push, List.length_cons]; omega
theorem laid_keep : ∀ (ls : List (Addr × Bool)) (h : Heap) (c : Addr) (o : Obj), h.get? c = some o → (laid h ls).get? c = some o
  | [], _, _, _, e => e
  | _ :: ls, _, c, o, e => laid_keep ls _ c o (Heap.get?_push_of_some _ e)
theorem pairs_append (n : Nat) : ∀ (l1 l2 : List (Addr × Bool)), pairs n (l1 ++ l2) = pairs n l1 ++ pairs (n + l1.length) l2
  | [], _ => by simp [pairs]
  | l :: l1, l2 => by
    simp only [List.cons_append, pairs, pairs_append (n + 1) l1 l2, List.length_cons]
    rw [show n + 1 + l1.length = n + (l1.length + 1) by omega]
theorem pairs_snd : ∀ (ls : List (Addr × Bool)) (n : Nat), (pairs n ls).map (·.2) = ls
  | [], _ => rfl
  | l :: ls, n => by simp [pairs, pairs_snd ls]
theorem pairs_len (ls : List (Addr × Bool)) (n : Nat) : (pairs n ls).length = ls.length := by rw [← List.length_map (f := (·.2)), pairs_snd]
theorem pairs_ge : ∀ (ls : List (Addr × Bool)) (n : Nat) (p : Addr × Addr × Bool), p ∈ pairs n ls → n ≤ p.1 ∧ p.1 < n + ls.length ∧ p.2 ∈ ls
  | [], _, _, h => by simp [pairs] at h
  | l :: ls, n, p, h => by
    simp only [pairs, List.mem_cons] at h
    rcases h with rfl | h
    · simp
    · obtain ⟨a, b, c⟩ := pairs_ge ls _ p h
      simp only [List.length_cons, List.mem_cons]
      exact ⟨Nat.le_trans (Nat.le_succ n) a, Nat.lt_of_lt_of_eq (m := n + 1 + ls.length) b (by omega), .inr c⟩
theorem pairs_nd : ∀ (ls : List (Addr × Bool)) (n : Nat), ((pairs n ls).map (·.1)).Nodup
  | [], _ => by simp [pairs]
  | l :: ls, n => by
    simp only [pairs, List.map_cons, List.nodup_cons, List.mem_map]
    refine ⟨?_, pairs_nd ls _⟩
    rintro ⟨p, hp, e⟩
    have q := (pairs_ge ls _ p hp).1
    rw [e] at q
    exact absurd q (Nat.not_succ_le_self n)
theorem laid_iter : ∀ (ls : List (Addr × Bool)) (h : Heap) (p : Addr × Addr × Bool), p ∈ pairs h.objs.size ls → It1 (laid h ls) p.1 p.2 0
  | [], _, _, h => by simp [pairs] at h
  | l :: ls, h, p, hp => by
    simp only [pairs, List.mem_cons] at hp
    rcases hp with rfl | hp
    · exact ⟨_, laid_keep ls _ _ _ (Heap.get?_push_size _ rfl), rfl, rfl⟩
    · refine laid_iter ls _ p ?_
      rw [Heap.size_push]; exact hp

theorem wpAny_iterAll {ls : List (Addr × Bool)} {Q : List Value → Shared → Prop} (hl : ∀ l ∈ ls, ∃ items, Sq1 s.heap l items)
    (hQ : Q (refs1 (pairs s.heap.objs.size ls)) { s with heap := laid s.heap ls }) :
    wpAny (model prog w) A (Builtin.SmallTypes.iterAll ((refsL ls))) Q E s := by
  unfold Builtin.SmallTypes.iterAll
  refine wpAny_bind ?_
  refine wpAny_forIn_list _ (fun rest b s' => ∃ l1 l2, ls = l1 ++ l2 ∧ rest = (refsL l2) ∧ b = (refs1 (pairs s.heap.objs.size l1)).toArray ∧ s' = { s with heap := laid s.heap l1 }) _ ?_ ?_ _ _ ⟨[], ls, rfl, rfl, rfl, rfl⟩
  · rintro u rest b s' ⟨l1, l2, e, er, rfl, rfl⟩
    cases l2 with
    | nil => simp at er
    | cons l l2 =>
      simp only [List.map_cons, List.cons.injEq] at er
      obtain ⟨rfl, rfl⟩ := er
      obtain ⟨items, o, ho, r⟩ := hl l (by rw [e]; simp)
      refine wpAny_bind (wpAny_holding (pyIter_sq (l := l) (s := { s with heap := laid s.heap l1 }) (items := items) ⟨o, laid_keep l1 _ _ _ ho, r⟩ (wpAny_pure ?_)))
      refine ⟨l1 ++ [l], l2, by rw [e]; simp, rfl, ?_, ?_⟩
      · rw [pairs_append, laid_size]; simp [pairs, refs1]
      · rw [laid_append]; rfl
  · rintro b s' ⟨l1, l2, e, er, rfl, rfl⟩
    have e2 : l2 = [] := by simpa using er.symm
    subst e2
    simp only [List.append_nil] at e
    subst e
    exact wpAny_pure hQ

abbrev newH1 (h : Heap) (ls : List (Addr × Bool)) : Heap := (laid h ls).push { cls := .type "tuple", data := .seq (refs1 (pairs h.objs.size ls)).toArray }
abbrev newH2 (h : Heap) (ls : List (Addr × Bool)) : Heap := (newH1 h ls).push { cls := .type "tuple", data := .seq ((refs1 (pairs h.objs.size ls)).map fun _ => Value.none).toArray }
abbrev newH3 (h : Heap) (ls : List (Addr × Bool)) : Heap := (newH2 h ls).push { cls := .type "zip", data := .fields #[.none, .bool false, .bool false, .ref (laid h ls).objs.size, .ref (newH1 h ls).objs.size] }

theorem meets_zipS_new (ls : List (Addr × Bool)) (hn : ls.length ≤ sizeLine) :
    Meets (Builtin.«zip.__new__» ⟨.type "zip" :: (refsL ls), []⟩) (fun _ R s => (∀ l ∈ ls, ∃ items, Sq1 s.heap l items) ∧
      R (.ok (.ret (.ref (newH2 s.heap ls).objs.size))) { s with heap := newH3 s.heap ls }) :=
  .of_wp fun prog w A R s h => by
    obtain ⟨hp, g, d, tk, os⟩ := s; obtain ⟨hl, h⟩ := h
    have hsub := sub_zip
    have hn' : (refs1 (pairs hp.objs.size ls)).length ≤ sizeLine := by rw [List.length_map, pairs_len]; exact hn
    have hI : ∀ {A' : Around} {Q E}, Q (refs1 (pairs hp.objs.size ls)) ⟨laid hp ls, g, d, tk, os⟩ → wpAny (model prog w) A' (Builtin.SmallTypes.iterAll ((refsL ls))) Q E ⟨hp, g, d, tk, os⟩ := fun q => wpAny_iterAll hl q
    wp_walk using hI
    have z1 := @wpAny_newTuple (model prog w) A.in1 (fun e s' => R (Except.error e) s') ⟨laid hp ls, g, d, tk, os⟩ (refs1 (pairs hp.objs.size ls))
    refine z1 ?_ hn'
    refine wpAny_bind (wpAny_newTuple ?_ (by rw [List.length_map]; exact hn'))
    wp_walk using hI
    exact ⟨_, rfl, h⟩

theorem call_zipS {ls : List (Addr × Bool)} {Q : Value → Shared → Prop} (hne : ls ≠ []) (h8 : ls.length ≤ 8) (hl : ∀ l ∈ ls, ∃ items, Sq1 s.heap l items)
    (h : ∀ h', ZOb h' (s.heap.objs.size + ls.length + 2) (s.heap.objs.size + ls.length) (s.heap.objs.size + ls.length + 1) .none (.bool false) → ZTup h' (s.heap.objs.size + ls.length) (refs1 (pairs s.heap.objs.size ls)) →
      (∃ ts, ZTup h' (s.heap.objs.size + ls.length + 1) ts ∧ ts.length = ls.length) → (∀ p ∈ pairs s.heap.objs.size ls, It1 h' p.1 p.2 0) →
      (∀ c o, s.heap.get? c = some o → h'.get? c = some o) → Q (.ref (s.heap.objs.size + ls.length + 2)) { s with heap := h' }) :
    wpAny (model prog w) A (call (.type "zip") ((refsL ls))) Q E s := by
  have hne' : (refsL ls) ≠ [] := by cases ls with | nil => exact absurd rfl hne | cons _ _ => simp
  have h8' : ((refsL ls)).length ≤ 8 := by rw [List.length_map]; exact h8
  refine callType_new F.called_zip (by decide) (typeCall_zip _) (newCall_zip _ h8') (fun obj => objInit_zip obj _ hne' h8') F.entry_zip_new
    (meets_zipS_new ls (Nat.le_trans h8 (by decide))) ⟨hl, ?_⟩
  have z0 : (laid s.heap ls).objs.size = s.heap.objs.size + ls.length := laid_size ..
  have z1 : (newH1 s.heap ls).objs.size = s.heap.objs.size + ls.length + 1 := by rw [Heap.size_push, z0]
  have z2 : (newH2 s.heap ls).objs.size = s.heap.objs.size + ls.length + 2 := by rw [Heap.size_push, z1]
  have g3 : (newH3 s.heap ls).get? (newH2 s.heap ls).objs.size = some _ := Heap.get?_push_size _ rfl
  have g2 : (newH3 s.heap ls).get? (newH1 s.heap ls).objs.size = some _ := Heap.get?_push_of_some _ (Heap.get?_push_size _ rfl)
  have g1 : (newH3 s.heap ls).get? (laid s.heap ls).objs.size = some _ := Heap.get?_push_of_some _ (Heap.get?_push_of_some _ (Heap.get?_push_size _ rfl))
  have up : ∀ c o, (laid s.heap ls).get? c = some o → (newH3 s.heap ls).get? c = some o := fun c o e => Heap.get?_push_of_some _ (Heap.get?_push_of_some _ (Heap.get?_push_of_some _ e))
  show _ ∧ _
  rw [z0, z1, z2] at g3
  rw [z1] at g2
  rw [z0] at g1
  rw [z2]
  refine ⟨⟨_, g3, rfl⟩, h _ g3 g1 ⟨_, g2, ?_⟩ (fun p hp => (laid_iter ls _ p hp).at fun o e => up _ o e) fun c o e => up c o (laid_keep ls _ c o e)⟩
  simp [pairs_len]
end
end ZS
end PySem
namespace L2
open PySem PySem.Spec PyProof.Rows PySem.ZS

/-- a list or a tuple -/
def SqA (K : PySem.W.Frag) (H : Hp) (l : Addr × Bool) (xs : List V) : Prop := match l with
  | (a, true) => SqT K H a xs
  | (a, false) => SqL K H a xs
theorem Inv.sqA {X : Cx} {pins : List (Addr × Obj)} {σ : St} {H : Hp} {s : Shared} {l : Addr × Bool} {xs : List V} (I : Inv X pins σ H s) (h : SqA X.K H l xs) : ∃ its : List Value, Vals xs its ∧ Sq1 s.heap l its.toArray := by
  obtain ⟨a, k⟩ := l
  cases k with
  | false => obtain ⟨its, r, p, _⟩ := I.list h; exact ⟨its, r, p.isList⟩
  | true => obtain ⟨its, r, ⟨o, ho, hc, n, hd⟩, _⟩ := I.tuple h; exact ⟨its, r, ⟨o, ho, hc, n, hd⟩⟩
theorem Inv.sqA_inj {X : Cx} {pins : List (Addr × Obj)} {σ : St} {H : Hp} {s : Shared} {l : Addr × Bool} {xs ys : List V} (I : Inv X pins σ H s) (h : SqA X.K H l xs) (h' : SqA X.K H l ys) : xs = ys := by
  obtain ⟨a, k⟩ := l
  cases k with
  | false => exact I.list_inj h h'
  | true => exact I.tuple_inj h h'
theorem Sq1.lt {h : Heap} {l : Addr × Bool} {xs : Array Value} (x : Sq1 h l xs) : l.1 < h.objs.size := by obtain ⟨o, ho, _⟩ := x; exact Heap.lt_size ho
/-- the step ahead of the store -/
theorem letGo_zipS {A : Around} {E : Value → Shared → Prop} {s : Shared} {prog : Program} {w : World} {z TI TO T : Addr} {f0 f1 : Value} {Q : Unit → Shared → Prop} (tg : Expr) (hz : ZOb s.heap z TI TO f0 f1) (hf : F0 f0)
    (hQ : ∀ h' f0', ZOb h' z TI TO f0' f1 → F0 f0' → Heap.SameBut z s.heap h' → Q () { s with heap := h' }) : wpAny (model prog w) A (letOwnedTupleGo tg (.ref z) (.ref T)) Q E s := by
  have h0 : Q () s := hQ s.heap f0 hz hf ⟨rfl, fun _ _ => rfl⟩
  unfold letOwnedTupleGo
  cases tg <;> first
    | exact wpAny_pure h0
    | (refine wpAny_bind (wpAny_load hz ?_)
       show wpAny _ _ (if (["enumerate", "zip", "dict_itemiterator", "dict_reverseitemiterator", "odict_iterator", "itertools.zip_longest", "itertools.pairwise"].contains "zip" &&
          (#[f0, f1, .bool false, .ref TI, .ref TO] : Array Value)[0]? == some (rawInt T)) = true then _ else _) Q E s
       split
       · refine wpAny_bind (wpAny_rule ?_)
         show wpAny _ _ (setField (.ref z) 0 .none) Q E s
         exact wpAny_setField_rec hz (by simp) fun h' hz' hs' => hQ h' .none hz' (.inl rfl) hs'
       · exact wpAny_pure h0)

/-- what a turn of zip(*lists) hands out: the i-th items -/
def Cols (K : PySem.W.Frag) (H : Hp) (i : Nat) : List (Addr × Bool) → List V → Prop
  | [], [] => True
  | l :: ls, y :: ys => (∀ xs, SqA K H l xs → xs[i]? = some y) ∧ Cols K H i ls ys
  | _, _ => False
def Itn (K : PySem.W.Frag) (ls : List (Addr × Bool)) : It :=
  ⟨fun i H => ∀ l ∈ ls, ∃ (xs : List V) (x : V), SqA K H l xs ∧ xs[i]? = some x, fun i H v H' => ∃ T ys, v = .ref T ∧ H T = none ∧ H' = upd H T (.tup ys) ∧ Cols K H i ls ys,
    fun i H => ∃ l ls' xs, ls = l :: ls' ∧ SqA K H l xs ∧ xs.length ≤ i⟩
theorem cols_of {K : PySem.W.Frag} {H : Hp} {i : Nat} {val : Addr × Bool → Value} : ∀ (ls : List (Addr × Bool)), (∀ l ∈ ls, ∃ y, (∀ xs, SqA K H l xs → xs[i]? = some y) ∧ RelV y (val l)) → ∃ ys, Cols K H i ls ys ∧ Vals ys (ls.map val) ∧ ys.length = ls.length
  | [], _ => ⟨[], trivial, .nil, rfl⟩
  | l :: ls, h => by
    obtain ⟨y, hy, r⟩ := h l (by simp)
    obtain ⟨ys, c, rv, hl⟩ := cols_of ls fun l' hl => h l' (by simp [hl])
    exact ⟨y :: ys, ⟨hy, c⟩, .cons r rv, by simp [hl]⟩
def itemAt (h : Heap) (i : Nat) (l : Addr × Bool) : Value :=
  match h.get? l.1 with
  | some o => match o.data with
    | .seq a _ => a[i]?.getD .none
    | _ => .none
  | none => .none
theorem itemAt_of {h : Heap} {i : Nat} {l : Addr × Bool} {items : Array Value} {u : Value} (hl : Sq1 h l items) (hu : items[i]? = some u) : itemAt h i l = u := by
  obtain ⟨o, ho, _, n, hd⟩ := hl
  simp [itemAt, ho, hd, hu]

theorem turn_zipS {P : Program} {w : World} {K : PySem.W.Frag} {tg : Expr} {z TI TO : Addr} {ps : List (Addr × Addr × Bool)} (D : ZApart z TI TO ps) (hne : ps ≠ []) (hn : ps.length ≤ sizeLine) :
    Turn P w K tg (Itn K (ps.map (·.2))) (z :: TI :: TO :: ps.map (·.1)) z
      (fun i h => (∃ f0 f1, ZOb h z TI TO f0 f1 ∧ F0 f0) ∧ ZTup h TI (refs1 ps) ∧ (∃ ts, ZTup h TO ts ∧ ts.length = ps.length) ∧ ∀ p ∈ ps, It1 h p.1 p.2 i) where
  mem := by simp
  obj := fun i h st c hc => by
    obtain ⟨⟨f0, f1, hz, _⟩, hTI, ⟨ts, hTO, _⟩, hit⟩ := st
    rcases List.mem_cons.1 hc with q | hc
    · rw [q]; exact ⟨_, hz, fun v q => nomatch q⟩
    rcases List.mem_cons.1 hc with q | hc
    · rw [q]; exact ⟨_, hTI, fun v q => nomatch q⟩
    rcases List.mem_cons.1 hc with q | hc
    · rw [q]; exact ⟨_, hTO, fun v q => nomatch q⟩
    obtain ⟨p, hp, rfl⟩ := List.mem_map.1 hc
    obtain ⟨o, e, _, d⟩ := hit p hp
    exact ⟨o, e, fun v q => by rw [d] at q; cases q⟩
  keep := fun i h h' st k => by
    obtain ⟨⟨f0, f1, hz, hf⟩, hTI, ⟨ts, hTO, hts⟩, hit⟩ := st
    exact ⟨⟨f0, f1, k z (by simp) _ hz, hf⟩, k TI (by simp) _ hTI, ⟨ts, k TO (by simp) _ hTO, hts⟩, fun p hp => (hit p hp).at fun o e => k p.1 (by simp only [List.mem_cons, List.mem_map]; exact .inr (.inr (.inr ⟨p, hp, rfl⟩))) o e⟩
  item := by
    intro X hP hw hK hc i pins s σ H E I hf st hg
    subst hP hw hK
    obtain ⟨⟨f0, f1, hz, hf0⟩, hTI, ⟨ts, hTO, hts⟩, hit⟩ := st
    have hv0 : ∀ p ∈ ps, ∃ y items, (∀ xs, SqA X.K H p.2 xs → xs[i]? = some y) ∧ RelV y (itemAt s.heap i p.2) ∧ Sq1 s.heap p.2 items ∧ items[i]? = some (itemAt s.heap i p.2) := fun p hp => by
      obtain ⟨xs, y, hq, hy⟩ := hg p.2 (List.mem_map_of_mem hp)
      obtain ⟨its, rv, pl⟩ := I.sqA hq
      obtain ⟨u, hu, ru⟩ := rv.get hy
      have hu' : its.toArray[i]? = some u := by simpa using hu
      have e := itemAt_of pl hu'
      exact ⟨y, its.toArray, fun xs' h' => by rw [I.sqA_inj h' hq]; exact hy, by rw [e]; exact ru, pl, by rw [e]; exact hu'⟩
    obtain ⟨ys, hcols, hvals, hlen⟩ := cols_of (K := X.K) (H := H) (i := i) (val := itemAt s.heap i) (ps.map (·.2)) fun l hl => by
      obtain ⟨p, hp, rfl⟩ := List.mem_map.1 hl
      obtain ⟨y, _, a, b, _⟩ := hv0 p hp
      exact ⟨y, a, b⟩
    refine pyNext_zipS_item D hz hf0 hTI hTO hts hn hne hit (val := itemAt s.heap i) (fun p hp => by obtain ⟨_, items, _, _, a, b⟩ := hv0 p hp; exact ⟨items, a, b⟩) fun h' f0' f1' z' hf0' ⟨ts', TO', hts'⟩ hit' hT hk => ?_
    refine ⟨_, rfl, letGo_zipS (s := { s with heap := h' }) tg z' hf0' fun h2 f0'' z'' hf0'' sb => ?_⟩
    have hTz : s.heap.objs.size ≠ z := Nat.ne_of_gt (Heap.lt_size hz)
    replace hk : Keep z TO ps s.heap h2 := fun c o c1 c2 c3 e => (sb.2 c c1).trans (hk c o c1 c2 c3 e)
    replace hT : ZTup h2 s.heap.objs.size (ps.map fun p => itemAt s.heap i p.2) := (sb.2 _ hTz).trans hT
    replace TO' : ZTup h2 TO ts' := (sb.2 _ D.TOz).trans TO'
    replace hit' : ∀ p ∈ ps, It1 h2 p.1 p.2 (i + 1) := fun p hp => (hit' p hp).at fun o e => (sb.2 _ (D.it p hp).1).trans e
    have hT' : h2.get? s.heap.objs.size = some { cls := .type "tuple", data := .seq ((ps.map (·.2)).map (itemAt s.heap i)).toArray } := by rw [List.map_map]; exact hT
    have new : ObjOk X.prog X.w (upd H s.heap.objs.size (.tup ys)) h2 s.heap.objs.size (.tup ys) :=
      ⟨by show ys.length ≤ sizeLine; rw [hlen, List.length_map]; exact hn, _, hvals, ⟨_, hT', rfl, _, rfl⟩⟩
    have I1 : Inv X pins σ (upd H s.heap.objs.size (.tup ys)) { s with heap := h2 } :=
      I.turnedNew (t' := s.toks) (ch := z :: TI :: TO :: ps.map (·.1)) (fun c o hb q => hk c o (fun q' => hb (by simp [q'])) (fun q' => hb (by simp [q'])) (fun p hp q' => hb (by simp only [List.mem_cons, List.mem_map]; exact .inr (.inr (.inr ⟨p, hp, q'.symm⟩)))) q) hf (Nat.le_refl _) new
    refine ⟨.ref s.heap.objs.size, _, I1, rfl, ⟨_, ys, rfl, I.hok.fresh (Nat.le_refl _), rfl, hcols⟩, ⟨⟨f0'', f1', z'', hf0''⟩, hk _ _ D.TIz D.TITO (fun p hp => Ne.symm (D.it p hp).2.1) hTI, ⟨ts', TO', hts'⟩, hit'⟩, fun c hcm => ?_⟩
    have hlt : c < s.heap.objs.size := by
      rcases List.mem_cons.1 hcm with q | hcm
      · rw [q]; exact Heap.lt_size hz
      rcases List.mem_cons.1 hcm with q | hcm
      · rw [q]; exact Heap.lt_size hTI
      rcases List.mem_cons.1 hcm with q | hcm
      · rw [q]; exact Heap.lt_size hTO
      obtain ⟨p, hp, rfl⟩ := List.mem_map.1 hcm
      obtain ⟨_, e, _⟩ := hit p hp
      exact Heap.lt_size e
    rw [upd_ne (Nat.ne_of_lt hlt)]
    exact (hf c hcm).1
  done := by
    intro X hP hw hK hc i pins s σ H E I hf st hg
    subst hP hw hK
    obtain ⟨⟨f0, f1, hz, hf0⟩, hTI, ⟨ts, hTO, hts⟩, hit⟩ := st
    obtain ⟨l, ls', xs, el, hq, hend⟩ := hg
    cases ps with
    | nil => exact absurd rfl hne
    | cons p ps =>
      simp only [List.map_cons, List.cons.injEq] at el
      obtain ⟨rfl, _⟩ := el
      obtain ⟨its, rv, pl⟩ := I.sqA hq
      have hl := rv.length
      exact pyNext_zipS_end (I.ok.hd hc) D hz hf0 hTI hTO (hit p (by simp)) pl (by simp; omega) fun h' hk => ⟨rfl, I.turnedL (t' := s.toks) (ch := z :: TI :: TO :: (p :: ps).map (·.1)) (fun c o hb q =>
        hk c o (fun q' => hb (by simp [q'])) (fun q' => hb (by simp [q'])) (fun p' hp q' => hb (by simp only [List.mem_cons (a := c), List.mem_map]; exact .inr (.inr (.inr ⟨p', hp, q'.symm⟩)))) q) hf⟩
  self := fun A i s Q E st h => let ⟨⟨_, _, hz, _⟩, _⟩ := st; pyIter_zipS hz h

theorem callWith_typeS {M : Model} {A : Around} {E : Value → Shared → Prop} {s : Shared} {pos : Pos} {T : String} {x : Sem Value} {Q : Value → Shared → Prop}
    (h : wpAny M A x (fun v s₁ => PySem.W.StarOf M A E v (fun vs s₂ => wpAny M A (call (.type T) vs) Q E s₂) s₁) E s) :
    wpAny M A (callWith pos (.type T) [] (backTo pos [(true, x)]) []) Q E s := by
  unfold callWith
  refine wpAny_bind (wpAny_holding (wpAny_mono (PySem.W.ks_lone (Q := fun a s₂ => wpAny M A (call (.type T) a.pos a.kw) Q E s₂) (wpAny_mono h (fun v s₁ h₁ => h₁) fun _ _ x => x)) (fun a s₁ h₁ => wpAny_bind (wpAny_standAt ?_)) fun _ _ x => x))
  have z := wpAny_bind (m := operate ((.type T :: a.pos.reverse) ++ a.kw.map (·.2)) (call (.type T) a.pos a.kw)) (f := fun r => do holding [r] point; pure r) (wpAny_operate' (wpAny_mono h₁ (fun r s₂ hr => wpAny_bind (wpAny_holding (wpAny_point (wpAny_pure hr)))) fun _ _ x => x))
  exact wpAny_bind (wpAny_pure z)
/-- an iterator of zip over these, laid -/
theorem pie_zipS {X : Cx} {pins : List (Addr × Obj)} {σ : St} {H1 : Hp} {R : It → Hp → Prop} {tg : Expr} {s2 : Shared} {ls : List (Addr × Bool)} (I2 : Inv X pins σ H1 s2) (hne : ls ≠ []) (h8 : ls.length ≤ 8) (hls : ∀ l ∈ ls, ∃ xs, SqA X.K H1 l xs) (q : R (Itn X.K ls) H1) :
    wpAny (model X.prog X.w) X.A (call (.type "zip") (refsL ls)) (fun v s1 => wpAny (model X.prog X.w) X.A (pyIter v) (PIE X pins σ tg R) X.xe s1) X.xe s2 := by
  refine call_zipS hne h8 (fun l hl => by obtain ⟨xs, hx⟩ := hls l hl; obtain ⟨its, _, pl⟩ := I2.sqA hx; exact ⟨_, pl⟩) fun h' hz hTI hTO hit hk => pyIter_zipS hz ?_
  have I3 : Inv X pins σ H1 { s2 with heap := h' } := I2.kept (t' := s2.toks) hk
  have lt : ∀ l ∈ ls, l.1 < s2.heap.objs.size := fun l hl => by obtain ⟨xs, hx⟩ := hls l hl; obtain ⟨its, _, pl⟩ := I2.sqA hx; exact Sq1.lt pl
  have D : ZApart (s2.heap.objs.size + ls.length + 2) (s2.heap.objs.size + ls.length) (s2.heap.objs.size + ls.length + 1) (pairs s2.heap.objs.size ls) := by
    refine ⟨fun e => absurd (show (s2.heap.objs.size + ls.length : Nat) = s2.heap.objs.size + ls.length + 2 from e) (by omega), fun e => absurd (show (s2.heap.objs.size + ls.length + 1 : Nat) = s2.heap.objs.size + ls.length + 2 from e) (by omega), fun e => absurd (show (s2.heap.objs.size + ls.length : Nat) = s2.heap.objs.size + ls.length + 1 from e) (by omega), fun p hp => ?_, fun p hp => ?_, pairs_nd ..⟩
    · have a1 : p.1 < s2.heap.objs.size + ls.length := (pairs_ge ls _ p hp).2.1
      exact ⟨Nat.ne_of_lt (Nat.lt_of_lt_of_le a1 (by omega)), Nat.ne_of_lt a1, Nat.ne_of_lt (Nat.lt_of_lt_of_le a1 (by omega))⟩
    · have a1 : p.2.1 < s2.heap.objs.size := lt p.2 (pairs_ge ls _ p hp).2.2
      exact ⟨Nat.ne_of_lt (Nat.lt_of_lt_of_le a1 (by omega)), Nat.ne_of_lt (Nat.lt_of_lt_of_le a1 (by omega)), fun q hq => Nat.ne_of_lt (Nat.lt_of_lt_of_le a1 (pairs_ge ls _ q hq).1)⟩
  obtain ⟨ts, hTO, hts⟩ := hTO
  have hpne : pairs s2.heap.objs.size ls ≠ [] := fun e => hne (by rw [← pairs_snd ls s2.heap.objs.size, e]; rfl)
  have T := turn_zipS (P := X.prog) (w := X.w) (K := X.K) (tg := tg) D hpne (by rw [ZS.pairs_len]; exact Nat.le_trans h8 (by decide))
  rw [pairs_snd] at T
  refine ⟨_, _, _, _, H1, rfl, I3, T, ⟨⟨_, _, hz, .inl rfl⟩, hTI, ⟨ts, hTO, by rw [ZS.pairs_len]; exact hts⟩, hit⟩, fun c hcm => ?_, q⟩
  have hle : s2.heap.objs.size ≤ c := by
    rcases List.mem_cons.1 hcm with q | hcm
    · rw [q]; omega
    rcases List.mem_cons.1 hcm with q | hcm
    · rw [q]; omega
    rcases List.mem_cons.1 hcm with q | hcm
    · rw [q]; omega
    obtain ⟨p, hp, rfl⟩ := List.mem_map.1 hcm
    exact (pairs_ge ls _ p hp).1
  exact I2.fpOk hle (I2.hok.fresh hle)
/-- zip(*e), e a list of at most 8 lists -/
def iZipS (K : PySem.W.Frag) (te : TE) : TI := fun σ H R => te σ H fun v H1 => ∃ a ls, v = .ref a ∧ SqL K H1 a (ls.map V.ref) ∧ ls ≠ [] ∧ ls.length ≤ 8 ∧ (∀ l ∈ ls, ∃ xs, SqL K H1 l xs) ∧ R (Itn K (ls.map fun l => (l, false))) H1
theorem zs_vals_refs : ∀ {ls : List Addr} {us : List Value}, Vals (ls.map V.ref) us → us = refsL (ls.map fun l => (l, false))
  | [], _, .nil => rfl
  | l :: ls, _, .cons r rr => by
    cases r
    rw [zs_vals_refs rr]; rfl
theorem pi_zipS {X : Cx} {tg e : Expr} {te : TE} {p p2 pos : Pos} (hg : Gl X "zip") (hm : X.mg "zip" = none) (he : PE X e te)
    (hs : starEach [.Starred e p2] X.env = [(true, eval e X.env)] := by rfl) :
    PI X tg (.Call (.Name "zip" p) [.Starred e p2] [] pos) (iZipS X.K te) := by
  refine ⟨fun pins s σ H R I h => ?_⟩
  refine Call_ (ld_blt I hg hm PyProof.Rows.boot_zip ?_)
  rw [hs]
  refine callWith_typeS (thn (he.run pins s σ H _ I h) fun v s1 ⟨y, H1, I1, ry, a, ls, ey, hq, hne, h8, hls, q⟩ => ?_)
  subst ey
  obtain rfl : v = Value.ref a := ry
  refine StX.star_lst I1 hq fun us s2 I2 rv => ?_
  have e := zs_vals_refs rv
  subst e
  refine pie_zipS I2 (by simpa using hne) (by simpa using h8) (fun l hl => ?_) q
  obtain ⟨l', hl', rfl⟩ := List.mem_map.1 hl
  exact hls l' hl'
/-- zip(e, e2), e a list, e2 a tuple -/
def iZipM (K : PySem.W.Frag) (ta : TA) : TI := fun σ H R => ta σ H fun vs H1 => ∃ a b xs ys, vs = [.ref a, .ref b] ∧ SqL K H1 a xs ∧ SqT K H1 b ys ∧ R (Itn K [(a, false), (b, true)]) H1
theorem pi_zipM {X : Cx} {tg e e2 : Expr} {ta : TA} {p pos : Pos} (hg : Gl X "zip") (hm : X.mg "zip" = none) (ha : PA X [e, e2] ta)
    (hs : starEach [e, e2] X.env = (false, eval e X.env) :: starEach [e2] X.env := by rfl) (hpl : (backTo pos (starEach [e2] X.env)).any (·.1) = false := by rfl) :
    PI X tg (.Call (.Name "zip" p) [e, e2] [] pos) (iZipM X.K ta) := by
  refine ⟨fun pins s σ H R I h => ?_⟩
  refine Call_ (ld_blt I hg hm PyProof.Rows.boot_zip (PyProof.Rows.callWith_type1 (thn (ha.run pos pins s σ H _ I h) fun us s1 ⟨vs, H1, I1, r1, q1⟩ => ?_) hs hpl))
  obtain ⟨a, b, xs, ys, ex, hqx, hqy, q⟩ := q1
  subst ex
  cases r1 with
  | cons r rr =>
    cases rr with
    | cons r' rr =>
      cases rr
      cases r
      cases r'
      refine pie_zipS (ls := [(a, false), (b, true)]) I1 (by simp) (by simp) (fun l hl => ?_) q
      rcases List.mem_cons.1 hl with rfl | hl
      · exact ⟨xs, hqx⟩
      · rw [List.mem_singleton.1 hl]
        exact ⟨ys, hqy⟩
end L2
namespace PyProof.Rows
open PySem
theorem callWith_typeKw {M : Model} {A : Around} {E : Value → Shared → Prop} {s : Shared} {env : Env} {pos : Pos} {T : String} {e : Expr} {rest : List Expr} {kws : List Keyword} {Q : Value → Shared → Prop}
    (h : wpAny M A (spliced (backTo pos (starEach (e :: rest) env))) (fun vs s₁ => wpAny M A (evalAll ((backToKw pos (keywordEach kws env)).map (·.2)))
      (fun kvs s₂ => wpAny M A (call (.type T) vs (((backToKw pos (keywordEach kws env)).filterMap (·.1)).zip kvs)) Q E s₂) E s₁) E s)
    (he : backTo pos (starEach (e :: rest) env) = (false, eval e env) :: backTo pos (starEach rest env) := by rfl)
    (hplain : (backTo pos (starEach (e :: rest) env)).any (·.1) = false := by rfl)
    (hall : (backToKw pos (keywordEach kws env)).all (·.1.isSome) = true := by rfl)
    (hkw : (backToKw pos (keywordEach kws env)).any (·.1.isNone) = false := by rfl) :
    wpAny M A (callWith pos (.type T) [] (backTo pos (starEach (e :: rest) env)) (backToKw pos (keywordEach kws env))) Q E s := by
  unfold callWith
  rw [he] at h hplain ⊢
  refine wpAny_bind (wpAny_holding (wpAny_mono (evalArgs_kwB (Q := fun a s₁ => wpAny M A (call (.type T) ([] ++ a.pos) a.kw) Q E s₁) hall h) (fun a s₁ h₁ => wpAny_bind (wpAny_standAt ?_)) fun _ _ x => x))
  simp only [hplain, hkw, Bool.or_false]
  refine wpAny_bind (wpAny_pure ?_)
  exact wpAny_bind (wpAny_mono h₁ (fun r s₂ hr => wpAny_bind (wpAny_holding (wpAny_point (wpAny_pure hr)))) fun _ _ x => x)
end PyProof.Rows
namespace L2
open PySem PySem.Spec PyProof.Rows
theorem item_ltV {l : List V} {i : Nat} {x : V} (h : l[i]? = some x) : i < l.length := (List.getElem?_eq_some_iff.mp h).1
theorem enumS_end {prog : Program} {w : World} {A : Around} {E : Value → Shared → Prop} {s : Shared} {e it l : Addr} {i : Nat} {c : Int} {items : Array Value} {old : Value} {Q : Option Value → Shared → Prop}
    (hh : A.handled = none) (he : IsEnum s.heap e it c old) (hit : s.heap.IsListIter it l i) (hl : s.heap.IsList l items) (hx : items.size = i)
    (hQ : ∀ h', Heap.ExtBut it s.heap h' → Q none { s with heap := h' }) : wpAny (model prog w) A (pyNext (.ref e)) Q E s := by
  have hail : l ≠ it := fun z => by
    obtain ⟨o, q, c, d⟩ := hit
    obtain ⟨o2, q2, c2, n2, d2⟩ := hl
    rw [← z, q2] at q
    have := Option.some.inj q
    rw [← this, d2] at d
    cases d
  subst hx
  exact wpAny_pyNext_enum_endD (Draws.list (prog := prog) (w := w) (A := A.in1) hh it l hail items) he ⟨hit, hl⟩ hQ
/-- the list at a as it stands at each turn, each item in a new pair, counted from k -/
def IteS (K : PySem.W.Frag) (a : Addr) (k : Int) : It :=
  ⟨fun i H => ∃ (xs : List V) (x : V), SqL K H a xs ∧ xs[i]? = some x, fun i H v H' => ∃ T x, v = .ref T ∧ H T = none ∧ H' = upd H T (.tup [.int (k + (i : Nat)), x]) ∧ ∀ xs, SqL K H a xs → xs[i]? = some x, fun i H => ∃ xs : List V, SqL K H a xs ∧ xs.length = i⟩
theorem turn_enumS {P : Program} {w : World} {K : PySem.W.Frag} {elts : List Expr} {kk : Nat} {tpos : Pos} {k : Int} (a e it : Addr) :
    Turn P w K (.Tuple elts kk tpos) (IteS K a k) [e, it] e (fun i h => (∃ old, IsEnum h e it (k + ((i : Nat) : Int)) old) ∧ h.IsListIter it a i ∧ e ≠ it) where
  mem := by simp
  obj := fun i h st b hb => by
    obtain ⟨⟨old, he⟩, ⟨o, ho, hc, hd⟩, _⟩ := st
    have e' : b = e ∨ b = it := by simpa using hb
    rcases e' with z | z
    · rw [z]; exact ⟨_, he, fun v q => nomatch q⟩
    · rw [z]; exact ⟨o, ho, fun v q => by rw [hd] at q; cases q⟩
  keep := fun i h h' st k => let ⟨⟨old, he⟩, hi, hne⟩ := st; ⟨⟨old, k e (by simp) _ he⟩, hi.at fun o q => k it (by simp) o q, hne⟩
  item := by
    intro X hP hw hK hc i pins s σ H E I hf st hg
    subst hP hw hK
    obtain ⟨⟨old, he⟩, hit, hne⟩ := st
    obtain ⟨xs, x, hq, hx⟩ := hg
    obtain ⟨its, rv, p, hz⟩ := I.list hq
    obtain ⟨u, hu, ru⟩ := rv.get hx
    have hel : e < s.heap.objs.size := Heap.lt_size he
    have hil : it < s.heap.objs.size := by obtain ⟨_, q, _⟩ := hit; exact Heap.lt_size q
    have hail : a ≠ it := fun z => by
      obtain ⟨o, q, c, d⟩ := hit
      obtain ⟨o2, q2, c2, n2, d2⟩ := p.isList
      rw [← z, q2] at q
      have := Option.some.inj q
      rw [← this, d2] at d
      cases d
    have hae : e ≠ a := fun z => by
      obtain ⟨o2, q2, c2, n2, d2⟩ := p.isList
      have q : s.heap.get? e = _ := he
      rw [z, q2] at q
      have := Option.some.inj q
      rw [this] at d2
      cases d2
    have D := Draws.list (prog := X.prog) (w := X.w) (A := X.A.in1) (I.ok.hd hc) it a hail its.toArray
    refine wpAny_pyNext_enum_itemC D he ⟨hit, p.isList⟩ (by have := item_ltV hx; have := rv.length; simp; omega) hne (by simp [hne, hae]) fun y h' tk hP ho hs' hT hsz hk => ?_
    have ey : y = u := by
      have : its[i]? = some y := by simpa using hP
      rw [hu] at this
      exact (Option.some.inj this).symm
    subst ey
    refine ⟨_, rfl, wpAny_letOwnedTupleGo_enum (s := { s with heap := h', toks := tk + 1 }) ho fun h'' he' sb => ?_⟩
    have hT2 : h''.get? s.heap.objs.size = some { cls := .type "tuple", data := .seq #[.int (k + (i : Nat)) tk, y] } := (sb.2 _ (Nat.ne_of_gt hel)).trans hT
    have new : ObjOk X.prog X.w (upd H s.heap.objs.size (.tup [.int (k + (i : Nat)), x])) h'' s.heap.objs.size (.tup [.int (k + (i : Nat)), x]) :=
      ⟨by show 2 ≤ sizeLine; decide, [.int (k + (i : Nat)) tk, y], .cons ⟨_, rfl⟩ (.cons ru .nil), ⟨_, hT2, rfl, _, rfl⟩⟩
    have I1 : Inv X pins σ (upd H s.heap.objs.size (.tup [.int (k + (i : Nat)), x])) { s with heap := h'', toks := tk + 1 } :=
      I.turnedNew (ch := [e, it]) (fun b ob hb q => (sb.2 b (fun z => hb (by simp [z]))).trans (hk b ob (fun z => hb (by simp [z])) (fun z => hb (by simp [z])) q)) hf (Nat.le_refl _) new
    refine ⟨.ref s.heap.objs.size, _, I1, rfl, ⟨_, x, rfl, I.hok.fresh (Nat.le_refl _), rfl, fun ys hy => by rw [I.list_inj hy hq]; exact hx⟩, ⟨⟨y, ?_⟩, hs'.1.at fun o q => (sb.2 it (Ne.symm hne)).trans q, hne⟩, fun b hb => ?_⟩
    · have e1 : k + ((i + 1 : Nat) : Int) = k + (i : Int) + 1 := by omega
      rw [e1]; exact he'
    · have hb' : b < s.heap.objs.size := by
        have e' : b = e ∨ b = it := by simpa using hb
        rcases e' with z | z
        · rw [z]; exact hel
        · rw [z]; exact hil
      rw [upd_ne (Nat.ne_of_lt hb')]
      exact (hf b hb).1
  done := by
    intro X hP hw hK hc i pins s σ H E I hf st hg
    subst hP hw hK
    obtain ⟨⟨old, he⟩, hit, hne⟩ := st
    obtain ⟨xs, hq, hx⟩ := hg
    obtain ⟨its, rv, p, hz⟩ := I.list hq
    obtain ⟨f0, f1, f2, f3, f4, f5⟩ := hf it (by simp)
    have hl := rv.length
    exact enumS_end (I.ok.hd hc) he hit p.isList (by simp; omega) fun h' eb => ⟨rfl, I.turned (t' := s.toks) (fun b o hb q => eb b o hb q) f0 f1 f3 f4 f5⟩
  self := fun A i s Q E st h => let ⟨⟨_, he⟩, _⟩ := st; wpAny_pyIter_enum he h
def iEnumS (K : PySem.W.Frag) (ta tk : TA) : TI := fun σ H R => ta σ H fun vs H1 => tk σ H1 fun zs H2 => ∃ a xs k, vs = [.ref a] ∧ zs = [.int k] ∧ SqL K H2 a xs ∧ -(2 ^ 63) ≤ k ∧ k < 2 ^ 63 ∧ R (IteS K a k) H2
theorem pi_enumS {X : Cx} {e : Expr} {kws : List Keyword} {ta tk : TA} {p pos tpos : Pos} {elts : List Expr} {kk : Nat} (hg : Gl X "enumerate") (hm : X.mg "enumerate" = none) (ha : PA X [e] ta) (hkw : PK X kws tk)
    (hs : backTo pos (starEach [e] X.env) = (false, eval e X.env) :: backTo pos (starEach [] X.env) := by rfl) (hpl : (backTo pos (starEach [e] X.env)).any (·.1) = false := by rfl)
    (hall : (backToKw pos (keywordEach kws X.env)).all (·.1.isSome) = true := by rfl) (hnone : (backToKw pos (keywordEach kws X.env)).any (·.1.isNone) = false := by rfl) (hks : (backToKw pos (keywordEach kws X.env)).filterMap (·.1) = [("start" : Str)] := by rfl) :
    PI X (.Tuple elts kk tpos) (.Call (.Name "enumerate" p) [e] kws pos) (iEnumS X.K ta tk) := by
  refine ⟨fun pins s σ H R I h => ?_⟩
  refine wpAny_Call_Name_kw (ld_blt I hg hm boot_enumerate ?_)
  refine PyProof.Rows.callWith_typeKw (thn (ha.run pos pins s σ H _ I h) fun us s1 ⟨vs, H1, I1, r1, q1⟩ => thn (hkw.run pos pins s1 σ H1 _ I1 q1) fun ws s2 ⟨zs, H2, I2, r2, q2⟩ => ?_) hs hpl hall hnone
  rw [hks]
  obtain ⟨a, xs, k, ex, ez, hq, k0, k1, q⟩ := q2
  subst ex ez
  cases r1 with
  | cons r rr =>
    cases rr
    cases r
    cases r2 with
    | cons r rr =>
      cases rr
      obtain ⟨t, rfl⟩ := r
      obtain ⟨its, rv, p', hz⟩ := I2.list hq
      have hlt : a < s2.heap.objs.size := by obtain ⟨o, q, _⟩ := p'.isList; exact Heap.lt_size q
      refine enum_begins_start (begins_list a its.toArray) p'.isList k0 k1 fun h' he hit hsz hk => wpAny_pyIter_enum he ?_
      have I3 : Inv X pins σ H2 { s2 with heap := h' } := I2.kept (t' := s2.toks) hk
      refine ⟨s2.heap.objs.size + 1, [s2.heap.objs.size + 1, s2.heap.objs.size], _, _, H2, rfl, I3, turn_enumS a (s2.heap.objs.size + 1) s2.heap.objs.size, ⟨⟨.none, by simpa using he⟩, ⟨_, hit, rfl, rfl⟩, Nat.succ_ne_self _⟩, fun b hb => ?_, q⟩
      have e' : b = s2.heap.objs.size + 1 ∨ b = s2.heap.objs.size := by simpa using hb
      have hle : s2.heap.objs.size ≤ b := by
        rcases e' with z | z
        · rw [z]; exact Nat.le_add_right _ _
        · rw [z]; exact Nat.le_refl _
      exact I2.fpOk hle (I2.hok.fresh hle)
theorem walk_enumS {K : PySem.W.Frag} {a : Addr} {xs : List V} {k : Int} : Walk (IteS K a k) xs.length (fun H => SqL K H a xs) (YPair (fun i => some (.int (k + (i : Nat)))) (fun i => xs[i]?)) := by
  refine ⟨fun i _ hi q => ⟨xs, xs[i], q, by simp [hi]⟩, fun _ q => ⟨xs, q, rfl⟩, fun i H v H' _ q y => ?_⟩
  obtain ⟨T, x, h1, h2, h3, h4⟩ := y
  exact ⟨T, .int (k + (i : Nat)), x, h1, h2, h3, rfl, h4 xs q⟩
end L2
/-! a method of one's own, called in a try -/
namespace L2
open PySem PySem.Spec PyProof.Rows
section
variable {X : Cx} {CX : CXT} {k : Nat} {f C : Addr} {fd : FuncData} {ps : List Str} {sp : Sp}
variable {E : St → XK} {m : Str} {pos apos : Pos} {e o : Expr} {es : List Expr} {ta : TE} {t : TA}
def tMethT (C : Addr) (m : Str) (sp : Sp) (E : St → XK) (ta : TE) (t : TA) : TE := fun σ H Q =>
  ta σ H fun x H1 => ∃ a dx fs, x = .ref a ∧ H1 a = some (.ins C dx fs) ∧ fs.lookup m = none ∧
    t σ H1 fun vs H2 => sp (x :: vs) H2 Q (E σ)
theorem pe_methT {pl : Sem Bool} (he : PE X o ta) (c : Cls X.K C) (hm : Meth X.K C m f)
    (F : FnOk X.prog X.w X.K X.mg X.base CX k f fd ps sp) (hr : Room k X.A) (hb : Binds X.K fd ps [])
    (hx : ∀ σ, PassesAt CX X σ (E σ)) (ha : PA X (e :: es) t)
    (hst : starEach (e :: es) X.env = (false, eval e X.env) :: starEach es X.env := by rfl)
    (hpl : (backTo pos (starEach es X.env)).any (·.1) = false := by rfl)
    (ht : eval (.Call (.Attribute o m apos) (e :: es) [] pos) X.env = (do
        let ov ← eval o X.env
        standAt apos.atName
        let (g, first) ← holding [ov] (getMethod ov m pl)
        callWith pos g first (backTo pos (starEach (e :: es) X.env)) (backToKw pos (keywordEach [] X.env))) := by rfl) :
    PE X (.Call (.Attribute o m apos) (e :: es) [] pos) (tMethT C m sp E ta t) := by
  refine ⟨fun pins s σ H Q I h => PySem.W.methodCall_KW (pl := pl) (thn (he.run pins s σ H _ I h) ?_) ht⟩
  rintro u s1 ⟨x, H1, I1, rx, a, dx, fs, rfl, ea, l, q⟩
  cases (show u = Value.ref a from rx)
  refine getmeth_ok I1 ea c hm l (PySem.W.callWith_K (first := [.ref a]) (h₀ := X.base) I.ok.mod.kin hm.kp ?_ hst hpl)
  refine thn (ha.run pos pins s1 σ H1 _ I1 q) fun us s2 ⟨vs, H2, I2, r, q2⟩ => ⟨I2.kIn, ?_⟩
  exact run_fnS (us := .ref a :: us) (vs := .ref a :: vs) F hr hb (hx σ) I2 (.cons rfl r) q2
theorem pe_methT0 {pl : Sem Bool} (he : PE X o ta) (c : Cls X.K C) (hm : Meth X.K C m f)
    (F : FnOk X.prog X.w X.K X.mg X.base CX k f fd ps sp) (hr : Room k X.A) (hb : Binds X.K fd ps [])
    (hx : ∀ σ, PassesAt CX X σ (E σ))
    (ht : eval (.Call (.Attribute o m apos) [] [] pos) X.env = (do
        let ov ← eval o X.env
        standAt apos.atName
        let (g, first) ← holding [ov] (getMethod ov m pl)
        callWith pos g first (backTo pos (starEach [] X.env)) (backToKw pos (keywordEach [] X.env))) := by rfl) :
    PE X (.Call (.Attribute o m apos) [] [] pos) (tMethT C m sp E ta tNil) := by
  refine ⟨fun pins s σ H Q I h => PySem.W.methodCall_KW (pl := pl) (thn (he.run pins s σ H _ I h) ?_) ht⟩
  rintro u s1 ⟨x, H1, I1, rx, a, dx, fs, rfl, ea, l, q⟩
  cases (show u = Value.ref a from rx)
  refine getmeth_ok I1 ea c hm l (PySem.W.callWith_K0 (first := [.ref a]) I1.kIn hm.kp ?_)
  exact run_fnS (us := [.ref a]) (vs := [.ref a]) F hr hb (hx σ) I1 (.cons rfl .nil) q
end
end L2
/-! sorted(xs) of items that read as data of one shape -/
namespace L2
open PySem PySem.Spec PyProof.Rows
theorem each_of {R : Value → V → Prop} : ∀ {xs : List V} {us : List Value}, Paired RelV xs us → (∀ x ∈ xs, ∀ u, RelV x u → R u x) → PySem.W.EachIs R us xs
  | [], _, .nil, _ => .nil
  | x :: xs, _, .cons r rr, h => .cons (h x (by simp) _ r) (each_of rr fun y m => h y (by simp [m]))
theorem vals_of_each : ∀ {us : List Value} {xs : List V}, PySem.W.EachIs (fun u x => RelV x u) us xs → Paired RelV xs us
  | _, _, .nil => .nil
  | _, _, .cons r rr => .cons r (vals_of_each rr)
def rSortedD (K : PySem.W.Frag) : List V → Hp → VK → Prop := fun vs H Q => ∃ (a : Addr) (xs : List V) (k : V → PyData), vs = [V.ref a] ∧ SqL K H a xs ∧ (∀ x ∈ xs, Dp K H x (k x)) ∧ PySem.W.AllAlike (xs.map k) ∧ PySem.W.Sortable (xs.map k) ∧ (∀ x ∈ xs, (k x).depth ≤ 40) ∧
  ∀ p, H p = none → Q (.ref p) (upd H p (.lst (xs.mergeSort (PySem.W.dataLe false k))))
section
variable {X : Cx}
theorem cr_sortedD (hu : X.A.units + 64 < cLine) : CallR X (.builtin "sorted") (rSortedD X.K) := by
  intro pins s σ H vs us Q I r h
  obtain ⟨a, xs, k, rfl, hs, hx, hal, hk, hd, q⟩ := h
  obtain ⟨its, rv, hl, hz⟩ := I.list hs
  obtain ⟨u, rfl, ru⟩ := vals1 r
  obtain rfl : u = Value.ref a := ru
  refine PySem.W.sorted_data (R := fun u x => RelV x u) (enc := k) hl.isList (each_of rv fun _ _ _ r => r) (each_of rv fun x m u r => Dp.reads I _ x u (hx x m) r) hal hk hz (fun b hb => ?_) fun out hlen eo => ?_
  · have := hd b hb
    omega
  · obtain ⟨n, hn⟩ := sortedAll_at s.heap its out.toArray
    refine ⟨.ref (s.heap.objs.size + 1), _, I.laid (a := s.heap.objs.size + 1) (o := .lst (xs.mergeSort (PySem.W.dataLe false k))) (t' := s.toks) (fun b o e => sortedAll_old e) (Nat.le_succ _) ⟨?_, out, n, vals_of_each eo, hn⟩, rfl, q _ (I.hok.fresh (Nat.le_succ _))⟩
    rw [List.length_mergeSort]
    exact hz
end
end L2
/-! name = {k: v for ..} on one line, the name a local -/
namespace L2
open PySem PySem.Spec PyProof.Rows
section
variable {X : Cx}
theorem sw_dict {kx vx : Expr} {gs : List Comprehension} {scope : Scope} {pos py : Pos} {y : Str} {l : Nat} {env : Env} (hk : env.scope.kind = .function) (hy : env.scope.names.lookup y = some .local) (hl : (py.line == pos.line) = true)
    (ha : (scope.names.any fun (n, k) => n == y && (k == .local || k == .cell)) = false) : swapsWith (.DictComp kx vx gs scope pos) (some (.Name y py)) l env = pure true := by
  have e1 : env.kindOf y = some .local := hy
  have e2 : env.blockKind = .function := by
    unfold Env.blockKind
    rw [hk]
    rfl
  unfold swapsWith
  simp only [e2, e1, ha, Expr.pos, hl]
  rfl
theorem ps_setDc {i : Nat} {y : Str} {py : Pos} {kx vx tg iter : Expr} {ifs : List Expr} {scope : Scope} {own : List (Str × Nat)} {pos spos : Pos} {wi : TI} {g : TG} {tt : TT} {tk tv : TE} (hc : X.calm = true) (hN : X.N.Nodup) (hy : X.N[i]? = some y) (hyl : X.env.scope.names.lookup y = some .local)
    (hsw : swapsWith (.DictComp kx vx [⟨tg, iter, ifs, 0⟩] scope pos) (some (.Name y py)) spos.line X.env = pure true) (hi : PI X tg iter wi) (ok : BlkOk X.N X.env.scope scope own)
    (hg : ∀ (s : Shared) (H : Hp) (C : Addr) (cl : List (Str × Addr)) (fp : List Addr), PG (X.blk s H scope (compEnvC scope cl C X.env) fp) tg g) (ht : ∀ (s : Shared) (H : Hp) (C : Addr) (cl : List (Str × Addr)) (fp : List Addr), PTs (X.blk s H scope (compEnvC scope cl C X.env) fp) ifs tt)
    (hk : ∀ (s : Shared) (H : Hp) (C : Addr) (cl : List (Str × Addr)) (fp : List Addr), PE (X.blk s H scope (compEnvC scope cl C X.env) fp) kx tk)
    (he : ∀ (s : Shared) (H : Hp) (C : Addr) (cl : List (Str × Addr)) (fp : List Addr), PE (X.blk s H scope (compEnvC scope cl C X.env) fp) vx tv) (hs : ∀ x, foldedSetIterable iter X.env x = pure x := by intro _; rfl) :
    PS X (.Assign [.Name y py] (.DictComp kx vx [⟨tg, iter, ifs, 0⟩] scope pos) spos) (tAsg (tDc wi g tt tk tv (own.map (·.2))) (gName i)) := by
  refine ⟨fun pins s σ H D I h => ?_⟩
  rw [exec_Assign_Name_used _ _ _ _ hsw]
  refine wpAny_bind (wpAny_standAt (wpAny_bind ?_))
  show wpAny _ X.A (do let _ ← comprehension (.DictComp kx vx [⟨tg, iter, ifs, 0⟩] scope pos) scope X.env (firstIterPos [⟨tg, iter, ifs, 0⟩] pos) newDict false (eval iter X.env) (some (assign (.Name y py) X.env))) _ _ s
  have h : tDc wi g tt tk tv (own.map (·.2)) σ H (fun x H1 => gName i x σ H1 D.nx) := h
  refine wpAny_bind (thn (dc_core (Qf := fun _ s' => SP X pins D .next s') hc hN I hi ok hg ht hk he hs h fun L C s' m H' I' q hn f => ?_) fun _ s' hq => wpAny_pure (wpAny_pure hq))
  show wpAny _ _ (assign (.Name y py) X.env (.ref L)) _ _ _
  refine wpAny_assign_Name (store_ok2 (v := V.ref L) I' hN hy (.inl hyl) rfl (fun s2 I2 ⟨a, sb, ha⟩ => ?_) (.inr hyl))
  obtain ⟨f0, f1, f2, f3, f4, f5⟩ := f
  have off : C ≠ a := by
    rcases ha with z | z
    · rw [z]
      exact f1
    · exact fun e => f4 y a z e.symm
  exact ⟨m, hn.sameBut sb off, fun h3 sb3 => ⟨_, H', I2.turned (t' := s2.toks) (fun b o hb e => (sb3.2 b hb).trans e) f0 f1 f3 f4 f5, q⟩⟩
end
end L2
namespace L2
open PySem PySem.Spec PyProof.Rows
section
variable {J : It} {n : Nat} {G : Hp → Prop} {Y : Nat → Hp → V → Hp → Prop}
/-- a dict comprehension over it -/
theorem dc_it (w : Walk J n G Y) {g : TG} {tt : TT} {tk tv : TE} {vs : List Nat} {σ : St} {H1 : Hp} {D : Addr} {Qd : Hp → Prop} (Pv : Nat → Hp → Prop) (h0 : Pv 0 (upd H1 D (.dK []))) (hG : ∀ i H, i ≤ n → Pv i H → G H)
    (hs : ∀ i x H H', i < n → Pv i H → Y i H x H' → g x (wipe σ vs) H' fun σ2 H2 => wipe σ2 vs = wipe σ vs ∧ tt σ2 H2 fun b H3 =>
      if b = true then tk σ2 H3 fun y H4 => tv σ2 H4 fun z H5 => ∃ kvs k, y = kV k ∧ H5 D = some (.dK kvs) ∧ kvs.length < sizeLine ∧ Pv (i + 1) (upd H5 D (.dK (putK kvs k z))) else Pv (i + 1) H3) (hd : ∀ H, Pv n H → Qd H) :
    ∃ W : Nat → Nat → Hp → Prop, (∃ m, W 0 m (upd H1 D (.dK []))) ∧ ∀ i m H, W i m H →
      (J.stop i H ∧ Qd H) ∨ (J.go i H ∧ ∃ Nx : Hp → Prop, (∀ H', Nx H' → ∃ m', m' < m ∧ W (i + 1) m' H') ∧ ∀ x H', J.yld i H x H' → g x (wipe σ vs) H' fun σ2 H2 => wipe σ2 vs = wipe σ vs ∧ tt σ2 H2 fun b H3 =>
        if b = true then tk σ2 H3 fun y H4 => tv σ2 H4 fun z H5 => ∃ kvs k, y = kV k ∧ H5 D = some (.dK kvs) ∧ kvs.length < sizeLine ∧ Nx (upd H5 D (.dK (putK kvs k z))) else Nx H3) := by
  refine ⟨fun i m H => m = n - i ∧ i ≤ n ∧ Pv i H, ⟨n, by simp, Nat.zero_le _, h0⟩, ?_⟩
  rintro i m H ⟨rfl, hi, p⟩
  have q := hG i H hi p
  by_cases hlt : i < n
  · refine .inr ⟨w.goes i H hlt q, Pv (i + 1), fun H' p' => ⟨n - (i + 1), by omega, rfl, hlt, p'⟩, fun x H' y => hs i x H H' hlt p (w.yields i H x H' hlt q y)⟩
  · have e : i = n := by omega
    subst e
    exact .inl ⟨w.stops H q, hd H p⟩
end
end L2
namespace L2
open PySem PySem.Spec PyProof.Rows
/-- a def whose keyword-only parameters are all given, in their order -/
theorem kbn_mk {K : PySem.W.Frag} {x qual : Str} {st : Stmt} {f : Addr} {fd : FuncData} {ps ks : List Str} {n : Nat} (F : Fun K x qual st f fd)
    (h : ∀ (kV doc pm : Value) (an : Option Addr) (cdv ct : Value) (us ws : List Value), us.length = n → ws.length = ks.length →
      bindArgs (PySem.W.fnOf x qual (defArgs st) (defBody st) (defScope st) .none kV doc pm an cdv ct) ⟨us, ks.zip ws⟩ = pure (ps.zip (us ++ ws))) :
    KBn K fd ps n ks (fun us ws => us ++ ws) (fun vs zs => vs ++ zs) := by
  obtain ⟨oc, od, kV, doc, pm, an, cdv, ct, osl, rfl, lk, hc⟩ := F.ex
  refine ⟨fun s us ws _ l1 l2 => .of_eq (h kV doc pm an cdv ct us ws l1 l2), fun r1 r2 => ?_⟩
  induction r1 with
  | nil => exact r2
  | cons a _ ih => exact .cons a ih
end L2
/-! tuples and dicts of texts that stand in the written part -/
namespace L2
open PySem PySem.Spec PyProof.Rows
def KTp (K : PySem.W.Frag) (a : Addr) (xs : List V) : Prop := ∃ (o : Obj) (its : Array Value) (n : Nat), K.lookup a = some o ∧ o.cls = .type "tuple" ∧ o.data = .seq its n ∧ its.size ≤ sizeLine ∧ Vals xs its.toList
theorem KTp.sq {K : PySem.W.Frag} {a : Addr} {xs : List V} (h : KTp K a xs) (H : Hp) : SqT K H a xs := .inr h
theorem vals_txt : ∀ ks : List (Str × Nat), Vals (ks.map fun k => V.str k.1) (ks.map fun k => Value.str k.1 k.2)
  | [] => .nil
  | _ :: ks => .cons ⟨_, rfl⟩ (vals_txt ks)
theorem ktp_of {K : PySem.W.Frag} {a : Addr} {n : Nat} {sl : Array (Option Value)} {dd : Option Addr} (ks : List (Str × Nat)) (h : K.lookup a = some ⟨.type "tuple", dd, .seq (ks.map fun k => Value.str k.1 k.2).toArray n, sl⟩) (hl : ks.length ≤ 1000) : KTp K a (ks.map fun k => V.str k.1) :=
  ⟨_, _, _, h, rfl, rfl, by rw [List.size_toArray, List.length_map]; exact Nat.le_trans hl (by decide), vals_txt ks⟩
def entT (w : World) (r : Str × Nat × Addr × List Str) : DictEntry := ⟨PyData.keyHash w.params r.1, .str r.1 r.2.1, .ref r.2.2.1⟩
def KTab (K : PySem.W.Frag) (w : World) (d : Addr) (tab : List (Str × List Str)) : Prop := ∃ (rows : List (Str × Nat × Addr × List Str)) (n : Nat), K.lookup d = some ⟨.type "dict", none, .dict (rows.map (entT w)).toArray n, #[]⟩ ∧ (d == sysModules) = false ∧ (∀ r ∈ rows, KTp K r.2.2.1 (r.2.2.2.map V.str)) ∧ rows.map (fun r => (r.1, r.2.2.2)) = tab
theorem keys_lit (w : World) : ∀ rows : List (Str × Nat × Addr × List Str), PySem.W.KeysLit w.params (rows.map (entT w))
  | [] => trivial
  | _ :: rows => ⟨⟨_, _, rfl, rfl⟩, keys_lit w rows⟩
theorem find_rows (w : World) (z : Str) : ∀ rows : List (Str × Nat × Addr × List Str), (rows.map (entT w)).find? (·.key.isStr z) = (rows.find? (fun r => r.1 == z)).map (entT w)
  | [] => rfl
  | r :: rows => by
    rw [List.map_cons, List.find?_cons, List.find?_cons]
    have e : (entT w r).key.isStr z = (r.1 == z) := by rfl
    rw [e]
    cases r.1 == z with
    | true => rfl
    | false => exact find_rows w z rows
theorem find_tab (z : Str) : ∀ rows : List (Str × Nat × Addr × List Str), (rows.map fun r => (r.1, r.2.2.2)).find? (fun r => r.1 == z) = (rows.find? (fun r => r.1 == z)).map fun r => (r.1, r.2.2.2)
  | [] => rfl
  | r :: rows => by
    rw [List.map_cons, List.find?_cons, List.find?_cons]
    cases r.1 == z with
    | true => rfl
    | false => exact find_tab z rows
theorem no_ref (w : World) : ∀ rows : List (Str × Nat × Addr × List Str), ((rows.map (entT w)).any (·.refKey)) = false
  | [] => rfl
  | r :: rows => by
    rw [List.map_cons, List.any_cons, no_ref w rows]
    rfl
theorem KTab.ns {K : PySem.W.Frag} {w : World} {d : Addr} {tab : List (Str × List Str)} (h : KTab K w d tab) (z : Str) : (tab.find? (fun r => r.1 == z) = none ∧ PySem.W.nsIn K d z = some none) ∨ ∃ r t, tab.find? (fun r => r.1 == z) = some r ∧ PySem.W.nsIn K d z = some (some (.ref t)) ∧ KTp K t (r.2.map V.str) := by
  obtain ⟨rows, n, hl, _, ht, rfl⟩ := h
  have e : PySem.W.nsIn K d z = match (rows.find? (fun r => r.1 == z)).map (entT w) with
    | some e => some (some e.val)
    | none => some none := by
    unfold PySem.W.nsIn
    rw [hl]
    dsimp only
    rw [find_rows]
    cases (rows.find? (fun r => r.1 == z)).map (entT w) with
    | some e => rfl
    | none =>
      dsimp only
      rw [no_ref]
      rfl
  rw [find_tab, e]
  cases q : rows.find? (fun r => r.1 == z) with
  | none => exact .inl ⟨rfl, rfl⟩
  | some r => exact .inr ⟨_, r.2.2.1, rfl, rfl, ht r (List.mem_of_find?_eq_some q)⟩
section
variable {X : Cx} {d : Addr} {tab : List (Str × List Str)}
theorem op_notIn_tab (D : KTab X.K X.w d tab) : OpR X (compareOp .NotIn) (fun x y H Q => ∃ z : Str, x = .str z ∧ y = .ref d ∧ Q (.bl (!(tab.find? (fun r => r.1 == z)).isSome)) H) := by
  intro pins s σ H x y v u Q I rx ry h
  obtain ⟨z, rfl, rfl, q⟩ := h
  have hn := D.ns z
  obtain ⟨rows, n, hl, hs, ht, _⟩ := D
  have kd : KDict X.K X.w d (rows.map (entT X.w)).toArray n := ⟨hl, keys_lit X.w rows, hs⟩
  rcases hn with ⟨h1, h2⟩ | ⟨r, t, h1, h2, _⟩
  · exact op_notIn_kd kd pins s σ H _ _ v u Q I rx ry ⟨z, none, rfl, rfl, h2, by rw [h1] at q; exact q⟩
  · exact op_notIn_kd kd pins s σ H _ _ v u Q I rx ry ⟨z, _, rfl, rfl, h2, by rw [h1] at q; exact q⟩
theorem ix_tab (D : KTab X.K X.w d tab) : IxR X (fun x y H Q => ∃ (z : Str) (r : Str × List Str), x = .ref d ∧ y = .str z ∧ tab.find? (fun r => r.1 == z) = some r ∧ ∀ t, (∀ H', SqT X.K H' t (r.2.map V.str)) → Q (.ref t) H) := by
  intro value slice pins s σ H x y v u Q I rx ry h hs
  obtain ⟨z, r, rfl, rfl, e, q⟩ := h
  have hn := D.ns z
  obtain ⟨rows, n, hl, _, ht, _⟩ := D
  rcases hn with ⟨h1, h2⟩ | ⟨r', t, h1, h2, h3⟩
  · rw [e] at h1; cases h1
  · rw [e] at h1
    cases h1
    exact ix_kdict value slice pins s σ H _ _ v u Q I rx ry ⟨d, z, .ref t, rfl, rfl, ⟨_, n, _, hl, keys_lit X.w rows, h2, rfl⟩, q t fun H' => h3.sq H'⟩ hs
end
theorem all_cons {α : Type} {P : α → Prop} {x : α} {xs : List α} (h : P x) (hs : ∀ y ∈ xs, P y) : ∀ y ∈ x :: xs, P y := fun y m => by
  rcases List.mem_cons.mp m with m | m
  · rw [m]; exact h
  · exact hs y m
end L2
/-! own rules: dicts whose keys are nested tuples (of whole numbers, texts and None), whose values are None, truth values or things in the heap -/
namespace L2
open PySem PySem.Spec PyProof.Rows
def onlyV : V → Option Value
  | .ref b => some (.ref b)
  | .bl b => some (.bool b)
  | .non => some .none
  | _ => none
def toV (v : V) : Value := (onlyV v).getD .none
def Fix (v : V) : Prop := (onlyV v).isSome = true
theorem Fix.val {v : V} {r : Value} (h : Fix v) (rel : RelV v r) : r = toV v := by
  cases v <;> first | exact rel | exact Bool.noConfusion (show false = true from h)
theorem Fix.rel {v : V} (h : Fix v) : RelV v (toV v) := by
  cases v <;> first | rfl | exact Bool.noConfusion (show false = true from h)
theorem fix_ref (b : Addr) : Fix (.ref b) := rfl
theorem fix_bl (b : Bool) : Fix (.bl b) := rfl
theorem fix_non : Fix .non := rfl
/-- an entry: the key, its own tuple, the value -/
abbrev NE := NestedKey × Addr × V
def neH (x : NE) : NestedKey × Addr × Value := (x.1, x.2.1, toV x.2.2)
def atN (xs : List NE) (k : NestedKey) : Option (Addr × V) := (xs.find? fun x => decide (x.1 = k)).map (·.2)
def putN (xs : List NE) (k : NestedKey) (b : Addr) (v : V) : List NE := if (atN xs k).isSome = true then xs.map (fun x => if x.1 = k then (x.1, x.2.1, v) else x) else xs ++ [(k, b, v)]
def outN (xs : List NE) (k : NestedKey) : List NE := xs.filter fun x => decide (x.1 ≠ k)
theorem atKey_neH (xs : List NE) (k : NestedKey) : atKey (xs.map neH) k = (atN xs k).map fun p => (p.1, toV p.2) := by
  induction xs with
  | nil => rfl
  | cons x xs ih =>
    by_cases h : x.1 = k
    · simp [atKey, atN, neH, h]
    · simpa [atKey, atN, neH, h] using ih
theorem stored_neH (xs : List NE) (k : NestedKey) (b : Addr) (v : V) : storedH (xs.map neH) k b (toV v) = (putN xs k b v).map neH := by
  unfold storedH putN
  rw [atKey_neH, Option.isSome_map]
  split
  · rw [List.map_map, List.map_map]
    refine List.map_congr_left fun x _ => ?_
    by_cases h : x.1 = k <;> simp [putAt, neH, h]
  · rw [List.map_append]
    rfl
theorem without_neH (xs : List NE) (k : NestedKey) : withoutH (xs.map neH) k = (outN xs k).map neH := by
  induction xs with
  | nil => rfl
  | cons x xs ih =>
    by_cases h : x.1 = k
    · simpa [withoutH, outN, List.filter_cons, neH, h] using ih
    · simpa [withoutH, outN, List.filter_cons, neH, h] using ih
theorem keys_neH (xs : List NE) : (xs.map neH).map (·.1) = xs.map (·.1) := by simp [neH, Function.comp_def]
theorem putN_len (xs : List NE) (k : NestedKey) (b : Addr) (v : V) : (putN xs k b v).length ≤ xs.length + 1 := by
  unfold putN
  split <;> simp
theorem putN_mem {xs : List NE} {k : NestedKey} {b : Addr} {v : V} {x : NE} (m : x ∈ putN xs k b v) : x = (k, b, v) ∨ (∃ y ∈ xs, x.1 = y.1 ∧ x.2.1 = y.2.1 ∧ (x.2.2 = y.2.2 ∨ x.2.2 = v)) := by
  unfold putN at m
  split at m
  · obtain ⟨y, my, e⟩ := List.mem_map.mp m
    right
    refine ⟨y, my, ?_⟩
    by_cases h : y.1 = k
    · rw [if_pos h] at e; subst e; exact ⟨rfl, rfl, .inr rfl⟩
    · rw [if_neg h] at e; subst e; exact ⟨rfl, rfl, .inl rfl⟩
  · rcases List.mem_append.mp m with m | m
    · exact .inr ⟨x, m, rfl, rfl, .inl rfl⟩
    · exact .inl (List.mem_singleton.mp m)
theorem atN_iff {xs : List NE} {k : NestedKey} : (atN xs k).isSome = true ↔ ∃ x ∈ xs, x.1 = k := by
  unfold atN
  rw [Option.isSome_map, List.find?_isSome]
  constructor
  · rintro ⟨x, m, e⟩
    exact ⟨x, m, of_decide_eq_true e⟩
  · rintro ⟨x, m, e⟩
    exact ⟨x, m, decide_eq_true e⟩
theorem putN_iff {xs : List NE} {k k' : NestedKey} {b : Addr} {v : V} : (atN (putN xs k b v) k').isSome = true ↔ k' = k ∨ (atN xs k').isSome = true := by
  rw [atN_iff, atN_iff]
  constructor
  · rintro ⟨x, m, e⟩
    rcases putN_mem m with z | ⟨y, my, e1, _⟩
    · rw [z] at e
      exact .inl e.symm
    · exact .inr ⟨y, my, e1.symm.trans e⟩
  · unfold putN
    by_cases c : (atN xs k).isSome = true
    · rw [if_pos c]
      obtain ⟨y, my, ey⟩ := atN_iff.mp c
      rintro (e | ⟨x, m, e⟩)
      · exact ⟨_, List.mem_map.mpr ⟨y, my, rfl⟩, by rw [if_pos ey, ey, e]⟩
      · refine ⟨_, List.mem_map.mpr ⟨x, m, rfl⟩, ?_⟩
        by_cases d : x.1 = k
        · rw [if_pos d]; exact e
        · rw [if_neg d]; exact e
    · rw [if_neg c]
      rintro (e | ⟨x, m, e⟩)
      · exact ⟨(k, b, v), by simp, e.symm⟩
      · exact ⟨x, List.mem_append_left _ m, e⟩
theorem putN_new {xs : List NE} {k : NestedKey} (h : ∀ x ∈ xs, x.1 ≠ k) (b : Addr) (v : V) : putN xs k b v = xs ++ [(k, b, v)] := by
  unfold putN
  rw [if_neg fun z => ?_]
  obtain ⟨x, m, e⟩ := atN_iff.mp z
  exact h x m e
/-- what stands at such a dict's place -/
def RawN (w : World) (d : Addr) (xs : List NE) : Heap → Prop := fun h => xs.length ≤ sizeLine ∧ (d == sysModules) = false ∧ (xs.map (·.1)).Nodup ∧ (∀ x ∈ xs, Fix x.2.2) ∧
  ∃ (ob : Obj) (es : Array DictEntry) (n : Nat), h.get? d = some ob ∧ ob.ExactDict ∧ ob.data = .dict es n ∧ es.toList = xs.map fun x => (⟨x.1.hash w, .ref x.2.1, toV x.2.2⟩ : DictEntry)
def NO (w : World) (d : Addr) (xs : List NE) : HO := .ext (RawN w d xs)
theorem RawN.stay {w : World} {d : Addr} {xs : List NE} {h1 h2 : Heap} (r : RawN w d xs h1) (k : ∀ ob, h1.get? d = some ob → h2.get? d = some ob) : RawN w d xs h2 := by
  obtain ⟨a1, a2, a3, a4, ob, es, n, e1, e2⟩ := r
  exact ⟨a1, a2, a3, a4, ob, es, n, k _ e1, e2⟩
theorem RawN.ok {P : Program} {w : World} {H : Hp} {h : Heap} {d : Addr} {xs : List NE} (r : RawN w d xs h) : ObjOk P w H h d (NO w d xs) := by
  obtain ⟨_, _, _, _, ob, _, _, e1, _⟩ := id r
  exact ⟨r, ⟨ob, e1⟩, fun _ _ r' k => r'.stay k⟩
mutual
/-- a value that is a key, by what the heap tells of tuples -/
inductive NK (H : Hp) : NestedKey → V → Prop
  | num (i : Int) : NK H (.num i) (.int i)
  | text (z : Str) : NK H (.text z) (.str z)
  | non : NK H .none .non
  | tup {b : Addr} {vs : List V} {ks : List NestedKey} : H b = some (.tup vs) → NKs H ks vs → NK H (.tup ks) (.ref b)
inductive NKs (H : Hp) : List NestedKey → List V → Prop
  | nil : NKs H [] []
  | cons {k : NestedKey} {v : V} {ks : List NestedKey} {vs : List V} : NK H k v → NKs H ks vs → NKs H (k :: ks) (v :: vs)
end
mutual
theorem NK.is {P : Program} {w : World} {H : Hp} {h : Heap} (ok : HOk P w H h) : ∀ (k : NestedKey) (v : V) (u : Value), NK H k v → RelV v u → NestedIs h k u
  | .none, _, _, x, r => by cases x; cases (show _ = Value.none from r); exact .none
  | .num i, _, _, x, r => by cases x; obtain ⟨t, rfl⟩ := (show ∃ t, _ = Value.int i t from r); exact .int i t
  | .text z, _, _, x, r => by cases x; obtain ⟨t, rfl⟩ := (show ∃ t, _ = Value.str z t from r); exact .text z t
  | .tup ks, _, _, x, r => by
    cases x with
    | tup hb hs =>
      cases (show _ = Value.ref _ from r)
      obtain ⟨_, its, rel, o, h1, h2, n, h3⟩ := (show ObjOk P w H h _ (.tup _) from ok _ _ hb)
      exact .tup h1 h2 h3 (NKs.is ok ks _ its hs rel)
theorem NKs.is {P : Program} {w : World} {H : Hp} {h : Heap} (ok : HOk P w H h) : ∀ (ks : List NestedKey) (vs : List V) (us : List Value), NKs H ks vs → Vals vs us → NestedAll h ks us
  | [], _, _, x, r => by cases x; cases r; exact .nil
  | k :: ks, _, _, x, r => by
    cases x with
    | cons x1 x2 =>
      cases r with
      | cons r1 r2 => exact .cons (NK.is ok k _ _ x1 r1) (NKs.is ok ks _ _ x2 r2)
end
mutual
theorem NK.at {H H' : Hp} (s : ∀ b ys, H b = some (.tup ys) → H' b = some (.tup ys)) : ∀ (k : NestedKey) (v : V), NK H k v → NK H' k v
  | .none, _, x => by cases x; exact .non
  | .num i, _, x => by cases x; exact .num i
  | .text z, _, x => by cases x; exact .text z
  | .tup ks, _, x => by
    cases x with
    | tup hb hs => exact .tup (s _ _ hb) (NKs.at s ks _ hs)
theorem NKs.at {H H' : Hp} (s : ∀ b ys, H b = some (.tup ys) → H' b = some (.tup ys)) : ∀ (ks : List NestedKey) (vs : List V), NKs H ks vs → NKs H' ks vs
  | [], _, x => by cases x; exact .nil
  | k :: ks, _, x => by
    cases x with
    | cons x1 x2 => exact .cons (NK.at s k _ x1) (NKs.at s ks _ x2)
end
/-- the keys of a dict stand -/
def NKeys (H : Hp) (xs : List NE) : Prop := ∀ x ∈ xs, NK H x.1 (.ref x.2.1) ∧ x.1.depth ≤ 8
theorem NKeys.at {H H' : Hp} {xs : List NE} (h : NKeys H xs) (s : ∀ b ys, H b = some (.tup ys) → H' b = some (.tup ys)) : NKeys H' xs := fun x m => ⟨NK.at s _ _ (h x m).1, (h x m).2⟩
theorem NKeys.same {H H' : Hp} {xs : List NE} (h : NKeys H xs) (s : Same H H') : NKeys H' xs := h.at fun b ys e => s b _ e
theorem NKeys.put {H : Hp} {xs : List NE} {k : NestedKey} {b : Addr} {v : V} (h : NKeys H xs) (hk : NK H k (.ref b)) (hd : k.depth ≤ 8) : NKeys H (putN xs k b v) := fun x m => by
  rcases putN_mem m with e | ⟨y, my, e1, e2, _⟩
  · rw [e]; exact ⟨hk, hd⟩
  · rw [e1, e2]; exact h y my
theorem NKeys.out {H : Hp} {xs : List NE} {k : NestedKey} (h : NKeys H xs) : NKeys H (outN xs k) := fun x m => h x (List.mem_filter.mp m).1
theorem raw_dict {P : Program} {w : World} {H : Hp} {h : Heap} {d : Addr} {xs : List NE} (ok : HOk P w H h) (r : RawN w d xs h) (ks : NKeys H xs) : h.DictOfH (nestedKind P w) d (xs.map neH) := by
  obtain ⟨_, _, nd, _, ob, es, n, e1, e2, e3, e4⟩ := r
  refine ⟨ob, es, n, e1, e2, e3, ?_, fun x m => ?_, by rw [keys_neH]; exact nd⟩
  · rw [e4, List.map_map]
    rfl
  · obtain ⟨y, my, rfl⟩ := List.mem_map.mp m
    exact ⟨NK.is ok _ _ _ (ks y my).1 rfl, (ks y my).2⟩
theorem dict_raw {P : Program} {w : World} {h : Heap} {d : Addr} {xs : List NE} (dd : h.DictOfH (nestedKind P w) d (xs.map neH)) (hl : xs.length ≤ sizeLine) (hs : (d == sysModules) = false) (fx : ∀ x ∈ xs, Fix x.2.2) : RawN w d xs h := by
  obtain ⟨ob, es, n, e1, e2, e3, e4, _, nd⟩ := dd
  refine ⟨hl, hs, by rw [← keys_neH]; exact nd, fx, ob, es, n, e1, e2, e3, ?_⟩
  rw [e4, List.map_map]
  rfl
theorem no_raw {P : Program} {w : World} {H : Hp} {h : Heap} {d : Addr} {xs : List NE} (ok : HOk P w H h) (e : Rd H d (NO w d xs)) : RawN w d xs h := (show ObjOk P w H h d (NO w d xs) from e.ok ok).1
section
variable {X : Cx} {pins : List (Addr × Obj)} {σ : St} {H : Hp} {s : Shared} {d b : Addr} {xs : List NE} {k : NestedKey} {A : Around} {E : Value → Shared → Prop}
theorem nd_room (hu : A.units + 64 < cLine) : (nestedKind X.prog X.w).room A.in1 := by
  show A.units + 1 + 8 < cLine
  omega
/-- an entry is written, whatever writes it -/
theorem nd_put {v : V} {h' : Heap} {tk : Nat} (I : Inv X pins σ H s) (e : H d = some (NO X.w d xs)) (ks : NKeys H xs) (hz : xs.length < sizeLine) (fx : Fix v) (dd : h'.DictOfH (nestedKind X.prog X.w) d (storedH (xs.map neH) k b (toV v))) (sb : Heap.SameBut d s.heap h') :
    Inv X pins σ (upd H d (NO X.w d (putN xs k b v))) { s with heap := h', toks := tk } := by
  have r := no_raw I.hok (.inl e)
  rw [stored_neH] at dd
  have r' : RawN X.w d (putN xs k b v) h' := dict_raw dd (by have := putN_len xs k b v; omega) r.2.1 fun x m => by
    rcases putN_mem m with z | ⟨y, my, _, _, z | z⟩
    · rw [z]; exact fx
    · rw [z]; exact r.2.2.2.1 y my
    · rw [z]; exact fx
  obtain ⟨_, _, _, _, ob, _, _, e1, _⟩ := id r'
  exact d_write I (by rw [e]; exact True.intro) sb ⟨ob, e1⟩ r'.ok
end
/-! the words -/
def tNGet (w : World) (td ty : TE) : TE := fun σ H Q => td σ H fun x H1 => ty σ H1 fun y H2 => ∃ (d b b' : Addr) (xs : List NE) (k : NestedKey) (v : V), x = .ref d ∧ Rd H2 d (NO w d xs) ∧ NKeys H2 xs ∧ y = .ref b ∧ NK H2 k (.ref b) ∧ k.depth ≤ 8 ∧ atN xs k = some (b', v) ∧ Q v H2
def tNIn (w : World) (ty td : TE) : TE := fun σ H Q => ty σ H fun y H1 => td σ H1 fun x H2 => ∃ (d b : Addr) (xs : List NE) (k : NestedKey), x = .ref d ∧ Rd H2 d (NO w d xs) ∧ NKeys H2 xs ∧ y = .ref b ∧ NK H2 k (.ref b) ∧ k.depth ≤ 8 ∧ Q (.bl (atN xs k).isSome) H2
def tNNotIn (w : World) (ty td : TE) : TE := fun σ H Q => ty σ H fun y H1 => td σ H1 fun x H2 => ∃ (d b : Addr) (xs : List NE) (k : NestedKey), x = .ref d ∧ Rd H2 d (NO w d xs) ∧ NKeys H2 xs ∧ y = .ref b ∧ NK H2 k (.ref b) ∧ k.depth ≤ 8 ∧ Q (.bl (!(atN xs k).isSome)) H2
def sNPut (w : World) (td ty tv : TE) : TS := fun D σ H => tv σ H fun v H1 => td σ H1 fun x H2 => ty σ H2 fun y H3 => ∃ (d b : Addr) (xs : List NE) (k : NestedKey), x = .ref d ∧ H3 d = some (NO w d xs) ∧ NKeys H3 xs ∧ y = .ref b ∧ NK H3 k (.ref b) ∧ k.depth ≤ 8 ∧ Fix v ∧ xs.length < sizeLine ∧ D.nx σ (upd H3 d (NO w d (putN xs k b v)))
def sNDel (w : World) (td ty : TE) : TS := fun D σ H => td σ H fun x H1 => ty σ H1 fun y H2 => ∃ (d b : Addr) (xs : List NE) (k : NestedKey), x = .ref d ∧ H2 d = some (NO w d xs) ∧ NKeys H2 xs ∧ y = .ref b ∧ NK H2 k (.ref b) ∧ k.depth ≤ 8 ∧ (atN xs k).isSome = true ∧ D.nx σ (upd H2 d (NO w d (outN xs k)))
def tNNew (w : World) : TE := fun _ H Q => ∀ p, H p = none → Q (.ref p) (upd H p (NO w p []))
theorem raw_new (w : World) (h : Heap) (hb : sysModules < h.objs.size) : RawN w h.objs.size [] (h.push { cls := .type "dict", data := .dict #[] }) :=
  ⟨Nat.zero_le _, beq_eq_false_iff_ne.mpr (Ne.symm (Nat.ne_of_lt hb)), List.nodup_nil, fun _ m => (nomatch m), _, #[], 0, Heap.get?_push_size _ rfl, ⟨rfl, rfl, rfl⟩, rfl, rfl⟩
section
variable {X : Cx} {o i value : Expr} {pos pos' tpos : Pos} {td ty tv : TE}
theorem pe_nnew : PE X (.Dict [] [] pos) (tNNew X.w) := ⟨fun _ st _ Hh _ Iv hw =>
  wpAny_Dict_empty ⟨.ref st.heap.objs.size, _, Iv.laid (a := st.heap.objs.size) (o := NO X.w st.heap.objs.size []) (t' := st.toks) (fun _ _ z => Heap.get?_push_of_some _ z) (Nat.le_refl _) (raw_new X.w st.heap Iv.big).ok, rfl, hw _ (Iv.hok.fresh (Nat.le_refl _))⟩⟩
theorem pe_nget (hu : X.A.units + 64 < cLine) (ho : PE X o td) (hi : PE X i ty) (hs : NoSl i) : PE X (.Subscript o i pos) (tNGet X.w td ty) := by
  refine ⟨fun pn st sg Hh Qq Iv hw => ?_⟩
  refine subD_of PySem.F.slot_dict_getitem.lookup hs (thn (ho.run pn st sg Hh _ Iv hw) fun u s1 ⟨x, H1, I1, rx, q1⟩ => thn (hi.run pn s1 sg H1 _ I1 q1) fun iv s2 ⟨y, H2, I2, ry, d, b, b', xs, k, v, ex, g, ks, ey, hk, hd, hv, q2⟩ => ?_)
  subst ex ey
  obtain rfl : u = Value.ref d := rx
  obtain rfl : iv = Value.ref b := ry
  have r := no_raw I2.hok g
  have dd := raw_dict I2.hok r ks
  refine ⟨dd.typeIs, wpAny_getItem_heap (nd_room hu) ⟨NK.is I2.hok _ _ _ hk rfl, hd⟩ dd (by rw [atKey_neH, hv]; rfl) ?_⟩
  have fx : Fix v := by
    unfold atN at hv
    cases z : xs.find? fun x => decide (x.1 = k) with
    | none => rw [z] at hv; cases hv
    | some e =>
      rw [z] at hv
      have : e.2 = (b', v) := Option.some.inj hv
      have := r.2.2.2.1 e (List.mem_of_find?_eq_some z)
      rwa [show e.2.2 = v by rw [‹e.2 = (b', v)›]] at this
  exact ⟨v, H2, I2.tok _, fx.rel, q2⟩
theorem pc_nin (hu : X.A.units + 64 < cLine) (hi : PE X i ty) (ho : PE X o td) : PC X .In i o (tNIn X.w ty td) := by
  refine ⟨fun pn st sg Hh Qq Iv hw => ?_⟩
  refine thn (hi.run pn st sg Hh _ Iv hw) fun iv s1 ⟨y, H1, I1, ry, q1⟩ => thn (ho.run pn s1 sg H1 _ I1 q1) fun u s2 ⟨x, H2, I2, rx, d, b, xs, k, ex, g, ks, ey, hk, hd, q2⟩ => ?_
  subst ex ey
  obtain rfl : u = Value.ref d := rx
  obtain rfl : iv = Value.ref b := ry
  have r := no_raw I2.hok g
  refine wpAny_in_heap (nd_room hu) ⟨NK.is I2.hok _ _ _ hk rfl, hd⟩ r.2.1 (raw_dict I2.hok r ks) ?_
  rw [atKey_neH, Option.isSome_map]
  exact ⟨.bl (atN xs k).isSome, H2, I2.tok _, rfl, q2⟩
theorem pc_nnotin (hu : X.A.units + 64 < cLine) (hi : PE X i ty) (ho : PE X o td) : PC X .NotIn i o (tNNotIn X.w ty td) := by
  refine ⟨fun pn st sg Hh Qq Iv hw => ?_⟩
  refine thn (hi.run pn st sg Hh _ Iv hw) fun iv s1 ⟨y, H1, I1, ry, q1⟩ => thn (ho.run pn s1 sg H1 _ I1 q1) fun u s2 ⟨x, H2, I2, rx, d, b, xs, k, ex, g, ks, ey, hk, hd, q2⟩ => ?_
  subst ex ey
  obtain rfl : u = Value.ref d := rx
  obtain rfl : iv = Value.ref b := ry
  have r := no_raw I2.hok g
  refine wpAny_notIn_heap (nd_room hu) ⟨NK.is I2.hok _ _ _ hk rfl, hd⟩ r.2.1 (raw_dict I2.hok r ks) ?_
  rw [atKey_neH, Option.isSome_map]
  exact ⟨.bl (!(atN xs k).isSome), H2, I2.tok _, rfl, q2⟩
theorem ps_nput (hu : X.A.units + 64 < cLine) (ho : PE X o td) (hi : PE X i ty) (hv : PE X value tv) (hs : swapsWith value (some (.Subscript o i pos')) pos.line X.env = pure false) :
    PS X (.Assign [.Subscript o i pos'] value pos) (sNPut X.w td ty tv) := by
  refine ⟨fun pn st sg Hh D Iv hw => ?_⟩
  refine wpAny_Assign_Subscript (thn (hv.run pn st sg Hh _ Iv hw) fun r s1 ⟨v, H1, I1, rv, q1⟩ => thn (ho.run pn s1 sg H1 _ I1 q1) fun u s2 ⟨x, H2, I2, rx, q2⟩ => thn (hi.run pn s2 sg H2 _ I2 q2) fun iv s3 ⟨y, H3, I3, ry, d, b, xs, k, ex, g, ks, ey, hk, hd, fx, hz, q3⟩ => ?_) hs
  subst ex ey
  obtain rfl : u = Value.ref d := rx
  obtain rfl : iv = Value.ref b := ry
  obtain rfl := fx.val rv
  refine wpAny_setItem_heap (hsz := by rw [List.length_map]; omega) (nd_room hu) ⟨NK.is I3.hok _ _ _ hk rfl, hd⟩ (raw_dict I3.hok (no_raw I3.hok (.inl g)) ks) fun h' dd sb => ?_
  exact ⟨sg, _, nd_put I3 g ks hz fx dd sb, q3⟩
theorem ps_ndel (hu : X.A.units + 64 < cLine) (ho : PE X o td) (hi : PE X i ty) : PS X (.Delete [.Subscript o i tpos] pos) (sNDel X.w td ty) := by
  refine ⟨fun pn st sg Hh D Iv hw => ?_⟩
  refine wpAny_Delete (wpAny_deleteEach_cons (wpAny_delete_Subscript (thn (ho.run pn st sg Hh _ Iv hw) fun u s1 ⟨x, H1, I1, rx, q1⟩ => thn (hi.run pn s1 sg H1 _ I1 q1) fun iv s2 ⟨y, H2, I2, ry, d, b, xs, k, ex, g, ks, ey, hk, hd, hv, q2⟩ => ?_)))
  subst ex ey
  obtain rfl : u = Value.ref d := rx
  obtain rfl : iv = Value.ref b := ry
  have r := no_raw I2.hok (.inl g)
  obtain ⟨p, hp⟩ := Option.isSome_iff_exists.mp hv
  refine wpAny_delItem_heap (hsz := by rw [List.length_map]; exact r.1) (nd_room hu) ⟨NK.is I2.hok _ _ _ hk rfl, hd⟩ r.2.1 (raw_dict I2.hok r ks) (p := (p.1, toV p.2)) (by rw [atKey_neH, hp]; rfl) fun h' dd sb => ?_
  rw [without_neH] at dd
  have r' : RawN X.w d (outN xs k) h' := dict_raw dd (Nat.le_trans (List.length_filter_le _ _) r.1) r.2.1 fun x m => r.2.2.2.1 x (List.mem_filter.mp m).1
  obtain ⟨_, _, _, _, ob, _, _, e1, _⟩ := id r'
  exact wpAny_deleteEach_nil ⟨sg, _, d_write I2 (by rw [g]; exact True.intro) sb ⟨ob, e1⟩ r'.ok, q2⟩
end
/-! for k in d -/
def ItNk (w : World) (d : Addr) (o : Obj) (xs : List NE) : It :=
  ⟨fun i H => H d = some (.frz o (NO w d xs)) ∧ i < xs.length, fun i H x H' => H' = H ∧ ∃ e : NE, xs[i]? = some e ∧ x = .ref e.2.1, fun i H => H d = some (.frz o (NO w d xs)) ∧ xs.length ≤ i⟩
theorem frz_raw {P : Program} {w : World} {H : Hp} {h : Heap} {d : Addr} {o : Obj} {xs : List NE} (ok : HOk P w H h) (e : H d = some (.frz o (NO w d xs))) : (d == sysModules) = false ∧ h.get? d = some o ∧ o.ExactDict ∧ ∃ (es : Array DictEntry) (n : Nat), o.data = .dict es n ∧ es.size = xs.length ∧
    ∀ (i : Nat) (x : NE), xs[i]? = some x → ∃ en, es[i]? = some en ∧ en.key = .ref x.2.1 := by
  obtain ⟨g, r⟩ := (show ObjOk P w H h d (.frz o (NO w d xs)) from ok d _ e)
  obtain ⟨_, a2, _, _, ob, es, n, e1, e2, e3, e4⟩ := r.1
  rw [g] at e1
  cases e1
  refine ⟨a2, g, e2, es, n, e3, by rw [← Array.length_toList, e4, List.length_map], fun i x hx => ⟨⟨x.1.hash w, .ref x.2.1, toV x.2.2⟩, ?_, rfl⟩⟩
  rw [← Array.getElem?_toList, e4, List.getElem?_map, hx]
  rfl
theorem turn_nkeys {P : Program} {w : World} {K : PySem.W.Frag} {tg : Expr} {d : Addr} {o : Obj} {es : Array DictEntry} {n : Nat} {xs : List NE} (it : Addr) (hod : o.data = .dict es n) : Turn P w K tg (ItNk w d o xs) [it] it (fun i h => h.IsKeyIter it d i xs.length n) where
  mem := by simp
  obj := fun i h hst b hb => by
    obtain rfl : b = it := by simpa using hb
    obtain ⟨oi, e, _, dd⟩ := hst
    exact ⟨oi, e, fun v z => by rw [dd] at z; cases z⟩
  keep := fun i h h' hst k => hst.at fun oi e => k it (by simp) oi e
  item := by
    intro X hP hw hK hc i pn st sg Hh E Iv hf hst hg
    subst hP hw hK
    obtain ⟨hd, hi⟩ := hg
    obtain ⟨f0, f1, _, f3, f4, f5⟩ := hf it (by simp)
    obtain ⟨_, hgd, _, es', n', hdt, hsz, ent⟩ := frz_raw Iv.hok hd
    obtain ⟨rfl, rfl⟩ := dict_ep hod hdt
    have hx : xs[i]? = some xs[i] := List.getElem?_eq_getElem hi
    obtain ⟨en, hen, hkey⟩ := ent i _ hx
    refine next_key_item hst hgd hdt hsz hen fun h' hst' sb => ?_
    have I1 : Inv X pn sg Hh { st with heap := h' } := Iv.turned (t' := st.toks) (fun b ob hb e => (sb.2 b hb).trans e) f0 f1 f3 f4 f5
    obtain ⟨oi, e, c, dd⟩ := id hst'
    exact ⟨en.key, rfl, go_of (s := { st with heap := h' }) e c dd (by decide) ⟨.ref xs[i].2.1, Hh, I1, hkey, ⟨rfl, _, hx, rfl⟩, hst', fun b hb => (hf b hb).1⟩⟩
  done := by
    intro X hP hw hK hc i pn st sg Hh E Iv hf hst hg
    subst hP hw hK
    obtain ⟨hd, hi⟩ := hg
    obtain ⟨f0, f1, _, f3, f4, f5⟩ := hf it (by simp)
    obtain ⟨_, hgd, _, es', n', hdt, hsz, _⟩ := frz_raw Iv.hok hd
    obtain ⟨rfl, rfl⟩ := dict_ep hod hdt
    exact next_key_end (Iv.ok.hd hc) hst hgd hdt hsz hi fun h' eb => ⟨rfl, Iv.turned (t' := st.toks) (fun b ob hb e => eb b ob hb e) f0 f1 f3 f4 f5⟩
  self := fun A i st Q E hst h => wpAny_pyIter_keyiter hst h
def iNKeys (w : World) (td : TE) : TI := fun σ H R => td σ H fun x H1 => ∃ (d : Addr) (o : Obj) (xs : List NE), x = .ref d ∧ H1 d = some (.frz o (NO w d xs)) ∧ R (ItNk w d o xs) H1
theorem pi_nkeys {X : Cx} {tg e : Expr} {td : TE} (he : PE X e td) : PI X tg e (iNKeys X.w td) := by
  refine ⟨fun pn st sg Hh R Iv hw => ?_⟩
  refine thn (he.run pn st sg Hh _ Iv hw) fun u s1 ⟨x, H1, I1, rx, d, o, xs, ex, hd, q⟩ => ?_
  subst ex
  obtain rfl : u = Value.ref d := rx
  obtain ⟨hs, hgd, hx, es, n, hdt, hsz, _⟩ := frz_raw I1.hok hd
  refine iter_keys hs hgd hx hdt (pi_one (tk := s1.toks) I1 _ (turn_nkeys _ hdt) ⟨_, Heap.get?_push_size _ rfl, rfl, ?_⟩ q)
  rw [hsz] <;> rfl
theorem walk_nkeys {w : World} {d : Addr} {o : Obj} {xs : List NE} : Walk (ItNk w d o xs) xs.length (fun H => H d = some (.frz o (NO w d xs))) (fun i H x H' => H' = H ∧ ∃ e : NE, xs[i]? = some e ∧ x = .ref e.2.1) :=
  ⟨fun _ _ hi q => ⟨q, hi⟩, fun _ q => ⟨q, Nat.le_refl _⟩, fun _ _ _ _ _ _ y => y⟩
/-! {k: v for ..}, its keys nested tuples -/
theorem nd_dictSet {X : Cx} {pn : List (Addr × Obj)} {sg : St} {Hh : Hp} {st : Shared} {E : Value → Shared → Prop} {D b : Addr} {xs : List NE} {k : NestedKey} {v : V} {u r : Value} {Qq : Unit → Shared → Prop} (hu : X.A.units + 64 < cLine) (Iv : Inv X pn sg Hh st) (hD : Hh D = some (NO X.w D xs)) (ks : NKeys Hh xs)
    (hz : xs.length < sizeLine) (hk : NK Hh k (.ref b)) (hd : k.depth ≤ 8) (ru : u = .ref b) (fx : Fix v) (rv : RelV v r) (h : ∀ s', Inv X pn sg (upd Hh D (NO X.w D (putN xs k b v))) s' → Qq () s') : wpAny (model X.prog X.w) X.A (dictSet D u r) Qq E st := by
  subst ru
  obtain rfl := fx.val rv
  refine wpAny_dictSet_heap (knd := nestedKind X.prog X.w) (hsz := by rw [List.length_map]; omega) (show X.A.units + 8 < cLine by omega) ⟨NK.is Iv.hok _ _ _ hk rfl, hd⟩ (raw_dict Iv.hok (no_raw Iv.hok (.inl hD)) ks) fun h' dd sb => ?_
  exact h _ (nd_put Iv hD ks hz fx dd sb)
def tNc (w : World) (wi : TI) (g : TG) (tt : TT) (tk tv : TE) (vs : List Nat) : TE := fun sg Hh Qq => wi sg Hh fun J H1 => ∀ D, H1 D = none → ∃ W : Nat → Nat → Hp → Prop, (∃ m, W 0 m (upd H1 D (NO w D []))) ∧ ∀ i m H, W i m H →
  (J.stop i H ∧ Qq (.ref D) H) ∨ (J.go i H ∧ ∃ Nx : Hp → Prop, (∀ H', Nx H' → ∃ m', m' < m ∧ W (i + 1) m' H') ∧ ∀ x H', J.yld i H x H' → g x (wipe sg vs) H' fun s2 H2 => wipe s2 vs = wipe sg vs ∧ tt s2 H2 fun c H3 =>
    if c = true then tk s2 H3 fun y H4 => tv s2 H4 fun z H5 => ∃ (b : Addr) (xs : List NE) (k : NestedKey), y = .ref b ∧ H5 D = some (NO w D xs) ∧ NKeys H5 xs ∧ NK H5 k (.ref b) ∧ k.depth ≤ 8 ∧ Fix z ∧ xs.length < sizeLine ∧ Nx (upd H5 D (NO w D (putN xs k b z))) else Nx H3)
section
variable {X : Cx}
theorem nc_core {pn : List (Addr × Obj)} {st : Shared} {sg : St} {Hh : Hp} {Qq : VK} {kx vx tg itx : Expr} {ifs : List Expr} {scp : Scope} {mine : List (Str × Nat)} {pos pos' : Pos} {wi : TI} {g : TG} {tt : TT} {tk tv : TE} {use : Option (Value → Sem Unit)} {Qf : Value → Shared → Prop}
    (hu : X.A.units + 64 < cLine) (calm : X.calm = true) (nd : X.N.Nodup) (Iv : Inv X pn sg Hh st) (hi : PI X tg itx wi) (bo : BlkOk X.N X.env.scope scp mine)
    (pg0 : ∀ (z : Shared) (H : Hp) (C : Addr) (cl : List (Str × Addr)) (fp : List Addr), PG (X.blk z H scp (compEnvC scp cl C X.env) fp) tg g) (pt0 : ∀ (z : Shared) (H : Hp) (C : Addr) (cl : List (Str × Addr)) (fp : List Addr), PTs (X.blk z H scp (compEnvC scp cl C X.env) fp) ifs tt)
    (pk0 : ∀ (z : Shared) (H : Hp) (C : Addr) (cl : List (Str × Addr)) (fp : List Addr), PE (X.blk z H scp (compEnvC scp cl C X.env) fp) kx tk)
    (pv0 : ∀ (z : Shared) (H : Hp) (C : Addr) (cl : List (Str × Addr)) (fp : List Addr), PE (X.blk z H scp (compEnvC scp cl C X.env) fp) vx tv) (fs : ∀ x, foldedSetIterable itx X.env x = pure x)
    (hw : tNc X.w wi g tt tk tv (mine.map (·.2)) sg Hh Qq)
    (after : ∀ D C z m H', Inv X pn sg H' z → Qq (.ref D) H' → z.heap.Ns C m → FpOk X pn H' C → compPost (model X.prog X.w) X.A X.xe use Qf (.ref D) C (.ok .next) z) :
    wpAny (model X.prog X.w) X.A (comprehension (.DictComp kx vx [⟨tg, itx, ifs, 0⟩] scp pos) scp X.env pos' newDict false (eval itx X.env) use) Qf X.xe st := by
  have frees : ∀ y ∈ scp.names, y.2 = .free → ∃ c, X.env.cells.lookup y.1 = some c := fun y hy e => (bo.free y hy e).elim (fun z => Iv.ok.has _ (.inl z)) fun z => Iv.ok.has _ (.inr z)
  refine wpAny_comprehension_free (use := use) rfl fs (closure_ok frees) bo.kind (fun y hy e => by rw [bo.uniq y hy, e]) (thn (hi.run pn st sg Hh _ Iv hw) fun xv s1 hx => thn hx fun itv s2 h2 => ?_)
  obtain ⟨it, fp, tn, J, H2, e0, I2, T, t2, f2, q⟩ := h2
  subst e0
  refine wpAny_newObj_type (newEnv_comp ?_)
  obtain ⟨D, hD⟩ : ∃ D, D = s2.heap.objs.size := ⟨_, rfl⟩
  have Dn : H2 D = none := I2.hok.fresh (Nat.le_of_eq hD.symm)
  obtain ⟨W, ⟨m0, w0⟩, turn⟩ := q D Dn
  obtain ⟨s3, hs3⟩ : ∃ s3 : Shared, s3 = { s2 with heap := s2.heap.push { cls := .type "dict", data := .dict #[] } } := ⟨_, rfl⟩
  have I3 : Inv X pn sg (upd H2 D (NO X.w D [])) s3 := by
    rw [hs3]
    refine I2.laid (t' := s2.toks) (fun c o e => Heap.get?_push_of_some _ e) (Nat.le_of_eq hD.symm) ?_
    rw [hD]
    exact (raw_new X.w s2.heap I2.big).ok
  have hh3 : s3.heap = s2.heap.push { cls := .type "dict", data := .dict #[] } := by rw [hs3]
  have f3 : ∀ c ∈ fp, FpOk X pn (upd H2 D (NO X.w D [])) c ∧ c < s3.heap.objs.size := fun c hc => by
    obtain ⟨o, e, _⟩ := T.obj _ _ t2 c hc
    have lt : c < s2.heap.objs.size := Heap.lt_size e
    refine ⟨⟨?_, (f2 c hc).2⟩, by rw [hh3, Heap.size_push]; exact Nat.lt_succ_of_lt lt⟩
    rw [upd_ne (by rw [hD]; exact Nat.ne_of_lt lt)]
    exact (f2 c hc).1
  have t3 : tn 0 s3.heap := T.keep _ _ _ t2 fun c _ o e => by rw [hh3]; exact Heap.get?_push_of_some _ e
  have I4 := block_start I3 bo nd f3
  rw [← hD, ← hs3]
  show codeAny _ _ (.compStart (.DictComp kx vx [⟨tg, itx, ifs, 0⟩] scp pos) 0 (.ref it) (.ref D) (compEnvC scp (cellsFrom (s3.heap.objs.size + 1) scp.names (cloFrom X.env.cells scp.names [])) s3.heap.objs.size X.env)) (compPost (model X.prog X.w) X.A X.xe use Qf (.ref D) s3.heap.objs.size) { s3 with heap := pushCells (s3.heap.push { cls := .type "dict", data := .dict #[] }) scp.names }
  obtain ⟨cl, hcl⟩ : ∃ cl, cl = cellsFrom (s3.heap.objs.size + 1) scp.names (cloFrom X.env.cells scp.names []) := ⟨_, rfl⟩
  rw [← hcl] at I4 ⊢
  obtain ⟨ce, hce⟩ : ∃ ce, ce = compEnvC scp cl s3.heap.objs.size X.env := ⟨_, rfl⟩
  obtain ⟨H3, hH3⟩ : ∃ H3, H3 = upd H2 D (NO X.w D []) := ⟨_, rfl⟩
  have pg := pg0 s3 H3 s3.heap.objs.size cl fp
  have pt := pt0 s3 H3 s3.heap.objs.size cl fp
  have pk := pk0 s3 H3 s3.heap.objs.size cl fp
  have pv := pv0 s3 H3 s3.heap.objs.size cl fp
  rw [← hH3] at I3 I4 w0 f3
  rw [← hce] at I4 pg pt pk pv ⊢
  have cL : ce.locals = s3.heap.objs.size := by rw [hce]; rfl
  obtain ⟨s4, hs4⟩ : ∃ s4 : Shared, s4 = { s3 with heap := pushCells (s3.heap.push { cls := .type "dict", data := .dict #[] }) scp.names } := ⟨_, rfl⟩
  rw [← hs4] at I4 ⊢
  have t4 : tn 0 s4.heap := T.keep _ _ _ t3 fun c _ o e => by rw [hs4]; exact pushCells_keeps _ _ _ _ (Heap.get?_push_of_some _ e)
  have foot : ∀ {sg' : St} {H' : Hp} {z : Shared}, Inv (X.blk s3 H3 scp ce fp) [] sg' H' z → (∀ c ∈ fp, H' c = none) → ∀ c ∈ fp, FpOk (X.blk s3 H3 scp ce fp) [] H' c := fun I' hn c hc =>
    ⟨hn c hc, (I'.ok.exf c hc).1, I'.ok.exfs c hc, .inl hc, fun x y e => (I'.ok.exf c hc).2 x y e, fun p hp => absurd (show p ∈ ([] : List (Addr × Obj)) ++ [] from hp) (by simp)⟩
  refine codeAny_compStart_dict ?loop (T.self X.A 0 _ _ _ t4 ?loop)
  refine compLoop_anyD (fun m z => ∃ i H', Inv (X.blk s3 H3 scp ce fp) [] (wipe sg (mine.map (·.2))) H' z ∧ tn i z.heap ∧ (∀ c ∈ fp, H' c = none) ∧ W i m H') ?_ m0 ⟨0, H3, I4, t4, fun c hc => (f3 c hc).1.1, w0⟩
  rintro m s5 ⟨i, H5, I5, t5, n5, w5⟩
  rcases turn i m H5 w5 with ⟨stop, qq⟩ | ⟨go, Nx, hNx, step⟩
  · refine thnF (T.done (X.blk s3 H3 scp ce fp) rfl rfl rfl calm i [] s5 _ H5 (fun _ _ => False) I5 (foot I5 n5) t5 stop) fun r s6 ⟨hr, I6⟩ => ?_
    subst hr
    have I7 : Inv X pn sg H5 s6 := I3.call' (ch := fp) I6.os I6.base I6.hok I6.bare fun c hc => ⟨(f3 c hc).1.2.2.2.1, (f3 c hc).1.2.1, (f3 c hc).1.2.2.2.2.1, (f3 c hc).1.2.2.2.2.2⟩
    have nC : H5 s3.heap.objs.size = none := by rw [← cL]; exact I6.free
    obtain ⟨mm, hn, _⟩ := I6.loc
    replace hn : s6.heap.Ns ce.locals mm := hn
    rw [cL] at hn
    exact after D s3.heap.objs.size s6 mm H5 I7 qq hn (I3.fpOk (Nat.le_refl _) nC)
  · refine thnF (T.item (X.blk s3 H3 scp ce fp) rfl rfl rfl calm i [] s5 _ H5 (fun _ _ => False) I5 (foot I5 n5) t5 go) fun r s6 ⟨u, hr, h6⟩ => ?_
    subst hr
    refine thnF h6 fun _ s7 ⟨x, H7, I7, r7, y7, t7, n7⟩ => ?_
    refine thnF (pg.run _ s7 _ H7 x u _ (I7.pinned (foot I7 n7) (T.obj _ _ t7)) r7 (step x H7 y7)) fun _ s8 ⟨sg8, H8, I8, w8, q8⟩ => ?_
    refine thnF (pt.run _ s8 sg8 H8 _ I8 q8) fun c s9 ⟨H9, I9, q9⟩ => ?_
    have fin : ∀ {z : Shared} {H' : Hp}, Inv (X.blk s3 H3 scp ce fp) ([] ++ pinsAt fp s7.heap) sg8 H' z → Nx H' → ∃ m', m' < m ∧ ∃ i H', Inv (X.blk s3 H3 scp ce fp) [] (wipe sg (mine.map (·.2))) H' z ∧ tn i z.heap ∧ (∀ c ∈ fp, H' c = none) ∧ W i m' H' := fun {z H'} I' nx => by
      obtain ⟨m', lt, w'⟩ := hNx H' nx
      have pin' : ∀ c ∈ fp, ∀ o, s7.heap.get? c = some o → z.heap.get? c = some o ∧ H' c = none := fun c hc o e => by
        have zz := I'.pin (c, o) (List.mem_append_right _ (List.mem_append_right _ (mem_pinsAt hc e)))
        exact ⟨zz.1, zz.2.1⟩
      have hl : (wipe sg (mine.map (·.2))).length = sg8.length := by rw [← w8, wipe_length]
      refine ⟨m', lt, i + 1, H', (I'.unpinned (pins := [])).weak hl (fun j v e => by rw [← w8] at e; exact (wipe_some e).1), T.keep _ _ _ t7 fun c hc o e => (pin' c hc o e).1, fun c hc => ?_, w'⟩
      obtain ⟨o, e, _⟩ := T.obj _ _ t7 c hc
      exact (pin' c hc o e).2
    cases c with
    | false =>
      rw [if_neg Bool.false_ne_true] at q9 ⊢
      exact fin I9 q9
    | true =>
      rw [if_pos rfl] at q9 ⊢
      refine thnF (pk.run _ s9 sg8 H9 _ I9 q9) fun z1 s10 ⟨yk, H10, I10, r10, q10⟩ => thnF (pv.run _ s10 sg8 H10 _ I10 q10) fun z2 s11 ⟨yv, H11, I11, r11, b, xs, k, ek, hD11, ks, hk, hd, fx, hz, nx⟩ => ?_
      subst ek
      exact nd_dictSet (X := X.blk s3 H3 scp ce fp) hu I11 hD11 ks hz hk hd r10 fx r11 fun s12 I12 => fin I12 nx
theorem ps_setNc {i : Nat} {y : Str} {py : Pos} {kx vx tg itx : Expr} {ifs : List Expr} {scp : Scope} {mine : List (Str × Nat)} {pos spos : Pos} {wi : TI} {g : TG} {tt : TT} {tk tv : TE} (hu : X.A.units + 64 < cLine) (calm : X.calm = true) (nd : X.N.Nodup) (hy : X.N[i]? = some y) (hyl : X.env.scope.names.lookup y = some .local)
    (sw : swapsWith (.DictComp kx vx [⟨tg, itx, ifs, 0⟩] scp pos) (some (.Name y py)) spos.line X.env = pure true) (hi : PI X tg itx wi) (bo : BlkOk X.N X.env.scope scp mine)
    (pg0 : ∀ (z : Shared) (H : Hp) (C : Addr) (cl : List (Str × Addr)) (fp : List Addr), PG (X.blk z H scp (compEnvC scp cl C X.env) fp) tg g) (pt0 : ∀ (z : Shared) (H : Hp) (C : Addr) (cl : List (Str × Addr)) (fp : List Addr), PTs (X.blk z H scp (compEnvC scp cl C X.env) fp) ifs tt)
    (pk0 : ∀ (z : Shared) (H : Hp) (C : Addr) (cl : List (Str × Addr)) (fp : List Addr), PE (X.blk z H scp (compEnvC scp cl C X.env) fp) kx tk)
    (pv0 : ∀ (z : Shared) (H : Hp) (C : Addr) (cl : List (Str × Addr)) (fp : List Addr), PE (X.blk z H scp (compEnvC scp cl C X.env) fp) vx tv) (fs : ∀ x, foldedSetIterable itx X.env x = pure x := by intro _; rfl) :
    PS X (.Assign [.Name y py] (.DictComp kx vx [⟨tg, itx, ifs, 0⟩] scp pos) spos) (tAsg (tNc X.w wi g tt tk tv (mine.map (·.2))) (gName i)) := by
  refine ⟨fun pn st sg Hh D Iv hw => ?_⟩
  rw [exec_Assign_Name_used _ _ _ _ sw]
  refine wpAny_bind (wpAny_standAt (wpAny_bind ?_))
  show wpAny _ X.A (do let _ ← comprehension (.DictComp kx vx [⟨tg, itx, ifs, 0⟩] scp pos) scp X.env (firstIterPos [⟨tg, itx, ifs, 0⟩] pos) newDict false (eval itx X.env) (some (assign (.Name y py) X.env))) _ _ st
  refine wpAny_bind (thn (nc_core (Qf := fun _ z => SP X pn D .next z) (Qq := fun x H1 => gName i x sg H1 D.nx) hu calm nd Iv hi bo pg0 pt0 pk0 pv0 fs hw fun L C z m H' I' q hn f => ?_) fun _ z hq => wpAny_pure (wpAny_pure hq))
  show wpAny _ _ (assign (.Name y py) X.env (.ref L)) _ _ _
  refine wpAny_assign_Name (store_ok2 (v := V.ref L) I' nd hy (.inl hyl) rfl (fun s2 I2 ⟨a, sb, ha⟩ => ?_) (.inr hyl))
  obtain ⟨f0, f1, f2, f3, f4, f5⟩ := f
  have off : C ≠ a := ha.elim (fun z => by rw [z]; exact f1) fun z e => f4 y a z e.symm
  exact ⟨m, hn.sameBut sb off, fun h3 sb3 => ⟨_, H', I2.turned (t' := s2.toks) (fun c o hb e => (sb3.2 c hb).trans e) f0 f1 f3 f4 f5, q⟩⟩
theorem pe_nc {kx vx tg itx : Expr} {ifs : List Expr} {scp : Scope} {mine : List (Str × Nat)} {pos : Pos} {wi : TI} {g : TG} {tt : TT} {tk tv : TE} (hu : X.A.units + 64 < cLine) (calm : X.calm = true) (nd : X.N.Nodup) (hi : PI X tg itx wi) (bo : BlkOk X.N X.env.scope scp mine)
    (pg0 : ∀ (z : Shared) (H : Hp) (C : Addr) (cl : List (Str × Addr)) (fp : List Addr), PG (X.blk z H scp (compEnvC scp cl C X.env) fp) tg g) (pt0 : ∀ (z : Shared) (H : Hp) (C : Addr) (cl : List (Str × Addr)) (fp : List Addr), PTs (X.blk z H scp (compEnvC scp cl C X.env) fp) ifs tt)
    (pk0 : ∀ (z : Shared) (H : Hp) (C : Addr) (cl : List (Str × Addr)) (fp : List Addr), PE (X.blk z H scp (compEnvC scp cl C X.env) fp) kx tk)
    (pv0 : ∀ (z : Shared) (H : Hp) (C : Addr) (cl : List (Str × Addr)) (fp : List Addr), PE (X.blk z H scp (compEnvC scp cl C X.env) fp) vx tv) (fs : ∀ x, foldedSetIterable itx X.env x = pure x := by intro _; rfl) :
    PE X (.DictComp kx vx [⟨tg, itx, ifs, 0⟩] scp pos) (tNc X.w wi g tt tk tv (mine.map (·.2))) := by
  refine ⟨fun pn st sg Hh Qq Iv hw => ?_⟩
  rw [arm_eval_DictComp]
  refine nc_core hu calm nd Iv hi bo pg0 pt0 pk0 pv0 fs hw fun D C z m H' I' q hn f => ⟨m, hn, fun h'' sb => ?_⟩
  exact ⟨.ref D, H', I'.turned (t' := z.toks) (fun c o hb e => (sb.2 c hb).trans e) f.1 f.2.1 f.2.2.2.1 f.2.2.2.2.1 f.2.2.2.2.2, rfl, q⟩
end
/-- such a comprehension over a walk -/
theorem nc_it {w : World} {J : It} {n : Nat} {G : Hp → Prop} {Y : Nat → Hp → V → Hp → Prop} (wk : Walk J n G Y) {g : TG} {tt : TT} {tk tv : TE} {vs : List Nat} {sg : St} {H1 : Hp} {D : Addr} {Qd : Hp → Prop} (Pv : Nat → Hp → Prop) (h0 : Pv 0 (upd H1 D (NO w D []))) (hG : ∀ i H, i ≤ n → Pv i H → G H)
    (hs : ∀ i x H H', i < n → Pv i H → Y i H x H' → g x (wipe sg vs) H' fun s2 H2 => wipe s2 vs = wipe sg vs ∧ tt s2 H2 fun c H3 =>
      if c = true then tk s2 H3 fun y H4 => tv s2 H4 fun z H5 => ∃ (b : Addr) (xs : List NE) (k : NestedKey), y = .ref b ∧ H5 D = some (NO w D xs) ∧ NKeys H5 xs ∧ NK H5 k (.ref b) ∧ k.depth ≤ 8 ∧ Fix z ∧ xs.length < sizeLine ∧ Pv (i + 1) (upd H5 D (NO w D (putN xs k b z))) else Pv (i + 1) H3) (hd : ∀ H, Pv n H → Qd H) :
    ∃ W : Nat → Nat → Hp → Prop, (∃ m, W 0 m (upd H1 D (NO w D []))) ∧ ∀ i m H, W i m H →
      (J.stop i H ∧ Qd H) ∨ (J.go i H ∧ ∃ Nx : Hp → Prop, (∀ H', Nx H' → ∃ m', m' < m ∧ W (i + 1) m' H') ∧ ∀ x H', J.yld i H x H' → g x (wipe sg vs) H' fun s2 H2 => wipe s2 vs = wipe sg vs ∧ tt s2 H2 fun c H3 =>
        if c = true then tk s2 H3 fun y H4 => tv s2 H4 fun z H5 => ∃ (b : Addr) (xs : List NE) (k : NestedKey), y = .ref b ∧ H5 D = some (NO w D xs) ∧ NKeys H5 xs ∧ NK H5 k (.ref b) ∧ k.depth ≤ 8 ∧ Fix z ∧ xs.length < sizeLine ∧ Nx (upd H5 D (NO w D (putN xs k b z))) else Nx H3) := by
  refine ⟨fun i m H => m = n - i ∧ i ≤ n ∧ Pv i H, ⟨n, by simp, Nat.zero_le _, h0⟩, ?_⟩
  rintro i m H ⟨rfl, hi, p⟩
  by_cases hlt : i < n
  · exact .inr ⟨wk.goes i H hlt (hG i H hi p), Pv (i + 1), fun H' p' => ⟨n - (i + 1), by omega, rfl, hlt, p'⟩, fun x H' y => hs i x H H' hlt p (wk.yields i H x H' hlt (hG i H hi p) y)⟩
  · obtain rfl : i = n := by omega
    exact .inl ⟨wk.stops H (hG i H hi p), hd H p⟩
/-! o.m(e, .., k = v, ..) -/
def tMethK (C : Addr) (m : Str) (n l : Nat) (sp : Sp) (gV : List V → List V → List V) (E : XK) (ta : TE) (t tk : TA) : TE := fun sg Hh Qq => ta sg Hh fun x H1 => ∃ a dx fs, x = .ref a ∧ H1 a = some (.ins C dx fs) ∧ fs.lookup m = none ∧
  t sg H1 fun vs H2 => tk sg H2 fun zs H3 => vs.length + 1 = n ∧ zs.length = l ∧ sp (gV (x :: vs) zs) H3 Qq E
theorem pe_methK {X : Cx} {CX : CXT} {k n : Nat} {f C : Addr} {fd : FuncData} {ps ks : List Str} {sp : Sp} {E : XK} {m : Str} {o e : Expr} {es : List Expr} {kws : List Keyword} {pos apos : Pos} {ta : TE} {t tk : TA} {g : List Value → List Value → List Value} {gV : List V → List V → List V} {pl : Sem Bool} (he : PE X o ta) (c : Cls X.K C) (hm : Meth X.K C m f)
    (F : FnOk X.prog X.w X.K X.mg X.base CX k f fd ps sp) (hr : Room k X.A) (hb : KBn X.K fd ps n ks g gV) (hx : Passes CX X E) (ha : PA X (e :: es) t) (hkw : PK X kws tk)
    (hall : (backToKw pos (keywordEach kws X.env)).all (·.1.isSome) = true := by rfl) (hks : (backToKw pos (keywordEach kws X.env)).filterMap (·.1) = ks := by rfl) (hst : starEach (e :: es) X.env = (false, eval e X.env) :: starEach es X.env := by rfl)
    (hpl : ((backTo pos (starEach (e :: es) X.env)).any (·.1) || (backToKw pos (keywordEach kws X.env)).any (·.1.isNone)) = false := by rfl)
    (ht : eval (.Call (.Attribute o m apos) (e :: es) kws pos) X.env = (do
      let ov ← eval o X.env
      standAt apos.atName
      let (f, first) ← holding [ov] (getMethod ov m pl)
      callWith pos f first (backTo pos (starEach (e :: es) X.env)) (backToKw pos (keywordEach kws X.env))) := by rfl) :
    PE X (.Call (.Attribute o m apos) (e :: es) kws pos) (tMethK C m n ks.length sp gV E ta t tk) := by
  refine ⟨fun pn st sg Hh Qq Iv hw => ?_⟩
  refine PySem.W.methodCall_KW (pl := pl) (thn (he.run pn st sg Hh _ Iv hw) fun u s1 ⟨x, H1, I1, rx, a, dx, fs, ex, ea, l, q⟩ => ?_) ht
  subst ex
  obtain rfl : u = Value.ref a := rx
  refine getmeth_ok I1 ea c hm l ?_
  refine PySem.W.callWith_KW (first := [.ref a]) (h₀ := X.base) I1.ok.mod.kin hm.kp hall (thn (ha.run pos pn s1 sg H1 _ I1 q) fun us s2 ⟨vs, H2, I2, r, q2⟩ => ?_) hpl hst
  refine thn (hkw.run pos pn s2 sg H2 _ I2 q2) fun ws s3 ⟨zs, H3, I3, rz, l1, l2, q3⟩ => ⟨I3.kIn, ?_⟩
  rw [hks]
  exact run_fnN (us := .ref a :: us) (vs := .ref a :: vs) F hr hb hx I3 (.cons rfl r) rz (by rw [List.length_cons]; exact l1) l2 q3
end L2
/-! for k, v in d.items(), its keys nested tuples -/
namespace L2
open PySem PySem.W PySem.Calls PyProof.Rows PyProof.V PySem.Spec
def Itni (w : World) (d : Addr) (o : Obj) (xs : List NE) : It :=
  ⟨fun i H => H d = some (.frz o (NO w d xs)) ∧ i < xs.length, fun i H x H' => ∃ (t : Addr) (e : NE), xs[i]? = some e ∧ x = .ref t ∧ H t = none ∧ H' = upd H t (.tup [.ref e.2.1, e.2.2]), fun i H => H d = some (.frz o (NO w d xs)) ∧ xs.length ≤ i⟩
theorem frz_rawI {P : Program} {w : World} {H : Hp} {h : Heap} {d : Addr} {o : Obj} {xs : List NE} (ok : HOk P w H h) (e : H d = some (.frz o (NO w d xs))) : (d == sysModules) = false ∧ ∃ (es : Array DictEntry) (n : Nat), o.data = .dict es n ∧ es.size = xs.length ∧ DT.Raw h d es n ∧
    ∀ (i : Nat) (x : NE), xs[i]? = some x → Fix x.2.2 ∧ ∃ en, es[i]? = some en ∧ en.key = .ref x.2.1 ∧ en.val = toV x.2.2 := by
  obtain ⟨g, r⟩ := (show ObjOk P w H h d (.frz o (NO w d xs)) from ok d _ e)
  obtain ⟨_, a2, _, a4, ob, es, n, e1, e2, e3, e4⟩ := r.1
  rw [g] at e1
  cases e1
  refine ⟨a2, es, n, e3, by rw [← Array.length_toList, e4, List.length_map], ⟨o, g, e2, e3⟩, fun i x hx => ⟨a4 x (List.mem_of_getElem? hx), ⟨x.1.hash w, .ref x.2.1, toV x.2.2⟩, ?_, rfl, rfl⟩⟩
  rw [← Array.getElem?_toList, e4, List.getElem?_map, hx]
  rfl
theorem turn_nitems {P : Program} {w : World} {K : PySem.W.Frag} {elts : List Expr} {kk : Nat} {tpos : Pos} {d : Addr} {o : Obj} {es : Array DictEntry} {n : Nat} {xs : List NE} (it : Addr) (hod : o.data = .dict es n) :
    Turn P w K (.Tuple elts kk tpos) (Itni w d o xs) [it] it (fun i h => ∃ ok ov, IsItemIter h it d i es.size n ok ov) where
  mem := by simp
  obj := fun i h hst b hb => by
    obtain rfl : b = it := by simpa using hb
    obtain ⟨ok, ov, e⟩ := hst
    exact ⟨_, e, fun v z => nomatch z⟩
  keep := fun i h h' hst k => let ⟨ok, ov, e⟩ := hst; ⟨ok, ov, k it (by simp) _ e⟩
  item := by
    intro X hP hw hK hc i pn st sg Hh E Iv hf hst hg
    subst hP hw hK
    obtain ⟨hd, hi⟩ := hg
    obtain ⟨_, es', n', hdt, hsz, raw, ent⟩ := frz_rawI Iv.hok hd
    obtain ⟨rfl, rfl⟩ := dict_ep hod hdt
    have hx : xs[i]? = some xs[i] := List.getElem?_eq_getElem hi
    obtain ⟨fx, en, hen, hkey, hval⟩ := ent i _ hx
    obtain ⟨ok, ov, he⟩ := hst
    have hie : i < es'.size := by rw [hsz]; exact hi
    have hee : es'[i] = en := Option.some.inj ((Array.getElem?_eq_getElem hie).symm.trans hen)
    have hlt : it < st.heap.objs.size := Heap.lt_size he
    refine DT.nextI he raw hie fun h' ho hT hz hk => ?_
    rw [hee] at ho hT
    refine ⟨_, rfl, wpAny_letOwnedTupleGo_items (s := { st with heap := h' }) ho fun h'' he' sb => ?_⟩
    have hT2 : h''.get? st.heap.objs.size = some { cls := .type "tuple", data := .seq #[en.key, en.val] } := (sb.2 _ (Nat.ne_of_gt hlt)).trans hT
    have new : ObjOk X.prog X.w (upd Hh st.heap.objs.size (.tup [.ref xs[i].2.1, xs[i].2.2])) h'' st.heap.objs.size (.tup [.ref xs[i].2.1, xs[i].2.2]) :=
      ⟨by show 2 ≤ sizeLine; decide, [en.key, en.val], .cons (by rw [hkey]; rfl) (.cons (by rw [hval]; exact fx.rel) .nil), ⟨_, hT2, rfl, _, rfl⟩⟩
    have I1 : Inv X pn sg (upd Hh st.heap.objs.size (.tup [.ref xs[i].2.1, xs[i].2.2])) { st with heap := h'' } :=
      Iv.turnedNew (t' := st.toks) (ch := [it]) (fun b ob hb e => (sb.2 b (by simpa using hb)).trans (hk b ob (by simpa using hb) e)) hf (Nat.le_refl _) new
    refine ⟨.ref st.heap.objs.size, _, I1, rfl, ⟨_, _, hx, rfl, Iv.hok.fresh (Nat.le_refl _), rfl⟩, ⟨_, _, he'⟩, fun b hb => ?_⟩
    have e : b = it := by simpa using hb
    rw [e, upd_ne (Nat.ne_of_lt hlt)]
    exact (hf it (by simp)).1
  done := by
    intro X hP hw hK hc i pn st sg Hh E Iv hf hst hg
    subst hP hw hK
    obtain ⟨hd, hi⟩ := hg
    obtain ⟨f0, f1, _, f3, f4, f5⟩ := hf it (by simp)
    obtain ⟨_, es', n', hdt, hsz, raw, _⟩ := frz_rawI Iv.hok hd
    obtain ⟨rfl, rfl⟩ := dict_ep hod hdt
    obtain ⟨ok, ov, he⟩ := hst
    exact DT.endI (Iv.ok.hd hc) he raw (by rw [hsz]; exact hi) fun h' eb => ⟨rfl, Iv.turned (t' := st.toks) (fun b ob hb e => eb b ob hb e) f0 f1 f3 f4 f5⟩
  self := fun A i st Q E hst h => let ⟨_, _, e⟩ := hst; PySem.W.kcp_self e h
def iNItems (w : World) (td : TE) : TI := fun σ H R => td σ H fun x H1 => ∃ (d : Addr) (o : Obj) (xs : List NE), x = .ref d ∧ H1 d = some (.frz o (NO w d xs)) ∧ R (Itni w d o xs) H1
theorem pi_nitems {X : Cx} {e : Expr} {td : TE} {apos cpos : Pos} {elts : List Expr} {kk : Nat} {tpos : Pos} (he : PE X e td) (hbase : attributeBase e "items" X.env (eval e X.env) = eval e X.env := by rfl) (hline : (apos.endLine == cpos.line) = true := by rfl) :
    PI X (.Tuple elts kk tpos) (.Call (.Attribute e "items" apos) [] [] cpos) (iNItems X.w td) := by
  refine ⟨fun pn st sg Hh R Iv hw => ?_⟩
  refine wpAny_Call_method (T := "dict") (id := "dict.items") hbase rfl hline F.plainAttrs_dict F.slot_dict_items F.type_dict_items (thn (he.run pn st sg Hh _ Iv hw) fun u s1 ⟨x, H1, I1, rx, d, o, xs, ex, hd, q⟩ => ?_)
  subst ex
  obtain rfl : u = Value.ref d := rx
  obtain ⟨hs, es, n, hdt, hsz, raw, _⟩ := frz_rawI I1.hok hd
  obtain ⟨ob, hob, hx, _⟩ := id raw
  refine ⟨raw.typeIs, fun b e => ⟨ob, by cases e; exact hob, hx.2.1⟩, ?_⟩
  have I2 : Inv X pn sg H1 { s1 with heap := s1.heap.push { cls := .type "dict_items", data := .fields #[.ref d] } } := I1.kept (t' := s1.toks) fun b ob q => Heap.get?_push_of_some _ q
  have fin : wpAny (model X.prog X.w) X.A (pyIter (.ref s1.heap.objs.size)) (PIE X pn sg (.Tuple elts kk tpos) R) X.xe { s1 with heap := s1.heap.push { cls := .type "dict_items", data := .fields #[.ref d] } } :=
    DT.iterI (d := d) (es := es) (ep := n) ⟨_, Heap.get?_push_size _ rfl, rfl, rfl⟩ (raw.push _) (pi_one (tk := s1.toks) I2 _ (turn_nitems _ hdt) ⟨.none, .none, Heap.get?_push_size _ rfl⟩ q)
  show wpAny _ _ (callWith cpos (.builtin "dict.items") [.ref d] [] []) _ X.xe s1
  exact method_meetsIn F.slot_dict_items F.entry_dict_items rfl (PySem.evalArgs_none ⟨rfl, raw.typeIs, F.args_dict_items_1 _, _, DT.meetsItems (es := es) (ep := n) hs, raw, fin⟩)
theorem walk_nitems {w : World} {d : Addr} {o : Obj} {xs : List NE} : Walk (Itni w d o xs) xs.length (fun H => H d = some (.frz o (NO w d xs))) (fun i H x H' => ∃ (t : Addr) (e : NE), xs[i]? = some e ∧ x = .ref t ∧ H t = none ∧ H' = upd H t (.tup [.ref e.2.1, e.2.2])) :=
  ⟨fun _ _ hi q => ⟨q, hi⟩, fun _ q => ⟨q, Nat.le_refl _⟩, fun _ _ _ _ _ _ y => y⟩
end L2
/-! sorted(d), d a dict whose keys are whole numbers: a new list of them, in order -/
namespace L2
open PySem PySem.Spec PyProof.Rows
def intOf : Value → Int
  | .int k _ => k
  | _ => 0
theorem each_int {h : Heap} {a : Addr} : ∀ {vs : List Value}, (∀ v ∈ vs, ∃ k t, v = Value.int k t) → PySem.W.EachIs (fun u k => RelV (V.int k) u) vs (vs.map intOf) ∧ PySem.W.EachIs (fun v b => ∃ as, Reads h v (PyData.int b) as ∧ a ∉ as) vs (vs.map intOf)
  | [], _ => ⟨.nil, .nil⟩
  | v :: vs, hv => by
    obtain ⟨k, t, rfl⟩ := hv v (by simp)
    obtain ⟨h1, h2⟩ := each_int (h := h) (a := a) fun u m => hv u (List.mem_cons_of_mem _ m)
    exact ⟨.cons ⟨t, rfl⟩ h1, .cons ⟨[], .int k t, fun m => nomatch m⟩ h2⟩
theorem vals_eachI : ∀ {us : List Value} {ks : List Int}, PySem.W.EachIs (fun u k => RelV (V.int k) u) us ks → Vals (ks.map V.int) us
  | _, _, .nil => .nil
  | _, _, .cons r rr => .cons r (vals_eachI rr)
theorem int_order (l : List Int) : (l.mergeSort (PySem.W.dataLe false PyData.int)).Pairwise (· ≤ ·) := by
  have e := PySem.W.dataLe_int (fun k : Int => k)
  rw [e]
  refine (List.pairwise_mergeSort (fun a b c h1 h2 => ?_) (fun a b => ?_) l).imp fun z => of_decide_eq_true z
  · exact decide_eq_true (Int.le_trans (of_decide_eq_true h1) (of_decide_eq_true h2))
  · rcases Int.le_total a b with z | z
    · rw [decide_eq_true z]; rfl
    · rw [decide_eq_true z, Bool.or_true]
def rSortDk : List V → Hp → VK → Prop := fun vs H Q => ∃ (a : Addr) (kvs : List (Key × V)) (l : List Int), vs = [V.ref a] ∧ H a = some (.dK kvs) ∧ kvs.map (·.1) = l.map Sum.inl ∧ l.length ≤ 1000 ∧
  ∀ (p : Addr) (ks : List Int), H p = none → ks.Perm l → ks.Pairwise (· ≤ ·) → Q (.ref p) (upd H p (.lst (ks.map V.int)))
theorem cr_sortDk {X : Cx} (hc : X.calm = true) (hu : X.A.units + 64 < cLine) : CallR X (.builtin "sorted") rSortDk := by
  intro pins s σ H vs us Q I r h
  obtain ⟨a, kvs, l, rfl, ha, hks, few, q⟩ := h
  rw [Vals.ref1 r]
  obtain ⟨_, lo, ws, rel, dd⟩ := dk_of I.hok ha
  obtain ⟨ep, hat⟩ := dd.dictAt
  have hkeys : ws.map (·.1) = l.map Sum.inl := rel.keys.symm.trans hks
  have wl : ws.length = l.length := by
    have e := congrArg List.length hkeys
    rw [List.length_map, List.length_map] at e
    exact e
  refine Calls.call_function_entry kind_sorted plain_sorted entry_sorted (args_sorted1 _) ?_
  unfold Builtin.«sorted»
  refine wpAny_bind (m := checkCount "sorted" 1 1 _) (wpAny_pure ?_)
  refine wpAny_bind (PySem.W.kdu_collect (A := X.A.in1) (PySem.W.kdl_dict (knd := mixKind X.prog X.w) (kvs := ws) (ep := ep) lo) (I.ok.hd hc) hat (by rw [wl, sizeLine_eq]; omega) fun h' tk acc hk hacc => ?_)
  obtain ⟨vs, hvs0⟩ : ∃ vs, vs = acc.toList := ⟨_, rfl⟩
  have len : vs.length = l.length := by rw [hvs0, Array.length_toList, hacc.1, wl]
  have item : ∀ (j : Nat) (v : Value), vs[j]? = some v → ∃ k t, l[j]? = some k ∧ v = Value.int k t := fun j v e => by
    rw [hvs0] at e
    obtain ⟨k, x, e1, e2⟩ := hacc.2 j v (by rw [← Array.getElem?_toList]; exact e)
    have e3 : (ws.map (·.1))[j]? = some k := by
      rw [List.getElem?_map, e1]
      rfl
    rw [hkeys, List.getElem?_map] at e3
    cases e4 : l[j]? with
    | none => rw [e4] at e3; cases e3
    | some y =>
      rw [e4] at e3
      cases e3
      obtain ⟨t, ev⟩ : RelV (V.int y) v := relV_key (k := Sum.inl y) e2
      exact ⟨y, t, rfl, ev⟩
  have hvs : ∀ v ∈ vs, ∃ k t, v = Value.int k t := fun v mv => by
    obtain ⟨j, hj⟩ := List.mem_iff_getElem?.mp mv
    obtain ⟨k, t, _, z⟩ := item j v hj
    exact ⟨k, t, z⟩
  have pk : vs.map intOf = l := by
    apply List.ext_getElem?
    intro j
    rw [List.getElem?_map]
    cases e : vs[j]? with
    | none => rw [List.getElem?_eq_none (by have := List.getElem?_eq_none_iff.mp e; omega)]; rfl
    | some v =>
      obtain ⟨k, t, z1, rfl⟩ := item j v e
      rw [z1]
      rfl
  have I1 : Inv X pins σ H { s with heap := h', toks := tk } := I.kept hk
  rw [← hvs0]
  refine wpAny_bind (wpAny_newList ?_ (by rw [len, sizeLine_eq]; omega))
  have hoL : (h'.push (seqObj "list" vs.toArray 0)).get? h'.objs.size = some (seqObj "list" vs.toArray 0) := Heap.get?_push_size _ rfl
  obtain ⟨e1, e2⟩ := each_int (h := h'.push (seqObj "list" vs.toArray 0)) (a := h'.objs.size) hvs
  show wpAny _ _ _ _ _ { s with heap := h'.push (seqObj "list" vs.toArray 0), toks := tk }
  refine wpAny_bind (wpAny_holding (PySem.W.list_sort_data (s := { s with heap := h'.push (seqObj "list" vs.toArray 0), toks := tk }) (enc := PyData.int) hoL e1 e2 (PySem.W.AllAlike.of fun _ _ => rfl) (PySem.W.Sortable.others fun _ => ⟨fun z => (nomatch z), fun _ z => (nomatch z)⟩) (by rw [List.length_map, len, sizeLine_eq]; omega) (fun b _ => ?_) fun out hlen eo => ?_))
  · show X.A.units + 1 + 1 + (PyData.int b).depth < cLine
    have : (PyData.int b).depth = 0 := by simp [PyData.depth]
    omega
  rw [pk] at eo
  obtain ⟨c, hcx⟩ := sortedHeap_at (vs := vs) (out := out.toArray) hoL
  have srt := int_order l
  have pp := List.mergeSort_perm l (PySem.W.dataLe false PyData.int)
  generalize l.mergeSort (PySem.W.dataLe false PyData.int) = ks at eo srt pp
  refine wpAny_pure ⟨_, rfl, .ref h'.objs.size, _, I1.laid (t' := tk) (o := .lst (ks.map V.int)) (fun b u e => ?_) (Nat.le_refl _) ⟨by rw [List.length_map, pp.length_eq, sizeLine_eq]; omega, out, c, vals_eachI eo, hcx⟩, rfl, q _ ks (I1.hok.fresh (Nat.le_refl _)) pp srt⟩
  have lt := Heap.lt_size e
  rw [sortedHeap_old (Nat.ne_of_lt lt) (by rw [size_push']; exact Nat.lt_succ_of_lt lt)]
  exact Heap.get?_push_of_some _ e
end L2
/-! a def with one keyword-only parameter that has a default: the calls without it -/
namespace L2
open PySem PySem.Spec PyProof.Rows
theorem kwd_one {K : PySem.W.Frag} {x qual key : Str} {sd : Stmt} {f D T : Addr} {oc doc pm cdv ct : Value} {od an : Option Addr} {osl : Array (Option Value)} {ps : List Str} {n : Nat}
    (l : K.lookup f = some ⟨oc, od, .func (PySem.W.fnOf x qual (defArgs sd) (defBody sd) (defScope sd) .none (.ref D) doc pm an cdv ct), osl⟩) (kw : PySem.W.nsIn K D key = some (some (.ref T))) (hn : n + 1 = ps.length)
    (h : ∀ (us : List Value) (v : Value), us.length = n → KwChain D [(key, v)] (bindArgs (PySem.W.fnOf x qual (defArgs sd) (defBody sd) (defScope sd) .none (.ref D) doc pm an cdv ct) ⟨us, []⟩) (ps.zip (us ++ [v]))) :
    Binds K (PySem.W.fnOf x qual (defArgs sd) (defBody sd) (defScope sd) .none (.ref D) doc pm an cdv ct) ps [.ref T] := by
  intro s us X hlen
  have lu : us.length = n := by
    rw [List.length_append, List.length_singleton] at hlen
    omega
  refine BindsTo.of_looks fun M => KwChain.looks X (fun q m => ?_) (h us (.ref T) lu)
  rw [List.mem_singleton.mp m]
  exact kw
end L2
namespace L2
open PySem PySem.Spec PyProof.Rows
/-- a method with a default, called in a try without it -/
def tMethTd (C : Addr) (m : Str) (sp : Sp) (dvs : List V) (E : St → XK) (ta : TE) (t : TA) : TE := fun sg Hh Qq =>
  ta sg Hh fun x H1 => ∃ a dx fs, x = .ref a ∧ H1 a = some (.ins C dx fs) ∧ fs.lookup m = none ∧ t sg H1 fun vs H2 => sp (x :: (vs ++ dvs)) H2 Qq (E sg)
theorem pe_methTd {X : Cx} {CX : CXT} {k : Nat} {f C : Addr} {fd : FuncData} {ps : List Str} {sp : Sp} {E : St → XK} {m : Str} {pos apos : Pos} {e o : Expr} {es : List Expr} {ta : TE} {t : TA} {dvs : List V} {ds : List Value} {pl : Sem Bool} (he : PE X o ta) (c : Cls X.K C) (hm : Meth X.K C m f)
    (F : FnOk X.prog X.w X.K X.mg X.base CX k f fd ps sp) (hr : Room k X.A) (hb : Binds X.K fd ps ds) (hd : Vals dvs ds) (hx : ∀ sg, PassesAt CX X sg (E sg)) (ha : PA X (e :: es) t)
    (hst : starEach (e :: es) X.env = (false, eval e X.env) :: starEach es X.env := by rfl) (hpl : (backTo pos (starEach es X.env)).any (·.1) = false := by rfl)
    (ht : eval (.Call (.Attribute o m apos) (e :: es) [] pos) X.env = (do
        let ov ← eval o X.env
        standAt apos.atName
        let (g, first) ← holding [ov] (getMethod ov m pl)
        callWith pos g first (backTo pos (starEach (e :: es) X.env)) (backToKw pos (keywordEach [] X.env))) := by rfl) :
    PE X (.Call (.Attribute o m apos) (e :: es) [] pos) (tMethTd C m sp dvs E ta t) := by
  refine ⟨fun pn st sg Hh Qq Iv hw => PySem.W.methodCall_KW (pl := pl) (thn (he.run pn st sg Hh _ Iv hw) ?_) ht⟩
  rintro u s1 ⟨x, H1, I1, rx, a, dx, fs, rfl, ea, l, q⟩
  cases (show u = Value.ref a from rx)
  refine getmeth_ok I1 ea c hm l (PySem.W.callWith_K (first := [.ref a]) (h₀ := X.base) Iv.ok.mod.kin hm.kp ?_ hst hpl)
  refine thn (ha.run pos pn s1 sg H1 _ I1 q) fun us s2 ⟨vs, H2, I2, r, q2⟩ => ⟨I2.kIn, ?_⟩
  exact run_fnSD (us := .ref a :: us) (vs := .ref a :: vs) F hr hb hd (hx sg) I2 (.cons rfl r) q2
end L2
/-! own rules: itertools.combinations(list, r) walked by a for -/
namespace CB
open PySem PySem.Spec PyProof.Rows
theorem owner_c : Manifest.owners.lookup (String.ofList ['s', 'n', 'o', 'i', 't', 'a', 'n', 'i', 'b', 'm', 'o', 'c', '.', 's', 'l', 'o', 'o', 't', 'r', 'e', 't', 'i'].reverse) = some Manifest.sig_itertools_combinations := by kernel_rfl
theorem slot_init : Slot "itertools.combinations" "__init__" "object.__init__" :=
  .of (owner := "object") (n := "__init__") (by rw [typeLookup_type, builtinLookup_eq_fast]; kernel_rfl) (by decide +kernel) (by decide +kernel) (by decide +kernel)
    (by first | exact .inl (by decide +kernel) | exact .inr (by decide +kernel)) (by rw [isSubtype_type]; kernel_rfl)
theorem slot_iter : Slot "itertools.combinations" "__iter__" "itertools.combinations.__iter__" :=
  .of (owner := "itertools.combinations") (n := "__iter__") (by rw [typeLookup_type, builtinLookup_eq_fast]; kernel_rfl) (by decide +kernel) (by decide +kernel) (by decide +kernel)
    (by first | exact .inl (by decide +kernel) | exact .inr (by decide +kernel)) (by rw [isSubtype_type]; kernel_rfl)
theorem slot_next : Slot "itertools.combinations" "__next__" "itertools.combinations.__next__" :=
  .of (owner := "itertools.combinations") (n := "__next__") (by rw [typeLookup_type, builtinLookup_eq_fast]; kernel_rfl) (by decide +kernel) (by decide +kernel) (by decide +kernel)
    (by first | exact .inl (by decide +kernel) | exact .inr (by decide +kernel)) (by rw [isSubtype_type]; kernel_rfl)
theorem args_iter (a : Value) : argsOk "itertools.combinations.__iter__" ⟨[a], []⟩ := by
  unfold argsOk; rw [signature?_of (id := "itertools.combinations.__iter__") (n := ['_', '_', 'r', 'e', 't', 'i', '_', '_']) (o := ['s', 'n', 'o', 'i', 't', 'a', 'n', 'i', 'b', 'm', 'o', 'c', '.', 's', 'l', 'o', 'o', 't', 'r', 'e', 't', 'i']) (by kernel_rfl) owner_c]; kernel_rfl
theorem args_next (a : Value) : argsOk "itertools.combinations.__next__" ⟨[a], []⟩ := by
  unfold argsOk; rw [signature?_of (id := "itertools.combinations.__next__") (n := ['_', '_', 't', 'x', 'e', 'n', '_', '_']) (o := ['s', 'n', 'o', 'i', 't', 'a', 'n', 'i', 'b', 'm', 'o', 'c', '.', 's', 'l', 'o', 'o', 't', 'r', 'e', 't', 'i']) (by kernel_rfl) owner_c]; kernel_rfl
theorem entry_next : entryFor table "itertools.combinations.__next__" = some Builtin.«itertools.combinations.__next__» := entryFor_of_tree (by kernel_rfl)
theorem entry_new : entryFor table "itertools.combinations.__new__" = some Builtin.«itertools.combinations.__new__» := entryFor_of_tree (by kernel_rfl)
theorem entry_iter : entryFor table "itertools.combinations.__iter__" = some Builtin.«dict_keyiterator.__iter__» :=
  entryFor_alias (id' := "dict_keyiterator.__iter__") (by kernel_rfl) (by first | rfl | decide +kernel | (unfold String.splitOn; simp +decide [String.splitOnAux])) (by decide +kernel) (by kernel_rfl)
theorem mro_c : mroOf (.type "itertools.combinations") = pure [.type "itertools.combinations", .type "object"] := by rw [mroOf_type]; kernel_rfl
theorem lookup_new : typeLookup (.type "itertools.combinations") "__new__" = pure (some (.builtin "itertools.combinations.__new__")) := by rw [typeLookup_type, builtinLookup_eq_fast]; kernel_rfl
theorem called_c : TypeCalled "itertools.combinations" "itertools.combinations.__new__" "object.__init__" :=
  ⟨by decide +kernel, by decide +kernel, ⟨_, _, mro_c⟩, madeBy_type mro_c lookup_new (by decide +kernel), by decide +kernel, by rw [isSubtype_type]; kernel_rfl, slot_init⟩
theorem typeCall_c (a b : Value) : checkTypeCall "itertools.combinations" ⟨[a, b], []⟩ = pure () := by kernel_rfl
theorem newCall_c (a b : Value) : checkBuiltinCall "itertools.combinations.__new__" ⟨[.type "itertools.combinations", a, b], []⟩ = pure () := by kernel_rfl
theorem sub_c : isSubtype (.type "itertools.combinations") (.type "itertools.combinations") = pure true := by rw [isSubtype_type]; kernel_rfl

/-- the choices of r of k, k + 1, .. (n of them), in their order -/
def cmb : Nat → Nat → Nat → List (List Nat)
  | _, _, 0 => [[]]
  | _, 0, _ + 1 => []
  | k, n + 1, r + 1 => (cmb (k + 1) n r).map (k :: ·) ++ cmb (k + 1) n (r + 1)
def chain (f : Nat → List Nat → Option (List Nat)) : Bool :=
  (List.range 9).all fun n => (List.range 5).all fun r => decide (n < r) ||
    ((cmb 0 n r)[0]? == some (List.range r) && (List.range (cmb 0 n r).length).all fun i => f n ((cmb 0 n r).getD i []) == (cmb 0 n r)[i + 1]?)
abbrev rec_ (P : Addr) (st : Int) (last : Value) (idx : List Nat) : Obj :=
  { cls := .type "itertools.combinations", dict := none, data := .fields (#[.ref P, rawInt st, last] ++ (idx.map fun (n : Nat) => rawInt n).toArray), slots := #[] }
abbrev tup_ (its : List Value) : Obj := { cls := .type "tuple", data := .seq its.toArray }
def pick_ (its : List Value) (idx : List Nat) : List Value := idx.map fun i => its.toArray.getD i .none
/-- what a turn does: from the state st (0 fresh, 1 under way) with the numbers idx it lays a new tuple of the items at nxt -/
def Turns (NB : (Nat → List Nat → Option (List Nat)) → Builtin) (f : Nat → List Nat → Option (List Nat)) (st : Int) (its : List Value) (idx nxt : List Nat) : Prop :=
  ∀ (prog : Program) (w : World) (A : Around) (E : Value → Shared → Prop) (s : Shared) (z P : Addr) (last : Value) (Q : Value → Shared → Prop), P ≠ z →
    s.heap.get? z = some (rec_ P st last idx) → s.heap.get? P = some (tup_ its) →
    (∀ h', h'.get? z = some (rec_ P 1 (.ref s.heap.objs.size) nxt) → h'.get? s.heap.objs.size = some (tup_ (pick_ its nxt)) → (∀ b o, b ≠ z → s.heap.get? b = some o → h'.get? b = some o) → Q (.ref s.heap.objs.size) { s with heap := h' }) →
    wpAny (model prog w) A (NB f ⟨[.ref z], []⟩) (fun fin s' => ∃ v, fin = .done (.ret v) ∧ Q v s') E s
def Ends (NB : (Nat → List Nat → Option (List Nat)) → Builtin) (f : Nat → List Nat → Option (List Nat)) (its : List Value) (idx : List Nat) : Prop :=
  ∀ (prog : Program) (w : World) (A : Around) (E : Value → Shared → Prop) (s : Shared) (z P : Addr) (last : Value) (Q : Fin → Shared → Prop), A.handled = none → P ≠ z →
    s.heap.get? z = some (rec_ P 1 last idx) → s.heap.get? P = some (tup_ its) →
    (∀ h' e, (∀ b o, b ≠ z → s.heap.get? b = some o → h'.get? b = some o) → (∃ o, h'.get? e = some o ∧ o.cls = .type "StopIteration") → E (.ref e) { s with heap := h' }) →
    wpAny (model prog w) A (NB f ⟨[.ref z], []⟩) Q E s
structure NextOk (NB : (Nat → List Nat → Option (List Nat)) → Builtin) : Prop where
  first : ∀ f its idx, idx.length ≤ 8 → Turns NB f 0 its idx idx
  more : ∀ f its idx nxt, nxt.length ≤ 8 → f its.length idx = some nxt → Turns NB f 1 its idx nxt
  done : ∀ f its idx, f its.length idx = none → Ends NB f its idx
theorem numbers_of (idx : List Nat) : (idx.map fun (n : Nat) => rawInt n).map (fun | .int n _ => n.toNat | _ => 0) = idx := by
  rw [List.map_map]
  conv => rhs; rw [← List.map_id idx]
  exact List.map_congr_left fun n _ => by simp [rawInt]
theorem idx_of {P : Addr} {st : Int} {last : Value} {idx : List Nat} : ((#[.ref P, rawInt st, last] ++ (idx.map fun (n : Nat) => rawInt n).toArray).toList.drop 3).map (fun | .int n _ => n.toNat | _ => 0) = idx := by
  have e : (#[.ref P, rawInt st, last] ++ (idx.map fun (n : Nat) => rawInt n).toArray).toList.drop 3 = idx.map fun (n : Nat) => rawInt n := by simp
  rw [e, numbers_of]
theorem rec_fields {P : Addr} {st : Int} {last : Value} {idx : List Nat} : (rec_ P st last idx).data = .fields (#[.ref P, rawInt st, last] ++ (idx.map fun (n : Nat) => rawInt n).toArray) := rfl
theorem next_is : ∃ (NB : (Nat → List Nat → Option (List Nat)) → Builtin) (f : Nat → List Nat → Option (List Nat)), Builtin.«itertools.combinations.__next__» = NB f ∧ chain f = true ∧ NextOk NB := by
  refine ⟨_, _, rfl, by decide +kernel, ⟨?_, ?_, ?_⟩⟩
  · intro f its idx hl prog w A E s z P last Q hPz hz hP hQ
    show wpAny _ _ (field (.ref z) 0 >>= _) _ _ s
    refine wpAny_bind (wpAny_field hz rec_fields (x := .ref P) (by simp) ?_)
    refine wpAny_bind ?_
    show wpAny _ _ (load z >>= _) _ _ s
    refine wpAny_bind (wpAny_load hz ?_)
    refine wpAny_pure ?_
    generalize he : List.map _ (List.drop 3 _) = idx'
    have e2 : idx' = idx := he.symm.trans idx_of
    subst e2
    clear he
    refine wpAny_bind ?_
    show wpAny _ _ (field (.ref z) 1 >>= _) _ _ s
    refine wpAny_bind (wpAny_field hz rec_fields (x := rawInt 0) (by simp) ?_)
    refine wpAny_pure ?_
    show wpAny _ _ (setField (.ref z) 1 (rawInt 1) >>= _) _ _ s
    refine wpAny_bind (wpAny_setField_rec hz (by simp) fun h₁ hz₁ hs₁ => ?_)
    replace hz₁ : h₁.get? z = some (rec_ P 1 last idx') := by rw [hz₁]; simp [rec_]
    have hP₁ := hs₁.extBut _ _ hPz hP
    have hk₁ := hs₁.extBut
    refine wpAny_bind ?_
    show wpAny _ _ (Builtin.Itertools.itPoolItems (.ref P) >>= _) _ _ _
    refine wpAny_bind ?_
    show wpAny _ _ (seqItems? (.ref P) >>= _) _ _ _
    refine wpAny_bind (wpAny_seqItems hP₁ rfl ?_)
    refine wpAny_pure ?_
    show wpAny _ _ (newTuple (pick_ its idx')) _ _ _
    refine wpAny_newTuple ?_ (by have e8 : (pick_ its idx').length = idx'.length := by simp [pick_]
                                 rw [e8]; exact Nat.le_trans hl (by decide))
    have hzs : h₁.objs.size = s.heap.objs.size := hs₁.1
    have hz₂ : (h₁.push { cls := .type "tuple", data := .seq (pick_ its idx').toArray }).get? z = some (rec_ P 1 last idx') := Heap.get?_push_of_some _ hz₁
    show wpAny _ _ (field (.ref z) 2 >>= _) _ _ _
    refine wpAny_bind (wpAny_field hz₂ rec_fields (x := last) (by simp) ?_)
    show wpAny _ _ (setField (.ref z) 2 (.ref h₁.objs.size) >>= _) _ _ _
    refine wpAny_bind (wpAny_setField_rec hz₂ (by simp) fun h₃ hz₃ hs₃ => ?_)
    refine wpAny_bind (wpAny_letGo ?_)
    refine wpAny_pure ⟨_, rfl, ?_⟩
    have hzl : z < h₁.objs.size := Heap.lt_size hz₁
    rw [hzs] at hz₃ ⊢
    refine hQ h₃ (by rw [hz₃]; simp [rec_]) ?_ fun b o hb e => hs₃.extBut _ _ hb (Heap.get?_push_of_some _ (hk₁ b o hb e))
    refine hs₃.extBut _ _ (Nat.ne_of_gt (by rw [← hzs]; exact hzl)) ?_
    rw [← hzs]
    exact Heap.get?_push_size _ rfl
  · intro f its idx nxt hl hf prog w A E s z P last Q hPz hz hP hQ
    show wpAny _ _ (field (.ref z) 0 >>= _) _ _ s
    refine wpAny_bind (wpAny_field hz rec_fields (x := .ref P) (by simp) ?_)
    refine wpAny_bind ?_
    show wpAny _ _ (load z >>= _) _ _ s
    refine wpAny_bind (wpAny_load hz ?_)
    refine wpAny_pure ?_
    generalize he : List.map _ (List.drop 3 _) = idx'
    have e2 : idx' = idx := he.symm.trans idx_of
    subst e2
    clear he
    refine wpAny_bind ?_
    show wpAny _ _ (field (.ref z) 1 >>= _) _ _ s
    refine wpAny_bind (wpAny_field hz rec_fields (x := rawInt 1) (by simp) ?_)
    refine wpAny_pure ?_
    show wpAny _ _ (Builtin.Itertools.itPoolItems (.ref P) >>= _) _ _ _
    refine wpAny_bind ?_
    show wpAny _ _ (seqItems? (.ref P) >>= _) _ _ _
    refine wpAny_bind (wpAny_seqItems hP rfl ?_)
    refine wpAny_pure ?_
    have hf' : f its.toArray.size idx' = some nxt := by simpa using hf
    rw [hf']
    show wpAny _ _ (Builtin.Itertools.itSetNumbersFrom (.ref z) 3 nxt >>= _) _ _ _
    refine wpAny_bind ?_
    show wpAny _ _ (updateFields z _) _ _ _
    have upd3 : ((#[.ref P, rawInt 1, last] ++ (idx'.map fun (n : Nat) => rawInt n).toArray).extract 0 3 ++ (nxt.map fun (n : Nat) => rawInt n).toArray) = #[.ref P, rawInt 1, last] ++ (nxt.map fun (n : Nat) => rawInt n).toArray := by
      congr 1
      apply Array.ext'
      simp
    refine wpAny_updateFields hz rec_fields ?_ ?_
    rotate_left
    · rw [upd3]
      simp only [Array.size_append, List.size_toArray, List.length_map]
      show 3 + nxt.length ≤ sizeLine + 3
      exact Nat.le_trans (Nat.add_le_add_left hl 3) (by decide)
    have hs₁ : Heap.SameBut z s.heap (s.heap.update z (Obj.mapFields fun fs => fs.extract 0 3 ++ (nxt.map fun (n : Nat) => rawInt n).toArray)) := Heap.SameBut.update ..
    have hz₁ : (s.heap.update z (Obj.mapFields fun fs => fs.extract 0 3 ++ (nxt.map fun (n : Nat) => rawInt n).toArray)).get? z = some (rec_ P 1 last nxt) := by
      rw [Heap.get?_update_self _ hz rfl]
      simp only [Obj.mapFields, rec_]
      rw [upd3]
    generalize (s.heap.update z (Obj.mapFields fun fs => fs.extract 0 3 ++ (nxt.map fun (n : Nat) => rawInt n).toArray)) = h₁ at hs₁ hz₁ ⊢
    have hP₁ := hs₁.extBut _ _ hPz hP
    have hk₁ := hs₁.extBut
    show wpAny _ _ (_ >>= _) _ _ _
    refine wpAny_bind ?_
    show wpAny _ _ (Builtin.Itertools.itPoolItems (.ref P) >>= _) _ _ _
    refine wpAny_bind ?_
    show wpAny _ _ (seqItems? (.ref P) >>= _) _ _ _
    refine wpAny_bind (wpAny_seqItems hP₁ rfl ?_)
    refine wpAny_pure ?_
    show wpAny _ _ (newTuple (pick_ its nxt)) _ _ _
    refine wpAny_newTuple ?_ (by have e8 : (pick_ its nxt).length = nxt.length := by simp [pick_]
                                 rw [e8]; exact Nat.le_trans hl (by decide))
    have hzs : h₁.objs.size = s.heap.objs.size := hs₁.1
    have hz₂ : (h₁.push { cls := .type "tuple", data := .seq (pick_ its nxt).toArray }).get? z = some (rec_ P 1 last nxt) := Heap.get?_push_of_some _ hz₁
    show wpAny _ _ (field (.ref z) 2 >>= _) _ _ _
    refine wpAny_bind (wpAny_field hz₂ rec_fields (x := last) (by simp) ?_)
    show wpAny _ _ (setField (.ref z) 2 (.ref h₁.objs.size) >>= _) _ _ _
    refine wpAny_bind (wpAny_setField_rec hz₂ (by simp) fun h₃ hz₃ hs₃ => ?_)
    refine wpAny_bind (wpAny_letGo ?_)
    refine wpAny_pure ⟨_, rfl, ?_⟩
    have hzl : z < h₁.objs.size := Heap.lt_size hz₁
    rw [hzs] at hz₃ ⊢
    refine hQ h₃ (by rw [hz₃]; simp [rec_]) ?_ fun b o hb e => hs₃.extBut _ _ hb (Heap.get?_push_of_some _ (hk₁ b o hb e))
    refine hs₃.extBut _ _ (Nat.ne_of_gt (by rw [← hzs]; exact hzl)) ?_
    rw [← hzs]
    exact Heap.get?_push_size _ rfl
  · intro f its idx hf prog w A E s z P last Q hh hPz hz hP hE
    show wpAny _ _ (field (.ref z) 0 >>= _) _ _ s
    refine wpAny_bind (wpAny_field hz rec_fields (x := .ref P) (by simp) ?_)
    refine wpAny_bind ?_
    show wpAny _ _ (load z >>= _) _ _ s
    refine wpAny_bind (wpAny_load hz ?_)
    refine wpAny_pure ?_
    generalize he : List.map _ (List.drop 3 _) = idx'
    have e2 : idx' = idx := he.symm.trans idx_of
    subst e2
    clear he
    refine wpAny_bind ?_
    show wpAny _ _ (field (.ref z) 1 >>= _) _ _ s
    refine wpAny_bind (wpAny_field hz rec_fields (x := rawInt 1) (by simp) ?_)
    refine wpAny_pure ?_
    show wpAny _ _ (Builtin.Itertools.itPoolItems (.ref P) >>= _) _ _ _
    refine wpAny_bind ?_
    show wpAny _ _ (seqItems? (.ref P) >>= _) _ _ _
    refine wpAny_bind (wpAny_seqItems hP rfl ?_)
    refine wpAny_pure ?_
    have hf' : f its.toArray.size idx' = none := by simpa using hf
    rw [hf']
    show wpAny _ _ (setField (.ref z) 1 (rawInt 2) >>= _) _ _ s
    refine wpAny_bind (wpAny_setField_rec hz (by simp) fun h₁ hz₁ hs₁ => ?_)
    show wpAny _ _ (newExc (.type "StopIteration") [] >>= _) _ _ _
    refine wpAny_bind ?_
    simp only [newExc, newTuple]
    refine wpAny_bind (wpAny_newObj_type ?_ (by size_fits))
    refine wpAny_bind (m := firstArgMember _ _) (wpAny_of_eq (a := Value.none) (by first | rfl | (simp only [firstArgMember]; rfl)) ?_)
    refine wpAny_newObj_type ?_ (by size_fits)
    simp only [raiseNew]
    refine wpAny_bind (wpAny_handled ?_)
    first | rw [show A.in1.handled = none from hh] | rw [hh]
    refine wpAny_bind (wpAny_pure (wpAny_throw ?_))
    exact hE _ _ (fun b o hb e => ((hs₁.extBut.push _).push _) _ _ hb e) ⟨_, Heap.get?_push_size _ rfl, rfl⟩
theorem meets_new (l : Addr) (o : Obj) (its : List Value) (n : Nat) (r : Nat) (t : Tok) (hr : r ≤ its.length) (hr8 : r ≤ 8) (hc : o.cls = .type "list") (hd : o.data = .seq its.toArray n) (hsz : its.toArray.size ≤ sizeLine) :
    Meets (Builtin.«itertools.combinations.__new__» ⟨[.type "itertools.combinations", .ref l, .int r t], []⟩)
      (fun _ R s => s.heap.get? l = some o ∧ ∀ h' : Heap, (∀ b o', s.heap.get? b = some o' → h'.get? b = some o') →
        R (.ok (.ret (.ref (h'.push (tup_ its)).objs.size))) { s with heap := (h'.push (tup_ its)).push (rec_ h'.objs.size 0 .none (List.range r)) }) :=
  .of_wp fun prog w A R s h => by
    obtain ⟨hp, g, d, tk, os⟩ := s; obtain ⟨ht, h⟩ := h
    have hsub : isSubtype (.type "itertools.combinations") (.type ("itertools." ++ "combinations")) = pure true := by
      rw [show ("itertools." ++ "combinations" : String) = "itertools.combinations" from by decide]; exact sub_c
    have hT : Shared.TypeIs ⟨hp, g, d, tk, os⟩ (.ref l) "list" := ⟨o, ht, hc⟩
    wp_walk using wpAny_collect_seq (hsz := hsz) l (.inl rfl) ht hc hd
    rw [if_neg (by simp only [Bool.or_eq_true, decide_eq_true_eq]; omega)]
    refine wpAny_pure ?_
    refine wpAny_bind (wpAny_collect_seq (hsz := hsz) l (.inl rfl) ht hc hd fun h' hk => ?_)
    have n1 : ¬ ((r : Int) < 0) := by omega
    have n2 : Builtin.Itertools.itTooMany (r : Int) = false := by
      simp only [Builtin.Itertools.itTooMany, decide_eq_false_iff_not]; omega
    show wpAny _ _ (if (r : Int) < 0 then _ else _) _ _ _
    rw [if_neg n1]
    show wpAny _ _ (if Builtin.Itertools.itTooMany (r : Int) = true then _ else _) _ _ _
    rw [if_neg (by rw [n2]; exact Bool.false_ne_true)]
    show wpAny _ _ (newTuple its.toArray.toList >>= _) _ _ _
    refine wpAny_bind (wpAny_newTuple ?_ (by simpa using hsz))
    refine wpAny_pure ?_
    have td : typeHasDict (.type "itertools.combinations") = false := by decide +kernel
    show wpAny _ _ (Builtin.Itertools.itNewRecord (.type "itertools.combinations") _ >>= _) _ _ _
    refine wpAny_bind ?_
    unfold Builtin.Itertools.itNewRecord
    rw [td]
    rw [if_pos (show (!false) = true from rfl)]
    have e1 : ((r : Int)).toNat = r := Int.toNat_natCast r
    have e2 : ¬ (r > its.toArray.toList.length) := by simpa using hr
    rw [e1, if_neg e2]
    refine wpAny_newObj_type ?_ ?_
    · refine wpAny_pure ⟨_, rfl, ?_⟩
      have q := h h' hk
      simpa [rec_, tup_] using q
    · show ([_, _, _] ++ (List.range r).map _).toArray.size ≤ _
      simp only [List.size_toArray, List.length_append, List.length_map, List.length_range]
      show 3 + r ≤ _
      exact Nat.le_trans (Nat.add_le_add_left hr8 3) (by decide)
section
variable {prog : Program} {w : World} {A : Around} {E : Value → Shared → Prop} {s : Shared}
theorem call_c {l : Addr} {o : Obj} {its : List Value} {n r : Nat} {t : Tok} {Q : Value → Shared → Prop} (ho : s.heap.get? l = some o) (hr : r ≤ its.length) (hr8 : r ≤ 8) (hc : o.cls = .type "list") (hd : o.data = .seq its.toArray n) (hsz : its.toArray.size ≤ sizeLine)
    (h : ∀ h' : Heap, (∀ b o', s.heap.get? b = some o' → h'.get? b = some o') → Q (.ref (h'.push (tup_ its)).objs.size) { s with heap := (h'.push (tup_ its)).push (rec_ h'.objs.size 0 .none (List.range r)) }) :
    wpAny (model prog w) A (call (.type "itertools.combinations") [.ref l, .int r t]) Q E s :=
  callType_new called_c (by decide) (typeCall_c _ _) (newCall_c _ _) (fun obj => F.args_object_init_3 obj _ _) entry_new
    (meets_new l o its n r t hr hr8 hc hd hsz) ⟨ho, fun h' hk => ⟨⟨_, Heap.get?_push_size _ rfl, rfl⟩, h h' hk⟩⟩
theorem pyIter_c {z : Addr} {P : Addr} {st : Int} {last : Value} {idx : List Nat} {Q : Value → Shared → Prop} (hz : s.heap.get? z = some (rec_ P st last idx)) (h : Q (.ref z) s) : wpAny (model prog w) A (pyIter (.ref z)) Q E s := by
  have hT : s.TypeIs (.ref z) "itertools.combinations" := ⟨_, hz, rfl⟩
  refine wpAny_pyIter_slot hT slot_iter (wpAny_call_entry slot_iter hT entry_iter ?_ (args_iter _))
  show wpAny _ _ (ret (.ref z)) _ _ s
  exact wpAny_pure ⟨_, rfl, "itertools.combinations", _, hT, slot_next.lookup, h⟩
theorem pyNext_item {NB : (Nat → List Nat → Option (List Nat)) → Builtin} {f : Nat → List Nat → Option (List Nat)} (hb : Builtin.«itertools.combinations.__next__» = NB f) {st : Int} {its : List Value} {idx nxt : List Nat} (T : Turns NB f st its idx nxt)
    {z P : Addr} {last : Value} {Q : Option Value → Shared → Prop} (hPz : P ≠ z) (hz : s.heap.get? z = some (rec_ P st last idx)) (hP : s.heap.get? P = some (tup_ its))
    (hQ : ∀ h', h'.get? z = some (rec_ P 1 (.ref s.heap.objs.size) nxt) → h'.get? s.heap.objs.size = some (tup_ (pick_ its nxt)) → (∀ b o, b ≠ z → s.heap.get? b = some o → h'.get? b = some o) → Q (some (.ref s.heap.objs.size)) { s with heap := h' }) :
    wpAny (model prog w) A (pyNext (.ref z)) Q E s := by
  have hT : s.TypeIs (.ref z) "itertools.combinations" := ⟨_, hz, rfl⟩
  unfold pyNext
  exact wpAny_bind (wpAny_attempt (wpAny_callSpecial?_slot (name := Str.ofString "__next__") hT slot_next
    (wpAny_call_entry slot_next hT entry_next (by rw [hb]; exact T _ _ _ _ _ _ _ _ _ hPz hz hP fun h' a1 a2 a3 => wpAny_pure (hQ h' a1 a2 a3)) (args_next _))))
theorem pyNext_end {NB : (Nat → List Nat → Option (List Nat)) → Builtin} {f : Nat → List Nat → Option (List Nat)} (hb : Builtin.«itertools.combinations.__next__» = NB f) {its : List Value} {idx : List Nat} (T : Ends NB f its idx)
    {z P : Addr} {last : Value} {Q : Option Value → Shared → Prop} (hh : A.handled = none) (hPz : P ≠ z) (hz : s.heap.get? z = some (rec_ P 1 last idx)) (hP : s.heap.get? P = some (tup_ its))
    (hQ : ∀ h', (∀ b o, b ≠ z → s.heap.get? b = some o → h'.get? b = some o) → Q none { s with heap := h' }) :
    wpAny (model prog w) A (pyNext (.ref z)) Q E s := by
  have hT : s.TypeIs (.ref z) "itertools.combinations" := ⟨_, hz, rfl⟩
  unfold pyNext
  refine wpAny_bind (wpAny_attempt (wpAny_callSpecial?_slot (name := Str.ofString "__next__") hT slot_next
    (wpAny_call_entry slot_next hT entry_next (by
      rw [hb]
      refine T _ _ _ _ _ _ _ _ _ hh hPz hz hP fun h' e hk he => ?_
      obtain ⟨o, ho, hc⟩ := he
      refine wpAny_bind (wpAny_isInstance (T := "StopIteration") (b := true) ⟨o, ho, hc⟩ isSubtype_stop ?_)
      exact wpAny_pure (hQ _ hk)) (args_next _))))
end
theorem chain_at {f : Nat → List Nat → Option (List Nat)} (h : chain f = true) {n r : Nat} (hn : n ≤ 8) (hr : r ≤ 4) (hrn : r ≤ n) :
    (cmb 0 n r)[0]? = some (List.range r) ∧ ∀ i c, (cmb 0 n r)[i]? = some c → f n c = (cmb 0 n r)[i + 1]? := by
  have q := List.all_eq_true.1 (List.all_eq_true.1 h n (List.mem_range.2 (by omega))) r (List.mem_range.2 (by omega))
  simp only [Bool.or_eq_true, decide_eq_true_eq, Bool.and_eq_true, beq_iff_eq, List.all_eq_true, List.mem_range] at q
  replace q := q.resolve_left (by omega)
  refine ⟨by simpa using q.1, fun i c hc => ?_⟩
  have hi : i < (cmb 0 n r).length := by
    rcases Nat.lt_or_ge i (cmb 0 n r).length with z | z
    · exact z
    · rw [List.getElem?_eq_none z] at hc; cases hc
  have e2 : (cmb 0 n r).getD i [] = c := by rw [List.getD_eq_getElem?_getD, hc]; rfl
  have q2 := q.2 i hi
  rw [e2] at q2
  exact q2
end CB
namespace L2
open PySem PySem.Spec PyProof.Rows CB
/-- the choices cs of the places of xs, each in a new tuple -/
def Itq (xs : List V) (cs : List (List Nat)) : It :=
  ⟨fun i _ => i < cs.length, fun i H v H' => ∃ T c, v = .ref T ∧ H T = none ∧ H' = upd H T (.tup (c.map fun k => xs.getD k .non)) ∧ cs[i]? = some c, fun i _ => cs.length ≤ i⟩
theorem cmb_len : ∀ (k n r : Nat) (c : List Nat), c ∈ cmb k n r → c.length = r ∧ ∀ x ∈ c, k ≤ x ∧ x < k + n
  | k, n, 0, c, h => by
    have e : c = [] := by cases n <;> simpa [cmb] using h
    subst e; simp
  | k, 0, r + 1, c, h => by simp [cmb] at h
  | k, n + 1, r + 1, c, h => by
    simp only [cmb, List.mem_append, List.mem_map] at h
    rcases h with ⟨d, hd, rfl⟩ | h
    · obtain ⟨q1, q2⟩ := cmb_len (k + 1) n r d hd
      refine ⟨by simp [q1], fun x hx => ?_⟩
      rcases List.mem_cons.1 hx with rfl | hx
      · omega
      · have := q2 x hx; omega
    · obtain ⟨q1, q2⟩ := cmb_len (k + 1) n (r + 1) c h
      exact ⟨q1, fun x hx => by have := q2 x hx; omega⟩
theorem vals_pick {xs : List V} {its : List Value} (rv : Vals xs its) : ∀ c : List Nat, (∀ k ∈ c, k < xs.length) → Vals (c.map fun k => xs.getD k .non) (pick_ its c)
  | [], _ => .nil
  | k :: c, h => by
    have hk := h k (List.mem_cons_self ..)
    obtain ⟨u, hu, ru⟩ := rv.get (List.getElem?_eq_getElem hk)
    refine .cons ?_ (vals_pick rv c fun x hx => h x (List.mem_cons_of_mem _ hx))
    have e1 : xs.getD k .non = xs[k] := by rw [List.getD_eq_getElem?_getD, List.getElem?_eq_getElem hk]; rfl
    have e2 : its.toArray.getD k .none = u := by
      rw [Array.getD_eq_getD_getElem?]
      simp [hu]
    show RelV (xs.getD k .non) (its.toArray.getD k .none)
    rw [e1, e2]
    exact ru
theorem turn_c {P : Program} {w : World} {K : PySem.W.Frag} {tg : Expr} {z p : Addr} {xs : List V} {its : List Value} {r : Nat} (hpz : p ≠ z) (rv : Vals xs its) (hn : xs.length ≤ 8) (hr : r ≤ 4) (hrn : r ≤ xs.length) :
    Turn P w K tg (Itq xs (cmb 0 xs.length r)) [z, p] z (fun i h => (∃ last, h.get? z = some (rec_ p (if i = 0 then 0 else 1) last ((cmb 0 xs.length r).getD (i - 1) []))) ∧ h.get? p = some (tup_ its) ∧ i ≤ (cmb 0 xs.length r).length) where
  mem := by simp
  obj := fun i h st c hc => by
    obtain ⟨⟨last, hz⟩, hp, hle⟩ := st
    have e' : c = z ∨ c = p := by simpa using hc
    rcases e' with q | q
    · rw [q]; exact ⟨_, hz, fun v q => nomatch q⟩
    · rw [q]; exact ⟨_, hp, fun v q => nomatch q⟩
  keep := fun i h h' st k => by
    obtain ⟨⟨last, hz⟩, hp, hle⟩ := st
    exact ⟨⟨last, k z (by simp) _ hz⟩, k p (by simp) _ hp, hle⟩
  item := by
    intro X hP hw hK hc i pins s σ H E I hf st hg
    subst hP hw hK
    obtain ⟨⟨last, hz⟩, hp, hle⟩ := st
    obtain ⟨NB, f, hb, hch, ok⟩ := next_is
    obtain ⟨q0, q1⟩ := chain_at hch hn hr hrn
    have hi : i < (cmb 0 xs.length r).length := hg
    have el : its.length = xs.length := rv.length.symm
    have hcur : (cmb 0 xs.length r)[i]? = some ((cmb 0 xs.length r)[i]) := List.getElem?_eq_getElem hi
    generalize (cmb 0 xs.length r)[i] = c at hcur
    have hcm : c ∈ cmb 0 xs.length r := List.mem_of_getElem? hcur
    obtain ⟨cl, cb⟩ := cmb_len _ _ _ _ hcm
    have T : Turns NB f (if i = 0 then 0 else 1) its ((cmb 0 xs.length r).getD (i - 1) []) c := by
      by_cases h0 : i = 0
      · subst h0
        have e : (cmb 0 xs.length r).getD (0 - 1) [] = c := by rw [List.getD_eq_getElem?_getD, hcur]; rfl
        rw [if_pos rfl, e]
        exact ok.first f its c (by omega)
      · rw [if_neg h0]
        have h1 : i - 1 < (cmb 0 xs.length r).length := by omega
        have hprev : (cmb 0 xs.length r)[i - 1]? = some ((cmb 0 xs.length r)[i - 1]) := List.getElem?_eq_getElem h1
        have e : (cmb 0 xs.length r).getD (i - 1) [] = (cmb 0 xs.length r)[i - 1] := by rw [List.getD_eq_getElem?_getD, hprev]; rfl
        rw [e]
        refine ok.more f its _ c (by omega) ?_
        rw [el, q1 (i - 1) _ hprev, show i - 1 + 1 = i by omega]
        exact hcur
    have hzl : z < s.heap.objs.size := Heap.lt_size hz
    have hpl : p < s.heap.objs.size := Heap.lt_size hp
    refine pyNext_item hb T hpz hz hp fun h' z' hT hk => ?_
    have vs := vals_pick rv c fun k hk => by have := cb k hk; omega
    have new : ObjOk X.prog X.w (upd H s.heap.objs.size (.tup (c.map fun k => xs.getD k .non))) h' s.heap.objs.size (.tup (c.map fun k => xs.getD k .non)) :=
      ⟨by rw [List.length_map, cl]; exact Nat.le_trans (show r ≤ 8 by omega) (by decide), pick_ its c, vs, ⟨_, hT, rfl, _, rfl⟩⟩
    have I1 : Inv X pins σ (upd H s.heap.objs.size (.tup (c.map fun k => xs.getD k .non))) { s with heap := h' } :=
      I.turnedNew (t' := s.toks) (ch := [z, p]) (fun b o hb q => hk b o (fun q' => hb (by simp [q'])) q) hf (Nat.le_refl _) new
    refine ⟨_, rfl, go_of (s := { s with heap := h' }) (n := "itertools.combinations") z' rfl rfl (by decide) ⟨.ref s.heap.objs.size, _, I1, rfl, ⟨_, c, rfl, I.hok.fresh (Nat.le_refl _), rfl, hcur⟩, ⟨⟨.ref s.heap.objs.size, ?_⟩, hk p _ hpz hp, hi⟩, fun b hbm => ?_⟩⟩
    · rw [if_neg (Nat.succ_ne_zero i)]
      have e : (cmb 0 xs.length r).getD (i + 1 - 1) [] = c := by rw [Nat.add_sub_cancel, List.getD_eq_getElem?_getD, hcur]; rfl
      rw [e]
      exact z'
    · have hlt : b < s.heap.objs.size := by
        have e' : b = z ∨ b = p := by simpa using hbm
        rcases e' with q | q
        · rw [q]; exact hzl
        · rw [q]; exact hpl
      rw [upd_ne (Nat.ne_of_lt hlt)]
      exact (hf b hbm).1
  done := by
    intro X hP hw hK hc i pins s σ H E I hf st hg
    subst hP hw hK
    obtain ⟨⟨last, hz⟩, hp, hle⟩ := st
    obtain ⟨NB, f, hb, hch, ok⟩ := next_is
    obtain ⟨q0, q1⟩ := chain_at hch hn hr hrn
    have hi : (cmb 0 xs.length r).length ≤ i := hg
    have hpos : 0 < (cmb 0 xs.length r).length := by
      rcases Nat.eq_zero_or_pos (cmb 0 xs.length r).length with e | e
      · rw [List.getElem?_eq_none (by omega)] at q0; cases q0
      · exact e
    have el : its.length = xs.length := rv.length.symm
    rw [if_neg (by omega)] at hz
    have hst : i = (cmb 0 xs.length r).length := by omega
    have T : CB.Ends NB f its ((cmb 0 xs.length r).getD (i - 1) []) := by
      subst hst
      have h1 : (cmb 0 xs.length r).length - 1 < (cmb 0 xs.length r).length := by omega
      have hprev := List.getElem?_eq_getElem h1
      have e : (cmb 0 xs.length r).getD ((cmb 0 xs.length r).length - 1) [] = (cmb 0 xs.length r)[(cmb 0 xs.length r).length - 1] := by rw [List.getD_eq_getElem?_getD, hprev]; rfl
      rw [e]
      refine ok.done f its _ ?_
      rw [el, q1 _ _ hprev]
      exact List.getElem?_eq_none (by omega)
    exact pyNext_end hb T (I.ok.hd hc) hpz hz hp fun h' hk => ⟨rfl, I.turnedL (t' := s.toks) (ch := [z, p]) (fun c o hb q => hk c o (fun q' => hb (by simp [q'])) q) hf⟩
  self := fun A i s Q E st h => by
    obtain ⟨⟨last, hz⟩, hp, hle⟩ := st
    exact pyIter_c hz h
def iCmb (K : PySem.W.Frag) (ta : TA) : TI := fun σ H R => ta σ H fun vs H1 => ∃ (a : Addr) (r : Nat) (xs : List V), vs = [.ref a, .int (r : Nat)] ∧ SqL K H1 a xs ∧ xs.length ≤ 8 ∧ r ≤ 4 ∧ r ≤ xs.length ∧ R (Itq xs (cmb 0 xs.length r)) H1
theorem pi_combo {X : Cx} {tg e e2 : Expr} {ta : TA} {p pos : Pos} (hg : Gl X "combinations") (hm : X.mg "combinations" = some (.type "itertools.combinations")) (ha : PA X [e, e2] ta)
    (hs : starEach [e, e2] X.env = (false, eval e X.env) :: starEach [e2] X.env := by rfl) (hpl : (backTo pos (starEach [e2] X.env)).any (·.1) = false := by rfl) :
    PI X tg (.Call (.Name "combinations" p) [e, e2] [] pos) (iCmb X.K ta) := by
  refine ⟨fun pins s σ H R I h => ?_⟩
  refine Call_ (ld_glob I hg hm (PyProof.Rows.callWith_type1 (thn (ha.run pos pins s σ H _ I h) fun us s1 ⟨vs, H1, I1, r1, q1⟩ => ?_) hs hpl))
  obtain ⟨a, r, xs, ex, hq, h8, h4, hr, q⟩ := q1
  subst ex
  cases r1 with
  | cons r0 rr =>
    cases rr with
    | cons r' rr =>
      cases rr
      cases r0
      obtain ⟨t, rfl⟩ := r'
      obtain ⟨its, rv, pl, hz⟩ := I1.list hq
      have el := rv.length
      obtain ⟨o, n, ho, hc, _, hd⟩ := pl
      refine call_c ho (by omega) (by omega) hc hd (by rw [List.size_toArray, ← el]; exact hz) fun h' hk => ?_
      have Ia : Inv X pins σ H1 { s1 with heap := h' } := I1.kept (t' := s1.toks) hk
      have Ib : Inv X pins σ H1 { s1 with heap := (h'.push (tup_ its)).push (rec_ h'.objs.size 0 .none (List.range r)) } :=
        I1.kept (t' := s1.toks) fun b u e => Heap.get?_push_of_some _ (Heap.get?_push_of_some _ (hk b u e))
      have z1 : (h'.push (tup_ its)).objs.size = h'.objs.size + 1 := Heap.size_push ..
      have gz : ((h'.push (tup_ its)).push (rec_ h'.objs.size 0 .none (List.range r))).get? (h'.objs.size + 1) = some (rec_ h'.objs.size 0 .none (List.range r)) := by
        have g : ((h'.push (tup_ its)).push (rec_ h'.objs.size 0 .none (List.range r))).get? (h'.push (tup_ its)).objs.size = some (rec_ h'.objs.size 0 .none (List.range r)) := Heap.get?_push_size _ rfl
        rw [z1] at g
        exact g
      have gp : ((h'.push (tup_ its)).push (rec_ h'.objs.size 0 .none (List.range r))).get? h'.objs.size = some (tup_ its) := Heap.get?_push_of_some _ (Heap.get?_push_size _ rfl)
      rw [z1]
      refine pyIter_c gz ?_
      have fresh : ∀ c, c ∈ [h'.objs.size + 1, h'.objs.size] → FpOk X pins H1 c := fun c hcm => by
        have e' : c = h'.objs.size + 1 ∨ c = h'.objs.size := by simpa using hcm
        have hle : h'.objs.size ≤ c := by
          rcases e' with z | z
          · rw [z]; exact Nat.le_add_right _ _
          · rw [z]; exact Nat.le_refl _
        exact Ia.fpOk hle (Ia.hok.fresh hle)
      obtain ⟨NB, f, hb, hch, ok⟩ := next_is
      obtain ⟨q0, _⟩ := chain_at hch h8 h4 hr
      refine ⟨h'.objs.size + 1, [h'.objs.size + 1, h'.objs.size], _, _, H1, rfl, Ib, turn_c (z := h'.objs.size + 1) (p := h'.objs.size) (Nat.ne_of_lt (Nat.lt_succ_self _)) rv h8 h4 hr, ⟨⟨.none, ?_⟩, gp, Nat.zero_le _⟩, fresh, q⟩
      have e : (cmb 0 xs.length r).getD (0 - 1) [] = List.range r := by rw [List.getD_eq_getElem?_getD, q0]; rfl
      rw [if_pos rfl, e]
      exact gz
/-- the choices as a walk -/
theorem walk_combo {xs : List V} {cs : List (List Nat)} : Walk (Itq xs cs) cs.length (fun _ => True) (fun i H v H' => ∃ T c, v = .ref T ∧ H T = none ∧ H' = upd H T (.tup (c.map fun k => xs.getD k .non)) ∧ cs[i]? = some c) :=
  ⟨fun _ _ hi _ => hi, fun _ _ => Nat.le_refl _, fun _ _ _ _ _ _ y => y⟩
end L2
/-! own rule: raise of an own class from None, in an except suite that raises -/
namespace L2H
open PySem PySem.Spec PyProof.Rows L2 HotX
theorem own5 {X : Cx} {C : Addr} {bmB : List Value} {B newId initId : String} {x m : Str} {j : Nat} {p p2 pos : Pos} (F : ExcBaseFacts B newId initId bmB) (q : PySem.W.excIn X.K C bmB newId = true) (gC : X.mg x = some (.ref C)) (kC : PySem.W.keepIn X.K (.ref C) = true)
    (r : Raises X (.ref C)) (hg : Gl X x) (hdb : (x == ("__debug__" : Str)) = false := by decide) : PMk5 X (.Call (.Name x p) [.Constant (.str m) j p2] [] pos) (fun _ H Q => Q (.ref C) none H) := fun pins s σ H Q I h => by
  have args : PA X [.Constant (.str m) j p2] (tCons (tC (.str m)) tNil) := pa_cons pe_str pa_nil
  refine wpAny_Call_Name_kw (ld_glob I hg gC (PySem.W.callWith_K (h₀ := X.base) I.ok.mod.kin kC (thn (args.run pos pins s σ H (fun vs G => vs = [V.str m] ∧ G = H) I ⟨rfl, rfl⟩) fun us s1 ⟨vs, G, J, rs, ev, eG⟩ => ⟨J.kIn, ?_⟩)) hdb)
  subst ev
  subst eG
  obtain ⟨u, rfl⟩ : ∃ u, us = [u] := by
    cases rs with
    | cons _ t => cases t; exact ⟨_, rfl⟩
  obtain ⟨bm, N, nm, qn, bs, hdct, sn, sub, ab, col, dd, k0, k1, k2, k3, k5, mN, hC, hN, hni, T⟩ := exc_obj J.kIn q
  exact wpAny_call_exc_subT F T hC hN hni (fun h' e hm => mk_of5 J hm r h (J.hok.gone hm.new)) (by show 1 ≤ sizeLine; rw [sizeLine_eq]; omega)
end L2H
namespace L2
open PySem PySem.Spec PyProof.Rows
section
variable {P : Program} {w : World} {K : PySem.W.Frag} {mg : Str → Option Value} {base : Heap}
/-- a def whose exceptions have no context -/
theorem Fun.okN {x qual : Str} {st : Stmt} {f : Addr} {fd : FuncData} {N ps : List Str} {k : Nat} {sp : Sp} (F : Fun K x qual st f fd) (S : FnScope N ps (defScope st)) (len : ∀ vs H Q E, sp vs H Q E → vs.length = ps.length)
    (read : ∀ (cdv : Value) (A : Around) (outer : List Env) (s : Shared) (H : Hp) (vs : List V) (Q : VK) (E : XK), Room k (A.deeper (envOfC qual (defScope st) s.heap.objs.size f cdv)) → sp vs H Q E →
      ∃ t, PSs (cxOf (L2N.CX P w) P w K mg base N qual (defScope st) f cdv A outer s H E) (defBody st) t ∧ t { nx := fun _ G => Q .non G, rt := Q } (start N vs) H) : FnOk P w K mg base (L2N.CX P w) (k + 1) f fd ps sp := by
  obtain ⟨_, _, _, _, _, _, cdv, _, _, same, there, code⟩ := F.ex
  subst same
  exact fn_of there code S len fun A outer s H vs Q E hr q => read cdv A outer s H vs Q E hr q
/-- .. is one that may raise -/
theorem FnOk.ofN {f : Addr} {fd : FuncData} {ps : List Str} {k : Nat} {sp : Sp} (F : FnOk P w K mg base (L2N.CX P w) k f fd ps sp) : FnOk P w K mg base (L2.CX P w) k f fd ps sp := by
  refine ⟨F.len, fun A outer s H args us vs Q E hr e b r q => codeAny_mono (F.run A outer s H args us vs Q E hr e b r q) fun res s' h => ?_⟩
  cases res with
  | ok v => cases v <;> exact h
  | error u =>
    obtain ⟨a, B, G, cls, d, e1, fl, rest⟩ := h
    exact ⟨a, B, G, cls, d, e1, L2H.flyingZ_imp (fun _ z => z.zc) fl, rest⟩
end
theorem passN {X : Cx} : Passes (L2N.CX X.prog X.w) X E0 := fun _ _ _ _ _ _ _ h => by
  obtain ⟨_, _, _, _, _, _, _, _, _, _, _, _, no⟩ := h
  exact no.elim
end L2
namespace PP
open PySem L2
def top (i : Nat) : Stmt := (PySem.Challenge.pw_paritypool_k29_repairs).main.body.getD i (.Pass ⟨0, 0, 0, 0⟩)
abbrev s_is_present : Stmt := top 10
abbrev s_sector_at : Stmt := top 11
abbrev s_inverse : Stmt := top 24
abbrev s_weight : Stmt := top 25
abbrev s_weights : Stmt := top 26
abbrev s_check_lengths : Stmt := top 28
abbrev s_piece_at : Stmt := top 29
abbrev s_encode : Stmt := top 30
abbrev s_present_numbers : Stmt := top 31
abbrev s_recover : Stmt := top 32
abbrev s_agree : Stmt := top 33
abbrev s_wrong_pieces : Stmt := top 34
abbrev s_check_words : Stmt := top 40
abbrev s_is_place : Stmt := top 41
abbrev s_seal : Stmt := top 42
abbrev s_unseal : Stmt := top 43
abbrev s_is_whole : Stmt := top 44
abbrev s_choose_disks : Stmt := top 46
abbrev s_piece_size : Stmt := top 47
abbrev s_data_pieces : Stmt := top 48
abbrev s_piece_requests : Stmt := top 49
abbrev s_write_stripe : Stmt := top 50
abbrev s_good_piece : Stmt := top 51
abbrev s_read_stripe : Stmt := top 52
abbrev s_repair_stripe : Stmt := top 53
abbrev s_law_pot : Stmt := top 57
abbrev s_law_next : Stmt := top 58
abbrev s_law_word : Stmt := top 60
abbrev s_law_words : Stmt := top 61
abbrev s_law_carry : Stmt := top 62
abbrev s_law_spoil : Stmt := top 63
abbrev s_law_refused : Stmt := top 64
abbrev s_law : Stmt := top 65
abbrev s_Space_init : Stmt := inClass (top 22) 0
abbrev s_Space_take : Stmt := inClass (top 22) 1
abbrev s_Space_give : Stmt := inClass (top 22) 3
abbrev s_Space_settle : Stmt := inClass (top 22) 4
abbrev s_Space_free_count : Stmt := inClass (top 22) 6
abbrev s_Store_init : Stmt := inClass (top 55) 0
abbrev s_Store_look : Stmt := inClass (top 55) 1
abbrev s_Store_put : Stmt := inClass (top 55) 3
abbrev s_Store_get : Stmt := inClass (top 55) 4
abbrev s_Store_commit : Stmt := inClass (top 55) 5
abbrev s_Store_forget : Stmt := inClass (top 55) 7
abbrev s_Store_repairs : Stmt := inClass (top 55) 8
abbrev s_Store_free_counts : Stmt := inClass (top 55) 11
/-! small rules of one's own -/
section
variable {X : Cx}
theorem pe_const {x : Str} {v : V} {pos : Pos} (h : ∃ u, X.mg x = some u ∧ RelV v u) (hg : Gl X x := by rfl) (hd : (x == ("__debug__" : Str)) = false := by decide) : PE X (.Name x pos) (tC v) := by
  obtain ⟨u, h1, h2⟩ := h
  exact pe_glob hg h1 h2 hd
/-- isinstance of a caught error, whatever class the clause has caught -/
theorem call_isE' {a : Addr} {cls : Value} {d : Option Addr} {oe : Obj} {pn : List (Addr × Obj)} (hz : Zc cls d oe) (hf : ∃ vs, oe.data = .fields vs) :
    CallR (X.suite a ((a, oe) :: pn)) (.builtin "isinstance") (fun xs H Q => ∃ D, cls = .ref D ∧ d = none ∧ ExcC X.K D ∧ rIsE X.K D a xs H Q) := by
  intro pins s σ H xs us Q I r h
  obtain ⟨D, rfl, rfl, C, h⟩ := h
  exact call_isE C hz hf pins s σ H xs us Q I r h
end
/-- all but p is as it was, what is free too -/
def Only (p : Addr) (H H' : Hp) : Prop := ∀ b, b ≠ p → H' b = H b
theorem Only.upd {p : Addr} {H : Hp} {o : HO} : Only p H (upd H p o) := fun _ h => upd_ne h
theorem Only.refl {p : Addr} {H : Hp} : Only p H H := fun _ _ => rfl
theorem Only.trans {p : Addr} {H H1 H2 : Hp} (x : Only p H H1) (y : Only p H1 H2) : Only p H H2 := fun b h => (y b h).trans (x b h)
/-! which class is asked of a caught error -/
theorem kit_self {K : PySem.W.Frag} {c : Value} : PySem.W.kitOne K c c = some true := by
  unfold PySem.W.kitOne
  rw [if_pos (by simp)]
theorem kit_type {K : PySem.W.Frag} {D : Addr} {n : String} {b : Bool} (m : PySem.W.kitMeta n = true) (h : PySem.W.subIn K (.ref D) (.type n) = some b) : PySem.W.kitOne K (.ref D) (.type n) = some b := by
  unfold PySem.W.kitOne
  rw [if_neg (by intro z; cases (beq_iff_eq.mp z))]
  show (if PySem.W.kitMeta n = true then PySem.W.subIn K (.ref D) (.type n) else none) = some b
  rw [if_pos m]
  exact h
theorem kit_cls_of {K : PySem.W.Frag} {C : Addr} {t : Value} {b : Bool} (hd : PySem.W.hasDictIn K C = true) (ht : PySem.W.typeIn K (.ref C) = some (.type "type")) (h : PySem.W.subIn K t (.ref C) = some b) : PySem.W.kitCls K t (.ref C) = some b := by
  obtain ⟨cd, hc, _⟩ := PySem.W.any_some hd
  show (if ((PySem.W.clsIn K C).isSome && PySem.W.typeIn K (.ref C) == some (.type "type")) = true then PySem.W.subIn K t (.ref C) else none) = some b
  rw [if_pos (by rw [hc, ht]; rfl)]
  exact h
theorem kit_yes {K : PySem.W.Frag} {C D : Addr} (hd : PySem.W.hasDictIn K C = true) (ht : PySem.W.typeIn K (.ref C) = some (.type "type")) (h : PySem.W.subIn K (.ref D) (.ref C) = some true) : PySem.W.kitOne K (.ref D) (.ref C) = some true := by
  unfold PySem.W.kitOne
  split
  · rfl
  · exact kit_cls_of hd ht h
theorem kit_no {K : PySem.W.Frag} {C D : Addr} (hd : PySem.W.hasDictIn K C = true) (ht : PySem.W.typeIn K (.ref C) = some (.type "type")) (h : PySem.W.subIn K (.ref D) (.ref C) = some false) (hs : PySem.W.subIn K (.ref D) (.ref D) = some true) : PySem.W.kitOne K (.ref D) (.ref C) = some false := by
  unfold PySem.W.kitOne
  split
  · rename_i z
    have e : D = C := by
      have := beq_iff_eq.mp z
      injection this
    rw [← e] at h
    rw [h] at hs
    cases hs
  · exact kit_cls_of hd ht h
/-- len of a list or tuple; list of one -/
abbrev rLenS (K : PySem.W.Frag) := Evl.rLenS K
abbrev rListOf (K : PySem.W.Frag) := Evl.rListS K
/-! the prime, the inverse -/
theorem no_div (d : Nat) (h1 : 2 ≤ d) (h2 : d ≤ 255) : ¬ d ∣ 65521 := by
  intro h
  have e : 65521 % d = 0 := Nat.mod_eq_zero_of_dvd h
  have key : ∀ d : Fin 256, 2 ≤ d.val → ¬ 65521 % d.val = 0 := by decide +kernel
  exact key ⟨d, by omega⟩ h1 e
theorem prime_q (d : Nat) (h : d ∣ 65521) : d = 1 ∨ d = 65521 := by
  obtain ⟨e, he⟩ := h
  by_cases a : d ≤ 255
  · by_cases b : 2 ≤ d
    · exact absurd ⟨e, he⟩ (no_div d b a)
    · have : d ≠ 0 := by rintro rfl; omega
      omega
  · by_cases b : 2 ≤ e
    · by_cases c : e ≤ 255
      · exact absurd ⟨d, by rw [Nat.mul_comm]; exact he⟩ (no_div e b c)
      · have h1 : 256 * 256 ≤ d * e := Nat.mul_le_mul (by omega) (by omega)
        omega
    · have : e ≠ 0 := by rintro rfl; omega
      have e1 : e = 1 := by omega
      subst e1
      omega
theorem gcd_q (x : Int) (h : x % 65521 ≠ 0) : Int.gcd 65521 (x % 65521) = 1 := by
  have d1 : (Int.gcd 65521 (x % 65521) : Nat) ∣ 65521 := by
    have := Int.gcd_dvd_left (65521 : Int) (x % 65521)
    have h2 : ((Int.gcd 65521 (x % 65521) : Nat) : Int) ∣ ((65521 : Nat) : Int) := this
    exact Int.natCast_dvd_natCast.mp h2
  rcases prime_q _ d1 with e | e
  · exact e
  · exfalso
    have d2 := Int.gcd_dvd_right (65521 : Int) (x % 65521)
    rw [e] at d2
    obtain ⟨c, hc⟩ := d2
    have e2 : ((65521 : Nat) : Int) = 65521 := rfl
    rw [e2] at hc
    have p1 := Int.emod_nonneg x (show (65521 : Int) ≠ 0 by decide)
    have p2 := Int.emod_lt_of_pos x (show (0 : Int) < 65521 by decide)
    omega
theorem gcd_turn {n m : Int} (h : Int.gcd n m = 1) : Int.gcd m (n - n / m * m) = 1 := by
  rw [Int.gcd_sub_mul_right_right, Int.gcd_comm]
  exact h
/-- the inverse of a word, by what it is -/
noncomputable def invP (x : Int) : Int := open Classical in if h : ∃ b : Int, 0 ≤ b ∧ b < 65521 ∧ x * b % 65521 = 1 then h.choose else 0
theorem inv_unique {x b c : Int} (hb : 0 ≤ b ∧ b < 65521 ∧ x * b % 65521 = 1) (hc : 0 ≤ c ∧ c < 65521 ∧ x * c % 65521 = 1) : b = c := by
  have e1 : b * (x * c) % 65521 = b := by
    rw [Int.mul_emod, hc.2.2, Int.mul_one, Int.emod_emod_of_dvd _ (Int.dvd_refl _), Int.emod_eq_of_lt hb.1 hb.2.1]
  have e2 : c * (x * b) % 65521 = c := by
    rw [Int.mul_emod, hb.2.2, Int.mul_one, Int.emod_emod_of_dvd _ (Int.dvd_refl _), Int.emod_eq_of_lt hc.1 hc.2.1]
  have e3 : b * (x * c) = c * (x * b) := by grind
  rw [← e1, e3, e2]
theorem invP_eq {x b : Int} (h : 0 ≤ b ∧ b < 65521 ∧ x * b % 65521 = 1) : invP x = b := by
  have hx : ∃ b : Int, 0 ≤ b ∧ b < 65521 ∧ x * b % 65521 = 1 := ⟨b, h⟩
  unfold invP
  rw [dif_pos hx]
  exact inv_unique hx.choose_spec h
/-- one turn of Euclid's algorithm -/
theorem euclid_turn {x n m f g : Int} (h1 : (x * f - n) % 65521 = 0) (h2 : (x * g - m) % 65521 = 0) : (x * (f - n / m * g) - (n - n / m * m)) % 65521 = 0 := by
  have e : x * (f - n / m * g) - (n - n / m * m) = (x * f - n) - n / m * (x * g - m) := by grind
  rw [e, Int.sub_emod, h1, Int.mul_emod, h2, Int.mul_zero]
  rfl
theorem euclid_end {x f : Int} (h : (x * f - 1) % 65521 = 0) : 0 ≤ f % 65521 ∧ f % 65521 < 65521 ∧ x * (f % 65521) % 65521 = 1 := by
  refine ⟨Int.emod_nonneg _ (by decide), Int.emod_lt_of_pos _ (by decide), ?_⟩
  have e : x * (f % 65521) % 65521 = x * f % 65521 := by rw [Int.mul_emod, Int.emod_emod_of_dvd _ (Int.dvd_refl _), ← Int.mul_emod]
  rw [e]
  omega
/-- the inverse exists (Euclid, run in the mathematics) -/
theorem inv_ex : ∀ (k : Nat) (x n m f g : Int), m.toNat ≤ k → 0 ≤ m → 0 < n → (x * f - n) % 65521 = 0 → (x * g - m) % 65521 = 0 → Int.gcd n m = 1 → ∃ b : Int, 0 ≤ b ∧ b < 65521 ∧ x * b % 65521 = 1
  | k, x, n, m, f, g, hk, hm, hn, h1, h2, hg => by
    by_cases e : m = 0
    · subst e
      have : n = 1 := by
        rw [Int.gcd_zero_right] at hg
        omega
      subst this
      exact ⟨_, euclid_end h1⟩
    · have hm' : 0 < m := by omega
      match k, hk with
      | 0, hk => omega
      | k + 1, hk =>
        have r : n - n / m * m = n % m := by
          have := Int.mul_ediv_add_emod n m
          rw [Int.mul_comm] at this
          omega
        have r1 := Int.emod_nonneg n (show m ≠ 0 by omega)
        have r2 := Int.emod_lt_of_pos n hm'
        exact inv_ex k x m (n - n / m * m) g (f - n / m * g) (by omega) (by omega) hm' h2 (euclid_turn h1 h2) (gcd_turn hg)
theorem invP_spec {x : Int} (h : x % 65521 ≠ 0) : 0 ≤ invP x ∧ invP x < 65521 ∧ x * invP x % 65521 = 1 := by
  have p1 := Int.emod_nonneg x (show (65521 : Int) ≠ 0 by decide)
  obtain ⟨b, hb⟩ := inv_ex (x % 65521).toNat x 65521 (x % 65521) 0 1 (Nat.le_refl _) p1 (by decide) (by omega) (by omega) (gcd_q x h)
  rw [invP_eq hb]
  exact hb
/-! the field of words -/
def Zp : Type := Fin 65521
instance : Lean.Grind.CommRing Zp := inferInstanceAs (Lean.Grind.CommRing (Fin 65521))
instance : Lean.Grind.IsCharP Zp 65521 := inferInstanceAs (Lean.Grind.IsCharP (Fin 65521) 65521)
instance : DecidableEq Zp := inferInstanceAs (DecidableEq (Fin 65521))
def z (n : Int) : Zp := Lean.Grind.Ring.intCast.intCast n
theorem z_eq {a b : Int} : z a = z b ↔ a % 65521 = b % 65521 := Lean.Grind.IsCharP.intCast_ext_iff (α := Zp) 65521
theorem z_mod (a : Int) : z (a % 65521) = z a := z_eq.mpr (Int.emod_emod_of_dvd _ (Int.dvd_refl _))
theorem z_add (a b : Int) : z (a + b) = z a + z b := Lean.Grind.Ring.intCast_add a b
theorem z_sub (a b : Int) : z (a - b) = z a - z b := Lean.Grind.Ring.intCast_sub a b
theorem z_mul (a b : Int) : z (a * b) = z a * z b := Lean.Grind.Ring.intCast_mul a b
theorem z_neg (a : Int) : z (-a) = -z a := Lean.Grind.Ring.intCast_neg a
theorem z_zero : z 0 = 0 := Lean.Grind.Ring.intCast_zero
theorem z_one : z 1 = 1 := Lean.Grind.Ring.intCast_one
theorem z_z (a : Int) : z a = 0 ↔ a % 65521 = 0 := by
  rw [← z_zero, z_eq]
  rfl
theorem z_inj {a b : Int} (ha : 0 ≤ a) (ha' : a < 65521) (hb : 0 ≤ b) (hb' : b < 65521) (h : z a = z b) : a = b := by
  have := z_eq.mp h
  rw [Int.emod_eq_of_lt ha ha', Int.emod_eq_of_lt hb hb'] at this
  exact this
theorem z_mod_eq {a b : Int} (h : z a = z b) : a % 65521 = b % 65521 := z_eq.mp h
theorem z_surj (x : Zp) : ∃ n : Int, 0 ≤ n ∧ n < 65521 ∧ z n = x := by
  refine ⟨((show Fin 65521 from x).val : Int), by omega, by omega, ?_⟩
  show (Fin.intCast ((show Fin 65521 from x).val : Int) : Fin 65521) = x
  unfold Fin.intCast
  rw [if_pos (by omega), Int.natAbs_natCast]
  exact Fin.ofNat_val_eq_self _
theorem z_invP {n : Int} (h : z n ≠ 0) : z n * z (invP n) = 1 := by
  have h' : n % 65521 ≠ 0 := fun e => h ((z_z n).mpr e)
  obtain ⟨b0, b1, b2⟩ := invP_spec h'
  rw [← z_mul, ← z_one, z_eq]
  exact b2
theorem zp_inv {a : Zp} (h : a ≠ 0) : ∃ b : Zp, a * b = 1 := by
  obtain ⟨n, _, _, rfl⟩ := z_surj a
  exact ⟨_, z_invP h⟩
theorem zp_div {a b : Zp} (h : a * b = 0) : a = 0 ∨ b = 0 := by
  by_cases ha : a = 0
  · exact .inl ha
  · obtain ⟨c, hc⟩ := zp_inv ha
    right
    have : b = c * (a * b) := by grind
    rw [this, h]
    grind
theorem zp_01 : (1 : Zp) ≠ 0 := by
  rw [← z_one, ← z_zero]
  intro h
  have := z_eq.mp h
  omega
theorem zp_mul_ne {a b : Zp} (ha : a ≠ 0) (hb : b ≠ 0) : a * b ≠ 0 := fun h => (zp_div h).elim ha hb
/-! ### functions that are polynomials with n coefficients -/
def Pol : Nat → (Zp → Zp) → Prop
  | 0, f => ∀ x, f x = 0
  | n + 1, f => ∃ (c : Zp) (g : Zp → Zp), Pol n g ∧ ∀ x, f x = c + x * g x
theorem Pol.ext : ∀ {n : Nat} {f g : Zp → Zp}, Pol n f → (∀ x, g x = f x) → Pol n g
  | 0, _, _, h, e => fun x => (e x).trans (h x)
  | _ + 1, _, _, ⟨c, g, h, q⟩, e => ⟨c, g, h, fun x => (e x).trans (q x)⟩
theorem pol_nil : ∀ n : Nat, Pol n fun _ => 0
  | 0 => fun _ => rfl
  | n + 1 => ⟨0, fun _ => 0, pol_nil n, fun x => by grind⟩
theorem Pol.up : ∀ {n : Nat} {f : Zp → Zp}, Pol n f → Pol (n + 1) f
  | 0, f, h => ⟨0, fun _ => 0, fun _ => rfl, fun x => by rw [h x]; grind⟩
  | n + 1, _, ⟨c, g, h, q⟩ => ⟨c, g, h.up, q⟩
theorem Pol.mono {n m : Nat} {f : Zp → Zp} (h : Pol n f) (l : n ≤ m) : Pol m f := by
  induction l with
  | refl => exact h
  | step _ ih => exact ih.up
theorem Pol.add : ∀ {n : Nat} {f g : Zp → Zp}, Pol n f → Pol n g → Pol n fun x => f x + g x
  | 0, f, g, h, k => fun x => by show f x + g x = 0; rw [h x, k x]; grind
  | n + 1, f, g, ⟨c, u, h, p⟩, ⟨d, v, k, q⟩ => ⟨c + d, fun x => u x + v x, Pol.add h k, fun x => by show f x + g x = _; rw [p x, q x]; grind⟩
theorem Pol.smul : ∀ {n : Nat} {f : Zp → Zp} (a : Zp), Pol n f → Pol n fun x => f x * a
  | 0, f, a, h => fun x => by show f x * a = 0; rw [h x]; grind
  | n + 1, f, a, ⟨c, u, h, p⟩ => ⟨c * a, fun x => u x * a, Pol.smul a h, fun x => by show f x * a = _; rw [p x]; grind⟩
theorem Pol.const (c : Zp) : Pol 1 fun _ => c := ⟨c, fun _ => 0, fun _ => rfl, fun x => by grind⟩
theorem Pol.xmul {n : Nat} {f : Zp → Zp} (h : Pol n f) : Pol (n + 1) fun x => x * f x := ⟨0, f, h, fun x => by grind⟩
theorem Pol.lin {n : Nat} {f : Zp → Zp} (a : Zp) (h : Pol n f) : Pol (n + 1) fun x => (x - a) * f x :=
  (h.xmul.add (h.up.smul (-a))).ext fun x => by grind
theorem Pol.sub {n : Nat} {f g : Zp → Zp} (h : Pol n f) (k : Pol n g) : Pol n fun x => f x - g x :=
  (h.add (k.smul (-1))).ext fun x => by grind
/-- a polynomial less its value at a is a multiple of x - a -/
theorem Pol.at : ∀ {n : Nat} {f : Zp → Zp} (a : Zp), Pol (n + 1) f → ∃ g, Pol n g ∧ ∀ x, f x = f a + (x - a) * g x
  | 0, f, a, ⟨c, g, h, q⟩ => ⟨fun _ => 0, fun _ => rfl, fun x => by rw [q x, q a, h x, h a]; grind⟩
  | n + 1, f, a, ⟨c, g, h, q⟩ => by
    obtain ⟨k, hk, e⟩ := Pol.at a h
    refine ⟨fun x => g a + x * k x, ⟨g a, k, hk, fun _ => rfl⟩, fun x => ?_⟩
    have e1 := e x
    rw [q x, q a]
    grind
/-- as many zeros as coefficients: it is zero -/
theorem Pol.roots : ∀ {n : Nat} {f : Zp → Zp} (xs : List Zp), Pol n f → xs.Nodup → n ≤ xs.length → (∀ a ∈ xs, f a = 0) → ∀ x, f x = 0
  | 0, _, _, h, _, _, _ => h
  | n + 1, f, [], _, _, hl, _ => absurd hl (by simp)
  | n + 1, f, a :: r, h, hn, hl, hz => by
    obtain ⟨g, hg, e⟩ := Pol.at a h
    have ha : f a = 0 := hz a (by simp)
    have hn' := List.nodup_cons.mp hn
    have g0 : ∀ x, g x = 0 := Pol.roots r hg hn'.2 (by simpa using hl) fun b hb => by
      have hb0 := hz b (List.mem_cons_of_mem _ hb)
      rw [e b, ha] at hb0
      have : (b - a) * g b = 0 := by grind
      rcases zp_div this with q | q
      · exfalso
        have : b = a := by grind
        exact hn'.1 (this ▸ hb)
      · exact q
    intro x
    rw [e x, ha, g0 x]
    grind
/-! ### products of differences -/
def prodZ : List Int → Zp → Zp
  | [], _ => 1
  | o :: os, x => (x - z o) * prodZ os x
theorem prodZ_pol : ∀ os : List Int, Pol (os.length + 1) (prodZ os)
  | [] => (Pol.const 1).ext fun _ => rfl
  | o :: os => (Pol.lin (z o) (prodZ_pol os)).ext fun _ => rfl
theorem prodZ_root {o : Int} {x : Zp} : ∀ {os : List Int}, o ∈ os → x = z o → prodZ os x = 0
  | [], h, _ => by simp at h
  | p :: os, h, e => by
    show (x - z p) * prodZ os x = 0
    rcases List.mem_cons.mp h with q | q
    · rw [e, q]
      grind
    · rw [prodZ_root q e]
      grind
theorem prodZ_ne {x : Zp} : ∀ {os : List Int}, (∀ o ∈ os, x ≠ z o) → prodZ os x ≠ 0
  | [], _ => zp_01
  | p :: os, h => by
    refine zp_mul_ne (fun e => h p (by simp) ?_) (prodZ_ne fun o ho => h o (List.mem_cons_of_mem _ ho))
    grind
/-- as the program multiplies -/
def prodM (os : List Int) (x acc : Int) : Int := os.foldl (fun acc o => acc * (x - o) % 65521) acc
theorem prodM_z : ∀ (os : List Int) (x acc : Int), z (prodM os x acc) = z acc * prodZ os (z x)
  | [], x, acc => by
    show z acc = z acc * 1
    grind
  | o :: os, x, acc => by
    show z (prodM os x (acc * (x - o) % 65521)) = z acc * ((z x - z o) * prodZ os (z x))
    rw [prodM_z os x, z_mod, z_mul, z_sub]
    grind
theorem prodM_word : ∀ (os : List Int) (x acc : Int), 0 ≤ acc → acc < 65521 → 0 ≤ prodM os x acc ∧ prodM os x acc < 65521
  | [], _, _, h0, h1 => ⟨h0, h1⟩
  | o :: os, x, acc, _, _ => prodM_word os x _ (Int.emod_nonneg _ (by decide)) (Int.emod_lt_of_pos _ (by decide))
theorem prodM_snoc (os : List Int) (o x acc : Int) : prodM (os ++ [o]) x acc = prodM os x acc * (x - o) % 65521 := by
  unfold prodM
  rw [List.foldl_append]
  rfl
/-- a place's factor -/
noncomputable def wgt (p : Int) (os : List Int) (x : Int) : Int := prodM os x 1 * invP (prodM os p 1) % 65521
theorem wgt_word (p : Int) (os : List Int) (x : Int) : 0 ≤ wgt p os x ∧ wgt p os x < 65521 := ⟨Int.emod_nonneg _ (by decide), Int.emod_lt_of_pos _ (by decide)⟩
theorem wgt_z (p : Int) (os : List Int) (x : Int) : z (wgt p os x) = prodZ os (z x) * z (invP (prodM os p 1)) := by
  unfold wgt
  rw [z_mod, z_mul, prodM_z, z_one]
  grind
theorem wgt_ok {p : Int} {os : List Int} (h : ∀ o ∈ os, z p ≠ z o) : prodM os p 1 % 65521 ≠ 0 := fun e => by
  have := (z_z _).mpr e
  rw [prodM_z, z_one] at this
  refine prodZ_ne h ?_
  grind
/-- all places but the i-th -/
def others (ws : List Int) (i : Nat) : List Int := ws.take i ++ ws.drop (i + 1)
noncomputable def weightsM (ws : List Int) (x : Int) : List Int := (List.range ws.length).map fun i => wgt (ws.getD i 0) (others ws i) x
theorem weightsM_length (ws : List Int) (x : Int) : (weightsM ws x).length = ws.length := by simp [weightsM]
theorem weightsM_get {ws : List Int} {x : Int} {i : Nat} (h : i < ws.length) : (weightsM ws x)[i]? = some (wgt (ws.getD i 0) (others ws i) x) := by
  unfold weightsM
  rw [List.getElem?_map, List.getElem?_range h]
  rfl
/-- no two places are equal modulo the prime -/
def Apart (ws : List Int) : Prop := (ws.map z).Nodup
theorem apart_ne {ws : List Int} (h : Apart ws) {i j : Nat} (hi : i < ws.length) (hj : j < ws.length) (n : i ≠ j) : z (ws.getD i 0) ≠ z (ws.getD j 0) := fun e => by
  refine n ((List.getElem_inj (xs := ws.map z) (h₀ := by simpa using hi) (h₁ := by simpa using hj) h).mp ?_)
  rw [List.getElem_map, List.getElem_map]
  simpa [List.getD_eq_getElem?_getD, hi, hj] using e
theorem mem_others {ws : List Int} {i : Nat} {o : Int} : o ∈ others ws i ↔ ∃ j, j < ws.length ∧ j ≠ i ∧ o = ws.getD j 0 := by
  unfold others
  rw [List.mem_append, List.mem_iff_getElem?, List.mem_iff_getElem?]
  constructor
  · rintro (⟨j, h⟩ | ⟨j, h⟩)
    · rw [List.getElem?_take] at h
      by_cases c : j < i
      · rw [if_pos c] at h
        obtain ⟨hl, e⟩ := List.getElem?_eq_some_iff.mp h
        exact ⟨j, hl, by omega, by simp [List.getD_eq_getElem?_getD, hl, e]⟩
      · rw [if_neg c] at h
        cases h
    · rw [List.getElem?_drop] at h
      obtain ⟨hl, e⟩ := List.getElem?_eq_some_iff.mp h
      exact ⟨_, hl, by omega, by simp [List.getD_eq_getElem?_getD, hl, e]⟩
  · rintro ⟨j, hl, n, rfl⟩
    by_cases c : j < i
    · exact .inl ⟨j, by rw [List.getElem?_take, if_pos c, List.getElem?_eq_getElem hl]; simp [List.getD_eq_getElem?_getD, hl]⟩
    · refine .inr ⟨j - (i + 1), ?_⟩
      rw [List.getElem?_drop, show i + 1 + (j - (i + 1)) = j by omega, List.getElem?_eq_getElem hl]
      simp [List.getD_eq_getElem?_getD, hl]
theorem others_length {ws : List Int} {i : Nat} (h : i < ws.length) : (others ws i).length + 1 = ws.length := by
  unfold others
  rw [List.length_append, List.length_take, List.length_drop]
  omega
theorem others_apart {ws : List Int} (h : Apart ws) {i : Nat} (hi : i < ws.length) : ∀ o ∈ others ws i, z (ws.getD i 0) ≠ z o := fun o ho => by
  obtain ⟨j, hl, n, rfl⟩ := mem_others.mp ho
  exact apart_ne h hi hl (Ne.symm n)
/-! ### sums -/
def sumR : Nat → (Nat → Zp) → Zp
  | 0, _ => 0
  | n + 1, g => sumR n g + g n
theorem sumR_ext : ∀ {n : Nat} {f g : Nat → Zp}, (∀ i, i < n → f i = g i) → sumR n f = sumR n g
  | 0, _, _, _ => rfl
  | n + 1, f, g, h => by
    show sumR n f + f n = sumR n g + g n
    rw [sumR_ext fun i hi => h i (by omega), h n (by omega)]
theorem sumR_zero : ∀ {n : Nat} {f : Nat → Zp}, (∀ i, i < n → f i = 0) → sumR n f = 0
  | 0, _, _ => rfl
  | n + 1, f, h => by
    show sumR n f + f n = 0
    rw [sumR_zero fun i hi => h i (by omega), h n (by omega)]
    grind
theorem sumR_one : ∀ {n : Nat} {f : Nat → Zp} {j : Nat}, j < n → (∀ i, i < n → i ≠ j → f i = 0) → sumR n f = f j
  | n + 1, f, j, hj, h => by
    show sumR n f + f n = f j
    by_cases c : j = n
    · subst c
      rw [sumR_zero fun i hi => h i (by omega) (by omega)]
      grind
    · rw [sumR_one (j := j) (by omega) fun i hi n' => h i (by omega) n', h n (by omega) (by omega)]
      grind
theorem sumR_pol {m : Nat} : ∀ {n : Nat} {F : Nat → Zp → Zp}, (∀ i, i < n → Pol m (F i)) → Pol m fun x => sumR n fun i => F i x
  | 0, _, _ => (pol_nil m).ext fun _ => rfl
  | n + 1, F, h => (Pol.add (sumR_pol (n := n) fun i hi => h i (by omega)) (h n (by omega))).ext fun _ => rfl
/-- the sum of factors times values -/
def dotR (us vs : List Int) : Int := ((List.range us.length).map fun i => us.getD i 0 * vs.getD i 0).sum
theorem sum_range_z : ∀ (n : Nat) (f : Nat → Int), z ((List.range n).map f).sum = sumR n fun i => z (f i)
  | 0, _ => z_zero
  | n + 1, f => by
    rw [List.range_succ, List.map_append, List.sum_append, z_add, sum_range_z n f]
    show _ + z ((f n) + 0) = _
    rw [Int.add_zero]
    rfl
theorem dotR_z (us vs : List Int) : z (dotR us vs) = sumR us.length fun i => z (us.getD i 0) * z (vs.getD i 0) := by
  unfold dotR
  rw [sum_range_z]
  exact sumR_ext fun i _ => z_mul _ _
/-- the value at x, as the program reckons it -/
noncomputable def valM (ws ys : List Int) (x : Int) : Int := dotR (weightsM ws x) ys % 65521
theorem valM_word (ws ys : List Int) (x : Int) : 0 ≤ valM ws ys x ∧ valM ws ys x < 65521 := ⟨Int.emod_nonneg _ (by decide), Int.emod_lt_of_pos _ (by decide)⟩
theorem valM_z (ws ys : List Int) (x : Int) : z (valM ws ys x) = sumR ws.length fun i => prodZ (others ws i) (z x) * (z (invP (prodM (others ws i) (ws.getD i 0) 1)) * z (ys.getD i 0)) := by
  unfold valM
  rw [z_mod, dotR_z, weightsM_length]
  refine sumR_ext fun i hi => ?_
  have e : (weightsM ws x).getD i 0 = wgt (ws.getD i 0) (others ws i) x := by rw [List.getD_eq_getElem?_getD, weightsM_get hi]; rfl
  rw [e, wgt_z]
  grind
/-- at a place it is the point's own value -/
theorem valM_node {ws ys : List Int} (h : Apart ws) {x : Int} {j : Nat} (hj : j < ws.length) (e : z x = z (ws.getD j 0)) : z (valM ws ys x) = z (ys.getD j 0) := by
  rw [valM_z, sumR_one hj fun i hi n => ?_]
  · have p := others_apart h hj
    have q := wgt_ok p
    have r : z (prodM (others ws j) (ws.getD j 0) 1) * z (invP (prodM (others ws j) (ws.getD j 0) 1)) = 1 := z_invP fun e => q ((z_z _).mp e)
    rw [prodM_z, z_one] at r
    rw [e]
    grind
  · rw [prodZ_root (mem_others.mpr ⟨j, hj, Ne.symm n, rfl⟩) e]
    grind
/-- the values of a polynomial at the places give its value anywhere -/
theorem valM_pol {ws ys : List Int} (h : Apart ws) {f : Zp → Zp} (hf : Pol ws.length f) (hy : ∀ i, i < ws.length → z (ys.getD i 0) = f (z (ws.getD i 0))) (x : Int) : z (valM ws ys x) = f (z x) := by
  have P : Pol ws.length fun x => (sumR ws.length fun i => prodZ (others ws i) x * (z (invP (prodM (others ws i) (ws.getD i 0) 1)) * z (ys.getD i 0))) - f x := by
    refine Pol.sub (sumR_pol fun i hi => Pol.smul _ ?_) hf
    have := prodZ_pol (others ws i)
    rw [others_length hi] at this
    exact this
  have R := Pol.roots (ws.map z) P h (by simp) (fun a ha => ?_) (z x)
  · rw [valM_z]
    have R' : (sumR ws.length fun i => prodZ (others ws i) (z x) * (z (invP (prodM (others ws i) (ws.getD i 0) 1)) * z (ys.getD i 0))) - f (z x) = 0 := R
    grind
  · obtain ⟨p, hp, rfl⟩ := List.mem_map.mp ha
    obtain ⟨j, hj⟩ := List.mem_iff_getElem?.mp hp
    obtain ⟨hl, e⟩ := List.getElem?_eq_some_iff.mp hj
    have ep : ws.getD j 0 = p := by simp [List.getD_eq_getElem?_getD, hl, e]
    have v := valM_node (ys := ys) h (x := p) hl (by rw [ep])
    rw [valM_z, hy j hl, ep] at v
    show (sumR ws.length fun i => prodZ (others ws i) (z p) * (z (invP (prodM (others ws i) (ws.getD i 0) 1)) * z (ys.getD i 0))) - f (z p) = 0
    rw [v]
    grind
theorem z_small {n : Int} (h0 : 0 < n) (h1 : n < 65521) : z n ≠ 0 := fun e => by
  have := (z_z n).mp e
  omega
/-! a polynomial's value -/
def pev : List Int → Zp → Zp
  | [], _ => 0
  | c :: r, x => z c + x * pev r x
theorem pev_pol : ∀ ns : List Int, Pol ns.length (pev ns)
  | [] => fun _ => rfl
  | c :: r => ⟨z c, pev r, pev_pol r, fun _ => rfl⟩
/-- as it is reckoned: from the highest coefficient down -/
def horn : List Int → Int → Int
  | [], _ => 0
  | c :: r, x => (horn r x * x + c) % 65521
theorem horn_z : ∀ (ns : List Int) (x : Int), z (horn ns x) = pev ns (z x)
  | [], _ => z_zero
  | c :: r, x => by
    show z ((horn r x * x + c) % 65521) = z c + z x * pev r (z x)
    rw [z_mod, z_add, z_mul, horn_z r x]
    grind
theorem horn_word : ∀ (ns : List Int) (x : Int), 0 ≤ horn ns x ∧ horn ns x < 65521
  | [], _ => by show (0 : Int) ≤ 0 ∧ (0 : Int) < 65521; omega
  | _ :: _, _ => ⟨Int.emod_nonneg _ (by decide), Int.emod_lt_of_pos _ (by decide)⟩
theorem horn_drop {ns : List Int} {x c : Int} {i : Nat} (h : ns[i]? = some c) : horn (ns.drop i) x = (horn (ns.drop (i + 1)) x * x + c) % 65521 := by
  obtain ⟨hl, e⟩ := List.getElem?_eq_some_iff.mp h
  rw [List.drop_eq_getElem_cons hl, e]
  rfl
/-! polynomials by their values: degree, normal forms -/
def Wd (w : Int) : Prop := 0 ≤ w ∧ w < 65521
/-- a list of words whose last one is not 0 -/
def Norm (r : List Int) : Prop := (∀ w ∈ r, Wd w) ∧ (r = [] ∨ r.getD (r.length - 1) 0 ≠ 0)
def pw (x : Zp) : Nat → Zp
  | 0 => 1
  | n + 1 => x * pw x n
theorem pev_append : ∀ (a b : List Int) (x : Zp), pev (a ++ b) x = pev a x + pw x a.length * pev b x
  | [], b, x => by
    show pev b x = 0 + 1 * pev b x
    grind
  | c :: a, b, x => by
    show z c + x * pev (a ++ b) x = (z c + x * pev a x) + (x * pw x a.length) * pev b x
    rw [pev_append a b x]
    grind
theorem pev_zeros : ∀ {a : List Int}, (∀ w ∈ a, z w = 0) → ∀ x, pev a x = 0
  | [], _, _ => rfl
  | c :: a, h, x => by
    show z c + x * pev a x = 0
    rw [h c (by simp), pev_zeros (fun w m => h w (List.mem_cons_of_mem _ m))]
    grind
theorem pev_mod : ∀ (a : List Int) (x : Zp), pev (a.map (· % 65521)) x = pev a x
  | [], _ => rfl
  | c :: a, x => by
    show z (c % 65521) + x * pev (a.map (· % 65521)) x = z c + x * pev a x
    rw [z_mod, pev_mod a x]
/-- one place of the list gets another number -/
theorem pev_set : ∀ {a : List Int} {i : Nat} {c d : Int} (x : Zp), a[i]? = some c → pev (a.set i d) x = pev a x + pw x i * (z d - z c)
  | [], _, _, _, _, h => by simp at h
  | b :: a, 0, c, d, x, h => by
    have e : b = c := Option.some.inj h
    subst e
    show z d + x * pev a x = (z b + x * pev a x) + 1 * (z d - z b)
    grind
  | b :: a, i + 1, c, d, x, h => by
    show z b + x * pev (a.set i d) x = (z b + x * pev a x) + (x * pw x i) * (z d - z c)
    rw [pev_set (i := i) (c := c) x h]
    grind
theorem pw_add (x : Zp) : ∀ n m : Nat, pw x (n + m) = pw x n * pw x m
  | 0, m => by
    rw [Nat.zero_add]
    show pw x m = 1 * pw x m
    grind
  | n + 1, m => by
    rw [Nat.succ_add]
    show x * pw x (n + m) = (x * pw x n) * pw x m
    rw [pw_add x n m]
    grind
theorem pev_snoc (a : List Int) (c : Int) (x : Zp) : pev (a ++ [c]) x = pev a x + pw x a.length * z c := by
  rw [pev_append]
  show _ + _ * (z c + x * 0) = _
  grind
/-! all words as places -/
def allZ (n : Nat) : List Zp := (List.range n).map fun (k : Nat) => z ((k : Int) + 1)
theorem allZ_nodup {n : Nat} (h : n ≤ 65520) : (allZ n).Nodup := by
  unfold allZ List.Nodup
  rw [List.pairwise_map]
  refine (List.nodup_range (n := n)).imp_of_mem fun {a b} ha hb ne e => ?_
  have h1 := List.mem_range.mp ha
  have h2 := List.mem_range.mp hb
  have := z_eq.mp e
  omega
theorem allZ_ne {n : Nat} (h : n ≤ 65520) : ∀ a ∈ allZ n, a ≠ 0 := fun a ha e => by
  obtain ⟨k, hk, rfl⟩ := List.mem_map.mp ha
  have h1 := List.mem_range.mp hk
  have := (z_z _).mp e
  omega
/-- zero but perhaps at 0: zero -/
theorem Pol.punct {n : Nat} {f : Zp → Zp} (h : Pol n f) (hn : n ≤ 65520) (hz : ∀ x, x ≠ 0 → f x = 0) : ∀ x, f x = 0 :=
  Pol.roots (allZ n) h (allZ_nodup hn) (by simp [allZ]) fun a ha => hz a (allZ_ne hn a ha)
theorem Pol.pw : ∀ (n : Nat) (c : Zp), Pol (n + 1) fun x => c * PP.pw x n
  | 0, c => (Pol.const c).ext fun x => by show c * 1 = c; grind
  | n + 1, c => ((Pol.pw n c).xmul).ext fun x => by show c * (x * PP.pw x n) = x * (c * PP.pw x n); grind
/-- a power beyond the coefficients has the factor 0 -/
theorem lead_zero : ∀ (n : Nat) {c : Zp} {h : Zp → Zp}, n ≤ 60000 → Pol n h → (∀ x, c * pw x n = h x) → c = 0
  | 0, c, h, _, hp, e => by
    have := e 0
    rw [hp 0] at this
    have : c * 1 = 0 := this
    grind
  | n + 1, c, h, hn, ⟨d, g, hg, q⟩, e => by
    have e0 : d = 0 := by
      have h0 := e 0
      rw [q 0] at h0
      have : c * (0 * pw 0 n) = d + 0 * g 0 := h0
      grind
    have F : ∀ x, c * pw x n - g x = 0 := Pol.punct (n := n + 1) (Pol.sub (Pol.pw n c) hg.up) (by omega) fun x hx => by
      have h1 := e x
      rw [q x, e0] at h1
      have h2 : c * (x * pw x n) = 0 + x * g x := h1
      have h3 : x * (c * pw x n - g x) = 0 := by grind
      exact (zp_div h3).resolve_left hx
    exact lead_zero n (by omega) hg fun x => by
      have := F x
      grind
/-- a normal list has no more words than its values need -/
theorem norm_le {r : List Int} {n : Nat} (h : Norm r) (hn : n ≤ 60000) (hp : Pol n (pev r)) (hr : r.length ≤ 60000) : r.length ≤ n := by
  refine Classical.byContradiction fun c => ?_
  obtain ⟨hw, hl⟩ := h
  have rne : r ≠ [] := fun e => by rw [e] at c; simp at c
  have hl := hl.resolve_left rne
  have e : r = r.take (r.length - 1) ++ [r.getD (r.length - 1) 0] := by
    have hlt : r.length - 1 < r.length := by
      have := List.length_pos_iff.mpr rne
      omega
    conv => lhs; rw [← List.take_append_drop (r.length - 1) r]
    rw [List.drop_eq_getElem_cons hlt, show r.length - 1 + 1 = r.length by omega, List.drop_length]
    simp [List.getD_eq_getElem?_getD, hlt]
  have P1 : Pol (r.length - 1) (pev (r.take (r.length - 1))) := (pev_pol _).mono (by rw [List.length_take]; omega)
  have P2 : Pol (r.length - 1) (pev r) := hp.mono (by omega)
  have z0 := lead_zero (r.length - 1) (c := z (r.getD (r.length - 1) 0)) (by omega) (Pol.sub P2 P1) fun x => by
    have := pev_snoc (r.take (r.length - 1)) (r.getD (r.length - 1) 0) x
    rw [← e, List.length_take, Nat.min_eq_left (by omega)] at this
    show _ = pev r x - pev (r.take (r.length - 1)) x
    grind
  have w := hw (r.getD (r.length - 1) 0) (by
    have hlt : r.length - 1 < r.length := by
      have := List.length_pos_iff.mpr rne
      omega
    rw [List.getD_eq_getElem?_getD, List.getElem?_eq_getElem hlt]
    exact List.getElem_mem hlt)
  have := (z_z _).mp z0
  obtain ⟨w0, w1⟩ := w
  omega
/-- the same values everywhere: the same words -/
theorem pev_inj : ∀ {a b : List Int}, a.length = b.length → a.length ≤ 60000 → (∀ w ∈ a, Wd w) → (∀ w ∈ b, Wd w) → (∀ x, pev a x = pev b x) → a = b
  | [], [], _, _, _, _, _ => rfl
  | [], _ :: _, h, _, _, _, _ => by simp at h
  | _ :: _, [], h, _, _, _, _ => by simp at h
  | c :: a, d :: b, hl, hz, ha, hb, e => by
    have e0 : z c = z d := by
      have : z c + 0 * pev a 0 = z d + 0 * pev b 0 := e 0
      grind
    have wc := ha c (by simp)
    have wd := hb d (by simp)
    have ecd : c = d := z_inj wc.1 wc.2 wd.1 wd.2 e0
    have hl' : a.length = b.length := by simpa using hl
    have hz' : a.length + 1 ≤ 60000 := by simpa using hz
    have F : ∀ x, pev a x - pev b x = 0 := Pol.punct (n := a.length) (Pol.sub (pev_pol a) ((pev_pol b).mono (by omega))) (by omega) fun x hx => by
      have h1 : z c + x * pev a x = z d + x * pev b x := e x
      have h3 : x * (pev a x - pev b x) = 0 := by grind
      exact (zp_div h3).resolve_left hx
    rw [ecd, pev_inj hl' (by omega) (fun w m => ha w (List.mem_cons_of_mem _ m)) (fun w m => hb w (List.mem_cons_of_mem _ m)) fun x => by have := F x; grind]
theorem norm_inj {a b : List Int} (ha : Norm a) (hb : Norm b) (la : a.length ≤ 60000) (lb : b.length ≤ 60000) (e : ∀ x, pev a x = pev b x) : a = b := by
  have h1 := norm_le ha lb ((pev_pol b).ext e) la
  have h2 := norm_le hb la ((pev_pol a).ext fun x => (e x).symm) lb
  exact pev_inj (by omega) la ha.1 hb.1 e
/-! products -/
theorem Pol.mul : ∀ {n m : Nat} {f g : Zp → Zp}, Pol n f → Pol m g → Pol (n + m) fun x => f x * g x
  | 0, m, f, g, h, _ => (pol_nil (0 + m)).ext fun x => by show f x * g x = 0; rw [h x]; grind
  | n + 1, m, f, g, ⟨c, u, h, q⟩, k => by
    have A := (Pol.mul h k).xmul
    have B := (k.smul c).mono (show m ≤ n + m + 1 by omega)
    rw [show n + 1 + m = n + m + 1 by omega]
    exact (B.add A).ext fun x => by show f x * g x = g x * c + x * (u x * g x); rw [q x]; grind
/-- the highest coefficient -/
theorem norm_lead {a : List Int} (h : Norm a) (ne : a ≠ []) : ∃ (c : Zp) (g : Zp → Zp), c ≠ 0 ∧ Pol (a.length - 1) g ∧ ∀ x, pev a x = g x + c * pw x (a.length - 1) := by
  have hlt : a.length - 1 < a.length := by
    have := List.length_pos_iff.mpr ne
    omega
  refine ⟨z (a.getD (a.length - 1) 0), pev (a.take (a.length - 1)), fun e => ?_, (pev_pol _).mono (by rw [List.length_take]; omega), fun x => ?_⟩
  · have w : Wd (a.getD (a.length - 1) 0) := h.1 _ (by rw [List.getD_eq_getElem?_getD, List.getElem?_eq_getElem hlt]; exact List.getElem_mem hlt)
    have := (z_z _).mp e
    have ne0 := h.2.resolve_left ne
    obtain ⟨w0, w1⟩ := w
    omega
  · have e : a = a.take (a.length - 1) ++ [a.getD (a.length - 1) 0] := by
      conv => lhs; rw [← List.take_append_drop (a.length - 1) a]
      rw [List.drop_eq_getElem_cons hlt, show a.length - 1 + 1 = a.length by omega, List.drop_length]
      simp [List.getD_eq_getElem?_getD, hlt]
    have := pev_snoc (a.take (a.length - 1)) (a.getD (a.length - 1) 0) x
    rw [← e, List.length_take, Nat.min_eq_left (by omega)] at this
    rw [this]
    grind
theorem norm_mul {a b r : List Int} (ha : Norm a) (hb : Norm b) (hr : Norm r) (na : a ≠ []) (nb : b ≠ []) (la : a.length ≤ 1000) (lb : b.length ≤ 1000) (lr : r.length ≤ 60000) (e : ∀ x, pev r x = pev a x * pev b x) : r.length = a.length + b.length - 1 := by
  obtain ⟨c, g, hc, hg, eg⟩ := norm_lead ha na
  obtain ⟨d, k, hd, hk, ek⟩ := norm_lead hb nb
  have pa := List.length_pos_iff.mpr na
  have pb := List.length_pos_iff.mpr nb
  -- what is below the highest power
  have low : Pol (a.length - 1 + (b.length - 1)) fun x => pev r x - (c * d) * pw x (a.length - 1 + (b.length - 1)) := by
    have A := (hg.mul ((Pol.pw (b.length - 1) d).add hk.up)).mono (show a.length - 1 + (b.length - 1 + 1) ≤ a.length - 1 + (b.length - 1) + 1 by omega)
    have B : ∀ n m : Nat, ∀ u : Zp → Zp, Pol m u → Pol (n + m) fun x => pw x n * u x := by
      intro n
      induction n with
      | zero => exact fun m u hu => by rw [Nat.zero_add]; exact hu.ext fun x => by show 1 * u x = u x; grind
      | succ n ih => exact fun m u hu => by rw [Nat.succ_add]; exact ((ih m u hu).xmul).ext fun x => by show (x * pw x n) * u x = x * (pw x n * u x); grind
    have C := (B (a.length - 1) (b.length - 1) k hk).smul c
    have D := (B (b.length - 1) (a.length - 1) g hg).smul d
    have G : Pol (a.length - 1 + (b.length - 1)) fun x => g x * k x := hg.mul hk
    rw [Nat.add_comm (b.length - 1)] at D
    refine ((C.add D).add G).ext fun x => ?_
    show pev r x - (c * d) * pw x (a.length - 1 + (b.length - 1)) = (pw x (a.length - 1) * k x * c + pw x (b.length - 1) * g x * d) + g x * k x
    rw [e x, eg x, ek x, pw_add]
    grind
  have up : Pol (a.length - 1 + (b.length - 1) + 1) (pev r) := (low.up.add (Pol.pw _ (c * d))).ext fun x => by
    show pev r x = (pev r x - (c * d) * pw x _) + (c * d) * pw x _
    grind
  have h1 := norm_le hr (by omega) up lr
  by_cases q : r.length ≤ a.length - 1 + (b.length - 1)
  · exfalso
    have P := (pev_pol r).mono q
    have := lead_zero (a.length - 1 + (b.length - 1)) (c := c * d) (by omega) (P.sub low) fun x => by
      show _ = pev r x - (pev r x - (c * d) * pw x _)
      grind
    exact zp_mul_ne hc hd this
  · omega
theorem norm_snoc {a : List Int} {c : Int} (h : ∀ w ∈ a, Wd w) (hc : Wd c) (n : c ≠ 0) : Norm (a ++ [c]) := by
  refine ⟨fun w m => ?_, .inr ?_⟩
  · rcases List.mem_append.mp m with m | m
    · exact h w m
    · have : w = c := by simpa using m
      rw [this]
      exact hc
  · rw [List.length_append, List.length_singleton, Nat.add_sub_cancel, List.getD_eq_getElem?_getD]
    simpa using n
theorem norm_nil : Norm [] := ⟨fun _ m => (nomatch m), .inl rfl⟩
theorem pev_smul (fa : Int) : ∀ (b : List Int) (x : Zp), pev (b.map fun c => fa * c) x = z fa * pev b x
  | [], x => by show (0 : Zp) = _ * 0; grind
  | c :: r, x => by
    show z (fa * c) + x * pev (r.map fun c => fa * c) x = z fa * (z c + x * pev r x)
    rw [pev_smul fa r x, z_mul]
    grind
/-! heaps, slices, points -/
theorem _root_.L2.Same.tup {K : PySem.W.Frag} {H H' : Hp} {a : Addr} {xs : List V} (e : Same H H') (h : SqT K H a xs) : SqT K H' a xs := by
  rcases h with (h | ⟨o, h⟩) | h
  · exact .inl (.inl (e _ _ h))
  · exact .inl (.inr ⟨o, e _ _ h⟩)
  · exact .inr h
theorem _root_.L2.Same.new {H : Hp} {p : Addr} {o : HO} (h : H p = none) : Same H (upd H p o) := fun _ _ e => by
  rw [upd_ne (ne_of_none e h)]
  exact e
/-- what was tracked is as it was, but for p -/
def But (p : Addr) (H H' : Hp) : Prop := ∀ b o, H b = some o → b ≠ p → H' b = some o
theorem Only.but {p : Addr} {H H' : Hp} (h : Only p H H') : But p H H' := fun b _ e n => (h b n).trans e
theorem _root_.L2.Same.but {p : Addr} {H H' : Hp} (h : Same H H') : But p H H' := fun b o e _ => h b o e
theorem But.trans {p : Addr} {H H1 H2 : Hp} (x : But p H H1) (y : But p H1 H2) : But p H H2 := fun b o e n => y b o (x b o e n) n
theorem But.same {p : Addr} {H0 H H' : Hp} (y : But p H H') (x : Same H0 H) (h : H0 p = none) : Same H0 H' := fun b o e => y b o (x b o e) (ne_of_none e h)
theorem But.new {p q : Addr} {H H' : Hp} {o : HO} (x : But p H H') (h : H' q = none) : But p H (upd H' q o) := x.trans (Same.new h).but
theorem _root_.L2.Same.at {H H' : Hp} {b : Addr} {o : HO} (s : Same H H') (e : H b = some o) : H' b = some o := s b o e
theorem cut_take (xs : List V) (i : Nat) : cutV xs none (some (i : Int)) = xs.take i := by
  unfold cutV
  rw [HT.sIx_none, HT.sIx_nat, List.drop_zero, Nat.sub_zero]
  by_cases h : i ≤ xs.length
  · rw [Nat.min_eq_left h]
  · rw [Nat.min_eq_right (by omega), List.take_of_length_le (by omega), List.take_of_length_le (by omega)]
theorem cut_drop (xs : List V) (i : Nat) : cutV xs (some (i : Int)) none = xs.drop i := by
  unfold cutV
  rw [HT.sIx_none, HT.sIx_nat]
  by_cases h : i ≤ xs.length
  · rw [Nat.min_eq_left h, List.take_of_length_le (by rw [List.length_drop]; omega)]
  · rw [Nat.min_eq_right (by omega), List.drop_of_length_le (by omega), List.drop_of_length_le (by omega), List.take_nil]
theorem take_snoc {α : Type} {l : List α} {i : Nat} {x : α} (h : l[i]? = some x) : l.take (i + 1) = l.take i ++ [x] := by
  rw [List.take_add_one, h]
  rfl
theorem item_lt {α : Type} {l : List α} {i : Nat} {x : α} (h : l[i]? = some x) : i < l.length := (List.getElem?_eq_some_iff.mp h).1
theorem small (n : Nat) (h : n ≤ 60000) : n < sizeLine := Nat.lt_of_le_of_lt h (by decide)
theorem getD_item {α : Type} {l : List α} {i : Nat} {x d : α} (h : l[i]? = some x) : l.getD i d = x := by rw [List.getD_eq_getElem?_getD, h]; rfl
theorem seq_off {K : PySem.W.Frag} {H : Hp} {a b : Addr} {xs : List V} {o : HO} (h : SqL K H a xs) (n : a ≠ b) : SqL K (upd H b o) a xs := by
  rcases h with (h | ⟨u, h⟩) | h
  · exact .inl (.inl (by rw [upd_ne n]; exact h))
  · exact .inl (.inr ⟨u, by rw [upd_ne n]; exact h⟩)
  · exact .inr h
/-- one more thing at a place that was free at the entry -/
theorem same_put {H H' : Hp} {p : Addr} {o : HO} (s : Same H H') (n : H p = none) : Same H (upd H' p o) := fun b u e => by
  rw [upd_ne (ne_of_none e n)]
  exact s b u e
theorem item_set {α : Type} {l : List α} {i j : Nat} {x y : α} (h : (l.set i x)[j]? = some y) : (i = j ∧ y = x ∧ j < l.length) ∨ (i ≠ j ∧ l[j]? = some y) := by
  rw [List.getElem?_set] at h
  by_cases e : i = j
  · subst e
    rw [if_pos rfl] at h
    split at h
    · exact .inl ⟨rfl, (Option.some.inj h).symm, by assumption⟩
    · cases h
  · rw [if_neg e] at h
    exact .inr ⟨e, h⟩
theorem same_none {H H' : Hp} {b : Addr} (s : Same H H') (n : H' b = none) : H b = none := by
  cases q : H b with
  | none => rfl
  | some o => rw [s _ _ q] at n; cases n
theorem getD_set {w : List Int} {i k : Nat} {v : Int} (h : k < w.length) : (w.set i v).getD k 0 = if i = k then v else w.getD k 0 := by
  rw [List.getD_eq_getElem?_getD, List.getElem?_set]
  split
  · next e =>
    subst e
    rw [if_pos h]
    rfl
  · rw [List.getD_eq_getElem?_getD]
/-! data: == of lists of ints, of pairs -/
theorem eqvAll_ints : ∀ xs ys : List Int, PyData.eqvAll (xs.map .int) (ys.map .int) = decide (xs = ys)
  | [], [] => by simp [PyData.eqvAll]
  | [], _ :: _ => by simp [PyData.eqvAll]
  | _ :: _, [] => by simp [PyData.eqvAll]
  | x :: xs, y :: ys => by
    simp only [List.map_cons, PyData.eqvAll, PyData.eqv, eqvAll_ints xs ys]
    by_cases h : x = y <;> by_cases k : xs = ys <;> simp [h, k]
theorem canLayAll_ints : ∀ xs : List Int, PyData.canLayAll0 (xs.map .int) = true
  | [] => rfl
  | x :: xs => by simp [PyData.canLayAll0, PyData.canLay0, canLayAll_ints xs]
theorem depthAll_ints : ∀ xs : List Int, PyData.depthAll (xs.map .int) = 0
  | [] => rfl
  | x :: xs => by simp [PyData.depthAll, PyData.depth, depthAll_ints xs]
theorem shaped_ints (xs : List Int) : SeqAt.shaped (.list (xs.map .int)) = true := by
  simp [SeqAt.shaped, PyData.canLay0, canLayAll_ints, PyData.depth, depthAll_ints]
theorem dpAll_ints {K : PySem.W.Frag} {H : Hp} : ∀ xs : List Int, DpAll K H (xs.map V.int) (xs.map .int)
  | [] => .nil
  | x :: xs => .cons (.int x) (dpAll_ints xs)
theorem dp_ints {K : PySem.W.Frag} {H : Hp} {a : Addr} {xs : List Int} (h : SqL K H a (xs.map V.int)) : Dp K H (.ref a) (.list (xs.map .int)) := .lst h (dpAll_ints xs)
theorem eqv_ints (xs ys : List Int) : PyData.eqv (.list (xs.map .int)) (.list (ys.map .int)) = decide (xs = ys) := by
  simp only [PyData.eqv]
  exact eqvAll_ints xs ys
/-- rows of ints -/
def rowD (xs : List Int) : PyData := .list (xs.map .int)
theorem rows_data : ∀ xss : List (List Int), PyData.canLayAll0 (xss.map rowD) = true ∧ PyData.depthAll (xss.map rowD) ≤ 1
  | [] => ⟨rfl, Nat.zero_le _⟩
  | xs :: xss => by
    obtain ⟨h1, h2⟩ := rows_data xss
    refine ⟨by simp [PyData.canLayAll0, PyData.canLay0, rowD, canLayAll_ints, h1], ?_⟩
    simp only [List.map_cons, PyData.depthAll, rowD, PyData.depth, depthAll_ints]
    omega
theorem rows_shaped (xss : List (List Int)) : SeqAt.shaped (.list (xss.map rowD)) = true := by
  obtain ⟨h1, h2⟩ := rows_data xss
  have e : PyData.depth (.list (xss.map rowD)) = PyData.depthAll (xss.map rowD) + 1 := by simp only [PyData.depth]
  unfold SeqAt.shaped
  rw [Bool.and_eq_true]
  exact ⟨by simp only [PyData.canLay0]; exact h1, decide_eq_true (by rw [e]; omega)⟩
theorem eqvAll_rows : ∀ xss yss : List (List Int), PyData.eqvAll (xss.map rowD) (yss.map rowD) = decide (xss = yss)
  | [], [] => by simp [PyData.eqvAll]
  | [], _ :: _ => by simp [PyData.eqvAll]
  | _ :: _, [] => by simp [PyData.eqvAll]
  | x :: xs, y :: ys => by
    have h := eqv_ints x y
    simp only [List.map_cons, PyData.eqvAll, rowD, eqvAll_rows xs ys, h]
    by_cases h : x = y <;> by_cases k : xs = ys <;> simp [h, k]
theorem eqv_rows (xss yss : List (List Int)) : PyData.eqv (.list (xss.map rowD)) (.list (yss.map rowD)) = decide (xss = yss) := by
  simp only [PyData.eqv]
  exact eqvAll_rows xss yss
theorem dp_two {K : PySem.W.Frag} {H : Hp} {a b c : Addr} {xs ys : List Int} (h : SqL K H a [V.ref b, V.ref c]) (hb : SqL K H b (xs.map V.int)) (hc : SqL K H c (ys.map V.int)) : Dp K H (.ref a) (.list ([xs, ys].map rowD)) :=
  .lst h (.cons (dp_ints hb) (.cons (dp_ints hc) .nil))
/-! xs[i] op= e, i not below 0 -/
def rGetL (K : PySem.W.Frag) : V → V → Hp → VK → Prop := fun x y H Q => ∃ (p : Addr) (xs : List V) (i : Int) (j : Nat) (v : V), x = .ref p ∧ y = .int i ∧ i = (j : Int) ∧ SqL K H p xs ∧ xs[j]? = some v ∧ Q v H
theorem pget_list {X : Cx} : PGet X (rGetL X.K) := by
  intro pins s σ H o i ov iv Q I ro ri h
  obtain ⟨p, xs, _, j, v, rfl, rfl, rfl, hS, hv, q⟩ := h
  cases ro
  obtain ⟨t, rfl⟩ := ri
  obtain ⟨its, r, pl, hz⟩ := I.list hS
  obtain ⟨u, hu, ru⟩ := r.get hv
  have hl : j < xs.length := (List.getElem?_eq_some_iff.mp hv).1
  have hn := line63
  exact PySem.wpAny_getItem_list pl.isList (by omega) (by omega) (by rw [Int.toNat_natCast]; simpa using hu) ⟨v, H, I, ru, q⟩
theorem rep_zero (n : Nat) : (List.replicate n [V.int 0]).flatten = (List.replicate n (0 : Int)).map V.int := by
  induction n with
  | zero => rfl
  | succ n ih => rw [List.replicate_succ, List.flatten_cons, ih, List.replicate_succ]; rfl
theorem pev_rep (n : Nat) (x : Zp) : pev (List.replicate n (0 : Int)) x = 0 := pev_zeros (fun w m => by rw [(List.mem_replicate.mp m).2]; exact z_zero) x
theorem ixN_nat {n j : Nat} (h : j < n) : ixN n (j : Int) = some j := by
  unfold ixN
  rw [if_pos (by omega), if_pos (by omega), Int.toNat_natCast]
/-- a list of pairs of ints stands at p -/
def PtsAt (K : PySem.W.Frag) (H : Hp) (p : Addr) (ps : List (Int × Int)) : Prop := ∃ L : List (Addr × Int × Int), SqL K H p (L.map fun e => V.ref e.1) ∧ L.map (·.2) = ps ∧ ∀ e ∈ L, SqT K H e.1 [.int e.2.1, .int e.2.2]
theorem PtsAt.same {K : PySem.W.Frag} {H H' : Hp} {p : Addr} {ps : List (Int × Int)} (h : PtsAt K H p ps) (s : Same H H') : PtsAt K H' p ps := by
  obtain ⟨L, h1, h2, h3⟩ := h
  exact ⟨L, s.seq h1, h2, fun e m => s.tup (h3 e m)⟩
theorem PtsAt.old {K : PySem.W.Frag} {H : Hp} {p : Addr} {ps : List (Int × Int)} (h : PtsAt K H p ps) : ∃ as : List Addr, SqL K H p (as.map V.ref) ∧ as.length = ps.length ∧
    ∀ (i : Nat) (t : Addr) (q : Int × Int), as[i]? = some t → ps[i]? = some q → SqT K H t [.int q.1, .int q.2] := by
  obtain ⟨L, h1, rfl, h3⟩ := h
  refine ⟨L.map (·.1), by rw [List.map_map]; exact h1, by simp, fun i t q a b => ?_⟩
  rw [List.getElem?_map] at a b
  cases e : L[i]? with
  | none => rw [e] at a; cases a
  | some u =>
    rw [e] at a b
    cases a
    cases b
    exact h3 u (List.mem_of_getElem? e)
/-- an item of the list: a pair -/
theorem pts_item {K : PySem.W.Frag} {H : Hp} {as : List Addr} {ps : List (Int × Int)} (hl : as.length = ps.length) (h : ∀ (i : Nat) (t : Addr) (q : Int × Int), as[i]? = some t → ps[i]? = some q → SqT K H t [.int q.1, .int q.2])
    {i : Nat} {y : V} (hi : (as.map V.ref)[i]? = some y) : ∃ t q, y = .ref t ∧ as[i]? = some t ∧ ps[i]? = some q ∧ SqT K H t [.int q.1, .int q.2] := by
  rw [List.getElem?_map] at hi
  cases e : as[i]? with
  | none => rw [e] at hi; cases hi
  | some t =>
    rw [e] at hi
    have lt := item_lt e
    have e2 : ps[i]? = some ps[i] := List.getElem?_eq_getElem (by omega)
    exact ⟨t, _, (Option.some.inj hi).symm, rfl, e2, h i t _ e e2⟩
theorem words_apart {ps : List Int} : (ps.map (· % 65521)).Nodup ↔ Apart ps := by
  unfold Apart List.Nodup
  rw [List.pairwise_map, List.pairwise_map]
  constructor
  · intro h
    exact h.imp fun {a b} n e => n (z_mod_eq e)
  · intro h
    exact h.imp fun {a b} n e => n (z_eq.mpr e)
theorem apart_words {ps : List Int} : Apart (ps.map (· % 65521)) ↔ Apart ps := by
  unfold Apart
  rw [List.map_map, show (z ∘ fun x : Int => x % 65521) = z from funext fun a => z_mod a]
/-- data of pairs -/
def pairD (q : Int × Int) : PyData := .tuple [.int q.1, .int q.2]
theorem pairs_data : ∀ ps : List (Int × Int), PyData.canLayAll0 (ps.map pairD) = true ∧ PyData.depthAll (ps.map pairD) ≤ 1 ∧ PyData.eqvAll (ps.map pairD) (ps.map pairD) = true
  | [] => ⟨rfl, Nat.zero_le _, by simp [PyData.eqvAll]⟩
  | q :: ps => by
    obtain ⟨h1, h2, h3⟩ := pairs_data ps
    refine ⟨by simp [PyData.canLayAll0, PyData.canLay0, pairD, h1], ?_, by simp [PyData.eqvAll, PyData.eqv, pairD, h3]⟩
    simp only [List.map_cons, PyData.depthAll, pairD, PyData.depth]
    omega
theorem pairs_shaped (ps : List (Int × Int)) : SeqAt.shaped (.list (ps.map pairD)) = true := by
  obtain ⟨h1, h2, _⟩ := pairs_data ps
  have e : PyData.depth (.list (ps.map pairD)) = PyData.depthAll (ps.map pairD) + 1 := by simp only [PyData.depth]
  unfold SeqAt.shaped
  rw [Bool.and_eq_true]
  exact ⟨by simp only [PyData.canLay0]; exact h1, decide_eq_true (by rw [e]; omega)⟩
theorem pairs_eqv (ps : List (Int × Int)) : PyData.eqv (.list (ps.map pairD)) (.list (ps.map pairD)) = true := by
  simp only [PyData.eqv]
  exact (pairs_data ps).2.2
theorem PtsAt.dp {K : PySem.W.Frag} {H : Hp} {p : Addr} {ps : List (Int × Int)} (h : PtsAt K H p ps) : Dp K H (.ref p) (.list (ps.map pairD)) := by
  obtain ⟨L, h1, rfl, h3⟩ := h
  refine .lst h1 ?_
  have : ∀ M : List (Addr × Int × Int), (∀ e ∈ M, SqT K H e.1 [.int e.2.1, .int e.2.2]) → DpAll K H (M.map fun e => V.ref e.1) ((M.map (·.2)).map pairD) := by
    intro M
    induction M with
    | nil => intro _; exact .nil
    | cons e M ih => exact fun g => .cons (.tup (g e (by simp)) (.cons (.int _) (.cons (.int _) .nil))) (ih fun u m => g u (List.mem_cons_of_mem _ m))
  exact this L h3
theorem rev_ind {α : Type} {P : List α → Prop} (h0 : P []) (hs : ∀ l a, P l → P (l ++ [a])) (l : List α) : P l := by
  have h : ∀ l : List α, P l.reverse := fun l => by
    induction l with
    | nil => exact h0
    | cons a l ih => rw [List.reverse_cons]; exact hs _ _ ih
  have := h l.reverse
  rw [List.reverse_reverse] at this
  exact this
/-- where things stand -/
structure Ad where
  f_is_present : Addr
  d_is_present : FuncData
  f_sector_at : Addr
  d_sector_at : FuncData
  f_inverse : Addr
  d_inverse : FuncData
  f_weight : Addr
  d_weight : FuncData
  f_weights : Addr
  d_weights : FuncData
  f_check_lengths : Addr
  d_check_lengths : FuncData
  f_piece_at : Addr
  d_piece_at : FuncData
  f_encode : Addr
  d_encode : FuncData
  f_present_numbers : Addr
  d_present_numbers : FuncData
  f_recover : Addr
  d_recover : FuncData
  f_agree : Addr
  d_agree : FuncData
  f_wrong_pieces : Addr
  d_wrong_pieces : FuncData
  f_check_words : Addr
  d_check_words : FuncData
  f_is_place : Addr
  d_is_place : FuncData
  f_seal : Addr
  d_seal : FuncData
  f_unseal : Addr
  d_unseal : FuncData
  f_is_whole : Addr
  d_is_whole : FuncData
  f_choose_disks : Addr
  d_choose_disks : FuncData
  f_piece_size : Addr
  d_piece_size : FuncData
  f_data_pieces : Addr
  d_data_pieces : FuncData
  f_piece_requests : Addr
  d_piece_requests : FuncData
  f_write_stripe : Addr
  d_write_stripe : FuncData
  f_good_piece : Addr
  d_good_piece : FuncData
  f_read_stripe : Addr
  d_read_stripe : FuncData
  f_repair_stripe : Addr
  d_repair_stripe : FuncData
  f_law_pot : Addr
  d_law_pot : FuncData
  f_law_next : Addr
  d_law_next : FuncData
  f_law_word : Addr
  d_law_word : FuncData
  f_law_words : Addr
  d_law_words : FuncData
  f_law_carry : Addr
  d_law_carry : FuncData
  f_law_spoil : Addr
  d_law_spoil : FuncData
  f_law_refused : Addr
  d_law_refused : FuncData
  f_law : Addr
  d_law : FuncData
  f_Space_init : Addr
  d_Space_init : FuncData
  f_Space_take : Addr
  d_Space_take : FuncData
  f_Space_give : Addr
  d_Space_give : FuncData
  f_Space_settle : Addr
  d_Space_settle : FuncData
  f_Space_free_count : Addr
  d_Space_free_count : FuncData
  f_Store_init : Addr
  d_Store_init : FuncData
  f_Store_look : Addr
  d_Store_look : FuncData
  f_Store_put : Addr
  d_Store_put : FuncData
  f_Store_get : Addr
  d_Store_get : FuncData
  f_Store_commit : Addr
  d_Store_commit : FuncData
  f_Store_forget : Addr
  d_Store_forget : FuncData
  f_Store_repairs : Addr
  d_Store_repairs : FuncData
  f_Store_free_counts : Addr
  d_Store_free_counts : FuncData
  c_PoolError : Addr
  c_InvalidArgument : Addr
  c_NotEnoughPieces : Addr
  c_NoSpace : Addr
  c_NotEnoughDisks : Addr
  c_Damaged : Addr
  c_Space : Addr
  c_Store : Addr
  e_Store_put : Addr
  wd : World
/-- what the top has written -/
structure Txt (w : World) (K : PySem.W.Frag) (mg : Str → Option Value) (a : Ad) : Prop where
  F_is_present : Fun K "is_present" "is_present" s_is_present a.f_is_present a.d_is_present
  g_is_present : mg "is_present" = some (.ref a.f_is_present)
  d_is_present : Binds K a.d_is_present ["images", "disk"] []
  F_sector_at : Fun K "sector_at" "sector_at" s_sector_at a.f_sector_at a.d_sector_at
  g_sector_at : mg "sector_at" = some (.ref a.f_sector_at)
  d_sector_at : Binds K a.d_sector_at ["images", "disk", "row"] []
  F_inverse : Fun K "inverse" "inverse" s_inverse a.f_inverse a.d_inverse
  g_inverse : mg "inverse" = some (.ref a.f_inverse)
  d_inverse : Binds K a.d_inverse ["a"] []
  F_weight : Fun K "weight" "weight" s_weight a.f_weight a.d_weight
  g_weight : mg "weight" = some (.ref a.f_weight)
  d_weight : Binds K a.d_weight ["place", "others", "x"] []
  F_weights : Fun K "weights" "weights" s_weights a.f_weights a.d_weights
  g_weights : mg "weights" = some (.ref a.f_weights)
  d_weights : Binds K a.d_weights ["places", "x"] []
  F_check_lengths : Fun K "check_lengths" "check_lengths" s_check_lengths a.f_check_lengths a.d_check_lengths
  g_check_lengths : mg "check_lengths" = some (.ref a.f_check_lengths)
  d_check_lengths : Binds K a.d_check_lengths ["pieces"] []
  F_piece_at : Fun K "piece_at" "piece_at" s_piece_at a.f_piece_at a.d_piece_at
  g_piece_at : mg "piece_at" = some (.ref a.f_piece_at)
  d_piece_at : Binds K a.d_piece_at ["known", "places", "number"] []
  F_encode : Fun K "encode" "encode" s_encode a.f_encode a.d_encode
  g_encode : mg "encode" = some (.ref a.f_encode)
  d_encode : Binds K a.d_encode ["pieces", "parity"] []
  F_present_numbers : Fun K "present_numbers" "present_numbers" s_present_numbers a.f_present_numbers a.d_present_numbers
  g_present_numbers : mg "present_numbers" = some (.ref a.f_present_numbers)
  d_present_numbers : Binds K a.d_present_numbers ["pieces", "data"] []
  F_recover : Fun K "recover" "recover" s_recover a.f_recover a.d_recover
  g_recover : mg "recover" = some (.ref a.f_recover)
  d_recover : Binds K a.d_recover ["pieces", "data"] []
  F_agree : Fun K "agree" "agree" s_agree a.f_agree a.d_agree
  g_agree : mg "agree" = some (.ref a.f_agree)
  d_agree : Binds K a.d_agree ["pieces", "numbers", "data"] []
  F_wrong_pieces : Fun K "wrong_pieces" "wrong_pieces" s_wrong_pieces a.f_wrong_pieces a.d_wrong_pieces
  g_wrong_pieces : mg "wrong_pieces" = some (.ref a.f_wrong_pieces)
  d_wrong_pieces : Binds K a.d_wrong_pieces ["pieces", "data"] []
  F_check_words : Fun K "check_words" "check_words" s_check_words a.f_check_words a.d_check_words
  g_check_words : mg "check_words" = some (.ref a.f_check_words)
  d_check_words : Binds K a.d_check_words ["words"] []
  F_is_place : Fun K "is_place" "is_place" s_is_place a.f_is_place a.d_is_place
  g_is_place : mg "is_place" = some (.ref a.f_is_place)
  d_is_place : Binds K a.d_is_place ["kind", "disk", "row"] []
  F_seal : Fun K "seal" "seal" s_seal a.f_seal a.d_seal
  g_seal : mg "seal" = some (.ref a.f_seal)
  d_seal : Binds K a.d_seal ["kind", "disk", "row", "stamp", "payload"] []
  F_unseal : Fun K "unseal" "unseal" s_unseal a.f_unseal a.d_unseal
  g_unseal : mg "unseal" = some (.ref a.f_unseal)
  d_unseal : Binds K a.d_unseal ["sector", "kind", "disk", "row"] []
  F_is_whole : Fun K "is_whole" "is_whole" s_is_whole a.f_is_whole a.d_is_whole
  g_is_whole : mg "is_whole" = some (.ref a.f_is_whole)
  d_is_whole : Binds K a.d_is_whole ["sector"] []
  F_choose_disks : Fun K "choose_disks" "choose_disks" s_choose_disks a.f_choose_disks a.d_choose_disks
  g_choose_disks : mg "choose_disks" = some (.ref a.f_choose_disks)
  d_choose_disks : Binds K a.d_choose_disks ["candidates", "width"] []
  F_piece_size : Fun K "piece_size" "piece_size" s_piece_size a.f_piece_size a.d_piece_size
  g_piece_size : mg "piece_size" = some (.ref a.f_piece_size)
  d_piece_size : Binds K a.d_piece_size ["length", "data"] []
  F_data_pieces : Fun K "data_pieces" "data_pieces" s_data_pieces a.f_data_pieces a.d_data_pieces
  g_data_pieces : mg "data_pieces" = some (.ref a.f_data_pieces)
  d_data_pieces : Binds K a.d_data_pieces ["words", "data"] []
  F_piece_requests : Fun K "piece_requests" "piece_requests" s_piece_requests a.f_piece_requests a.d_piece_requests
  g_piece_requests : mg "piece_requests" = some (.ref a.f_piece_requests)
  d_piece_requests : Binds K a.d_piece_requests ["images", "places", "stamp", "pieces", "numbers"] []
  F_write_stripe : Fun K "write_stripe" "write_stripe" s_write_stripe a.f_write_stripe a.d_write_stripe
  g_write_stripe : mg "write_stripe" = some (.ref a.f_write_stripe)
  d_write_stripe : Binds K a.d_write_stripe ["images", "places", "stamp", "words", "data"] []
  F_good_piece : Fun K "good_piece" "good_piece" s_good_piece a.f_good_piece a.d_good_piece
  g_good_piece : mg "good_piece" = some (.ref a.f_good_piece)
  d_good_piece : Binds K a.d_good_piece ["images", "place", "stamp", "size"] []
  F_read_stripe : Fun K "read_stripe" "read_stripe" s_read_stripe a.f_read_stripe a.d_read_stripe
  g_read_stripe : mg "read_stripe" = some (.ref a.f_read_stripe)
  d_read_stripe : Binds K a.d_read_stripe ["images", "places", "stamp", "length", "data"] []
  F_repair_stripe : Fun K "repair_stripe" "repair_stripe" s_repair_stripe a.f_repair_stripe a.d_repair_stripe
  g_repair_stripe : mg "repair_stripe" = some (.ref a.f_repair_stripe)
  d_repair_stripe : Binds K a.d_repair_stripe ["images", "places", "stamp", "length", "data"] []
  F_law_pot : Fun K "_law_pot" "_law_pot" s_law_pot a.f_law_pot a.d_law_pot
  g_law_pot : mg "_law_pot" = some (.ref a.f_law_pot)
  d_law_pot : Binds K a.d_law_pot ["script"] []
  F_law_next : Fun K "_law_next" "_law_next" s_law_next a.f_law_next a.d_law_next
  g_law_next : mg "_law_next" = some (.ref a.f_law_next)
  d_law_next : Binds K a.d_law_next ["pot", "limit"] []
  F_law_word : Fun K "_law_word" "_law_word" s_law_word a.f_law_word a.d_law_word
  g_law_word : mg "_law_word" = some (.ref a.f_law_word)
  d_law_word : Binds K a.d_law_word ["pot"] []
  F_law_words : Fun K "_law_words" "_law_words" s_law_words a.f_law_words a.d_law_words
  g_law_words : mg "_law_words" = some (.ref a.f_law_words)
  d_law_words : Binds K a.d_law_words ["pot", "count"] []
  F_law_carry : Fun K "_law_carry" "_law_carry" s_law_carry a.f_law_carry a.d_law_carry
  g_law_carry : mg "_law_carry" = some (.ref a.f_law_carry)
  d_law_carry : Binds K a.d_law_carry ["images", "requests"] []
  F_law_spoil : Fun K "_law_spoil" "_law_spoil" s_law_spoil a.f_law_spoil a.d_law_spoil
  g_law_spoil : mg "_law_spoil" = some (.ref a.f_law_spoil)
  d_law_spoil : Binds K a.d_law_spoil ["pot", "sectors", "row"] []
  F_law_refused : Fun K "_law_refused" "_law_refused" s_law_refused a.f_law_refused a.d_law_refused
  g_law_refused : mg "_law_refused" = some (.ref a.f_law_refused)
  d_law_refused : Binds K a.d_law_refused ["store", "pointers"] []
  F_law : Fun K "law" "law" s_law a.f_law a.d_law
  g_law : mg "law" = some (.ref a.f_law)
  d_law : Binds K a.d_law ["script"] []
  F_Space_init : Fun K "__init__" "Space.__init__" s_Space_init a.f_Space_init a.d_Space_init
  mk_Space : Mk K a.c_Space a.f_Space_init
  d_Space_init : Binds K a.d_Space_init ["self", "rows", "first"] []
  F_Space_take : Fun K "take" "Space.take" s_Space_take a.f_Space_take a.d_Space_take
  m_Space_take : Meth K a.c_Space "take" a.f_Space_take
  d_Space_take : Binds K a.d_Space_take ["self"] []
  F_Space_give : Fun K "give" "Space.give" s_Space_give a.f_Space_give a.d_Space_give
  m_Space_give : Meth K a.c_Space "give" a.f_Space_give
  d_Space_give : Binds K a.d_Space_give ["self", "row"] []
  F_Space_settle : Fun K "settle" "Space.settle" s_Space_settle a.f_Space_settle a.d_Space_settle
  m_Space_settle : Meth K a.c_Space "settle" a.f_Space_settle
  d_Space_settle : Binds K a.d_Space_settle ["self"] []
  F_Space_free_count : Fun K "free_count" "Space.free_count" s_Space_free_count a.f_Space_free_count a.d_Space_free_count
  m_Space_free_count : Meth K a.c_Space "free_count" a.f_Space_free_count
  d_Space_free_count : Binds K a.d_Space_free_count ["self"] []
  F_Store_init : Fun K "__init__" "Store.__init__" s_Store_init a.f_Store_init a.d_Store_init
  mk_Store : Mk K a.c_Store a.f_Store_init
  d_Store_init : KBn K a.d_Store_init ["self", "data", "parity", "rows", "members", "epoch"] 1 ["data", "parity", "rows", "members", "epoch"] (fun us ws => us ++ ws) (fun vs zs => vs ++ zs)
  F_Store_look : Fun K "look" "Store.look" s_Store_look a.f_Store_look a.d_Store_look
  m_Store_look : Meth K a.c_Store "look" a.f_Store_look
  d_Store_look : Binds K a.d_Store_look ["self", "images"] []
  F_Store_put : Fun K "put" "Store.put" s_Store_put a.f_Store_put a.d_Store_put
  m_Store_put : Meth K a.c_Store "put" a.f_Store_put
  d_Store_put : Binds K a.d_Store_put ["self", "words", "avoid"] [.ref a.e_Store_put]
  kb_Store_put : KBn K a.d_Store_put ["self", "words", "avoid"] 2 ["avoid"] (fun us ws => us ++ ws) (fun vs zs => vs ++ zs)
  e_Store_put : KTp K a.e_Store_put []
  F_Store_get : Fun K "get" "Store.get" s_Store_get a.f_Store_get a.d_Store_get
  m_Store_get : Meth K a.c_Store "get" a.f_Store_get
  d_Store_get : Binds K a.d_Store_get ["self", "pointer"] []
  F_Store_commit : Fun K "commit" "Store.commit" s_Store_commit a.f_Store_commit a.d_Store_commit
  m_Store_commit : Meth K a.c_Store "commit" a.f_Store_commit
  d_Store_commit : Binds K a.d_Store_commit ["self", "live"] []
  F_Store_forget : Fun K "_forget" "Store._forget" s_Store_forget a.f_Store_forget a.d_Store_forget
  m_Store_forget : Meth K a.c_Store "_forget" a.f_Store_forget
  d_Store_forget : Binds K a.d_Store_forget ["self", "pointers"] []
  F_Store_repairs : Fun K "repairs" "Store.repairs" s_Store_repairs a.f_Store_repairs a.d_Store_repairs
  m_Store_repairs : Meth K a.c_Store "repairs" a.f_Store_repairs
  d_Store_repairs : Binds K a.d_Store_repairs ["self", "live"] []
  F_Store_free_counts : Fun K "free_counts" "Store.free_counts" s_Store_free_counts a.f_Store_free_counts a.d_Store_free_counts
  m_Store_free_counts : Meth K a.c_Store "free_counts" a.f_Store_free_counts
  d_Store_free_counts : Binds K a.d_Store_free_counts ["self"] []
  g_PRIME : ∃ u, mg "PRIME" = some u ∧ RelV (.int 65521) u
  g_MAX_PIECES : ∃ u, mg "MAX_PIECES" = some u ∧ RelV (.int 8) u
  g_MAX_DISKS : ∃ u, mg "MAX_DISKS" = some u ∧ RelV (.int 8) u
  g_MAX_PAYLOAD : ∃ u, mg "MAX_PAYLOAD" = some u ∧ RelV (.int 1000) u
  g_MAX_ROWS : ∃ u, mg "MAX_ROWS" = some u ∧ RelV (.int 4000) u
  g_FIRST_ROW : ∃ u, mg "FIRST_ROW" = some u ∧ RelV (.int 18) u
  g_NEW : ∃ u, mg "NEW" = some u ∧ RelV (.int 1) u
  g_OLD : ∃ u, mg "OLD" = some u ∧ RelV (.int 2) u
  g_WAITING : ∃ u, mg "WAITING" = some u ∧ RelV (.int 3) u
  g_LABEL : ∃ u, mg "LABEL" = some u ∧ RelV (.int 1) u
  g_PIECE : ∃ u, mg "PIECE" = some u ∧ RelV (.int 3) u
  g_HEADER_WORDS : ∃ u, mg "HEADER_WORDS" = some u ∧ RelV (.int 6) u
  g_CHECK_WORDS : ∃ u, mg "CHECK_WORDS" = some u ∧ RelV (.int 2) u
  hw : a.wd = w
  n_len : mg "len" = none
  n_enumerate : mg "enumerate" = none
  n_sum : mg "sum" = none
  n_zip : mg "zip" = none
  n_list : mg "list" = none
  n_range : mg "range" = none
  n_tuple : mg "tuple" = none
  n_min : mg "min" = none
  n_max : mg "max" = none
  n_sorted : mg "sorted" = none
  n_int : mg "int" = none
  n_abs : mg "abs" = none
  n_isinstance : mg "isinstance" = none
  n_all : mg "all" = none
  n_combinations : mg "combinations" = some (.type "itertools.combinations")
  g_Space : mg "Space" = some (.ref a.c_Space)
  cl_Space : Cls K a.c_Space
  na_Space_first : NoAttr K a.c_Space "_first"
  na_Space_lowest : NoAttr K a.c_Space "_lowest"
  na_Space_rows : NoAttr K a.c_Space "_rows"
  na_Space_states : NoAttr K a.c_Space "_states"
  g_Store : mg "Store" = some (.ref a.c_Store)
  cl_Store : Cls K a.c_Store
  na_Store_blocks : NoAttr K a.c_Store "_blocks"
  na_Store_images : NoAttr K a.c_Store "_images"
  na_Store_made : NoAttr K a.c_Store "_made"
  na_Store_memory : NoAttr K a.c_Store "_memory"
  na_Store_spaces : NoAttr K a.c_Store "_spaces"
  na_Store_data : NoAttr K a.c_Store "data"
  na_Store_epoch : NoAttr K a.c_Store "epoch"
  na_Store_members : NoAttr K a.c_Store "members"
  na_Store_parity : NoAttr K a.c_Store "parity"
  na_Store_rows : NoAttr K a.c_Store "rows"
  g_PoolError : mg "PoolError" = some (.ref a.c_PoolError)
  x_PoolError : PySem.W.excIn K a.c_PoolError [.type "ValueError", .type "Exception", .type "BaseException", .type "object"] "ValueError.__new__" = true
  k_PoolError : PySem.W.keepIn K (.ref a.c_PoolError) = true
  b_PoolError : PySem.W.subIn K (.ref a.c_PoolError) (.type "BaseException") = some true
  t_PoolError : PySem.W.typeIn K (.ref a.c_PoolError) = some (.type "type")
  E_PoolError : ExcC K a.c_PoolError
  g_InvalidArgument : mg "InvalidArgument" = some (.ref a.c_InvalidArgument)
  x_InvalidArgument : PySem.W.excIn K a.c_InvalidArgument [.type "ValueError", .type "Exception", .type "BaseException", .type "object"] "ValueError.__new__" = true
  k_InvalidArgument : PySem.W.keepIn K (.ref a.c_InvalidArgument) = true
  b_InvalidArgument : PySem.W.subIn K (.ref a.c_InvalidArgument) (.type "BaseException") = some true
  t_InvalidArgument : PySem.W.typeIn K (.ref a.c_InvalidArgument) = some (.type "type")
  E_InvalidArgument : ExcC K a.c_InvalidArgument
  g_NotEnoughPieces : mg "NotEnoughPieces" = some (.ref a.c_NotEnoughPieces)
  x_NotEnoughPieces : PySem.W.excIn K a.c_NotEnoughPieces [.type "ValueError", .type "Exception", .type "BaseException", .type "object"] "ValueError.__new__" = true
  k_NotEnoughPieces : PySem.W.keepIn K (.ref a.c_NotEnoughPieces) = true
  b_NotEnoughPieces : PySem.W.subIn K (.ref a.c_NotEnoughPieces) (.type "BaseException") = some true
  t_NotEnoughPieces : PySem.W.typeIn K (.ref a.c_NotEnoughPieces) = some (.type "type")
  E_NotEnoughPieces : ExcC K a.c_NotEnoughPieces
  g_NoSpace : mg "NoSpace" = some (.ref a.c_NoSpace)
  x_NoSpace : PySem.W.excIn K a.c_NoSpace [.type "ValueError", .type "Exception", .type "BaseException", .type "object"] "ValueError.__new__" = true
  k_NoSpace : PySem.W.keepIn K (.ref a.c_NoSpace) = true
  b_NoSpace : PySem.W.subIn K (.ref a.c_NoSpace) (.type "BaseException") = some true
  t_NoSpace : PySem.W.typeIn K (.ref a.c_NoSpace) = some (.type "type")
  E_NoSpace : ExcC K a.c_NoSpace
  g_NotEnoughDisks : mg "NotEnoughDisks" = some (.ref a.c_NotEnoughDisks)
  x_NotEnoughDisks : PySem.W.excIn K a.c_NotEnoughDisks [.type "ValueError", .type "Exception", .type "BaseException", .type "object"] "ValueError.__new__" = true
  k_NotEnoughDisks : PySem.W.keepIn K (.ref a.c_NotEnoughDisks) = true
  b_NotEnoughDisks : PySem.W.subIn K (.ref a.c_NotEnoughDisks) (.type "BaseException") = some true
  t_NotEnoughDisks : PySem.W.typeIn K (.ref a.c_NotEnoughDisks) = some (.type "type")
  E_NotEnoughDisks : ExcC K a.c_NotEnoughDisks
  g_Damaged : mg "Damaged" = some (.ref a.c_Damaged)
  x_Damaged : PySem.W.excIn K a.c_Damaged [.type "ValueError", .type "Exception", .type "BaseException", .type "object"] "ValueError.__new__" = true
  k_Damaged : PySem.W.keepIn K (.ref a.c_Damaged) = true
  b_Damaged : PySem.W.subIn K (.ref a.c_Damaged) (.type "BaseException") = some true
  t_Damaged : PySem.W.typeIn K (.ref a.c_Damaged) = some (.type "type")
  E_Damaged : ExcC K a.c_Damaged
  u_InvalidArgument_PoolError : PySem.W.exmOne K (.ref a.c_InvalidArgument) (.ref a.c_PoolError) = some true
  u_NotEnoughDisks_PoolError : PySem.W.exmOne K (.ref a.c_NotEnoughDisks) (.ref a.c_PoolError) = some true
  u_Damaged_PoolError : PySem.W.exmOne K (.ref a.c_Damaged) (.ref a.c_PoolError) = some true
  u_NotEnoughPieces_NotEnoughPieces : PySem.W.exmOne K (.ref a.c_NotEnoughPieces) (.ref a.c_NotEnoughPieces) = some true
  i_Damaged_Damaged : PySem.W.kitOne K (.ref a.c_Damaged) (.ref a.c_Damaged) = some true
/-! the promises -/
/-! the draws: a list of the script, a place in it, a rest, a seed -/
/-- at p stands a pot, its script's list at l -/
def Pot (H : Hp) (p l : Addr) : Prop := ∃ (ns : List Int) (i acc seed : Int), H p = some (.lst [.ref l, .int i, .int acc, .int seed]) ∧ H l = some (.lst (ns.map V.int)) ∧ 0 ≤ i ∧ 0 ≤ acc ∧ 0 ≤ seed ∧ seed < 2147483647
theorem Pot.ne {H : Hp} {p l : Addr} (h : Pot H p l) : l ≠ p := by
  obtain ⟨ns, i, acc, seed, h1, h2, _⟩ := h
  refine ne_of h2 h1 fun e => ?_
  have e1 := HO.lst.inj e
  cases ns with
  | nil => cases e1
  | cons a r => rw [List.map_cons] at e1; injection e1 with e2 _; cases e2
theorem Pot.same {H H' : Hp} {p l : Addr} (h : Pot H p l) (s : Same H H') : Pot H' p l := by
  obtain ⟨ns, i, acc, seed, h1, h2, h3⟩ := h
  exact ⟨ns, i, acc, seed, s _ _ h1, s _ _ h2, h3⟩
theorem Pot.only {H H' : Hp} {p l q : Addr} (h : Pot H p l) (s : Only q H H') (n1 : p ≠ q) (n2 : l ≠ q) : Pot H' p l := by
  obtain ⟨ns, i, acc, seed, h1, h2, h3⟩ := h
  exact ⟨ns, i, acc, seed, by rw [s _ n1]; exact h1, by rw [s _ n2]; exact h2, h3⟩
/-- a draw's answer below the limit -/
def sp_law_next (K : PySem.W.Frag) (a : Ad) : Sp := fun vs H Q _ => ∃ (p l : Addr) (m : Int), vs = [.ref p, .int m] ∧ Pot H p l ∧ 0 < m ∧ m < 1099511627776 ∧
  ∀ (v : Int) (H' : Hp), 0 ≤ v → v < m → Pot H' p l → Only p H H' → Q (.int v) H'
theorem sp_law_next_len {K : PySem.W.Frag} {a : Ad} {vs : List V} {H : Hp} {Q : VK} {E : XK} (h : sp_law_next K a vs H Q E) : vs.length = 2 := by
  obtain ⟨p, l, m, rfl, _⟩ := h
  rfl
def sp_law_pot (K : PySem.W.Frag) (a : Ad) : Sp := fun vs H Q _ => ∃ (s : Addr) (ns : List Int), vs = [.ref s] ∧ SqL K H s (ns.map V.int) ∧ ns.length ≤ 1000 ∧
  ∀ (p l : Addr) (H' : Hp), H p = none → H l = none → Same H H' → Pot H' p l → Q (.ref p) H'
theorem sp_law_pot_len {K : PySem.W.Frag} {a : Ad} {vs : List V} {H : Hp} {Q : VK} {E : XK} (h : sp_law_pot K a vs H Q E) : vs.length = 1 := by
  obtain ⟨s, ns, rfl, _⟩ := h
  rfl
/-- the law itself: True at every script -/
def sp_law0 (K : PySem.W.Frag) : Sp := fun vs H Q _ => ∃ (s : Addr) (ns : List Int), vs = [.ref s] ∧ SqL K H s (ns.map V.int) ∧ ns.length ≤ 63 ∧ ∀ H', Q (.bl true) H'
def sp_law (K : PySem.W.Frag) (a : Ad) : Sp := sp_law0 K
theorem sp_law_len {K : PySem.W.Frag} {a : Ad} {vs : List V} {H : Hp} {Q : VK} {E : XK} (h : sp_law K a vs H Q E) : vs.length = 1 := by
  obtain ⟨s, ns, rfl, _⟩ := h
  rfl
theorem int_item {ns : List Int} {i : Nat} {y : V} (h : (ns.map V.int)[i]? = some y) : ∃ z, ns[i]? = some z ∧ y = V.int z := by
  rw [List.getElem?_map] at h
  cases e : ns[i]? with
  | none => rw [e] at h; cases h
  | some z => rw [e] at h; exact ⟨z, rfl, (Option.some.inj h).symm⟩
/-- the pot's own object is no list of refs alone, no tuple -/
theorem Pot.list {H : Hp} {p l : Addr} (h : Pot H p l) : ∃ i acc seed : Int, H p = some (.lst [.ref l, .int i, .int acc, .int seed]) := by
  obtain ⟨ns, i, acc, seed, h1, _⟩ := h
  exact ⟨i, acc, seed, h1⟩
theorem But.seq {K : PySem.W.Frag} {H H' : Hp} {p a : Addr} {xs : List V} (b : But p H H') (n : a ≠ p) (h : SqL K H a xs) : SqL K H' a xs := by
  rcases h with (h | ⟨o, h⟩) | h
  · exact .inl (.inl (b _ _ h n))
  · exact .inl (.inr ⟨o, b _ _ h n⟩)
  · exact .inr h
theorem But.tup {K : PySem.W.Frag} {H H' : Hp} {p l a : Addr} {xs : List V} (P : Pot H p l) (b : But p H H') (h : SqT K H a xs) : SqT K H' a xs := by
  obtain ⟨i, acc, seed, hp⟩ := P.list
  rcases h with (h | ⟨o, h⟩) | h
  · exact .inl (.inl (b _ _ h (ne_of h hp (by intro q; cases q))))
  · exact .inl (.inr ⟨o, b _ _ h (ne_of h hp (by intro q; cases q))⟩)
  · exact .inr h
theorem Pot.noList {H : Hp} {p l a : Addr} (P : Pot H p l) {xs : List V} (h : H a = some (.lst xs)) (hx : ∀ i acc seed : Int, xs ≠ [.ref l, .int i, .int acc, .int seed]) : a ≠ p := by
  obtain ⟨i, acc, seed, hp⟩ := P.list
  exact ne_of h hp fun q => hx i acc seed (HO.lst.inj q)
theorem Pot.off {H : Hp} {p l q : Addr} (P : Pot H p l) (h : H q = none) : p ≠ q ∧ l ≠ q := by
  obtain ⟨_, _, _, _, g1, g2, _⟩ := P
  exact ⟨ne_of_none g1 h, ne_of_none g2 h⟩
theorem Pot.new {H : Hp} {p l q : Addr} {o : HO} (P : Pot H p l) (h : H q = none) : Pot (upd H q o) p l := P.same (Same.new h)
/-- an int is an int -/
def sp_law_is_int (K : PySem.W.Frag) (a : Ad) : Sp := fun vs H Q _ => ∃ x : Int, vs = [.int x] ∧ Q (.bl true) H
theorem sp_law_is_int_len {K : PySem.W.Frag} {a : Ad} {vs : List V} {H : Hp} {Q : VK} {E : XK} (h : sp_law_is_int K a vs H Q E) : vs.length = 1 := by
  obtain ⟨x, rfl, _⟩ := h
  rfl
def sp_inverse (K : PySem.W.Frag) (a : Ad) : Sp := fun vs H Q E => ∃ x : Int, vs = [.int x] ∧ (x % 65521 = 0 → ∀ H', Same H H' → E (.ref a.c_InvalidArgument) none H') ∧ (x % 65521 ≠ 0 → ∀ H', Same H H' → Q (.int (invP x)) H')
theorem sp_inverse_len {K : PySem.W.Frag} {a : Ad} {vs : List V} {H : Hp} {Q : VK} {E : XK} (h : sp_inverse K a vs H Q E) : vs.length = 1 := by
  obtain ⟨x, rfl, _⟩ := h
  rfl
/-! words drawn, a polynomial's value -/
def sp_law_word (K : PySem.W.Frag) (a : Ad) : Sp := fun vs H Q _ => ∃ (p l : Addr), vs = [.ref p] ∧ Pot H p l ∧ ∀ (v : Int) (H' : Hp), Wd v → Pot H' p l → Only p H H' → Q (.int v) H'
theorem sp_law_word_len {K : PySem.W.Frag} {a : Ad} {vs : List V} {H : Hp} {Q : VK} {E : XK} (h : sp_law_word K a vs H Q E) : vs.length = 1 := by
  obtain ⟨p, l, rfl, _⟩ := h
  rfl
def sp_law_words (K : PySem.W.Frag) (a : Ad) : Sp := fun vs H Q _ => ∃ (p l : Addr) (n : Int), vs = [.ref p, .int n] ∧ Pot H p l ∧ 0 ≤ n ∧ n ≤ 5000 ∧
  ∀ (D : Addr) (ws : List Int) (H' : Hp), ws.length = n.toNat → (∀ w ∈ ws, Wd w) → H D = none → H' D = some (.lst (ws.map V.int)) → But p H H' → Pot H' p l → Q (.ref D) H'
theorem sp_law_words_len {K : PySem.W.Frag} {a : Ad} {vs : List V} {H : Hp} {Q : VK} {E : XK} (h : sp_law_words K a vs H Q E) : vs.length = 2 := by
  obtain ⟨p, l, n, rfl, _⟩ := h
  rfl
def sp_law_horner (K : PySem.W.Frag) (a : Ad) : Sp := fun vs H Q _ => ∃ (d : Addr) (ns : List Int) (x : Int), vs = [.ref d, .int x] ∧ SqL K H d (ns.map V.int) ∧ ns.length ≤ 500 ∧ Q (.int (horn ns x)) H
theorem sp_law_horner_len {K : PySem.W.Frag} {a : Ad} {vs : List V} {H : Hp} {Q : VK} {E : XK} (h : sp_law_horner K a vs H Q E) : vs.length = 2 := by
  obtain ⟨d, ns, x, rfl, _⟩ := h
  rfl
def BadPts (ps : List (Int × Int)) : Prop := ps = [] ∨ ¬ Apart (ps.map (·.1))
def placesM (ps : List (Int × Int)) : List Int := (ps.map (·.1)).map (· % 65521)
def sp_distinct_places (K : PySem.W.Frag) (a : Ad) : Sp := fun vs H Q E => ∃ (p : Addr) (ps : List (Int × Int)), vs = [.ref p] ∧ PtsAt K H p ps ∧ ps.length ≤ 500 ∧
  (BadPts ps → ∀ H', Same H H' → E (.ref a.c_InvalidArgument) none H') ∧
  (¬ BadPts ps → ∀ (D : Addr) (H' : Hp), Same H H' → H D = none → H' D = some (.lst ((placesM ps).map V.int)) → Q (.ref D) H')
def sp_weight (K : PySem.W.Frag) (a : Ad) : Sp := fun vs H Q _ => ∃ (p : Int) (o : Addr) (os : List Int) (x : Int), vs = [.int p, .ref o, .int x] ∧ SqL K H o (os.map V.int) ∧ prodM os p 1 % 65521 ≠ 0 ∧
  ∀ H', Same H H' → Q (.int (wgt p os x)) H'
def sp_weights (K : PySem.W.Frag) (a : Ad) : Sp := fun vs H Q _ => ∃ (l : Addr) (ws : List Int) (x : Int), vs = [.ref l, .int x] ∧ H l = some (.lst (ws.map V.int)) ∧ Apart ws ∧ ws.length ≤ 500 ∧
  ∀ (D : Addr) (H' : Hp), Same H H' → H D = none → H' D = some (.lst ((weightsM ws x).map V.int)) → Q (.ref D) H'
def sp_value_at (K : PySem.W.Frag) (a : Ad) : Sp := fun vs H Q E => ∃ (p : Addr) (ps : List (Int × Int)) (x : Int), vs = [.ref p, .int x] ∧ PtsAt K H p ps ∧ ps.length ≤ 500 ∧
  (BadPts ps → ∀ H', Same H H' → E (.ref a.c_InvalidArgument) none H') ∧
  (¬ BadPts ps → ∀ H', Same H H' → Q (.int (valM (placesM ps) (ps.map (·.2)) x)) H')
theorem sp_distinct_places_len {K : PySem.W.Frag} {a : Ad} {vs : List V} {H : Hp} {Q : VK} {E : XK} (h : sp_distinct_places K a vs H Q E) : vs.length = 1 := by
  obtain ⟨p, ps, rfl, _⟩ := h
  rfl
theorem sp_weight_len {K : PySem.W.Frag} {a : Ad} {vs : List V} {H : Hp} {Q : VK} {E : XK} (h : sp_weight K a vs H Q E) : vs.length = 3 := by
  obtain ⟨p, o, os, x, rfl, _⟩ := h
  rfl
theorem sp_weights_len {K : PySem.W.Frag} {a : Ad} {vs : List V} {H : Hp} {Q : VK} {E : XK} (h : sp_weights K a vs H Q E) : vs.length = 2 := by
  obtain ⟨l, ws, x, rfl, _⟩ := h
  rfl
theorem sp_value_at_len {K : PySem.W.Frag} {a : Ad} {vs : List V} {H : Hp} {Q : VK} {E : XK} (h : sp_value_at K a vs H Q E) : vs.length = 2 := by
  obtain ⟨p, ps, x, rfl, _⟩ := h
  rfl
def sp_law_is_words (K : PySem.W.Frag) (a : Ad) : Sp := fun vs H Q _ => ∃ (d : Addr) (r : List Int) (n : Int), vs = [.ref d, .int n] ∧ H d = some (.lst (r.map V.int)) ∧ (∀ w ∈ r, Wd w) ∧ (r.length : Int) = n ∧ Q (.bl true) H
theorem sp_law_is_words_len {K : PySem.W.Frag} {a : Ad} {vs : List V} {H : Hp} {Q : VK} {E : XK} (h : sp_law_is_words K a vs H Q E) : vs.length = 2 := by
  obtain ⟨d, r, n, rfl, _⟩ := h
  rfl
/-! rows, lines: lists of lists -/
def refs (E : List (Addr × List Int)) : List V := E.map fun e => V.ref e.1
theorem refs_len (E : List (Addr × List Int)) : (refs E).length = E.length := by simp [refs]
theorem refs_get {E : List (Addr × List Int)} {i : Nat} {e : Addr × List Int} (h : E[i]? = some e) : (refs E)[i]? = some (V.ref e.1) := by unfold refs; rw [List.getElem?_map, h]; rfl
theorem refs_item {E : List (Addr × List Int)} {i : Nat} {y : V} (h : (refs E)[i]? = some y) : ∃ e, E[i]? = some e ∧ y = V.ref e.1 := by
  unfold refs at h
  rw [List.getElem?_map] at h
  cases q : E[i]? with
  | none => rw [q] at h; cases h
  | some e => rw [q] at h; exact ⟨e, rfl, (Option.some.inj h).symm⟩
/-- rows that are read -/
def RL (K : PySem.W.Frag) (H : Hp) (R : Addr) (E : List (Addr × List Int)) : Prop := SqL K H R (refs E) ∧ ∀ e ∈ E, SqL K H e.1 (e.2.map V.int)
theorem RL.same {K : PySem.W.Frag} {H H' : Hp} {R : Addr} {E : List (Addr × List Int)} (h : RL K H R E) (s : Same H H') : RL K H' R E := ⟨s.seq h.1, fun e m => s.seq (h.2 e m)⟩
/-- lines that are changed -/
def LA (H : Hp) (L : Addr) (E : List (Addr × List Int)) : Prop := H L = some (.lst (refs E)) ∧ ∀ e ∈ E, H e.1 = some (.lst (e.2.map V.int)) ∧ e.1 ≠ L
theorem LA.same {H H' : Hp} {L : Addr} {E : List (Addr × List Int)} (h : LA H L E) (s : Same H H') : LA H' L E := ⟨s _ _ h.1, fun e m => ⟨s _ _ (h.2 e m).1, (h.2 e m).2⟩⟩
theorem LA.put {H : Hp} {L : Addr} {E' : List (Addr × List Int)} (h : ∀ e ∈ E', H e.1 = some (.lst (e.2.map V.int)) ∧ e.1 ≠ L) : LA (upd H L (.lst (refs E'))) L E' := ⟨upd_same, fun e m => ⟨by rw [upd_ne (h e m).2]; exact (h e m).1, (h e m).2⟩⟩
theorem LA.rl {K : PySem.W.Frag} {H : Hp} {L : Addr} {E : List (Addr × List Int)} (h : LA H L E) : RL K H L E := ⟨SqL.of h.1, fun e m => SqL.of (h.2 e m).1⟩
abbrev snds (E : List (Addr × List Int)) : List (List Int) := E.map (·.2)
theorem snds_get {E : List (Addr × List Int)} {i : Nat} {e : Addr × List Int} (h : E[i]? = some e) : (snds E).getD i [] = e.2 := getD_item (by rw [List.getElem?_map, h]; rfl)
theorem snds_len (E : List (Addr × List Int)) : (snds E).length = E.length := List.length_map _
theorem ints_pot {l : Addr} {xs : List Int} {i acc seed : Int} : xs.map V.int ≠ [.ref l, .int i, .int acc, .int seed] := fun e => by
  cases xs with
  | nil => cases e
  | cons a r => rw [List.map_cons] at e; injection e with e1 _; cases e1
theorem LA.but {H H' : Hp} {p l L : Addr} {F : List (Addr × List Int)} (h : LA H L F) (P : Pot H p l) (n : L ≠ p) (b : But p H H') : LA H' L F :=
  ⟨b _ _ h.1 n, fun e m => ⟨b _ _ (h.2 e m).1 (P.noList (h.2 e m).1 fun _ _ _ => ints_pot), (h.2 e m).2⟩⟩
/-! pieces of a stripe -/
def BadLen (rows : List (List Int)) : Prop := ∃ r ∈ rows, r.length ≠ (rows.getD 0 []).length
noncomputable def pieceM (ws : List Int) (rows : List (List Int)) (x : Int) (n : Nat) : List Int := (List.range n).map fun i => valM ws (rows.map fun r => r.getD i 0) x
def upto (n : Nat) : List Int := (List.range n).map fun (i : Nat) => (i : Int)
theorem upto_len (n : Nat) : (upto n).length = n := by simp [upto]
theorem upto_get {n i : Nat} (h : i < n) : (upto n).getD i 0 = (i : Int) := by
  apply getD_item
  simp [upto, h]
theorem upto_apart {n : Nat} (h : n ≤ 60000) : Apart (upto n) := by
  unfold Apart
  unfold upto List.Nodup
  rw [List.map_map, List.pairwise_map]
  refine List.Pairwise.imp_of_mem (fun {a b} ha hb hab e => ?_) (List.pairwise_lt_range (n := n))
  have h1 := List.mem_range.mp ha
  have h2 := List.mem_range.mp hb
  have this : (a : Int) % 65521 = (b : Int) % 65521 := z_mod_eq e
  have hab' : a < b := hab
  omega
/-- the i-th column of the rows, as a new tuple -/
def YCol (F : List (Addr × List Int)) : Nat → Hp → V → Hp → Prop := fun i H v H' => ∃ T, v = .ref T ∧ H T = none ∧ H' = upd H T (.tup (((snds F).map fun r => r.getD i 0).map V.int))
theorem cols_rows {K : PySem.W.Frag} {H : Hp} {i : Nat} : ∀ (F : List (Addr × List Int)) (ys : List V), (∀ e ∈ F, SqL K H e.1 (e.2.map V.int) ∧ i < e.2.length) → Cols K H i ((F.map (·.1)).map fun l => (l, false)) ys → ys = ((snds F).map fun r => r.getD i 0).map V.int
  | [], [], _, _ => rfl
  | [], _ :: _, _, h => False.elim h
  | _ :: _, [], _, h => False.elim h
  | e :: F, y :: ys, h, ⟨h1, h2⟩ => by
    obtain ⟨a, b⟩ := h e (by simp)
    have q : (e.2.map V.int)[i]? = some y := h1 _ a
    rw [List.getElem?_map, List.getElem?_eq_getElem b] at q
    have e1 : e.2.getD i 0 = e.2[i] := getD_item (List.getElem?_eq_getElem b)
    rw [cols_rows F ys (fun e' m => h e' (by simp [m])) h2]
    simp only [snds, List.map_cons, e1]
    rw [← Option.some.inj q]
theorem walk_cols {K : PySem.W.Frag} {F : List (Addr × List Int)} {n : Nat} (hne : F ≠ []) (hrow : ∀ e ∈ F, e.2.length = n) :
    Walk (Itn K ((F.map (·.1)).map fun l => (l, false))) n (fun H => ∀ e ∈ F, SqL K H e.1 (e.2.map V.int)) (YCol F) := by
  refine ⟨fun i H hi q l hl => ?_, fun H q => ?_, fun i H v H' hi q y => ?_⟩
  · obtain ⟨l', hl', rfl⟩ := List.mem_map.1 hl
    obtain ⟨e, me, rfl⟩ := List.mem_map.1 hl'
    have := hrow e me
    exact ⟨_, _, q e me, List.getElem?_eq_getElem (by rw [List.length_map]; omega)⟩
  · cases F with
    | nil => exact absurd rfl hne
    | cons e F => exact ⟨(e.1, false), _, _, rfl, q e (by simp), by rw [List.length_map, hrow e (by simp)]; exact Nat.le_refl _⟩
  · obtain ⟨T, ys, h1, h2, h3, h4⟩ := y
    have := cols_rows F ys (fun e m => ⟨q e m, by have := hrow e m; omega⟩) h4
    exact ⟨T, h1, h2, by rw [h3, this]⟩
theorem walk_zipM {K : PySem.W.Frag} {a b : Addr} {xs ys : List V} {n : Nat} (h1 : xs.length = n) (h2 : ys.length = n) :
    Walk (Itn K [(a, false), (b, true)]) n (fun H => SqL K H a xs ∧ SqT K H b ys) (YPair (fun i => xs[i]?) (fun i => ys[i]?)) := by
  refine ⟨fun i H hi q l hl => ?_, fun H q => ⟨(a, false), _, xs, rfl, q.1, by omega⟩, fun i H v H' hi q y => ?_⟩
  · rcases List.mem_cons.1 hl with rfl | hl
    · exact ⟨xs, _, q.1, List.getElem?_eq_getElem (by omega)⟩
    · rw [List.mem_singleton.1 hl]
      exact ⟨ys, _, q.2, List.getElem?_eq_getElem (by omega)⟩
  · obtain ⟨T, zs, e1, e2, e3, e4⟩ := y
    match zs, e4 with
    | [x, y], ⟨c1, c2, _⟩ => exact ⟨T, x, y, e1, e2, e3, c1 xs q.1, c2 ys q.2⟩
def sp_check_lengths (K : PySem.W.Frag) (a : Ad) : Sp := fun vs H Q E => ∃ (R : Addr) (F : List (Addr × List Int)), vs = [.ref R] ∧ RL K H R F ∧
  (BadLen (snds F) → ∀ H', Same H H' → E (.ref a.c_InvalidArgument) none H') ∧ (¬ BadLen (snds F) → ∀ H', Same H H' → Q .non H')
theorem sp_check_lengths_len {K : PySem.W.Frag} {a : Ad} {vs : List V} {H : Hp} {Q : VK} {E : XK} (h : sp_check_lengths K a vs H Q E) : vs.length = 1 := by
  obtain ⟨R, F, rfl, _⟩ := h
  rfl
def sp_piece_at (K : PySem.W.Frag) (a : Ad) : Sp := fun vs H Q _ => ∃ (R P : Addr) (F : List (Addr × List Int)) (ws : List Int) (x : Int) (n : Nat), vs = [.ref R, .ref P, .int x] ∧ RL K H R F ∧ H P = some (.lst (ws.map V.int)) ∧ Apart ws ∧ ws.length = F.length ∧ F ≠ [] ∧ F.length ≤ 8 ∧ n ≤ 500 ∧
  (∀ e ∈ F, e.2.length = n) ∧ ∀ (D : Addr) (H' : Hp), Same H H' → H D = none → H' D = some (.lst ((pieceM ws (snds F) x n).map V.int)) → Q (.ref D) H'
theorem sp_piece_at_len {K : PySem.W.Frag} {a : Ad} {vs : List V} {H : Hp} {Q : VK} {E : XK} (h : sp_piece_at K a vs H Q E) : vs.length = 3 := by
  obtain ⟨R, P, F, ws, x, n, rfl, _⟩ := h
  rfl
theorem but_none {p : Addr} {H H' : Hp} {b : Addr} (s : But p H H') (nb : b ≠ p) (n : H' b = none) : H b = none := by
  cases q : H b with
  | none => rfl
  | some o => rw [s _ _ q nb] at n; cases n
def sp_law_stripe (K : PySem.W.Frag) (a : Ad) : Sp := fun vs H Q _ => ∃ (p l : Addr) (d c n : Nat), vs = [.ref p, .int (d : Int), .int (c : Int), .int (n : Int)] ∧ Pot H p l ∧ d ≤ 20 ∧ c ≤ 20 ∧ n ≤ 20 ∧
  ∀ (D : Addr) (F : List (Addr × List Int)) (ps : List (List Int)) (H' : Hp), But p H H' → Pot H' p l → H D = none → LA H' D F → F.length = c → ps.length = n → (∀ ws ∈ ps, ws.length = d ∧ ∀ w ∈ ws, Wd w) → (∀ k < c, (snds F).getD k [] = ps.map fun ws => horn ws (k : Int)) → Q (.ref D) H'
theorem sp_law_stripe_len {K : PySem.W.Frag} {a : Ad} {vs : List V} {H : Hp} {Q : VK} {E : XK} (h : sp_law_stripe K a vs H Q E) : vs.length = 4 := by
  obtain ⟨p, l, d, c, n, rfl, _⟩ := h
  rfl
def BadEnc (rows : List (List Int)) (par : Int) : Prop := rows = [] ∨ par < 0 ∨ (rows.length : Int) + par > 8 ∨ BadLen rows
def sp_encode (K : PySem.W.Frag) (a : Ad) : Sp := fun vs H Q E => ∃ (R : Addr) (F : List (Addr × List Int)) (par : Int), vs = [.ref R, .int par] ∧ RL K H R F ∧ F.length ≤ 20 ∧ ((snds F).getD 0 []).length ≤ 500 ∧ -500 ≤ par ∧ par ≤ 500 ∧
  (BadEnc (snds F) par → ∀ H', Same H H' → E (.ref a.c_InvalidArgument) none H') ∧
  (¬ BadEnc (snds F) par → ∀ (D : Addr) (G : List (Addr × List Int)) (H' : Hp), Same H H' → H D = none → LA H' D G → snds G = (List.range par.toNat).map (fun k => pieceM (upto F.length) (snds F) ((F.length + k : Nat) : Int) ((snds F).getD 0 []).length) → Q (.ref D) H')
theorem sp_encode_len {K : PySem.W.Frag} {a : Ad} {vs : List V} {H : Hp} {Q : VK} {E : XK} (h : sp_encode K a vs H Q E) : vs.length = 2 := by
  obtain ⟨R, F, par, rfl, _⟩ := h
  rfl
/-! sealed sectors -/
def wts (ws : List Int) : List Int := (List.range ws.length).map fun (i : Nat) => (1 + (i : Int)) * ws.getD i 0
def ck1 (ws : List Int) : Int := ws.sum % 65521
def ck2 (ws : List Int) : Int := (wts ws).sum % 65521
def hdM (k d r e s : Int) (ws : List Int) : List Int := [k, d, r, e, s / 65521, s % 65521] ++ ws
def sealM (k d r e s : Int) (ws : List Int) : List Int := hdM k d r e s ws ++ [ck1 (hdM k d r e s ws), ck2 (hdM k d r e s ws)]
def Plc (k d r : Int) : Prop := (1 ≤ k ∧ k ≤ 3) ∧ (0 ≤ d ∧ d < 8) ∧ (0 ≤ r ∧ r < 4000)
def Stp (e s : Int) : Prop := (0 ≤ e ∧ e < 65521) ∧ (0 ≤ s ∧ s < 4293001441)
def BadSeal (k d r e s : Int) (ws : List Int) : Prop := ¬ Plc k d r ∨ ¬ Stp e s ∨ 1000 < ws.length
theorem range_getD (ws : List Int) : (List.range ws.length).map (fun (i : Nat) => ws.getD i 0) = ws := by
  refine List.ext_getElem (by simp) fun i h1 h2 => ?_
  simp [h2]
/-- the sums as they grow -/
def sm1 (ws : List Int) (i : Nat) : Int := ((List.range i).map fun (j : Nat) => ws.getD j 0).sum
def sm2 (ws : List Int) (i : Nat) : Int := ((List.range i).map fun (j : Nat) => (1 + (j : Int)) * ws.getD j 0).sum
theorem sum_snoc (xs : List Int) (x : Int) : (xs ++ [x]).sum = xs.sum + x := by rw [List.sum_append]; simp
theorem sm1_succ (ws : List Int) (i : Nat) : sm1 ws (i + 1) = sm1 ws i + ws.getD i 0 := by
  unfold sm1
  rw [List.range_succ, List.map_append]
  exact sum_snoc _ _
theorem sm2_succ (ws : List Int) (i : Nat) : sm2 ws (i + 1) = sm2 ws i + (1 + (i : Int)) * ws.getD i 0 := by
  unfold sm2
  rw [List.range_succ, List.map_append]
  exact sum_snoc _ _
theorem ck1_sm (ws : List Int) : ck1 ws = sm1 ws ws.length % 65521 := by unfold ck1 sm1; rw [range_getD]
theorem ck2_sm (ws : List Int) : ck2 ws = sm2 ws ws.length % 65521 := rfl
theorem hdM_length (k d r e s : Int) (ws : List Int) : (hdM k d r e s ws).length = ws.length + 6 := by simp [hdM]
theorem sealM_length (k d r e s : Int) (ws : List Int) : (sealM k d r e s ws).length = ws.length + 8 := by simp [sealM, hdM]
theorem ck1_word (ws : List Int) : Wd (ck1 ws) := ⟨Int.emod_nonneg _ (by decide), Int.emod_lt_of_pos _ (by decide)⟩
theorem ck2_word (ws : List Int) : Wd (ck2 ws) := ⟨Int.emod_nonneg _ (by decide), Int.emod_lt_of_pos _ (by decide)⟩
theorem hdM_words {k d r e s : Int} {ws : List Int} (hp : Plc k d r) (hs : Stp e s) (hw : ∀ w ∈ ws, Wd w) : ∀ w ∈ hdM k d r e s ws, Wd w := fun w m => by
  obtain ⟨⟨k0, k1⟩, ⟨d0, d1⟩, ⟨r0, r1⟩⟩ := hp
  obtain ⟨⟨e0, e1⟩, ⟨s0, s1⟩⟩ := hs
  rcases List.mem_append.mp m with m | m
  · simp only [List.mem_cons, List.not_mem_nil, or_false] at m
    unfold Wd
    rcases m with rfl | rfl | rfl | rfl | rfl | rfl <;> omega
  · exact hw w m
theorem sealM_words {k d r e s : Int} {ws : List Int} (hp : Plc k d r) (hs : Stp e s) (hw : ∀ w ∈ ws, Wd w) : ∀ w ∈ sealM k d r e s ws, Wd w := fun w m => by
  rcases List.mem_append.mp m with m | m
  · exact hdM_words hp hs hw w m
  · simp only [List.mem_cons, List.not_mem_nil, or_false] at m
    rcases m with rfl | rfl
    · exact ck1_word _
    · exact ck2_word _
def sp_check_words (K : PySem.W.Frag) (a : Ad) : Sp := fun vs H Q _ => ∃ (l : Addr) (ws : List Int), vs = [.ref l] ∧ SqL K H l (ws.map V.int) ∧ ws.length ≤ 5000 ∧
  ∀ (D : Addr) (H' : Hp), Same H H' → H D = none → H' D = some (.tup [.int (ck1 ws), .int (ck2 ws)]) → Q (.ref D) H'
theorem sp_check_words_len {K : PySem.W.Frag} {a : Ad} {vs : List V} {H : Hp} {Q : VK} {E : XK} (h : sp_check_words K a vs H Q E) : vs.length = 1 := by
  obtain ⟨l, ws, rfl, _⟩ := h
  rfl
def sp_is_place (K : PySem.W.Frag) (a : Ad) : Sp := fun vs H Q _ => ∃ (k d r : Int), vs = [.int k, .int d, .int r] ∧ (Plc k d r → Q (.bl true) H) ∧ (¬ Plc k d r → Q (.bl false) H)
theorem sp_is_place_len {K : PySem.W.Frag} {a : Ad} {vs : List V} {H : Hp} {Q : VK} {E : XK} (h : sp_is_place K a vs H Q E) : vs.length = 3 := by
  obtain ⟨k, d, r, rfl, _⟩ := h
  rfl
def sp_seal (K : PySem.W.Frag) (a : Ad) : Sp := fun vs H Q E => ∃ (k d r : Int) (st pl : Addr) (e s : Int) (ws : List Int), vs = [.int k, .int d, .int r, .ref st, .ref pl] ∧ SqT K H st [.int e, .int s] ∧ SqL K H pl (ws.map V.int) ∧ ws.length ≤ 4000 ∧
  (BadSeal k d r e s ws → ∀ H', Same H H' → E (.ref a.c_InvalidArgument) none H') ∧
  (¬ BadSeal k d r e s ws → ∀ (D : Addr) (H' : Hp), Same H H' → H D = none → H' D = some (.lst ((sealM k d r e s ws).map V.int)) → Q (.ref D) H')
theorem sp_seal_len {K : PySem.W.Frag} {a : Ad} {vs : List V} {H : Hp} {Q : VK} {E : XK} (h : sp_seal K a vs H Q E) : vs.length = 5 := by
  obtain ⟨k, d, r, st, pl, e, s, ws, rfl, _⟩ := h
  rfl
theorem seal_take (k d r e s : Int) (ws : List Int) : (sealM k d r e s ws).take (ws.length + 6) = hdM k d r e s ws := by
  unfold sealM
  rw [List.take_append_of_le_length (by rw [hdM_length]; exact Nat.le_refl _), List.take_of_length_le (by rw [hdM_length]; exact Nat.le_refl _)]
theorem seal_drop (k d r e s : Int) (ws : List Int) : (sealM k d r e s ws).drop (ws.length + 6) = [ck1 (hdM k d r e s ws), ck2 (hdM k d r e s ws)] := by
  unfold sealM
  rw [List.drop_append_of_le_length (by rw [hdM_length]; exact Nat.le_refl _), List.drop_of_length_le (by rw [hdM_length]; exact Nat.le_refl _)]
  rfl
/-! images, requests, blocks -/
theorem cut_mid (xs : List V) (i j : Nat) : cutV xs (some (i : Int)) (some (j : Int)) = (xs.drop i).take (j - i) := by
  unfold cutV
  rw [HT.sIx_nat, HT.sIx_nat]
  by_cases h : i ≤ xs.length
  · rw [Nat.min_eq_left h]
    by_cases g : j ≤ xs.length
    · rw [Nat.min_eq_left g]
    · rw [Nat.min_eq_right (by omega), List.take_of_length_le (by rw [List.length_drop]; omega), List.take_of_length_le (by rw [List.length_drop]; omega)]
  · rw [Nat.min_eq_right (show xs.length ≤ i by omega), List.drop_of_length_le (by omega), List.drop_of_length_le (by omega), List.take_nil, List.take_nil]
theorem erase_map {α β : Type} (f : α → β) : ∀ (l : List α) (i : Nat), (l.map f).eraseIdx i = (l.eraseIdx i).map f
  | [], _ => rfl
  | _ :: _, 0 => rfl
  | a :: l, i + 1 => by
    show f a :: (l.map f).eraseIdx i = f a :: (l.eraseIdx i).map f
    rw [erase_map f l i]
theorem erase_perm : ∀ (l : List Int) (i : Nat) (h : i < l.length), (l[i] :: l.eraseIdx i).Perm l
  | _ :: _, 0, _ => List.Perm.refl _
  | a :: l, i + 1, h => by
    have h' : i < l.length := Nat.lt_of_succ_lt_succ h
    show (l[i] :: a :: l.eraseIdx i).Perm (a :: l)
    exact (List.Perm.swap _ _ _).trans (List.Perm.cons _ (erase_perm l i (Nat.lt_of_succ_lt_succ h)))
theorem seqIx_nat {i n : Nat} (h : i < n) : seqIndex? (i : Int) n = some i := by
  rw [seqIndex_of (by omega) (by omega), Int.toNat_natCast]
theorem cut_ints (W : List Int) (i j : Nat) : cutV (W.map V.int) (some (i : Int)) (some (j : Int)) = ((W.drop i).take (j - i)).map V.int := by rw [cut_mid, List.map_take, List.map_drop]
def refI : Option Addr → V
  | none => .non
  | some a => .ref a
def presentM (ims : List (Option Addr)) (d : Nat) : Bool := (ims.getD d none).isSome
theorem imgs_get {ims : List (Option Addr)} {i : Nat} {o : Option Addr} (h : ims[i]? = some o) : (ims.map refI)[i]? = some (refI o) := by rw [List.getElem?_map, h]; rfl
structure Rq where
  t : Addr
  s : Addr
  d : Int
  r : Int
  ws : List Int
abbrev rqV (e : Rq) : V := .ref e.t
abbrev rqM (e : Rq) : Int × Int × List Int := (e.d, e.r, e.ws)
/-- a list of write requests -/
def WRq (H : Hp) (D : Addr) (L : List Rq) : Prop := H D = some (.lst (L.map rqV)) ∧ ∀ e ∈ L, (H e.t = some (.tup [.str "write", .int e.d, .int e.r, .ref e.s]) ∧ e.t ≠ D) ∧ H e.s = some (.lst (e.ws.map V.int)) ∧ e.s ≠ D
theorem WRq.same {H H' : Hp} {D : Addr} {L : List Rq} (h : WRq H D L) (s : Same H H') : WRq H' D L := ⟨s _ _ h.1, fun e m => ⟨⟨s _ _ (h.2 e m).1.1, (h.2 e m).1.2⟩, s _ _ (h.2 e m).2.1, (h.2 e m).2.2⟩⟩
theorem WRq.put {H : Hp} {D : Addr} {L : List Rq} (h : ∀ e ∈ L, (H e.t = some (.tup [.str "write", .int e.d, .int e.r, .ref e.s]) ∧ e.t ≠ D) ∧ H e.s = some (.lst (e.ws.map V.int)) ∧ e.s ≠ D) : WRq (upd H D (.lst (L.map rqV))) D L :=
  ⟨upd_same, fun e m => ⟨⟨by rw [upd_ne (h e m).1.2]; exact (h e m).1.1, (h e m).1.2⟩, by rw [upd_ne (h e m).2.2]; exact (h e m).2.1, (h e m).2.2⟩⟩
def sizeM (n d : Nat) : Nat := (n + d - 1) / d
def fillM (ws : List Int) (d : Nat) : List Int := ws ++ List.replicate (sizeM ws.length d * d - ws.length) 0
def cutsM (ws : List Int) (d : Nat) : List (List Int) := (List.range d).map fun j => ((fillM ws d).drop (j * sizeM ws.length d)).take (sizeM ws.length d)
noncomputable def stripeM (ws : List Int) (d c : Nat) : List (List Int) := cutsM ws d ++ (List.range (c - d)).map fun k => pieceM (upto d) (cutsM ws d) ((d + k : Nat) : Int) (sizeM ws.length d)
def PlOk (pls : List (Int × Int)) : Prop := ∀ q ∈ pls, (0 ≤ q.1 ∧ q.1 < 8) ∧ (0 ≤ q.2 ∧ q.2 < 4000)
def oneM (ims : List (Option Addr)) (pls : List (Int × Int)) (e s : Int) (rows : List (List Int)) (n : Nat) : List (Int × Int × List Int) :=
  if presentM ims (pls.getD n (0, 0)).1.toNat then [((pls.getD n (0, 0)).1, (pls.getD n (0, 0)).2, sealM 3 (pls.getD n (0, 0)).1 (pls.getD n (0, 0)).2 e s (rows.getD n []))] else []
def reqM (ims : List (Option Addr)) (pls : List (Int × Int)) (e s : Int) (rows : List (List Int)) (ns : List Nat) : List (Int × Int × List Int) := ns.flatMap (oneM ims pls e s rows)
theorem req_len (ims : List (Option Addr)) (pls : List (Int × Int)) (e s : Int) (rows : List (List Int)) : ∀ ns : List Nat, (reqM ims pls e s rows ns).length ≤ ns.length
  | [] => Nat.le_refl _
  | n :: ns => by
    have h := req_len ims pls e s rows ns
    have h1 : (oneM ims pls e s rows n).length ≤ 1 := by unfold oneM; split <;> simp
    have e1 : reqM ims pls e s rows (n :: ns) = oneM ims pls e s rows n ++ reqM ims pls e s rows ns := rfl
    rw [e1, List.length_append, List.length_cons]
    omega
theorem size_le (n d : Nat) (hd : 1 ≤ d) : n ≤ sizeM n d * d := by
  unfold sizeM
  have h := Nat.div_add_mod (n + d - 1) d
  have h2 := Nat.mod_lt (n + d - 1) (show 0 < d by omega)
  rw [Nat.mul_comm] at h
  omega
theorem size_lt (n d : Nat) (hd : 1 ≤ d) : sizeM n d ≤ n := by
  unfold sizeM
  rcases Nat.eq_zero_or_pos n with z | z
  · subst z
    rw [Nat.div_eq_of_lt (by omega)]
    exact Nat.le_refl _
  · exact (Nat.div_le_iff_le_mul_add_pred (by omega)).mpr (by
      have : n * 1 ≤ n * d := Nat.mul_le_mul_left _ hd
      have e : d * n = n * d := Nat.mul_comm _ _
      have : d ≤ d * n := Nat.le_mul_of_pos_right _ z
      have : n ≤ d * n := Nat.le_mul_of_pos_left _ (by omega)
      omega)
theorem fill_len (ws : List Int) (d : Nat) (hd : 1 ≤ d) : (fillM ws d).length = sizeM ws.length d * d := by
  have := size_le ws.length d hd
  simp [fillM]
  omega
theorem cuts_len (ws : List Int) (d : Nat) : (cutsM ws d).length = d := by simp [cutsM]
theorem cuts_row {ws : List Int} {d : Nat} (hd : 1 ≤ d) : ∀ r ∈ cutsM ws d, r.length = sizeM ws.length d := fun r m => by
  obtain ⟨j, hj, rfl⟩ := List.mem_map.mp m
  have hj' := List.mem_range.mp hj
  rw [List.length_take, List.length_drop, fill_len ws d hd]
  have h1 : (j + 1) * sizeM ws.length d ≤ d * sizeM ws.length d := Nat.mul_le_mul_right _ hj'
  rw [Nat.succ_mul] at h1
  have h2 : sizeM ws.length d * d = d * sizeM ws.length d := Nat.mul_comm _ _
  omega
theorem stripe_len {ws : List Int} {d c : Nat} (h : d ≤ c) : (stripeM ws d c).length = c := by simp [stripeM, cuts_len]; omega
theorem stripe_row {ws : List Int} {d c : Nat} (hd : 1 ≤ d) : ∀ r ∈ stripeM ws d c, r.length = sizeM ws.length d := fun r m => by
  rcases List.mem_append.mp m with m | m
  · exact cuts_row hd r m
  · obtain ⟨k, _, rfl⟩ := List.mem_map.mp m
    simp [pieceM]
/-- a tuple of pairs of ints stands at p -/
def PtsT (K : PySem.W.Frag) (H : Hp) (p : Addr) (ps : List (Int × Int)) : Prop := ∃ L : List (Addr × Int × Int), SqT K H p (L.map fun e => V.ref e.1) ∧ L.map (·.2) = ps ∧ ∀ e ∈ L, SqT K H e.1 [.int e.2.1, .int e.2.2]
theorem PtsT.same {K : PySem.W.Frag} {H H' : Hp} {p : Addr} {ps : List (Int × Int)} (h : PtsT K H p ps) (s : Same H H') : PtsT K H' p ps := by
  obtain ⟨L, h1, h2, h3⟩ := h
  exact ⟨L, s.tup h1, h2, fun e m => s.tup (h3 e m)⟩
theorem PtsT.old {K : PySem.W.Frag} {H : Hp} {p : Addr} {ps : List (Int × Int)} (h : PtsT K H p ps) : ∃ as : List Addr, SqT K H p (as.map V.ref) ∧ as.length = ps.length ∧
    ∀ (i : Nat) (t : Addr) (q : Int × Int), as[i]? = some t → ps[i]? = some q → SqT K H t [.int q.1, .int q.2] := by
  obtain ⟨L, h1, rfl, h3⟩ := h
  refine ⟨L.map (·.1), by rw [List.map_map]; exact h1, by simp, fun i t q a b => ?_⟩
  rw [List.getElem?_map] at a b
  cases e : L[i]? with
  | none => rw [e] at a; cases a
  | some u =>
    rw [e] at a b
    cases a
    cases b
    exact h3 u (List.mem_of_getElem? e)
def sp_is_present (K : PySem.W.Frag) (a : Ad) : Sp := fun vs H Q _ => ∃ (I : Addr) (ims : List (Option Addr)) (d : Nat), vs = [.ref I, .int (d : Int)] ∧ SqL K H I (ims.map refI) ∧ ims.length ≤ 100 ∧ Q (.bl (presentM ims d)) H
theorem sp_is_present_len {K : PySem.W.Frag} {a : Ad} {vs : List V} {H : Hp} {Q : VK} {E : XK} (h : sp_is_present K a vs H Q E) : vs.length = 2 := by
  obtain ⟨I, ims, d, rfl, _⟩ := h
  rfl
def sp_piece_size (K : PySem.W.Frag) (a : Ad) : Sp := fun vs H Q _ => ∃ (n d : Nat), vs = [.int (n : Int), .int (d : Int)] ∧ 1 ≤ d ∧ d ≤ 100 ∧ Q (.int (sizeM n d : Nat)) H
theorem sp_piece_size_len {K : PySem.W.Frag} {a : Ad} {vs : List V} {H : Hp} {Q : VK} {E : XK} (h : sp_piece_size K a vs H Q E) : vs.length = 2 := by
  obtain ⟨n, d, rfl, _⟩ := h
  rfl
def sp_data_pieces (K : PySem.W.Frag) (a : Ad) : Sp := fun vs H Q _ => ∃ (W : Addr) (ws : List Int) (d : Nat), vs = [.ref W, .int (d : Int)] ∧ SqL K H W (ws.map V.int) ∧ ws.length ≤ 400 ∧ 1 ≤ d ∧ d ≤ 8 ∧
  ∀ (D : Addr) (F : List (Addr × List Int)) (H' : Hp), Same H H' → H D = none → LA H' D F → snds F = cutsM ws d → Q (.ref D) H'
theorem sp_data_pieces_len {K : PySem.W.Frag} {a : Ad} {vs : List V} {H : Hp} {Q : VK} {E : XK} (h : sp_data_pieces K a vs H Q E) : vs.length = 2 := by
  obtain ⟨W, ws, d, rfl, _⟩ := h
  rfl
def sp_piece_requests (K : PySem.W.Frag) (a : Ad) : Sp := fun vs H Q _ => ∃ (I P st R N : Addr) (ims : List (Option Addr)) (pls : List (Int × Int)) (e s : Int) (F : List (Addr × List Int)) (ns : List Nat), vs = [.ref I, .ref P, .ref st, .ref R, .ref N] ∧
  SqL K H I (ims.map refI) ∧ ims.length ≤ 100 ∧ PtsT K H P pls ∧ PlOk pls ∧ SqT K H st [.int e, .int s] ∧ Stp e s ∧ RL K H R F ∧ (∀ r ∈ F, r.2.length ≤ 1000) ∧ F.length = pls.length ∧ SqL K H N ((ns.map fun (i : Nat) => (i : Int)).map V.int) ∧ (∀ n ∈ ns, n < pls.length) ∧ ns.length ≤ 100 ∧
  ∀ (D : Addr) (L : List Rq) (H' : Hp), Same H H' → H D = none → WRq H' D L → L.map rqM = reqM ims pls e s (snds F) ns → (∀ e ∈ L, H e.t = none ∧ H e.s = none) → Q (.ref D) H'
theorem sp_piece_requests_len {K : PySem.W.Frag} {a : Ad} {vs : List V} {H : Hp} {Q : VK} {E : XK} (h : sp_piece_requests K a vs H Q E) : vs.length = 5 := by
  obtain ⟨I, P, st, R, N, ims, pls, e, s, F, ns, rfl, _⟩ := h
  rfl
def sp_write_stripe (K : PySem.W.Frag) (a : Ad) : Sp := fun vs H Q E => ∃ (I P st W : Addr) (ims : List (Option Addr)) (pls : List (Int × Int)) (e s : Int) (ws : List Int) (d : Nat), vs = [.ref I, .ref P, .ref st, .ref W, .int (d : Int)] ∧
  SqL K H I (ims.map refI) ∧ ims.length ≤ 100 ∧ PtsT K H P pls ∧ PlOk pls ∧ SqT K H st [.int e, .int s] ∧ Stp e s ∧ SqL K H W (ws.map V.int) ∧ 1 ≤ d ∧ d ≤ pls.length ∧ pls.length ≤ 8 ∧ (ws.length ≤ 400 ∨ (1000 * d < ws.length ∧ ws.length ≤ 9000)) ∧
  (1000 * d < ws.length → ∀ H', Same H H' → E (.ref a.c_InvalidArgument) none H') ∧
  (ws.length ≤ 400 → ∀ (D : Addr) (L : List Rq) (H' : Hp), Same H H' → H D = none → WRq H' D L → L.map rqM = reqM ims pls e s (stripeM ws d pls.length) (List.range pls.length) → (∀ e ∈ L, H e.t = none ∧ H e.s = none) → Q (.ref D) H')
theorem sp_write_stripe_len {K : PySem.W.Frag} {a : Ad} {vs : List V} {H : Hp} {Q : VK} {E : XK} (h : sp_write_stripe K a vs H Q E) : vs.length = 5 := by
  obtain ⟨I, P, st, W, ims, pls, e, s, ws, d, rfl, _⟩ := h
  rfl
/-! any pieces determine the others -/
theorem piece_of {ws : List Int} {rows ps : List (List Int)} (ha : Apart ws) (hr : rows.length = ws.length) (hps : ∀ w ∈ ps, w.length ≤ ws.length) (h : ∀ j, j < ws.length → rows.getD j [] = ps.map fun w => horn w (ws.getD j 0)) (x : Int) :
    pieceM ws rows x ps.length = ps.map fun w => horn w x := by
  refine List.ext_getElem (by simp [pieceM]) fun i h1 h2 => ?_
  have hi : i < ps.length := by simpa using h2
  have e1 : (pieceM ws rows x ps.length)[i] = valM ws (rows.map fun r => r.getD i 0) x := by simp [pieceM]
  have e2 : (ps.map fun w => horn w x)[i] = horn ps[i] x := by simp
  rw [e1, e2]
  have w1 := valM_word ws (rows.map fun r => r.getD i 0) x
  have w2 := horn_word ps[i] x
  refine z_inj w1.1 w1.2 w2.1 w2.2 ?_
  rw [horn_z]
  have hp := (pev_pol ps[i]).mono (hps _ (List.getElem_mem hi))
  refine valM_pol ha hp (fun j hj => ?_) x
  have hj' : j < rows.length := by omega
  have g1 : (rows.map fun r => r.getD i 0).getD j 0 = (rows.getD j []).getD i 0 := by
    rw [List.getD_eq_getElem?_getD, List.getElem?_map, List.getElem?_eq_getElem hj', List.getD_eq_getElem?_getD (l := rows), List.getElem?_eq_getElem hj']
    rfl
  rw [g1, h j hj]
  have g2 : (ps.map fun w => horn w (ws.getD j 0)).getD i 0 = horn ps[i] (ws.getD j 0) := getD_item (by rw [List.getElem?_map, List.getElem?_eq_getElem hi]; rfl)
  rw [g2, horn_z]
theorem dp_rows {K : PySem.W.Frag} {H : Hp} {R : Addr} {F : List (Addr × List Int)} (h : RL K H R F) : Dp K H (.ref R) (.list ((snds F).map rowD)) := by
  refine .lst h.1 ?_
  have : ∀ G : List (Addr × List Int), (∀ e ∈ G, SqL K H e.1 (e.2.map V.int)) → DpAll K H (refs G) ((snds G).map rowD) := by
    intro G
    induction G with
    | nil => intro _; exact .nil
    | cons e G ih => exact fun g => .cons (dp_ints (g e (by simp))) (ih fun u m => g u (List.mem_cons_of_mem _ m))
  exact this F h.2
theorem refs_take (F : List (Addr × List Int)) (n : Nat) : (refs F).take n = refs (F.take n) := by simp [refs, List.map_take]
theorem snds_take (F : List (Addr × List Int)) (n : Nat) : (snds F).take n = snds (F.take n) := by simp [snds, List.map_take]
theorem RL.take {K : PySem.W.Frag} {H : Hp} {S : Addr} {F : List (Addr × List Int)} {n : Nat} (h : SqL K H S ((refs F).take n)) (g : ∀ e ∈ F, SqL K H e.1 (e.2.map V.int)) : RL K H S (F.take n) :=
  ⟨by rw [← refs_take]; exact h, fun e m => g e (List.mem_of_mem_take m)⟩
/-! pieces that may be lost -/
abbrev ORow := Option (Addr × List Int)
def refO : ORow → V
  | none => .non
  | some e => .ref e.1
abbrev refsO (F : List ORow) : List V := F.map refO
theorem refsO_get {F : List ORow} {i : Nat} {o : ORow} (h : F[i]? = some o) : (refsO F)[i]? = some (refO o) := by rw [List.getElem?_map, h]; rfl
theorem refsO_item {F : List ORow} {i : Nat} {y : V} (h : (refsO F)[i]? = some y) : ∃ o, F[i]? = some o ∧ y = refO o := by
  rw [List.getElem?_map] at h
  cases q : F[i]? with
  | none => rw [q] at h; cases h
  | some o => rw [q] at h; exact ⟨o, rfl, (Option.some.inj h).symm⟩
def RO (K : PySem.W.Frag) (H : Hp) (R : Addr) (F : List ORow) : Prop := SqL K H R (refsO F) ∧ ∀ e, some e ∈ F → SqL K H e.1 (e.2.map V.int)
theorem RO.same {K : PySem.W.Frag} {H H' : Hp} {R : Addr} {F : List ORow} (h : RO K H R F) (s : Same H H') : RO K H' R F := ⟨s.seq h.1, fun e m => s.seq (h.2 e m)⟩
/-- the numbers of those that are there -/
def presM (F : List ORow) : List Nat := (List.range F.length).filter fun i => (F.getD i none).isSome
def rowAt (F : List ORow) (i : Nat) : Addr × List Int := (F.getD i none).getD ((0 : Nat), [])
theorem rowAt_of {F : List ORow} {i : Nat} {e : Addr × List Int} (h : F[i]? = some (some e)) : rowAt F i = e := by
  unfold rowAt
  rw [getD_item h]
  rfl
def intsN (is : List Nat) : List Int := is.map fun (i : Nat) => (i : Int)
abbrev rowsP (F : List ORow) : List (Addr × List Int) := (presM F).map (rowAt F)
theorem presM_lt {F : List ORow} {i : Nat} (h : i ∈ presM F) : i < F.length ∧ F[i]? = some (some (rowAt F i)) := by
  obtain ⟨h1, h2⟩ := List.mem_filter.mp h
  have l := List.mem_range.mp h1
  refine ⟨l, ?_⟩
  have e : F.getD i none = F[i] := getD_item (List.getElem?_eq_getElem l)
  have q : F[i].isSome = true := by rw [← e]; exact h2
  unfold rowAt
  rw [e, List.getElem?_eq_getElem l]
  cases z : F[i] with
  | none => rw [z] at q; cases q
  | some r => rfl
theorem presM_iff {F : List ORow} {i : Nat} : i ∈ presM F ↔ ∃ e, F[i]? = some (some e) := by
  constructor
  · exact fun h => ⟨_, (presM_lt h).2⟩
  · rintro ⟨e, h⟩
    refine List.mem_filter.mpr ⟨List.mem_range.mpr (item_lt h), ?_⟩
    show (F.getD i none).isSome = true
    rw [getD_item h]
    rfl
theorem presM_len (F : List ORow) : (presM F).length ≤ F.length := Nat.le_trans (List.length_filter_le _ _) (by rw [List.length_range]; exact Nat.le_refl _)
theorem presM_pair (F : List ORow) : (presM F).Pairwise (· < ·) := List.Pairwise.filter _ List.pairwise_lt_range
theorem intsN_apart {is : List Nat} (h : is.Pairwise (· < ·)) (hl : ∀ i ∈ is, i < 60000) : Apart (intsN is) := by
  unfold Apart
  unfold intsN List.Nodup
  rw [List.map_map, List.pairwise_map]
  refine List.Pairwise.imp_of_mem (fun {a b} ha hb hab e => ?_) h
  have h1 := hl _ ha
  have h2 := hl _ hb
  have this : (a : Int) % 65521 = (b : Int) % 65521 := z_mod_eq e
  omega
theorem RO.rows {K : PySem.W.Frag} {H : Hp} {R : Addr} {F : List ORow} (h : RO K H R F) : ∀ i ∈ presM F, SqL K H (rowAt F i).1 ((rowAt F i).2.map V.int) := fun i m => h.2 _ (List.mem_of_getElem? (presM_lt m).2)
def BadP (F : List ORow) (data : Int) : Prop := 8 < F.length ∨ data < 1 ∨ (F.length : Int) < data ∨ BadLen (snds (rowsP F))
def Few (F : List ORow) (data : Int) : Prop := ((presM F).length : Int) < data
noncomputable def recM (F : List ORow) (d n : Nat) : List (List Int) := (List.range F.length).map fun i => match F.getD i none with
  | some e => e.2
  | none => pieceM (intsN ((presM F).take d)) (snds (((presM F).take d).map (rowAt F))) (i : Int) n
def sp_present_numbers (K : PySem.W.Frag) (a : Ad) : Sp := fun vs H Q E => ∃ (R : Addr) (F : List ORow) (data : Int), vs = [.ref R, .int data] ∧ RO K H R F ∧ F.length ≤ 50 ∧
  (BadP F data → ∀ H', Same H H' → E (.ref a.c_InvalidArgument) none H') ∧
  (¬ BadP F data → Few F data → ∀ H', Same H H' → E (.ref a.c_NotEnoughPieces) none H') ∧
  (¬ BadP F data → ¬ Few F data → ∀ (D : Addr) (H' : Hp), Same H H' → H D = none → H' D = some (.lst ((intsN (presM F)).map V.int)) → Q (.ref D) H')
theorem sp_present_numbers_len {K : PySem.W.Frag} {a : Ad} {vs : List V} {H : Hp} {Q : VK} {E : XK} (h : sp_present_numbers K a vs H Q E) : vs.length = 2 := by
  obtain ⟨R, F, data, rfl, _⟩ := h
  rfl
def sp_recover (K : PySem.W.Frag) (a : Ad) : Sp := fun vs H Q E => ∃ (R : Addr) (F : List ORow) (data : Int), vs = [.ref R, .int data] ∧ RO K H R F ∧ F.length ≤ 50 ∧ ((snds (rowsP F)).getD 0 []).length ≤ 500 ∧
  (BadP F data → ∀ H', Same H H' → E (.ref a.c_InvalidArgument) none H') ∧
  (¬ BadP F data → Few F data → ∀ H', Same H H' → E (.ref a.c_NotEnoughPieces) none H') ∧
  (¬ BadP F data → ¬ Few F data → ∀ (D : Addr) (G : List (Addr × List Int)) (H' : Hp), Same H H' → H D = none → LA H' D G → (G.map (·.1)).Nodup → (∀ e ∈ G, H e.1 = none) → snds G = recM F data.toNat ((snds (rowsP F)).getD 0 []).length → Q (.ref D) H')
theorem sp_recover_len {K : PySem.W.Frag} {a : Ad} {vs : List V} {H : Hp} {Q : VK} {E : XK} (h : sp_recover K a vs H Q E) : vs.length = 2 := by
  obtain ⟨R, F, data, rfl, _⟩ := h
  rfl
/-- data of such rows -/
def optD : ORow → PyData
  | none => .none
  | some e => rowD e.2
theorem opts_data : ∀ F : List ORow, PyData.canLayAll0 (F.map optD) = true ∧ PyData.depthAll (F.map optD) ≤ 1 ∧ PyData.eqvAll (F.map optD) (F.map optD) = true
  | [] => ⟨rfl, Nat.zero_le _, by simp [PyData.eqvAll]⟩
  | none :: F => by
    obtain ⟨h1, h2, h3⟩ := opts_data F
    refine ⟨by simp [PyData.canLayAll0, PyData.canLay0, optD, h1], ?_, by simp [PyData.eqvAll, PyData.eqv, optD, h3]⟩
    simp only [List.map_cons, PyData.depthAll, optD, PyData.depth]
    omega
  | some e :: F => by
    obtain ⟨h1, h2, h3⟩ := opts_data F
    have q := eqv_ints e.2 e.2
    rw [decide_eq_true rfl] at q
    refine ⟨by simp [PyData.canLayAll0, PyData.canLay0, optD, rowD, canLayAll_ints, h1], ?_, ?_⟩
    · simp only [List.map_cons, PyData.depthAll, optD, rowD, PyData.depth, depthAll_ints]
      omega
    · simp only [List.map_cons, PyData.eqvAll, optD, rowD, q, h3, Bool.and_true]
theorem opts_shaped (F : List ORow) : SeqAt.shaped (.list (F.map optD)) = true := by
  obtain ⟨h1, h2, _⟩ := opts_data F
  have e : PyData.depth (.list (F.map optD)) = PyData.depthAll (F.map optD) + 1 := by simp only [PyData.depth]
  unfold SeqAt.shaped
  rw [Bool.and_eq_true]
  exact ⟨by simp only [PyData.canLay0]; exact h1, decide_eq_true (by rw [e]; omega)⟩
theorem opts_eqv (F : List ORow) : PyData.eqv (.list (F.map optD)) (.list (F.map optD)) = true := by
  simp only [PyData.eqv]
  exact (opts_data F).2.2
theorem dp_opts {K : PySem.W.Frag} {H : Hp} {R : Addr} {F : List ORow} (h : RO K H R F) : Dp K H (.ref R) (.list (F.map optD)) := by
  refine .lst h.1 ?_
  have : ∀ G : List ORow, (∀ e, some e ∈ G → SqL K H e.1 (e.2.map V.int)) → DpAll K H (refsO G) (G.map optD) := by
    intro G
    induction G with
    | nil => intro _; exact .nil
    | cons o G ih =>
      cases o with
      | none => exact fun g => .cons .non (ih fun u m => g u (List.mem_cons_of_mem _ m))
      | some e => exact fun g => .cons (dp_ints (g e (by simp))) (ih fun u m => g u (List.mem_cons_of_mem _ m))
  exact this F h.2
theorem row_in {F : List ORow} {i : Nat} {e : Addr × List Int} (h : F[i]? = some (some e)) : e.2 ∈ snds (rowsP F) := by
  have m : i ∈ presM F := presM_iff.mpr ⟨e, h⟩
  have q := (presM_lt m).2
  rw [h] at q
  have q' := Option.some.inj (Option.some.inj q)
  exact List.mem_map.mpr ⟨e, List.mem_map.mpr ⟨i, m, q'.symm⟩, rfl⟩
theorem in_row {F : List ORow} {r : List Int} (h : r ∈ snds (rowsP F)) : ∃ (i : Nat) (e : Addr × List Int), F[i]? = some (some e) ∧ e.2 = r := by
  obtain ⟨e, me, rfl⟩ := List.mem_map.mp h
  obtain ⟨i, mi, rfl⟩ := List.mem_map.mp me
  exact ⟨i, _, (presM_lt mi).2, rfl⟩
theorem first_len {F : List ORow} {N : Nat} (h : ∀ e, some e ∈ F → e.2.length ≤ N) : ((snds (rowsP F)).getD 0 []).length ≤ N := by
  cases q : (snds (rowsP F))[0]? with
  | none => rw [List.getD_eq_getElem?_getD, q]; exact Nat.zero_le _
  | some r =>
    rw [getD_item q]
    obtain ⟨i, e, he, rfl⟩ := in_row (List.mem_of_getElem? q)
    exact h e (List.mem_of_getElem? he)
theorem first_eq {F : List ORow} {n i : Nat} {e0 : Addr × List Int} (h : ∀ e, some e ∈ F → e.2.length = n) (hi : F[i]? = some (some e0)) : ((snds (rowsP F)).getD 0 []).length = n := by
  have m := row_in hi
  have l : 0 < (snds (rowsP F)).length := List.length_pos_of_mem m
  have q : (snds (rowsP F))[0]? = some (snds (rowsP F))[0] := List.getElem?_eq_getElem l
  rw [getD_item q]
  obtain ⟨i, e, he, e2⟩ := in_row (List.mem_of_getElem? q)
  rw [← e2]
  exact h e (List.mem_of_getElem? he)
theorem good_rows {F : List ORow} {n : Nat} {data : Int} (h8 : F.length ≤ 8) (d1 : 1 ≤ data) (d2 : data ≤ F.length) (h : ∀ e, some e ∈ F → e.2.length = n) : ¬ BadP F data := by
  rintro (q | q | q | ⟨r, m, q⟩)
  · omega
  · omega
  · omega
  · obtain ⟨i, e, he, rfl⟩ := in_row m
    rw [first_eq h he] at q
    exact q (h e (List.mem_of_getElem? he))
/-- what is recovered is the stripe -/
theorem rec_all {F : List ORow} {ps : List (List Int)} {d : Nat} (h8 : F.length ≤ 60000) (hd : d ≤ (presM F).length) (hps : ∀ w ∈ ps, w.length ≤ d) (hF : ∀ (i : Nat) (e : Addr × List Int), F[i]? = some (some e) → e.2 = ps.map fun w => horn w (i : Int)) :
    recM F d ps.length = (List.range F.length).map fun (i : Nat) => ps.map fun w => horn w (i : Int) := by
  unfold recM
  refine List.map_congr_left fun i mi => ?_
  have li := List.mem_range.mp mi
  have hi : F[i]? = some F[i] := List.getElem?_eq_getElem li
  rw [getD_item hi]
  cases q : F[i] with
  | some e => exact hF i e (by rw [hi, q])
  | none =>
    have tl : ((presM F).take d).length = d := by rw [List.length_take]; omega
    have il : (intsN ((presM F).take d)).length = d := by unfold intsN; rw [List.length_map, tl]
    have pw := (presM_pair F).sublist (List.take_sublist d _)
    refine piece_of (intsN_apart pw fun j m => by have := (presM_lt (List.mem_of_mem_take m)).1; omega) (by rw [il, snds_len, List.length_map, tl]) (fun w m => by rw [il]; exact hps w m) (fun j hj => ?_) _
    rw [il] at hj
    have hj' : ((presM F).take d)[j]? = some (((presM F).take d)[j]'(by omega)) := List.getElem?_eq_getElem (by omega)
    generalize ((presM F).take d)[j]'(by omega) = m at hj'
    have e1 : (snds (((presM F).take d).map (rowAt F))).getD j [] = (rowAt F m).2 := getD_item (by rw [List.getElem?_map, List.getElem?_map, hj']; rfl)
    have e2 : (intsN ((presM F).take d)).getD j 0 = (m : Int) := getD_item (by unfold intsN; rw [List.getElem?_map, hj']; rfl)
    rw [e1, e2]
    exact hF m _ (presM_lt (List.mem_of_mem_take (List.mem_of_getElem? hj'))).2
theorem rep_none (n : Nat) : (List.replicate n [V.non]).flatten = refsO (List.replicate n none) := by
  induction n with
  | zero => rfl
  | succ n ih => rw [List.replicate_succ, List.flatten_cons, ih, List.replicate_succ]; rfl
/-! what is good -/
def Whole (ws : List Int) : Prop := (8 ≤ ws.length ∧ ws.length ≤ 1008) ∧ (∀ w ∈ ws, Wd w) ∧ ws.drop (ws.length - 2) = [ck1 (ws.take (ws.length - 2)), ck2 (ws.take (ws.length - 2))]
def Good (ws : List Int) (k d r : Int) : Prop := Plc k d r ∧ ws.take 3 = [k, d, r] ∧ Whole ws
def payM (ws : List Int) : List Int := (ws.drop 6).take (ws.length - 8)
theorem sIx_neg {n d k : Nat} (h : k ≤ n) (h0 : 0 < k) : HT.sIx n d (some (-(k : Int))) = n - k := by
  show (if (-(k : Int)) < 0 then ((-(k : Int)) + (n : Int)).toNat else min (-(k : Int)).toNat n) = n - k
  rw [if_pos (by omega)]
  omega
theorem cut_last {xs : List V} (h : 2 ≤ xs.length) : cutV xs (some (-2)) none = xs.drop (xs.length - 2) := by
  unfold cutV
  rw [HT.sIx_none, show (-2 : Int) = -((2 : Nat) : Int) from rfl, sIx_neg h (by decide), List.take_of_length_le (by rw [List.length_drop]; exact Nat.le_refl _)]
theorem cut_but {xs : List V} (h : 2 ≤ xs.length) : cutV xs none (some (-2)) = xs.take (xs.length - 2) := by
  unfold cutV
  rw [HT.sIx_none, show (-2 : Int) = -((2 : Nat) : Int) from rfl, sIx_neg h (by decide), List.drop_zero, Nat.sub_zero]
theorem cut_pay {xs : List V} (h : 8 ≤ xs.length) : cutV xs (some 6) (some (-2)) = (xs.drop 6).take (xs.length - 8) := by
  unfold cutV
  rw [show (-2 : Int) = -((2 : Nat) : Int) from rfl, sIx_neg (by omega) (by decide), show (6 : Int) = ((6 : Nat) : Int) from rfl, HT.sIx_nat, Nat.min_eq_left (by omega), show xs.length - 2 - 6 = xs.length - 8 by omega]
theorem cut_mid36 {xs : List V} (h : 6 ≤ xs.length) : cutV xs (some 3) (some 6) = (xs.drop 3).take 3 := by
  unfold cutV
  rw [show (3 : Int) = ((3 : Nat) : Int) from rfl, show (6 : Int) = ((6 : Nat) : Int) from rfl, HT.sIx_nat, HT.sIx_nat, Nat.min_eq_left (by omega), Nat.min_eq_left (by omega)]
def sp_is_whole (K : PySem.W.Frag) (a : Ad) : Sp := fun vs H Q _ => ∃ (l : Addr) (ws : List Int), vs = [.ref l] ∧ SqL K H l (ws.map V.int) ∧ ws.length ≤ 5000 ∧
  (Whole ws → ∀ H', Same H H' → Q (.bl true) H') ∧ (¬ Whole ws → ∀ H', Same H H' → Q (.bl false) H')
theorem sp_is_whole_len {K : PySem.W.Frag} {a : Ad} {vs : List V} {H : Hp} {Q : VK} {E : XK} (h : sp_is_whole K a vs H Q E) : vs.length = 1 := by
  obtain ⟨l, ws, rfl, _⟩ := h
  rfl
def sp_unseal (K : PySem.W.Frag) (a : Ad) : Sp := fun vs H Q _ => ∃ (sv : V) (k d r : Int), vs = [sv, .int k, .int d, .int r] ∧ ((sv = .non ∧ ∀ H', Same H H' → Q .non H') ∨ ∃ (l : Addr) (ws : List Int), sv = .ref l ∧ SqL K H l (ws.map V.int) ∧ ws.length ≤ 5000 ∧
  (¬ Good ws k d r → ∀ H', Same H H' → Q .non H') ∧
  (Good ws k d r → ∀ (T S D : Addr) (H' : Hp), Same H H' → H T = none → H D = none → H' T = some (.tup [.ref S, .ref D]) → H' S = some (.tup [.int (ws.getD 3 0), .int (ws.getD 4 0 * 65521 + ws.getD 5 0)]) → H' D = some (.lst ((payM ws).map V.int)) → Q (.ref T) H'))
theorem sp_unseal_len {K : PySem.W.Frag} {a : Ad} {vs : List V} {H : Hp} {Q : VK} {E : XK} (h : sp_unseal K a vs H Q E) : vs.length = 4 := by
  obtain ⟨sv, k, d, r, rfl, _⟩ := h
  rfl
theorem mid_items {ws : List Int} (h : 6 ≤ ws.length) : ((ws.map V.int).drop 3).take 3 = [.int (ws.getD 3 0), .int (ws.getD 4 0), .int (ws.getD 5 0)] :=
  match ws, h with
  | _ :: _ :: _ :: _ :: _ :: _ :: _, _ => rfl
theorem eqv_tints (xs ys : List Int) : PyData.eqv (.tuple (xs.map .int)) (.tuple (ys.map .int)) = decide (xs = ys) := by
  simp only [PyData.eqv]
  exact eqvAll_ints xs ys
theorem shaped_tints (xs : List Int) : SeqAt.shaped (.tuple (xs.map .int)) = true := by
  simp [SeqAt.shaped, PyData.canLay0, canLayAll_ints, PyData.depth, depthAll_ints]
theorem dp_tints {K : PySem.W.Frag} {H : Hp} {a : Addr} {xs : List Int} (h : SqT K H a (xs.map V.int)) : Dp K H (.ref a) (.tuple (xs.map .int)) := .tup h (dpAll_ints xs)
theorem seal_good {k d r e s : Int} {ws : List Int} (hp : Plc k d r) (hs : Stp e s) (hw : ∀ w ∈ ws, Wd w) (hl : ws.length ≤ 1000) : Good (sealM k d r e s ws) k d r := by
  have l := sealM_length k d r e s ws
  refine ⟨hp, rfl, ⟨by omega, by omega⟩, sealM_words hp hs hw, ?_⟩
  rw [show (sealM k d r e s ws).length - 2 = ws.length + 6 by omega, seal_take, seal_drop]
theorem seal_pay (k d r e s : Int) (ws : List Int) : payM (sealM k d r e s ws) = ws := by
  unfold payM
  rw [sealM_length, Nat.add_sub_cancel]
  show (ws ++ _).take ws.length = ws
  rw [List.take_append_of_le_length (Nat.le_refl _), List.take_of_length_le (Nat.le_refl _)]
/-! one or two changed words are found -/
theorem sm1_set {w : List Int} {i : Nat} {v : Int} : ∀ {n : Nat}, n ≤ w.length → z (sm1 (w.set i v) n) = z (sm1 w n) + if i < n then z v - z (w.getD i 0) else 0
  | 0, _ => by
    rw [if_neg (by omega)]
    show z 0 = z 0 + 0
    grind
  | n + 1, h => by
    rw [sm1_succ, sm1_succ, z_add, z_add, sm1_set (n := n) (by omega), getD_set (by omega)]
    by_cases e : i = n
    · subst e
      rw [if_neg (by omega), if_pos rfl, if_pos (by omega)]
      grind
    · by_cases l : i < n
      · rw [if_pos l, if_neg e, if_pos (by omega)]
        grind
      · rw [if_neg l, if_neg e, if_neg (by omega)]
        grind
theorem sm2_set {w : List Int} {i : Nat} {v : Int} : ∀ {n : Nat}, n ≤ w.length → z (sm2 (w.set i v) n) = z (sm2 w n) + if i < n then z (1 + (i : Int)) * (z v - z (w.getD i 0)) else 0
  | 0, _ => by
    rw [if_neg (by omega)]
    show z 0 = z 0 + 0
    grind
  | n + 1, h => by
    rw [sm2_succ, sm2_succ, z_add, z_add, sm2_set (n := n) (by omega), getD_set (by omega), z_mul, z_mul]
    by_cases e : i = n
    · subst e
      rw [if_neg (by omega), if_pos rfl, if_pos (by omega)]
      grind
    · by_cases l : i < n
      · rw [if_pos l, if_neg e, if_pos (by omega)]
        grind
      · rw [if_neg l, if_neg e, if_neg (by omega)]
        grind
theorem sm1_take {w : List Int} {n : Nat} : sm1 (w.take n) n = sm1 w n := by
  unfold sm1
  congr 1
  refine List.map_congr_left fun j hj => ?_
  have := List.mem_range.mp hj
  rw [List.getD_eq_getElem?_getD, List.getElem?_take, if_pos this, List.getD_eq_getElem?_getD]
theorem sm2_take {w : List Int} {n : Nat} : sm2 (w.take n) n = sm2 w n := by
  unfold sm2
  congr 1
  refine List.map_congr_left fun j hj => ?_
  have := List.mem_range.mp hj
  rw [List.getD_eq_getElem?_getD, List.getElem?_take, if_pos this, List.getD_eq_getElem?_getD]
theorem whole_lin {w : List Int} (h : Whole w) : ∃ n, w.length = n + 2 ∧ z (sm1 w n) = z (w.getD n 0) ∧ z (sm2 w n) = z (w.getD (n + 1) 0) := by
  obtain ⟨⟨h1, h2⟩, _, h4⟩ := h
  refine ⟨w.length - 2, by omega, ?_, ?_⟩
  · have e : (w.drop (w.length - 2))[0]? = some (ck1 (w.take (w.length - 2))) := by rw [h4]; rfl
    rw [List.getElem?_drop] at e
    have e' : w.getD (w.length - 2) 0 = ck1 (w.take (w.length - 2)) := getD_item e
    have l : (w.take (w.length - 2)).length = w.length - 2 := by rw [List.length_take]; omega
    rw [e', ck1_sm, z_mod, l, sm1_take]
  · have e : (w.drop (w.length - 2))[1]? = some (ck2 (w.take (w.length - 2))) := by rw [h4]; rfl
    rw [List.getElem?_drop] at e
    have e' : w.getD (w.length - 2 + 1) 0 = ck2 (w.take (w.length - 2)) := getD_item e
    have l : (w.take (w.length - 2)).length = w.length - 2 := by rw [List.length_take]; omega
    rw [e', ck2_sm, z_mod, l, sm2_take]
theorem two_changed {w : List Int} {i j : Nat} {v u : Int} (hw : Whole w) (hi : i < w.length) (hj : j < w.length) (hij : i ≠ j) (hv : z v ≠ z (w.getD i 0)) : ¬ Whole ((w.set i v).set j u) := fun hg => by
  obtain ⟨n, hn, a1, a2⟩ := whole_lin hw
  obtain ⟨n', hn', b1, b2⟩ := whole_lin hg
  have en : n' = n := by
    rw [List.length_set, List.length_set] at hn'
    omega
  subst en
  have hl := hw.1.2
  have g1 : ((w.set i v).set j u).getD n' 0 = if j = n' then u else if i = n' then v else w.getD n' 0 := by rw [getD_set (by rw [List.length_set]; omega), getD_set (by omega)]
  have g2 : ((w.set i v).set j u).getD (n' + 1) 0 = if j = n' + 1 then u else if i = n' + 1 then v else w.getD (n' + 1) 0 := by rw [getD_set (by rw [List.length_set]; omega), getD_set (by omega)]
  have g3 : (w.set i v).getD j 0 = w.getD j 0 := by rw [getD_set hj, if_neg hij]
  rw [sm1_set (by rw [List.length_set]; omega), sm1_set (by omega), g1, g3] at b1
  rw [sm2_set (by rw [List.length_set]; omega), sm2_set (by omega), g2, g3] at b2
  have hA : z v - z (w.getD i 0) ≠ 0 := fun e => hv (by grind)
  have div : ∀ x y : Zp, x * y = 0 → y ≠ 0 → x = 0 := fun x y e n => (zp_div e).resolve_right n
  have i1 : z (1 + (i : Int)) ≠ 0 := z_small (by omega) (by omega)
  have j1 : z (1 + (j : Int)) ≠ 0 := z_small (by omega) (by omega)
  rcases Nat.lt_or_ge i n' with hi1 | hi1
  · rw [if_pos hi1] at b1 b2
    rw [if_neg (show i ≠ n' by omega)] at b1
    rw [if_neg (show i ≠ n' + 1 by omega)] at b2
    rcases Nat.lt_or_ge j n' with hj1 | hj1
    · rw [if_pos hj1] at b1 b2
      rw [if_neg (show j ≠ n' by omega)] at b1
      rw [if_neg (show j ≠ n' + 1 by omega)] at b2
      have e : (z (1 + (i : Int)) - z (1 + (j : Int))) * (z v - z (w.getD i 0)) = 0 := by grind
      have e2 := div _ _ e hA
      have e3 : z (1 + (i : Int)) = z (1 + (j : Int)) := by grind
      have := z_inj (by omega) (by omega) (by omega) (by omega) e3
      omega
    · rw [if_neg (by omega)] at b1 b2
      by_cases q : j = n'
      · rw [if_pos q] at b1
        rw [if_neg (by omega)] at b2
        have e : (z v - z (w.getD i 0)) * z (1 + (i : Int)) = 0 := by grind
        exact hA (div _ _ e i1)
      · rw [if_neg q] at b1
        exact hA (by grind)
  · rw [if_neg (by omega)] at b1 b2
    by_cases p : i = n'
    · subst p
      rw [if_neg (show i ≠ i + 1 by omega)] at b2
      rcases Nat.lt_or_ge j i with hj1 | hj1
      · rw [if_pos hj1] at b1 b2
        rw [if_neg (show j ≠ i by omega), if_pos rfl] at b1
        rw [if_neg (show j ≠ i + 1 by omega)] at b2
        have e : (z u - z (w.getD j 0)) * z (1 + (j : Int)) = 0 := by grind
        have e2 := div _ _ e j1
        exact hA (by grind)
      · rw [if_neg (by omega)] at b1 b2
        rw [if_neg (show j ≠ i by omega), if_pos rfl] at b1
        exact hA (by grind)
    · have p2 : i = n' + 1 := by omega
      rw [if_neg p] at b1
      rw [if_pos p2] at b2
      have jn : j ≠ n' + 1 := by omega
      rw [if_neg jn] at b2
      rw [← p2] at a2
      rcases Nat.lt_or_ge j n' with hj1 | hj1
      · rw [if_pos hj1] at b1 b2
        rw [if_neg (show j ≠ n' by omega)] at b1
        exact hA (by grind)
      · rw [if_neg (by omega)] at b1 b2
        exact hA (by grind)
theorem one_changed {w : List Int} {i : Nat} {v : Int} (hw : Whole w) (hi : i < w.length) (hv : z v ≠ z (w.getD i 0)) : ¬ Whole (w.set i v) := by
  have hl := hw.1.1
  obtain ⟨j, hj, hij⟩ : ∃ j, j < w.length ∧ i ≠ j := by
    by_cases q : i = 0
    · exact ⟨1, by omega, by omega⟩
    · exact ⟨0, by omega, q⟩
  have := two_changed (u := w.getD j 0) hw hi hj hij hv
  have e : (w.set i v).set j (w.getD j 0) = w.set i v := by
    refine List.ext_getElem? fun k => ?_
    rw [List.getElem?_set]
    split
    · next q =>
      subst q
      rw [List.length_set, if_pos hj, List.getElem?_set, if_neg hij, List.getElem?_eq_getElem hj]
      congr 1
      exact getD_item (List.getElem?_eq_getElem hj)
    · rfl
  rwa [e] at this
/-! images whose rows are known -/
structure DkO where
  A : Addr
  rows : List (Option (Addr × List Int))
abbrev Sts := List (Option DkO)
def rowV : Option (Addr × List Int) → V
  | none => .non
  | some s => .ref s.1
def dkV : Option DkO → V
  | none => .non
  | some d => .ref d.A
def mutS (X : Addr → Prop) (I : Addr) (st : Sts) (q : Addr) : Prop := X q ∨ q = I ∨ ∃ (i : Nat) (dk : DkO), st[i]? = some (some dk) ∧ q = dk.A
structure ImM (H : Hp) (X : Addr → Prop) (I : Addr) (st : Sts) : Prop where
  hI : H I = some (.lst (st.map dkV))
  ip : ¬ X I
  hD : ∀ (i : Nat) (dk : DkO), st[i]? = some (some dk) → H dk.A = some (.lst (dk.rows.map rowV)) ∧ dk.A ≠ I ∧ ¬ X dk.A
  hU : ∀ (i j : Nat) (dk dk' : DkO), st[i]? = some (some dk) → st[j]? = some (some dk') → dk.A = dk'.A → i = j
  hR : ∀ (i : Nat) (dk : DkO) (r : Nat) (s : Addr × List Int), st[i]? = some (some dk) → dk.rows[r]? = some (some s) → H s.1 = some (.lst (s.2.map V.int)) ∧ ¬ mutS X I st s.1 ∧ s.2.length ≤ 1008
def secS (st : Sts) (d r : Nat) : Option (Addr × List Int) := match st[d]? with
  | some (some dk) => (dk.rows[r]?).join
  | _ => none
def Pres (st : Sts) (d : Nat) : Prop := ∃ dk, st[d]? = some (some dk)
theorem dk_get {st : Sts} {i : Nat} {o : Option DkO} (h : st[i]? = some o) : (st.map dkV)[i]? = some (dkV o) := by rw [List.getElem?_map, h]; rfl
theorem row_get {rs : List (Option (Addr × List Int))} {i : Nat} {o : Option (Addr × List Int)} (h : rs[i]? = some o) : (rs.map rowV)[i]? = some (rowV o) := by rw [List.getElem?_map, h]; rfl
def adrs (st : Sts) : List (Option Addr) := st.map (Option.map DkO.A)
theorem adrs_refI (st : Sts) : (adrs st).map refI = st.map dkV := by
  unfold adrs
  rw [List.map_map]
  refine List.map_congr_left fun o _ => ?_
  cases o <;> rfl
theorem adrs_pres (st : Sts) (d : Nat) : presentM (adrs st) d = true ↔ Pres st d := by
  unfold presentM Pres adrs
  rw [List.getD_eq_getElem?_getD, List.getElem?_map]
  cases e : st[d]? with
  | none => simp
  | some o => cases o with
    | none => simp
    | some dk => simp
theorem ImM.but {H H' : Hp} {X : Addr → Prop} {I : Addr} {st : Sts} (h : ImM H X I st) (b : ∀ q o, H q = some o → ¬ X q → H' q = some o) : ImM H' X I st :=
  ⟨b _ _ h.hI h.ip, h.ip, fun i dk e => ⟨b _ _ (h.hD i dk e).1 (h.hD i dk e).2.2, (h.hD i dk e).2⟩, h.hU, fun i dk r s e1 e2 => ⟨b _ _ (h.hR i dk r s e1 e2).1 fun z => (h.hR i dk r s e1 e2).2.1 (.inl z), (h.hR i dk r s e1 e2).2⟩⟩
theorem ImM.same {H H' : Hp} {X : Addr → Prop} {I : Addr} {st : Sts} (h : ImM H X I st) (s : Same H H') : ImM H' X I st := h.but fun _ _ e _ => s _ _ e
theorem ImM.draw {H H' : Hp} {X : Addr → Prop} {p I : Addr} {st : Sts} (h : ImM H X I st) (b : But p H H') (hp : X p) : ImM H' X I st := h.but fun q o e n => b q o e fun z => n (by rw [z]; exact hp)
/-- one place more that may change, which is none of these -/
theorem ImM.more {H : Hp} {X X' : Addr → Prop} {I : Addr} {st : Sts} (h : ImM H X I st) (hx : ∀ q o, H q = some o → X' q → X q) : ImM H X' I st :=
  ⟨h.hI, fun z => h.ip (hx _ _ h.hI z), fun i dk e => ⟨(h.hD i dk e).1, (h.hD i dk e).2.1, fun z => (h.hD i dk e).2.2 (hx _ _ (h.hD i dk e).1 z)⟩, h.hU, fun i dk r s e1 e2 => ⟨(h.hR i dk r s e1 e2).1, fun z => (h.hR i dk r s e1 e2).2.1 (z.imp (hx _ _ (h.hR i dk r s e1 e2).1) id), (h.hR i dk r s e1 e2).2.2⟩⟩
def stampM (ws : List Int) : Int × Int := (ws.getD 3 0, ws.getD 4 0 * 65521 + ws.getD 5 0)
/-- a disk has this label in its row -/
def HasL (st : Sts) (d : Nat) (ep gr : Int) : Prop := ∃ s, secS st d (gr % 2).toNat = some s ∧ Good s.2 1 (d : Int) (gr % 2) ∧ stampM s.2 = (ep, gr)
theorem seal_stamp (k d r e s : Int) (ws : List Int) : stampM (sealM k d r e s ws) = (e, s) := by
  show (e, s / 65521 * 65521 + s % 65521) = (e, s)
  rw [show s / 65521 * 65521 + s % 65521 = s by omega]
def secV (st : Sts) (d r : Nat) : V := rowV (secS st d r)
def sp_sector_at (K : PySem.W.Frag) (a : Ad) : Sp := fun vs H Q _ => ∃ (X : Addr → Prop) (I : Addr) (st : Sts) (d r : Nat), vs = [.ref I, .int (d : Int), .int (r : Int)] ∧ ImM H X I st ∧ st.length ≤ 100 ∧ (∀ (i : Nat) (dk : DkO), st[i]? = some (some dk) → dk.rows.length ≤ 100) ∧ Q (secV st d r) H
theorem sp_sector_at_len {K : PySem.W.Frag} {a : Ad} {vs : List V} {H : Hp} {Q : VK} {E : XK} (h : sp_sector_at K a vs H Q E) : vs.length = 3 := by
  obtain ⟨X, I, st, d, r, rfl, _⟩ := h
  rfl
theorem sec_some {st : Sts} {d r : Nat} {s : Addr × List Int} (h : secS st d r = some s) : ∃ dk, st[d]? = some (some dk) ∧ dk.rows[r]? = some (some s) := by
  unfold secS at h
  split at h
  · next dk e =>
    cases g : dk.rows[r]? with
    | none => rw [g] at h; cases h
    | some o =>
      rw [g] at h
      exact ⟨dk, e, by rw [g]; exact congrArg some h⟩
  · cases h
/-! changing rows -/
def dkS (st : Sts) (b : Addr) : Prop := ∃ (i : Nat) (dk : DkO), st[i]? = some (some dk) ∧ b = dk.A
def putS (st : Sts) (d r : Nat) (o : Option (Addr × List Int)) : Sts := match st[d]? with
  | some (some dk) => st.set d (some ⟨dk.A, dk.rows.set r o⟩)
  | _ => st
theorem putS_at {st : Sts} {d r : Nat} {o : Option (Addr × List Int)} {dk : DkO} (h : st[d]? = some (some dk)) : putS st d r o = st.set d (some ⟨dk.A, dk.rows.set r o⟩) := by
  unfold putS
  rw [h]
theorem putS_get {st : Sts} {d r : Nat} {o : Option (Addr × List Int)} (i : Nat) : (putS st d r o)[i]? = if i = d then (match st[d]? with
    | some (some dk) => some (some ⟨dk.A, dk.rows.set r o⟩)
    | x => x) else st[i]? := by
  by_cases e : i = d
  · subst e
    rw [if_pos rfl]
    unfold putS
    cases h : st[i]? with
    | none => simp [h]
    | some x => cases x with
      | none => simp [h]
      | some dk =>
        have := item_lt h
        simp [List.getElem?_set, this]
  · rw [if_neg e]
    unfold putS
    split
    · rw [List.getElem?_set, if_neg (fun z => e z.symm)]
    · rfl
theorem putS_len (st : Sts) (d r : Nat) (o : Option (Addr × List Int)) : (putS st d r o).length = st.length := by
  unfold putS
  split
  · rw [List.length_set]
  · rfl
/-- what stands in a changed state -/
theorem putS_some {st : Sts} {d r i : Nat} {o : Option (Addr × List Int)} {dk : DkO} (h : (putS st d r o)[i]? = some (some dk)) : ∃ dk0, st[i]? = some (some dk0) ∧ dk.A = dk0.A ∧ dk.rows = if i = d then dk0.rows.set r o else dk0.rows := by
  rw [putS_get] at h
  by_cases e : i = d
  · subst e
    rw [if_pos rfl] at h
    cases g : st[i]? with
    | none => rw [g] at h; cases h
    | some x => cases x with
      | none => rw [g] at h; cases h
      | some dk0 =>
        rw [g] at h
        cases h
        exact ⟨dk0, rfl, rfl, (if_pos rfl).symm⟩
  · rw [if_neg e] at h
    exact ⟨dk, h, rfl, (if_neg e).symm⟩
theorem putS_back {st : Sts} {d r i : Nat} {o : Option (Addr × List Int)} {dk : DkO} (h : st[i]? = some (some dk)) : (putS st d r o)[i]? = some (some ⟨dk.A, if i = d then dk.rows.set r o else dk.rows⟩) := by
  rw [putS_get]
  by_cases e : i = d
  · subst e
    rw [if_pos rfl, if_pos rfl, h]
  · rw [if_neg e, if_neg e, h]
theorem putS_pres {st : Sts} {d r i : Nat} {o : Option (Addr × List Int)} : Pres (putS st d r o) i ↔ Pres st i := by
  constructor
  · rintro ⟨dk, h⟩
    obtain ⟨dk0, h, _⟩ := putS_some h
    exact ⟨dk0, h⟩
  · rintro ⟨dk, h⟩
    exact ⟨_, putS_back h⟩
theorem putS_dkS {st : Sts} {d r : Nat} {o : Option (Addr × List Int)} {b : Addr} : dkS (putS st d r o) b ↔ dkS st b := by
  constructor
  · rintro ⟨i, dk, h, e⟩
    obtain ⟨dk0, h, e2, _⟩ := putS_some h
    exact ⟨i, dk0, h, e.trans e2⟩
  · rintro ⟨i, dk, h, e⟩
    exact ⟨i, _, putS_back h, e⟩
theorem putS_mut {X : Addr → Prop} {I : Addr} {st : Sts} {d r : Nat} {o : Option (Addr × List Int)} {b : Addr} : mutS X I (putS st d r o) b ↔ mutS X I st b := by
  show (X b ∨ b = I ∨ dkS (putS st d r o) b) ↔ (X b ∨ b = I ∨ dkS st b)
  rw [putS_dkS]
theorem putS_sec {st : Sts} {d r : Nat} {o : Option (Addr × List Int)} {dk : DkO} (h : st[d]? = some (some dk)) (hr : r < dk.rows.length) : secS (putS st d r o) d r = o := by
  unfold secS
  rw [putS_back h, if_pos rfl]
  show ((dk.rows.set r o)[r]?).join = o
  rw [List.getElem?_set, if_pos rfl, if_pos hr]
  rfl
theorem putS_sec_ne {st : Sts} {d r d' r' : Nat} {o : Option (Addr × List Int)} (n : d ≠ d' ∨ r ≠ r') : secS (putS st d r o) d' r' = secS st d' r' := by
  unfold secS
  rw [putS_get]
  by_cases e : d' = d
  · subst e
    rw [if_pos rfl]
    cases g : st[d']? with
    | none => rfl
    | some x => cases x with
      | none => rfl
      | some dk =>
        show ((dk.rows.set r o)[r']?).join = ((dk.rows)[r']?).join
        rw [List.getElem?_set, if_neg (n.resolve_left fun z => z rfl)]
  · rw [if_neg e]
theorem putS_rows {st : Sts} {d r : Nat} {o : Option (Addr × List Int)} {n : Nat} (h : ∀ (i : Nat) (dk : DkO), st[i]? = some (some dk) → dk.rows.length = n) : ∀ (i : Nat) (dk : DkO), (putS st d r o)[i]? = some (some dk) → dk.rows.length = n := fun i dk g => by
  obtain ⟨dk0, g, _, e⟩ := putS_some g
  rw [e]
  split
  · rw [List.length_set]; exact h i dk0 g
  · exact h i dk0 g
theorem map_set_row (rs : List (Option (Addr × List Int))) (r : Nat) (o : Option (Addr × List Int)) : (rs.map rowV).set r (rowV o) = (rs.set r o).map rowV := by rw [List.map_set]
theorem ImM.put {H : Hp} {X : Addr → Prop} {I : Addr} {st : Sts} (h : ImM H X I st) {d r : Nat} {dk : DkO} (hd : st[d]? = some (some dk)) {o : Option (Addr × List Int)} (ho : ∀ s, o = some s → H s.1 = some (.lst (s.2.map V.int)) ∧ ¬ mutS X I st s.1 ∧ s.2.length ≤ 1008) :
    ImM (upd H dk.A (.lst ((dk.rows.set r o).map rowV))) X I (putS st d r o) := by
  have hD := h.hD d dk hd
  have kp : ∀ b o', H b = some o' → b ≠ dk.A → upd H dk.A (.lst ((dk.rows.set r o).map rowV)) b = some o' := fun b o' e n => by rw [upd_ne n]; exact e
  have nm : ∀ b, ¬ mutS X I st b → b ≠ dk.A := fun b n z => n (.inr (.inr ⟨d, dk, hd, z⟩))
  refine ⟨?_, h.ip, fun i dk' g => ?_, fun i j dk1 dk2 g1 g2 e => ?_, fun i dk' r' s g1 g2 => ?_⟩
  · have e : (putS st d r o).map dkV = st.map dkV := by
      rw [putS_at hd]
      refine List.ext_getElem? fun i => ?_
      rw [List.getElem?_map, List.getElem?_map, List.getElem?_set]
      by_cases z : d = i
      · subst z
        rw [if_pos rfl, if_pos (item_lt hd), hd]
        rfl
      · rw [if_neg z]
    rw [e]
    exact kp _ _ h.hI hD.2.1.symm
  · obtain ⟨dk0, g0, e1, e2⟩ := putS_some g
    have h0 := h.hD i dk0 g0
    rw [e1]
    refine ⟨?_, h0.2⟩
    by_cases z : i = d
    · subst z
      have : dk0 = dk := Option.some.inj (Option.some.inj (g0.symm.trans hd))
      subst this
      rw [e2, if_pos rfl]
      exact upd_same
    · rw [e2, if_neg z]
      exact kp _ _ h0.1 fun y => z (h.hU i d dk0 dk g0 hd y)
  · obtain ⟨k1, b1, a1, _⟩ := putS_some g1
    obtain ⟨k2, b2, a2, _⟩ := putS_some g2
    exact h.hU i j k1 k2 b1 b2 (by rw [← a1, ← a2]; exact e)
  · obtain ⟨dk0, g0, e1, e2⟩ := putS_some g1
    rw [putS_mut]
    rw [e2] at g2
    by_cases z : i = d
    · subst z
      have : dk0 = dk := Option.some.inj (Option.some.inj (g0.symm.trans hd))
      subst this
      rw [if_pos rfl] at g2
      rcases item_set g2 with ⟨_, e3, _⟩ | ⟨_, g3⟩
      · have := ho s e3.symm
        exact ⟨kp _ _ this.1 (nm _ this.2.1), this.2⟩
      · have := h.hR i dk0 r' s g0 g3
        exact ⟨kp _ _ this.1 (nm _ this.2.1), this.2⟩
    · rw [if_neg z] at g2
      have := h.hR i dk0 r' s g0 g2
      exact ⟨kp _ _ this.1 (nm _ this.2.1), this.2⟩
def carryM (st : Sts) (rs : List Rq) : Sts := rs.foldl (fun st e => putS st e.d.toNat e.r.toNat (some (e.s, e.ws))) st
theorem carry_snoc (st : Sts) (rs : List Rq) (e : Rq) : carryM st (rs ++ [e]) = putS (carryM st rs) e.d.toNat e.r.toNat (some (e.s, e.ws)) := by unfold carryM; rw [List.foldl_append]; rfl
theorem carry_len (st : Sts) (rs : List Rq) : (carryM st rs).length = st.length := by
  refine rev_ind (P := fun rs : List Rq => (carryM st rs).length = st.length) rfl (fun rs e ih => ?_) rs
  rw [carry_snoc, putS_len, ih]
theorem carry_pres (st : Sts) (rs : List Rq) (i : Nat) : Pres (carryM st rs) i ↔ Pres st i := by
  refine rev_ind (P := fun rs : List Rq => Pres (carryM st rs) i ↔ Pres st i) Iff.rfl (fun rs e ih => ?_) rs
  rw [carry_snoc, putS_pres, ih]
theorem carry_dkS (st : Sts) (rs : List Rq) (b : Addr) : dkS (carryM st rs) b ↔ dkS st b := by
  refine rev_ind (P := fun rs : List Rq => dkS (carryM st rs) b ↔ dkS st b) Iff.rfl (fun rs e ih => ?_) rs
  rw [carry_snoc, putS_dkS, ih]
theorem carry_mut {X : Addr → Prop} {I : Addr} (st : Sts) (rs : List Rq) (b : Addr) : mutS X I (carryM st rs) b ↔ mutS X I st b := by
  show (X b ∨ b = I ∨ dkS (carryM st rs) b) ↔ (X b ∨ b = I ∨ dkS st b)
  rw [carry_dkS]
theorem carry_rows {st : Sts} {n : Nat} (h : ∀ (i : Nat) (dk : DkO), st[i]? = some (some dk) → dk.rows.length = n) (rs : List Rq) : ∀ (i : Nat) (dk : DkO), (carryM st rs)[i]? = some (some dk) → dk.rows.length = n := by
  refine rev_ind (P := fun rs : List Rq => ∀ (i : Nat) (dk : DkO), (carryM st rs)[i]? = some (some dk) → dk.rows.length = n) h (fun rs e ih => ?_) rs
  rw [carry_snoc]
  exact putS_rows ih
/-- a list of whole numbers is none of these lists -/
theorem ints_ne {H : Hp} {a b : Addr} {ws : List Int} {xs : List V} (h : H a = some (.lst (ws.map V.int))) (h2 : H b = some (.lst xs)) (hx : ∃ x ∈ xs, ∀ i, x ≠ V.int i) : a ≠ b := ne_of h h2 fun z => by
  obtain ⟨x, m, hx⟩ := hx
  rw [← HO.lst.inj z] at m
  obtain ⟨i, _, e⟩ := List.mem_map.mp m
  exact hx i e.symm
/-! a disk away, a blank disk -/
def blk4 : List (Option (Addr × List Int)) := [none, none, none, none]
theorem set_dk (st : Sts) (d : Nat) (o : Option DkO) : (st.map dkV).set d (dkV o) = (st.set d o).map dkV := by rw [List.map_set]
theorem setS_some {st : Sts} {d i : Nat} {o : Option DkO} {dk : DkO} (h : (st.set d o)[i]? = some (some dk)) : (i = d ∧ o = some dk) ∨ (i ≠ d ∧ st[i]? = some (some dk)) := by
  rcases item_set h with ⟨e, h, _⟩ | ⟨n, h⟩
  · exact .inl ⟨e.symm, h.symm⟩
  · exact .inr ⟨fun z => n z.symm, h⟩
theorem setS_sec {st : Sts} {d i r : Nat} {o : Option DkO} (n : i ≠ d) : secS (st.set d o) i r = secS st i r := by
  unfold secS
  rw [List.getElem?_set, if_neg fun z => n z.symm]
theorem setS_pres {st : Sts} {d i : Nat} {o : Option DkO} (n : i ≠ d) : Pres (st.set d o) i ↔ Pres st i := by
  unfold Pres
  rw [List.getElem?_set, if_neg fun z => n z.symm]
theorem setS_gone {st : Sts} {d : Nat} : ¬ Pres (st.set d none) d := by
  rintro ⟨dk, h⟩
  rcases setS_some h with ⟨_, h⟩ | ⟨n, _⟩
  · cases h
  · exact n rfl
theorem setS_blank {st : Sts} {d r : Nat} {B : Addr} : secS (st.set d (some ⟨B, blk4⟩)) d r = none := by
  unfold secS
  rw [List.getElem?_set, if_pos rfl]
  split
  · next dk e =>
    split at e
    · cases e
      rcases r with _ | _ | _ | _ | r <;> rfl
    · cases e
  · rfl
theorem setS_dkS {st : Sts} {d : Nat} {o : Option DkO} {b : Addr} (h : dkS (st.set d o) b) : dkS st b ∨ ∃ dk, o = some dk ∧ b = dk.A := by
  obtain ⟨i, dk, g, e⟩ := h
  rcases setS_some g with ⟨_, h⟩ | ⟨_, h⟩
  · exact .inr ⟨dk, h, e⟩
  · exact .inl ⟨i, dk, h, e⟩
theorem ImM.drop {H : Hp} {X : Addr → Prop} {I : Addr} {st : Sts} (h : ImM H X I st) (d : Nat) : ImM (upd H I (.lst ((st.set d none).map dkV))) X I (st.set d none) := by
  have kp : ∀ b o', H b = some o' → b ≠ I → upd H I (.lst ((st.set d none).map dkV)) b = some o' := fun b o' e n => by rw [upd_ne n]; exact e
  have old : ∀ {i : Nat} {dk : DkO}, (st.set d none)[i]? = some (some dk) → st[i]? = some (some dk) := fun {i dk} g => by
    rcases setS_some g with ⟨_, z⟩ | ⟨_, z⟩
    · cases z
    · exact z
  refine ⟨upd_same, h.ip, fun i dk g => ?_, fun i j dk dk' g1 g2 e => h.hU i j dk dk' (old g1) (old g2) e, fun i dk r s g1 g2 => ?_⟩
  · have := h.hD i dk (old g)
    exact ⟨kp _ _ this.1 this.2.1, this.2⟩
  · obtain ⟨a1, a2, a3⟩ := h.hR i dk r s (old g1) g2
    refine ⟨kp _ _ a1 fun z => a2 (.inr (.inl z)), fun z => a2 ?_, a3⟩
    rcases z with z | z | ⟨j, dj, g, z⟩
    · exact .inl z
    · exact .inr (.inl z)
    · exact .inr (.inr ⟨j, dj, old g, z⟩)
theorem ImM.blank {H : Hp} {X : Addr → Prop} {I B : Addr} {st : Sts} (h : ImM H X I st) (d : Nat) (nB : H B = none) (Bx : ¬ X B) : ImM (upd (upd H B (.lst (blk4.map rowV))) I (.lst ((st.set d (some ⟨B, blk4⟩)).map dkV))) X I (st.set d (some ⟨B, blk4⟩)) := by
  have IB : I ≠ B := ne_of_none h.hI nB
  have kp : ∀ b o', H b = some o' → b ≠ I → upd (upd H B (.lst (blk4.map rowV))) I (.lst ((st.set d (some ⟨B, blk4⟩)).map dkV)) b = some o' := fun b o' e n => by rw [upd_ne n, upd_ne (ne_of_none e nB)]; exact e
  refine ⟨upd_same, h.ip, fun i dk g => ?_, fun i j dk dk' g1 g2 e => ?_, fun i dk r s g1 g2 => ?_⟩
  · rcases setS_some g with ⟨_, z⟩ | ⟨_, z⟩
    · cases z
      exact ⟨by rw [upd_ne IB.symm]; exact upd_same, IB.symm, Bx⟩
    · have := h.hD i dk z
      exact ⟨kp _ _ this.1 this.2.1, this.2⟩
  · rcases setS_some g1 with ⟨e1, z1⟩ | ⟨n1, z1⟩
    · rcases setS_some g2 with ⟨e2, z2⟩ | ⟨n2, z2⟩
      · rw [e1, e2]
      · cases z1
        exact absurd e.symm (ne_of_none (h.hD j dk' z2).1 nB)
    · rcases setS_some g2 with ⟨e2, z2⟩ | ⟨n2, z2⟩
      · cases z2
        exact absurd e (ne_of_none (h.hD i dk z1).1 nB)
      · exact h.hU i j dk dk' z1 z2 e
  · rcases setS_some g1 with ⟨_, z⟩ | ⟨_, z⟩
    · cases z
      rcases r with _ | _ | _ | _ | r <;> cases g2
    · obtain ⟨a1, a2, a3⟩ := h.hR i dk r s z g2
      refine ⟨kp _ _ a1 (fun y => a2 (.inr (.inl y))), fun y => ?_, a3⟩
      rcases y with y | y | y
      · exact a2 (.inl y)
      · exact a2 (.inr (.inl y))
      · rcases setS_dkS y with y | ⟨dk', y, y2⟩
        · exact a2 (.inr (.inr y))
        · cases y
          exact ne_of_none a1 nB y2
/-- a list of whole numbers is no disk and not the images -/
theorem ImM.ints {H : Hp} {X : Addr → Prop} {I b : Addr} {st : Sts} {n : Nat} {ws : List Int} (h : ImM H X I st) (hn : ∀ (i : Nat) (dk : DkO), st[i]? = some (some dk) → dk.rows.length = n) (n1 : 1 ≤ n) (l1 : 1 ≤ st.length) (hb : H b = some (.lst (ws.map V.int))) : ¬ dkS st b ∧ b ≠ I := by
  constructor
  · rintro ⟨i, dk, g, e⟩
    have hl := hn i dk g
    refine ints_ne hb (h.hD i dk g).1 ?_ e
    cases hr : dk.rows with
    | nil => rw [hr] at hl; simp at hl; omega
    | cons o rs => exact ⟨rowV o, by simp, fun i => by cases o <;> exact fun z => nomatch z⟩
  · refine ints_ne hb h.hI ?_
    cases hs : st with
    | nil => rw [hs] at l1; simp at l1
    | cons o rs => exact ⟨dkV o, by simp, fun i => by cases o <;> exact fun z => nomatch z⟩
/-- what a carry leaves in a row -/
theorem carry_sec {st : Sts} {n rr : Nat} (hn : ∀ (i : Nat) (dk : DkO), st[i]? = some (some dk) → dk.rows.length = n) (hr : rr < n) : ∀ rs : List Rq, (∀ e ∈ rs, e.r = (rr : Int) ∧ 0 ≤ e.d ∧ Pres st e.d.toNat) →
    ∀ d : Nat, (∃ e ∈ rs, e.d = (d : Int) ∧ secS (carryM st rs) d rr = some (e.s, e.ws)) ∨ ((∀ e ∈ rs, e.d ≠ (d : Int)) ∧ secS (carryM st rs) d rr = secS st d rr) := by
  refine rev_ind (P := fun rs : List Rq => (∀ e ∈ rs, e.r = (rr : Int) ∧ 0 ≤ e.d ∧ Pres st e.d.toNat) → ∀ d : Nat, (∃ e ∈ rs, e.d = (d : Int) ∧ secS (carryM st rs) d rr = some (e.s, e.ws)) ∨ ((∀ e ∈ rs, e.d ≠ (d : Int)) ∧ secS (carryM st rs) d rr = secS st d rr)) (fun _ d => .inr ⟨fun _ m => (nomatch m), rfl⟩) fun rs e ih h d => ?_
  have he := h e (by simp)
  have ih := ih (fun x m => h x (List.mem_append_left _ m)) d
  rw [carry_snoc, he.1, Int.toNat_natCast]
  by_cases c : e.d = (d : Int)
  · left
    refine ⟨e, by simp, c, ?_⟩
    obtain ⟨dk, g⟩ := (carry_pres st rs e.d.toNat).mpr he.2.2
    have e2 : e.d.toNat = d := by omega
    rw [e2] at g ⊢
    exact putS_sec g (by rw [carry_rows hn rs d dk g]; exact hr)
  · have ne : secS (putS (carryM st rs) e.d.toNat rr (some (e.s, e.ws))) d rr = secS (carryM st rs) d rr := putS_sec_ne (.inl (by omega))
    rw [ne]
    rcases ih with ⟨x, m, e1, e2⟩ | ⟨a1, a2⟩
    · exact .inl ⟨x, List.mem_append_left _ m, e1, e2⟩
    · refine .inr ⟨fun x m => ?_, a2⟩
      rcases List.mem_append.mp m with m | m
      · exact a1 x m
      · rw [List.mem_singleton.mp m]
        exact c
theorem sorted_ext : ∀ {xs ys : List Int}, xs.Pairwise (· < ·) → ys.Pairwise (· < ·) → (∀ u, u ∈ xs ↔ u ∈ ys) → xs = ys
  | [], [], _, _, _ => rfl
  | [], y :: ys, _, _, h => absurd ((h y).mpr (by simp)) (by simp)
  | x :: xs, [], _, _, h => absurd ((h x).mp (by simp)) (by simp)
  | x :: xs, y :: ys, hx, hy, h => by
    rw [List.pairwise_cons] at hx hy
    have e : x = y := by
      rcases List.mem_cons.mp ((h x).mp (by simp)) with z | z
      · exact z
      rcases List.mem_cons.mp ((h y).mpr (by simp)) with w | w
      · exact w.symm
      have := hy.1 x z
      have := hx.1 y w
      omega
    subst e
    rw [sorted_ext hx.2 hy.2 fun u => ?_]
    constructor
    · intro m
      rcases List.mem_cons.mp ((h u).mp (List.mem_cons_of_mem _ m)) with z | z
      · have := hx.1 u m
        omega
      · exact z
    · intro m
      rcases List.mem_cons.mp ((h u).mpr (List.mem_cons_of_mem _ m)) with z | z
      · have := hy.1 u m
        omega
      · exact z
/-! reading stripes -/
/-! the mathematics of a stripe -/
theorem val_pol (ws ys : List Int) : ∃ f, Pol ws.length f ∧ ∀ x, z (valM ws ys x) = f (z x) :=
  ⟨fun x => sumR ws.length fun i => prodZ (others ws i) x * (z (invP (prodM (others ws i) (ws.getD i 0) 1)) * z (ys.getD i 0)), sumR_pol fun i hi => Pol.smul _ (by
    have := prodZ_pol (others ws i)
    rw [others_length hi] at this
    exact this), fun x => valM_z ws ys x⟩
theorem fill_words {W : List Int} {d : Nat} (h : ∀ w ∈ W, Wd w) : ∀ w ∈ fillM W d, Wd w := fun w m => by
  rcases List.mem_append.mp m with m | m
  · exact h w m
  · rw [List.eq_of_mem_replicate m]
    exact ⟨by decide, by decide⟩
theorem stripe_words {W : List Int} {d c : Nat} (h : ∀ w ∈ W, Wd w) : ∀ r ∈ stripeM W d c, ∀ w ∈ r, Wd w := fun r m w mw => by
  rcases List.mem_append.mp m with m | m
  · obtain ⟨j, _, rfl⟩ := List.mem_map.mp m
    exact fill_words h w (List.mem_of_mem_drop (List.mem_of_mem_take mw))
  · obtain ⟨k, _, rfl⟩ := List.mem_map.mp m
    obtain ⟨j, _, rfl⟩ := List.mem_map.mp mw
    exact valM_word _ _ _
theorem stripe_low {W : List Int} {d c k : Nat} (hk : k < d) : (stripeM W d c).getD k [] = (cutsM W d).getD k [] := by
  unfold stripeM
  rw [List.getD_eq_getElem?_getD, List.getD_eq_getElem?_getD, List.getElem?_append_left (by rw [cuts_len]; exact hk)]
theorem stripe_high {W : List Int} {d c k : Nat} (h1 : d ≤ k) (h2 : k < c) : (stripeM W d c).getD k [] = pieceM (upto d) (cutsM W d) (k : Int) (sizeM W.length d) := by
  unfold stripeM
  rw [List.getD_eq_getElem?_getD, List.getElem?_append_right (by rw [cuts_len]; exact h1), cuts_len, List.getElem?_map, List.getElem?_range (by omega)]
  show pieceM _ _ ((d + (k - d) : Nat) : Int) _ = _
  rw [show d + (k - d) = k by omega]
theorem piece_getD (ws : List Int) (rows : List (List Int)) (x : Int) {n j : Nat} (hj : j < n) : (pieceM ws rows x n).getD j 0 = valM ws (rows.map fun r => r.getD j 0) x := getD_item (by unfold pieceM; rw [List.getElem?_map, List.getElem?_range hj]; rfl)
theorem stripe_pol {W : List Int} {d c j : Nat} (hd : d ≤ 8) (hj : j < sizeM W.length d) : ∃ f, Pol d f ∧ ∀ k : Nat, k < c → z (((stripeM W d c).getD k []).getD j 0) = f (z (k : Int)) := by
  obtain ⟨f, hf, hv⟩ := val_pol (upto d) ((cutsM W d).map fun r => r.getD j 0)
  rw [upto_len] at hf
  refine ⟨f, hf, fun k hk => ?_⟩
  by_cases c2 : k < d
  · rw [stripe_low c2, ← hv, valM_node (upto_apart (by omega)) (j := k) (by rw [upto_len]; exact c2) (by rw [upto_get c2])]
    obtain ⟨r, hr⟩ : ∃ r, (cutsM W d)[k]? = some r := ⟨_, List.getElem?_eq_getElem (by rw [cuts_len]; exact c2)⟩
    have e0 : ((cutsM W d).map fun r => r.getD j 0).getD k 0 = r.getD j 0 := getD_item (by rw [List.getElem?_map, hr]; rfl)
    rw [getD_item hr, e0]
  · rw [stripe_high (by omega) hk, piece_getD _ _ _ hj, hv]
theorem z_word {a b : Int} (ha : Wd a) (hb : Wd b) (e : z a = z b) : a = b := by
  have := z_mod_eq e
  have h1 := ha.1
  have h2 := ha.2
  have h3 := hb.1
  have h4 := hb.2
  omega
/-- what is recovered of a stripe's pieces is the stripe -/
theorem rec_stripe {F : List ORow} {W : List Int} {d c : Nat} (hd : 1 ≤ d) (hd8 : d ≤ 8) (hc : F.length ≤ c) (hc8 : c ≤ 8) (hdc : d ≤ c) (hp : d ≤ (presM F).length) (hW : ∀ w ∈ W, Wd w) (hF : ∀ (i : Nat) (e : Addr × List Int), F[i]? = some (some e) → e.2 = (stripeM W d c).getD i []) :
    recM F d (sizeM W.length d) = (List.range F.length).map fun (i : Nat) => (stripeM W d c).getD i [] := by
  unfold recM
  refine List.map_congr_left fun i mi => ?_
  have li := List.mem_range.mp mi
  have hi : F[i]? = some F[i] := List.getElem?_eq_getElem li
  rw [getD_item hi]
  cases q : F[i] with
  | some e => exact hF i e (by rw [hi, q])
  | none =>
    have tl : ((presM F).take d).length = d := by rw [List.length_take]; omega
    have il : (intsN ((presM F).take d)).length = d := by unfold intsN; rw [List.length_map, tl]
    have pw := (presM_pair F).sublist (List.take_sublist d _)
    have ap : Apart (intsN ((presM F).take d)) := intsN_apart pw fun j m => by have := (presM_lt (List.mem_of_mem_take m)).1; omega
    obtain ⟨row, si⟩ : ∃ row, (stripeM W d c)[i]? = some row := ⟨_, List.getElem?_eq_getElem (by rw [stripe_len hdc]; omega)⟩
    have mr := List.mem_of_getElem? si
    have sl := stripe_row (c := c) hd _ mr
    rw [getD_item si]
    refine List.ext_getElem? fun j => ?_
    by_cases hj : j < sizeM W.length d
    · obtain ⟨f, hf, hv⟩ := stripe_pol (c := c) hd8 hj
      have e1 : (pieceM (intsN ((presM F).take d)) (snds (((presM F).take d).map (rowAt F))) (i : Int) (sizeM W.length d))[j]? = some (valM (intsN ((presM F).take d)) ((snds (((presM F).take d).map (rowAt F))).map fun r => r.getD j 0) (i : Int)) := by
        unfold pieceM
        rw [List.getElem?_map, List.getElem?_range hj]
        rfl
      have e2 : row[j]? = some (row.getD j 0) := by
        rw [List.getElem?_eq_getElem (by omega)]
        exact congrArg some (getD_item (List.getElem?_eq_getElem (by omega))).symm
      have e3 := getD_item (d := []) si
      rw [e1, e2]
      refine congrArg some (z_word (valM_word _ _ _) (stripe_words hW _ mr _ (List.mem_of_getElem? e2)) ?_)
      rw [valM_pol ap (f := f) (by rw [il]; exact hf) (fun m hm => ?_) (i : Int), ← hv i (by omega), e3]
      rw [il] at hm
      have hm' : ((presM F).take d)[m]? = some (((presM F).take d)[m]'(by omega)) := List.getElem?_eq_getElem (by omega)
      generalize ((presM F).take d)[m]'(by omega) = u at hm'
      have mu := List.mem_of_mem_take (List.mem_of_getElem? hm')
      have lu := presM_lt mu
      have g1 : ((snds (((presM F).take d).map (rowAt F))).map fun r => r.getD j 0).getD m 0 = (rowAt F u).2.getD j 0 := getD_item (by rw [List.getElem?_map, List.getElem?_map, List.getElem?_map, hm']; rfl)
      have g2 : (intsN ((presM F).take d)).getD m 0 = (u : Int) := getD_item (by unfold intsN; rw [List.getElem?_map, hm']; rfl)
      rw [g1, g2, hF u _ lu.2, hv u (by omega)]
    · rw [List.getElem?_eq_none (by simp [pieceM]; omega), List.getElem?_eq_none (by omega)]
theorem flat_cuts (L : List Int) (s : Nat) : ∀ d, ((List.range d).map fun j => (L.drop (j * s)).take s).flatten = L.take (d * s)
  | 0 => by simp
  | d + 1 => by
    rw [List.range_succ, List.map_append, List.flatten_append, flat_cuts L s d, List.map_singleton, List.flatten_cons, List.flatten_nil, List.append_nil, Nat.succ_mul, List.take_add]
theorem cuts_flat (W : List Int) (d : Nat) (hd : 1 ≤ d) : (cutsM W d).flatten.take W.length = W := by
  unfold cutsM
  have e : (fillM W d).take (d * sizeM W.length d) = fillM W d := List.take_of_length_le (by rw [fill_len W d hd, Nat.mul_comm]; exact Nat.le_refl _)
  rw [flat_cuts, e]
  unfold fillM
  rw [List.take_append_of_le_length (Nat.le_refl _), List.take_of_length_le (Nat.le_refl _)]
theorem range_stripe {W : List Int} {d c m : Nat} (hm : d ≤ m) : (((List.range m).map fun (i : Nat) => (stripeM W d c).getD i []).take d) = cutsM W d := by
  refine List.ext_getElem? fun i => ?_
  rw [List.getElem?_take]
  by_cases h : i < d
  · rw [if_pos h, List.getElem?_map, List.getElem?_range (by omega)]
    show some ((stripeM W d c).getD i []) = _
    rw [stripe_low h]
    exact (by
      obtain ⟨r, hr⟩ : ∃ r, (cutsM W d)[i]? = some r := ⟨_, List.getElem?_eq_getElem (by rw [cuts_len]; exact h)⟩
      rw [getD_item hr, hr])
  · rw [if_neg h, List.getElem?_eq_none (by rw [cuts_len]; omega)]
theorem presM_snoc (F : List ORow) (o : ORow) : presM (F ++ [o]) = presM F ++ if o.isSome = true then [F.length] else [] := by
  unfold presM
  rw [List.length_append, List.length_singleton, List.range_succ, List.filter_append]
  congr 1
  · refine List.filter_congr fun i m => ?_
    have := List.mem_range.mp m
    rw [List.getD_eq_getElem?_getD, List.getD_eq_getElem?_getD, List.getElem?_append_left this]
  · simp [List.filter_cons]
/-- two fors over a list of lists of whole numbers: all their items -/
theorem lc2_flat {K : PySem.W.Frag} {a D : Addr} {F : List (Addr × List Int)} {i j : Nat} {vs vs1 : List Nat} {σ : St} {H1 : Hp} {Qd : Hp → Prop} (hD : H1 D = none) (hl : H1 a = some (.lst (refs F))) (hF : ∀ e ∈ F, H1 e.1 = some (.lst (e.2.map V.int))) (hz : (snds F).flatten.length ≤ 60000)
    (hd : ∀ H, Same H1 H → H D = some (.lst ((snds F).flatten.map V.int)) → Qd H) (hg : ∀ x, wipe ((wipe σ vs).set i (some x)) vs = wipe σ vs) (h1 : ∀ x, ((wipe σ vs).set i (some x))[i]? = some (some x)) (hg1 : ∀ x y, wipe ((wipe ((wipe σ vs).set i (some x)) vs1).set j (some y)) vs1 = wipe ((wipe σ vs).set i (some x)) vs1) (h2 : ∀ x y, ((wipe ((wipe σ vs).set i (some x)) vs1).set j (some y))[j]? = some (some y)) :
    ∃ W : Nat → Nat → Hp → Prop, (∃ m, W 0 m (upd H1 D (.lst []))) ∧ ∀ n m H, W n m H →
      ((Itl K a).stop n H ∧ Qd H) ∨ ((Itl K a).go n H ∧ ∃ Nx : Hp → Prop, (∀ H', Nx H' → ∃ m', m' < m ∧ W (n + 1) m' H') ∧ ∀ x H', (Itl K a).yld n H x H' → gName i x (wipe σ vs) H' fun σ2 H2 => wipe σ2 vs = wipe σ vs ∧ tYes σ2 H2 fun b H3 =>
        if b = true then iList K (tVar i) σ2 H3 fun J1 H4 => ∃ W1 : Nat → Nat → Hp → Prop, (∃ m, W1 0 m H4) ∧ ∀ n1 k H, W1 n1 k H →
          (J1.stop n1 H ∧ Nx H) ∨ (J1.go n1 H ∧ ∃ Nx1 : Hp → Prop, (∀ H', Nx1 H' → ∃ k', k' < k ∧ W1 (n1 + 1) k' H') ∧ ∀ x H', J1.yld n1 H x H' → gName j x (wipe σ2 vs1) H' fun σ3 H5 => wipe σ3 vs1 = wipe σ2 vs1 ∧ tYes σ3 H5 fun b H6 =>
            if b = true then tVar j σ3 H6 fun y H7 => ∃ acc, H7 D = some (.lst acc) ∧ acc.length < sizeLine ∧ Nx1 (upd H7 D (.lst (acc ++ [y]))) else Nx1 H6)
        else Nx H3) := by
  refine ⟨fun n m H => m = F.length - n ∧ n ≤ F.length ∧ Same H1 H ∧ H D = some (.lst ((snds (F.take n)).flatten.map V.int)), ⟨F.length, rfl, Nat.zero_le _, Same.new hD, upd_same⟩, ?_⟩
  rintro n m H ⟨rfl, hn, s, d⟩
  by_cases hlt : n < F.length
  · obtain ⟨e, he⟩ : ∃ e, F[n]? = some e := ⟨_, List.getElem?_eq_getElem hlt⟩
    have me := List.mem_of_getElem? he
    have et : (snds (F.take (n + 1))).flatten = (snds (F.take n)).flatten ++ e.2 := by rw [take_snoc he, show snds (F.take n ++ [e]) = snds (F.take n) ++ [e.2] from List.map_append, List.flatten_append]; simp
    have sm : ∀ q, ((snds (F.take n)).flatten ++ e.2.take q).length ≤ 60000 := fun q => by
      have e1 : (snds F).flatten = (snds (F.take (n + 1))).flatten ++ (snds (F.drop (n + 1))).flatten := by rw [← List.flatten_append, show snds (F.take (n + 1)) ++ snds (F.drop (n + 1)) = snds (F.take (n + 1) ++ F.drop (n + 1)) from List.map_append.symm, List.take_append_drop]
      have l1 := congrArg List.length e1
      have l2 := congrArg List.length et
      rw [List.length_append] at l1 l2
      rw [List.length_append, List.length_take]
      omega
    refine .inr ⟨⟨refs F, _, SqL.of (s _ _ hl), refs_get he⟩, fun H' => n + 1 ≤ F.length ∧ Same H1 H' ∧ H' D = some (.lst ((snds (F.take (n + 1))).flatten.map V.int)), fun H' p => ⟨F.length - (n + 1), by omega, rfl, p⟩, ?_⟩
    rintro x H' ⟨rfl, y⟩
    obtain rfl : x = .ref e.1 := Option.some.inj ((y _ (SqL.of (s _ _ hl))).symm.trans (refs_get he))
    refine ⟨hg _, ?_⟩
    dsimp only [tYes, gName]
    rw [if_pos rfl]
    refine ⟨_, h1 _, e.1, rfl, ⟨_, SqL.of (s _ _ (hF e me))⟩, fun q k H => k = e.2.length - q ∧ q ≤ e.2.length ∧ Same H1 H ∧ H D = some (.lst (((snds (F.take n)).flatten ++ e.2.take q).map V.int)), ⟨e.2.length, rfl, Nat.zero_le _, s, by rw [List.take_zero, List.append_nil]; exact d⟩, ?_⟩
    rintro q k H ⟨rfl, hq, s', d'⟩
    by_cases hq2 : q < e.2.length
    · obtain ⟨v, hv⟩ : ∃ v, e.2[q]? = some v := ⟨_, List.getElem?_eq_getElem hq2⟩
      have gv : (e.2.map V.int)[q]? = some (.int v) := by rw [List.getElem?_map, hv]; rfl
      refine .inr ⟨⟨_, _, SqL.of (s' _ _ (hF e me)), gv⟩, fun H' => q + 1 ≤ e.2.length ∧ Same H1 H' ∧ H' D = some (.lst (((snds (F.take n)).flatten ++ e.2.take (q + 1)).map V.int)), fun H' p => ⟨e.2.length - (q + 1), by omega, rfl, p⟩, ?_⟩
      rintro x H' ⟨rfl, y⟩
      obtain rfl : x = .int v := Option.some.inj ((y _ (SqL.of (s' _ _ (hF e me)))).symm.trans gv)
      refine ⟨hg1 _ _, ?_⟩
      dsimp only [tYes, gName]
      rw [if_pos rfl]
      refine ⟨_, h2 _ _, _, d', small _ (by rw [List.length_map]; exact sm q), hq2, same_put s' hD, ?_⟩
      rw [upd_same, take_snoc hv, ← List.append_assoc, List.map_append (l₂ := [v])]
      rfl
    · refine .inl ⟨⟨_, SqL.of (s' _ _ (hF e me)), by rw [List.length_map]; omega⟩, hlt, s', ?_⟩
      have e3 : e.2.take q = e.2 := List.take_of_length_le (by omega)
      rw [d', e3, et]
  · have e : n = F.length := by omega
    subst e
    rw [List.take_length] at d
    exact .inl ⟨⟨_, SqL.of (s _ _ hl), by unfold refs; rw [List.length_map]; exact Nat.le_refl _⟩, hd H s d⟩
def GpIs (st : Sts) (d r : Nat) (e s : Int) (n : Nat) : Option (List Int) → Prop
  | none => ∀ sc, secS st d r = some sc → ¬ (Good sc.2 3 (d : Int) (r : Int) ∧ stampM sc.2 = (e, s) ∧ (payM sc.2).length = n)
  | some ws => ∃ sc, secS st d r = some sc ∧ Good sc.2 3 (d : Int) (r : Int) ∧ stampM sc.2 = (e, s) ∧ (payM sc.2).length = n ∧ payM sc.2 = ws
def sp_good_piece (K : PySem.W.Frag) (a : Ad) : Sp := fun vs H Q _ => ∃ (X : Addr → Prop) (I Pa Sa : Addr) (st : Sts) (d r : Nat) (e s : Int) (n : Nat) (o : Option (List Int)), vs = [.ref I, .ref Pa, .ref Sa, .int (n : Int)] ∧ ImM H X I st ∧ st.length ≤ 100 ∧ (∀ (i : Nat) (dk : DkO), st[i]? = some (some dk) → dk.rows.length ≤ 100) ∧
  SqT K H Pa [.int (d : Int), .int (r : Int)] ∧ SqT K H Sa [.int e, .int s] ∧ GpIs st d r e s n o ∧ (o = none → ∀ H', Same H H' → Q .non H') ∧
  (∀ ws, o = some ws → ∀ (D : Addr) (H' : Hp), Same H H' → H D = none → H' D = some (.lst (ws.map V.int)) → Q (.ref D) H')
theorem sp_good_piece_len {K : PySem.W.Frag} {a : Ad} {vs : List V} {H : Hp} {Q : VK} {E : XK} (h : sp_good_piece K a vs H Q E) : vs.length = 4 := by
  obtain ⟨X, I, Pa, Sa, st, d, r, e, s, n, o, rfl, _⟩ := h
  rfl
/-- the pieces at the places: what is good there is the stripe's -/
def PcOk (st : Sts) (pls : List (Int × Int)) (e s : Int) (W : List Int) (d : Nat) (gs : List Bool) : Prop := gs.length = pls.length ∧ ∀ (i : Nat) (q : Int × Int) (g : Bool), pls[i]? = some q → gs[i]? = some g → GpIs st q.1.toNat q.2.toNat e s (sizeM W.length d) (if g = true then some ((stripeM W d pls.length).getD i []) else none)
theorem set_cut19 (ws : List Int) (i : Nat) (v : Int) (h : i < ws.length) : cutV (ws.map V.int) none (some (i : Int)) ++ [V.int v] ++ cutV (ws.map V.int) (some ((i : Int) + 1)) none = (ws.set i v).map V.int := by
  rw [cut_take, show ((i : Int) + 1) = ((i + 1 : Nat) : Int) from rfl, cut_drop, List.set_eq_take_append_cons_drop, if_pos h, List.map_append, List.map_cons, List.map_take, List.map_drop, List.append_assoc]
  rfl
theorem good_head {ws : List Int} {k d r : Int} (h : Good ws k d r) : ws.getD 0 0 = k ∧ ws.getD 1 0 = d ∧ ws.getD 2 0 = r := by
  obtain ⟨_, h, _⟩ := h
  match ws, h with
  | [], h => cases h
  | [_], h => cases h
  | [_, _], h => cases h
  | a :: b :: c :: _, h =>
    injection h with h1 h
    injection h with h2 h
    injection h with h3 _
    exact ⟨h1, h2, h3⟩
/-! the repr of images -/
structure Rp (x : PyData) (k n : Nat) : Prop where
  c : x.canLay0 = true
  d : x.depth ≤ k
  w : x.weight ≤ n
  s : x.intsShort 13 = true
  h : x.showable = true
  nd : x.hasDict = false
theorem Rp.mono {x : PyData} {k n k' n' : Nat} (h : Rp x k n) (hk : k ≤ k') (hn : n ≤ n') : Rp x k' n' := ⟨h.c, Nat.le_trans h.d hk, Nat.le_trans h.w hn, h.s, h.h, h.nd⟩
theorem rp_none : Rp .none 0 0 := ⟨rfl, by simp [PyData.depth], by simp [PyData.weight], rfl, rfl, rfl⟩
theorem rp_int {i : Int} (h : Wd i) : Rp (.int i) 0 17 := by
  have h1 : i.natAbs < 65536 := by have := h.1; have := h.2; omega
  have h2 : i.natAbs.log2 ≤ 16 := by
    by_cases z : i.natAbs = 0
    · rw [z]; decide
    · have := (Nat.log2_lt z (k := 16)).mpr h1
      omega
  refine ⟨by simp [PyData.canLay0], by simp [PyData.depth], ?_, ?_, ?_, by simp [PyData.hasDict]⟩
  · simp only [PyData.weight]
    split <;> omega
  · simp only [PyData.intsShort]
    exact decide_eq_true (PyData.shown_int_le (by omega))
  · simp only [PyData.showable]
    exact decide_eq_true (by omega)
theorem rp_all {k n : Nat} : ∀ {xs : List PyData}, (∀ x ∈ xs, Rp x k n) → PyData.canLayAll0 xs = true ∧ PyData.depthAll xs ≤ k ∧ PyData.weightAll xs ≤ xs.length * (n + 1) ∧ PyData.intsShortAll 13 xs = true ∧ PyData.showableAll xs = true ∧ PyData.hasDictAll xs = false
  | [], _ => ⟨rfl, by simp [PyData.depthAll], by simp [PyData.weightAll], rfl, rfl, rfl⟩
  | x :: xs, h => by
    obtain ⟨a1, a2, a3, a4, a5, a6⟩ := rp_all fun y m => h y (List.mem_cons_of_mem _ m)
    have b := h x (by simp)
    refine ⟨by simp [PyData.canLayAll0, b.c, a1], ?_, ?_, by simp [PyData.intsShortAll, b.s, a4], by simp [PyData.showableAll, b.h, a5], by simp [PyData.hasDictAll, b.nd, a6]⟩
    · have e : PyData.depthAll (x :: xs) = max x.depth (PyData.depthAll xs) := by simp [PyData.depthAll]
      rw [e]
      exact Nat.max_le.mpr ⟨b.d, a2⟩
    · have e : PyData.weightAll (x :: xs) = x.weight + 1 + PyData.weightAll xs := by simp [PyData.weightAll]
      rw [e, List.length_cons, Nat.succ_mul]
      have := b.w
      omega
theorem rp_list {k n : Nat} {xs : List PyData} (h : ∀ x ∈ xs, Rp x k n) : Rp (.list xs) (k + 1) (xs.length * (n + 1)) := by
  obtain ⟨a1, a2, a3, a4, a5, a6⟩ := rp_all h
  exact ⟨by simp only [PyData.canLay0]; exact a1, by simp only [PyData.depth]; omega, by simp only [PyData.weight]; exact a3, by simp only [PyData.intsShort]; exact a4, by simp only [PyData.showable]; exact a5, by simp only [PyData.hasDict]; exact a6⟩
theorem Rp.shown {x : PyData} {k n : Nat} (h : Rp x k n) (hk : k ≤ 64) (hn : n ≤ 2 ^ 20) : x.shown.length ≤ sizeLine := by
  refine PyData.shown_fits_of_layable0 (B := 13) (by decide) (by decide) ?_ h.s
  unfold PyData.layable0
  rw [Bool.and_eq_true, Bool.and_eq_true]
  exact ⟨⟨h.c, decide_eq_true (Nat.le_trans h.d hk)⟩, decide_eq_true (Nat.le_trans h.w hn)⟩
def scD : Option (Addr × List Int) → PyData
  | none => .none
  | some s => .list (s.2.map .int)
def imD : Option DkO → PyData
  | none => .none
  | some dk => .list (dk.rows.map scD)
def stD19 (st : Sts) : PyData := .list (st.map imD)
theorem dp_st19 {K : PySem.W.Frag} {H : Hp} {X : Addr → Prop} {I : Addr} {st : Sts} (h : ImM H X I st) : Dp K H (.ref I) (stD19 st) := by
  refine .lst (SqL.of h.hI) ?_
  have hD := h.hD
  have hR := h.hR
  have rows : ∀ (rs : List (Option (Addr × List Int))), (∀ s, some s ∈ rs → H s.1 = some (.lst (s.2.map V.int))) → DpAll K H (rs.map rowV) (rs.map scD) := by
    intro rs hs
    induction rs with
    | nil => exact .nil
    | cons o rs ih =>
      refine .cons ?_ (ih fun s m => hs s (List.mem_cons_of_mem _ m))
      cases o with
      | none => exact .non
      | some s => exact dp_ints (SqL.of (hs s (by simp)))
  have all : ∀ (sts : Sts), (∀ o ∈ sts, o ∈ st) → DpAll K H (sts.map dkV) (sts.map imD) := by
    intro sts hs
    induction sts with
    | nil => exact .nil
    | cons o os ih =>
      refine .cons ?_ (ih fun x m => hs x (List.mem_cons_of_mem _ m))
      cases o with
      | none => exact .non
      | some dk =>
        obtain ⟨i, hi⟩ := List.mem_iff_getElem?.mp (hs _ (List.mem_cons_self))
        refine .lst (SqL.of (hD i dk hi).1) (rows _ fun s m => ?_)
        obtain ⟨r, hr⟩ := List.mem_iff_getElem?.mp m
        exact (hR i dk r s hi hr).1
  exact all st fun _ m => m
theorem rp_st19 {st : Sts} (ls : st.length ≤ 8) (l64 : ∀ (i : Nat) (dk : DkO), st[i]? = some (some dk) → dk.rows.length = 64) (hw : ∀ d r sc, secS st d r = some sc → (∀ w ∈ sc.2, Wd w) ∧ sc.2.length ≤ 60) : Rp (stD19 st) 3 1048576 := by
  have one : ∀ o ∈ st.map imD, Rp o 2 (64 * 1100) := fun x m => by
    obtain ⟨o, mo, rfl⟩ := List.mem_map.mp m
    obtain ⟨i, hi⟩ := List.mem_iff_getElem?.mp mo
    cases o with
    | none => exact rp_none.mono (by omega) (by omega)
    | some dk =>
      have sec : ∀ y ∈ dk.rows.map scD, Rp y 1 1080 := fun y my => by
        obtain ⟨o, mo, rfl⟩ := List.mem_map.mp my
        obtain ⟨r, hr⟩ := List.mem_iff_getElem?.mp mo
        cases o with
        | none => exact rp_none.mono (by omega) (by omega)
        | some s =>
          have z := hw i r s (by unfold secS; rw [hi]; show (dk.rows[r]?).join = _; rw [hr]; rfl)
          refine (rp_list (k := 0) (n := 17) (xs := s.2.map .int) fun x mx => ?_).mono (by omega) (by rw [List.length_map]; omega)
          obtain ⟨w, mw, rfl⟩ := List.mem_map.mp mx
          exact rp_int (z.1 w mw)
      exact (rp_list sec).mono (by omega) (by rw [List.length_map, l64 i dk hi]; omega)
  exact (rp_list one).mono (by omega) (by rw [List.length_map]; omega)
/-! the law's own -/
def blk64 : List (Option (Addr × List Int)) := List.replicate 64 none
theorem blk64_none {r : Nat} {s : Addr × List Int} : blk64[r]? ≠ some (some s) := fun h => by
  unfold blk64 at h
  rw [List.getElem?_replicate] at h
  split at h <;> cases h
theorem sec_congr {st st' : Sts} {x r : Nat} (h : st'[x]? = st[x]?) : secS st' x r = secS st x r := by unfold secS; rw [h]
theorem gp_congr {st st' : Sts} {x r n : Nat} {e s : Int} (h : st'[x]? = st[x]?) (g : GpIs st x r e s n none) : GpIs st' x r e s n none := fun sc z => g sc (by rw [← sec_congr h]; exact z)
theorem inV_ints19 (x : Int) : ∀ ws : List Int, inV (.int x) (ws.map V.int) = decide (x ∈ ws)
  | [] => rfl
  | w :: ws => by
    have ih := inV_ints19 x ws
    unfold inV at ih ⊢
    rw [List.map_cons, List.any_cons, ih]
    by_cases h : x = w
    · subst h
      simp [eqV]
    · simp [eqV, h]
      exact fun z => absurd z.symm h
theorem flat_ints19 (ws : List Int) : (ws.map V.int).all flatV = true := List.all_eq_true.mpr fun x m => by
  obtain ⟨w, _, rfl⟩ := List.mem_map.mp m
  rfl
theorem mem_intsN {j : Nat} {bs : List Nat} : ((j : Int) ∈ intsN bs) ↔ j ∈ bs := by
  unfold intsN
  rw [List.mem_map]
  constructor
  · rintro ⟨x, m, e⟩
    have : x = j := by omega
    rw [← this]
    exact m
  · exact fun m => ⟨j, m, rfl⟩
theorem cnt_out : ∀ (n : Nat) (bs : List Nat), bs.Nodup → (∀ j ∈ bs, j < n) → ((List.range n).filter fun j => decide (j ∉ bs)).length + bs.length = n
  | 0, bs, _, h => by
    cases bs with
    | nil => rfl
    | cons b bs => exact absurd (h b (by simp)) (Nat.not_lt_zero _)
  | n + 1, bs, nd, h => by
    rw [List.range_succ, List.filter_append, List.length_append]
    by_cases c : n ∈ bs
    · have l1 := List.length_erase_of_mem c
      have l2 : 0 < bs.length := List.length_pos_of_mem c
      have ih := cnt_out n (bs.erase n) (nd.erase n) fun j m => by
        have h1 := h j (List.mem_of_mem_erase m)
        have h2 : j ≠ n := fun z => by rw [z] at m; exact (List.Nodup.not_mem_erase nd) m
        omega
      have e : ((List.range n).filter fun j => decide (j ∉ bs)) = (List.range n).filter fun j => decide (j ∉ bs.erase n) := List.filter_congr fun j m => by
        have hj := List.mem_range.mp m
        have : j ∈ bs.erase n ↔ j ∈ bs := List.mem_erase_of_ne (by omega)
        simp [this]
      have ef : (List.filter (fun j => decide (j ∉ bs)) [n]).length = 0 := by simp [c]
      rw [e, ef]
      omega
    · have ih := cnt_out n bs nd fun j m => by
        have h1 := h j m
        have h2 : j ≠ n := fun z => c (by rw [← z]; exact m)
        omega
      have ef : (List.filter (fun j => decide (j ∉ bs)) [n]).length = 1 := by simp [c]
      rw [ef]
      omega
theorem gs_count (n : Nat) (bs : List Nat) (nd : bs.Nodup) (h : ∀ j ∈ bs, j < n) : (((List.range n).map fun j => decide (j ∉ bs)).filter id).length + bs.length = n := by
  rw [List.filter_map, List.length_map]
  exact cnt_out n bs nd h
theorem gp_seal {st : Sts} {d r : Nat} {e s : Int} {ws : List Int} {sc : Addr × List Int} (h : secS st d r = some sc) (hs : sc.2 = sealM 3 (d : Int) (r : Int) e s ws) (hd : d < 8) (hr : r < 4000) (hp : Stp e s) (hw : ∀ w ∈ ws, Wd w) (hl : ws.length ≤ 1000) : GpIs st d r e s ws.length (some ws) :=
  ⟨sc, h, by rw [hs]; exact seal_good ⟨by decide, by omega, by omega⟩ hp hw hl, by rw [hs, seal_stamp], by rw [hs, seal_pay], by rw [hs, seal_pay]⟩
theorem place_ne {L : List (Addr × Int × Int)} (nd : (L.map fun e => e.2.1).Nodup) {i j : Nat} {u q : Addr × Int × Int} (hu : L[j]? = some u) (hq : L[i]? = some q) (n : j ≠ i) : u.2.1 ≠ q.2.1 := fun e => by
  have lj := item_lt hu
  have li := item_lt hq
  have gj : (L.map fun e => e.2.1)[j]'(by rw [List.length_map]; exact lj) = u.2.1 := by rw [List.getElem_map, (List.getElem?_eq_some_iff.mp hu).2]
  have gi : (L.map fun e => e.2.1)[i]'(by rw [List.length_map]; exact li) = q.2.1 := by rw [List.getElem_map, (List.getElem?_eq_some_iff.mp hq).2]
  rcases Nat.lt_trichotomy i j with z | z | z
  · exact List.pairwise_iff_getElem.mp nd i j _ _ z (gi.trans (e.symm.trans gj.symm))
  · exact n z.symm
  · exact List.pairwise_iff_getElem.mp nd j i _ _ z (gj.trans (e.trans gi.symm))
/-! pieces that agree -/
def Agr (F : List ORow) (is : List Nat) (d n : Nat) : Prop := ∀ i ∈ is.drop d, pieceM (intsN (is.take d)) (snds ((is.take d).map (rowAt F))) ((i : Nat) : Int) n = (rowAt F i).2
theorem valM_fun (ws ys : List Int) : ∃ g, Pol ws.length g ∧ ∀ x : Int, z (valM ws ys x) = g (z x) := by
  refine ⟨fun x => sumR ws.length fun i => prodZ (others ws i) x * (z (invP (prodM (others ws i) (ws.getD i 0) 1)) * z (ys.getD i 0)), sumR_pol fun i hi => Pol.smul _ ?_, fun x => valM_z ws ys x⟩
  have := prodZ_pol (others ws i)
  rw [others_length hi] at this
  exact this
theorem pieceM_get {ws : List Int} {rows : List (List Int)} {x : Int} {n t : Nat} (h : t < n) : (pieceM ws rows x n).getD t 0 = valM ws (rows.map fun r => r.getD t 0) x := getD_item (by simp [pieceM, h])
/-- all that agree lie on polynomials -/
theorem agr_pol {F : List ORow} {is : List Nat} {d n t : Nat} (hp : is.Pairwise (· < ·)) (hl : ∀ i ∈ is, i < 60000) (hd : d ≤ is.length) (ht : t < n) (h : Agr F is d n) :
    ∃ g, Pol d g ∧ ∀ i ∈ is, z ((rowAt F i).2.getD t 0) = g (z ((i : Nat) : Int)) := by
  have tl : (is.take d).length = d := by rw [List.length_take]; omega
  have il : (intsN (is.take d)).length = d := by unfold intsN; rw [List.length_map, tl]
  have ap : Apart (intsN (is.take d)) := intsN_apart (hp.sublist (List.take_sublist d _)) fun j m => hl j (List.mem_of_mem_take m)
  obtain ⟨g, hg, e⟩ := valM_fun (intsN (is.take d)) ((snds ((is.take d).map (rowAt F))).map fun r => r.getD t 0)
  rw [il] at hg
  refine ⟨g, hg, fun i m => ?_⟩
  rw [← List.take_append_drop d is] at m
  rcases List.mem_append.mp m with m | m
  · obtain ⟨j, hj⟩ := List.mem_iff_getElem?.mp m
    have e1 : (intsN (is.take d)).getD j 0 = (i : Int) := getD_item (by unfold intsN; rw [List.getElem?_map, hj]; rfl)
    have e2 : ((snds ((is.take d).map (rowAt F))).map fun r => r.getD t 0).getD j 0 = (rowAt F i).2.getD t 0 := getD_item (by rw [List.getElem?_map, List.getElem?_map, List.getElem?_map, hj]; rfl)
    have q := valM_node (ys := (snds ((is.take d).map (rowAt F))).map fun r => r.getD t 0) ap (x := (i : Int)) (j := j) (by rw [il, ← tl]; exact item_lt hj) (by rw [e1])
    rw [← e, q, e2]
  · rw [← h i m, pieceM_get ht, e]
theorem agr_of {F : List ORow} {ps : List (List Int)} {is : List Nat} {d : Nat} (hp : is.Pairwise (· < ·)) (hl : ∀ i ∈ is, i < 60000) (hd : d ≤ is.length) (hps : ∀ w ∈ ps, w.length ≤ d) (hF : ∀ i ∈ is, (rowAt F i).2 = ps.map fun w => horn w ((i : Nat) : Int)) : Agr F is d ps.length := fun i mi => by
  have tl : (is.take d).length = d := by rw [List.length_take]; omega
  have il : (intsN (is.take d)).length = d := by unfold intsN; rw [List.length_map, tl]
  rw [hF i (List.mem_of_mem_drop mi)]
  refine piece_of (intsN_apart (hp.sublist (List.take_sublist d _)) fun j m => hl j (List.mem_of_mem_take m)) (by rw [il, snds_len, List.length_map, tl]) (fun w m => by rw [il]; exact hps w m) (fun j hj => ?_) _
  rw [il] at hj
  have hj' : (is.take d)[j]? = some ((is.take d)[j]'(by omega)) := List.getElem?_eq_getElem (by omega)
  generalize (is.take d)[j]'(by omega) = m at hj'
  have e1 : (snds ((is.take d).map (rowAt F))).getD j [] = (rowAt F m).2 := getD_item (by rw [List.getElem?_map, List.getElem?_map, hj']; rfl)
  have e2 : (intsN (is.take d)).getD j 0 = (m : Int) := getD_item (by unfold intsN; rw [List.getElem?_map, hj']; rfl)
  rw [e1, e2]
  exact hF m (List.mem_of_mem_take (List.mem_of_getElem? hj'))
/-- one row off the polynomials of all others -/
theorem agr_not {F : List ORow} {is : List Nat} {d n t c : Nat} {w : List Int} (hp : is.Pairwise (· < ·)) (hl : ∀ i ∈ is, i < 60000) (hd : d < is.length) (ht : t < n) (hw : w.length ≤ d) (hc : c ∈ is) (h1 : ∀ i ∈ is, i ≠ c → z ((rowAt F i).2.getD t 0) = pev w (z ((i : Nat) : Int))) (h2 : z ((rowAt F c).2.getD t 0) ≠ pev w (z ((c : Nat) : Int))) : ¬ Agr F is d n := fun h => by
  obtain ⟨g, hg, e⟩ := agr_pol hp hl (Nat.le_of_lt hd) ht h
  have nd : is.Nodup := hp.imp fun h => Nat.ne_of_lt h
  have ndz : (is.map fun (i : Nat) => z (i : Int)).Nodup := by
    have := intsN_apart hp hl
    unfold Apart intsN at this
    rw [List.map_map] at this
    exact this
  have P := Pol.sub hg ((pev_pol w).mono hw)
  have nd2 : ((is.erase c).map fun (i : Nat) => z (i : Int)).Nodup := ndz.sublist ((List.erase_sublist).map _)
  have R := Pol.roots ((is.erase c).map fun (i : Nat) => z (i : Int)) P nd2 (by rw [List.length_map, List.length_erase_of_mem hc]; omega) (fun a ha => ?_) (z (c : Int))
  · have R' : g (z (c : Int)) - pev w (z (c : Int)) = 0 := R
    refine h2 ?_
    rw [e c hc]
    grind
  · obtain ⟨i, mi, rfl⟩ := List.mem_map.mp ha
    obtain ⟨ne, mi'⟩ := (List.Nodup.mem_erase_iff nd).mp mi
    have q1 := e i mi'
    rw [h1 i mi' ne] at q1
    show g (z (i : Int)) - pev w (z (i : Int)) = 0
    grind
theorem presM_set {F : List ORow} {i : Nat} {e : Addr × List Int} (h : i ∈ presM F) : presM (F.set i (some e)) = presM F := by
  unfold presM
  rw [List.length_set]
  refine List.filter_congr fun j mj => ?_
  have lj := List.mem_range.mp mj
  by_cases q : i = j
  · subst q
    have h1 : (F.set i (some e)).getD i none = some e := getD_item (by rw [List.getElem?_set, if_pos rfl, if_pos lj])
    have h2 : F.getD i none = some (rowAt F i) := getD_item (presM_lt h).2
    rw [h1, h2]
    rfl
  · have h1 : (F.set i (some e)).getD j none = F.getD j none := by rw [List.getD_eq_getElem?_getD, List.getElem?_set, if_neg q, List.getD_eq_getElem?_getD]
    rw [h1]
def sp_agree (K : PySem.W.Frag) (a : Ad) : Sp := fun vs H Q _ => ∃ (R N : Addr) (F : List ORow) (is : List Nat) (d n : Nat), vs = [.ref R, .ref N, .int (d : Int)] ∧ RO K H R F ∧ SqL K H N ((intsN is).map V.int) ∧ is.Pairwise (· < ·) ∧ (∀ i ∈ is, i ∈ presM F) ∧ F.length ≤ 8 ∧ 1 ≤ d ∧ d ≤ is.length ∧ (∀ i ∈ is, (rowAt F i).2.length = n) ∧ n ≤ 500 ∧
  (Agr F is d n → ∀ H', Same H H' → Q (.bl true) H') ∧ (¬ Agr F is d n → ∀ H', Same H H' → Q (.bl false) H')
theorem sp_agree_len {K : PySem.W.Frag} {a : Ad} {vs : List V} {H : Hp} {Q : VK} {E : XK} (h : sp_agree K a vs H Q E) : vs.length = 3 := by
  obtain ⟨R, N, F, is, d, n, rfl, _⟩ := h
  rfl
theorem inV_ints (x : Int) : ∀ ws : List Int, inV (.int x) (ws.map V.int) = decide (x ∈ ws)
  | [] => rfl
  | w :: ws => by
    have ih := inV_ints x ws
    unfold inV at ih ⊢
    rw [List.map_cons, List.any_cons, ih]
    by_cases h : x = w
    · subst h
      simp [eqV]
    · simp [eqV, h]
      exact fun z => absurd z.symm h
/-! candidates -/
structure Cd where
  t : Addr
  d : Int
  b : Bool
  f : Int
abbrev cdV (e : Cd) : V := .ref e.t
def beforeM (x y : Cd) : Bool := if x.b = y.b then (if x.f = y.f then decide (x.d < y.d) else decide (y.f < x.f)) else x.b
def usableM (L : List Cd) : List Cd := L.filter fun e => decide (0 < e.f)
def rankM (U : List Cd) (x : Cd) : Nat := (U.filter fun y => beforeM y x).length
def bestM (U : List Cd) (w : Nat) : List Int := (U.filter fun x => decide (rankM U x < w)).map (·.d)
theorem before_irr (x : Cd) : beforeM x x = false := by
  unfold beforeM
  rw [if_pos rfl, if_pos rfl]
  exact decide_eq_false (Int.lt_irrefl _)
theorem before_asym {x y : Cd} (h : beforeM x y = true) : beforeM y x = false := by
  obtain ⟨t1, d1, b1, f1⟩ := x
  obtain ⟨t2, d2, b2, f2⟩ := y
  unfold beforeM at h ⊢
  dsimp only at h ⊢
  by_cases hb : b1 = b2
  · subst hb
    rw [if_pos rfl] at h ⊢
    by_cases hf : f1 = f2
    · subst hf
      rw [if_pos rfl] at h ⊢
      have := of_decide_eq_true h
      exact decide_eq_false (by omega)
    · rw [if_neg hf] at h
      rw [if_neg (Ne.symm hf)]
      have := of_decide_eq_true h
      exact decide_eq_false (by omega)
  · rw [if_neg hb] at h
    rw [if_neg (Ne.symm hb)]
    cases b2 with
    | false => rfl
    | true => rw [h] at hb; exact absurd rfl hb
theorem before_tot {x y : Cd} (n : x.d ≠ y.d) (h : beforeM x y = false) : beforeM y x = true := by
  obtain ⟨t1, d1, b1, f1⟩ := x
  obtain ⟨t2, d2, b2, f2⟩ := y
  unfold beforeM at h ⊢
  dsimp only at n h ⊢
  by_cases hb : b1 = b2
  · subst hb
    rw [if_pos rfl] at h ⊢
    by_cases hf : f1 = f2
    · subst hf
      rw [if_pos rfl] at h ⊢
      have := of_decide_eq_false h
      exact decide_eq_true (by omega)
    · rw [if_neg hf] at h
      rw [if_neg (Ne.symm hf)]
      have := of_decide_eq_false h
      exact decide_eq_true (by omega)
  · rw [if_neg hb] at h
    rw [if_neg (Ne.symm hb)]
    cases b2 with
    | true => rfl
    | false => rw [h] at hb; exact absurd rfl hb
def leM (x y : Cd) : Bool := !beforeM y x
theorem before_trans {x y z : Cd} (h1 : beforeM y x = false) (h2 : beforeM z y = false) : beforeM z x = false := by
  obtain ⟨t1, d1, b1, f1⟩ := x
  obtain ⟨t2, d2, b2, f2⟩ := y
  obtain ⟨t3, d3, b3, f3⟩ := z
  unfold beforeM at h1 h2 ⊢
  dsimp only at h1 h2 ⊢
  cases b1 <;> cases b2 <;> cases b3 <;> simp only [if_true, Bool.false_eq_true, Bool.true_eq_false, if_false, reduceCtorEq] at h1 h2 ⊢ <;>
    (split at h1 <;> split at h2 <;> split <;> simp only [decide_eq_false_iff_not] at h1 h2 ⊢ <;> omega)
theorem leM_trans (x y z : Cd) (h1 : leM x y = true) (h2 : leM y z = true) : leM x z = true := by
  unfold leM at h1 h2 ⊢
  rw [Bool.not_eq_true'] at h1 h2 ⊢
  exact before_trans h1 h2
theorem leM_total (x y : Cd) : (leM x y || leM y x) = true := by
  unfold leM
  cases h : beforeM y x with
  | false => rfl
  | true => rw [before_asym h]; rfl
theorem rank_aux (w : Nat) : ∀ (S P : List Cd), (P ++ S).Pairwise (fun x y => beforeM x y = true) → S.filter (fun x => decide (rankM (P ++ S) x < w)) = S.take (w - P.length)
  | [], P, _ => by simp
  | a :: T, P, h => by
    have e : P ++ a :: T = (P ++ [a]) ++ T := by simp
    have hP := List.pairwise_append.mp h
    have ha : rankM (P ++ a :: T) a = P.length := by
      unfold rankM
      rw [List.filter_append, List.filter_eq_self.mpr (fun x m => hP.2.2 x m a (by simp)), List.filter_cons_of_neg (by rw [before_irr]; decide), List.filter_eq_nil_iff.mpr (fun x m => by rw [before_asym ((List.pairwise_cons.mp hP.2.1).1 x m)]; decide), List.append_nil]
    have ih := rank_aux w T (P ++ [a]) (by rw [← e]; exact h)
    rw [← e, List.length_append] at ih
    by_cases hw : P.length < w
    · rw [List.filter_cons_of_pos (by rw [ha]; exact decide_eq_true hw), ih]
      rw [show w - P.length = (w - (P.length + [a].length)) + 1 by simp; omega, List.take_succ_cons]
    · rw [List.filter_cons_of_neg (by rw [ha, decide_eq_false hw]; decide), ih, show w - P.length = 0 by omega, show w - (P.length + [a].length) = 0 by omega, List.take_zero, List.take_zero]
theorem rank_perm {U S : List Cd} (p : S.Perm U) (x : Cd) : rankM S x = rankM U x := (p.filter _).length_eq
theorem best_of {U S : List Cd} {w : Nat} (p : S.Perm U) (h : S.Pairwise fun x y => beforeM x y = true) : ((S.take w).map (·.d)).Perm (bestM U w) := by
  have h1 := rank_aux w S [] h
  have e : S.take w = S.filter fun x => decide (rankM U x < w) := by
    have h2 : S.filter (fun x => decide (rankM ([] ++ S) x < w)) = S.take (w - 0) := h1
    rw [Nat.sub_zero] at h2
    rw [← h2]
    refine List.filter_congr fun x _ => ?_
    rw [List.nil_append, rank_perm p]
  rw [e]
  exact (p.filter _).map _
theorem strict_of {S : List Cd} (h : S.Pairwise fun x y => leM x y = true) (n : (S.map (·.d)).Nodup) : S.Pairwise fun x y => beforeM x y = true := by
  have n' : S.Pairwise fun x y => x.d ≠ y.d := List.pairwise_map.mp n
  refine (h.and n').imp fun {x y} q => ?_
  have q1 : beforeM y x = false := by
    have := q.1
    unfold leM at this
    rw [Bool.not_eq_true'] at this
    exact this
  exact before_tot (Ne.symm q.2) q1
theorem sorted_one {xs ys : List Int} (p : xs.Perm ys) (h1 : xs.Pairwise (· ≤ ·)) (h2 : ys.Pairwise (· ≤ ·)) : xs = ys :=
  List.Perm.eq_of_pairwise (le := (· ≤ ·)) (fun _ _ _ _ h1 h2 => Int.le_antisymm h1 h2) h1 h2 p
def tripD (e : Cd) : PyData := .tuple [.bool (!e.b), .int (-e.f), .int e.d]
theorem trip_alike (x y : Cd) : PySem.W.alike (tripD x) (tripD y) = true := by simp [PySem.W.alike, PySem.W.alikeAll, tripD]
theorem trip_lt (x y : Cd) : PySem.W.dataLt (tripD x) (tripD y) = beforeM x y := by
  unfold tripD
  rw [PySem.W.dataLt_tuple, PySem.W.dataLt_cons (by simp [PySem.W.alike]), PySem.W.dataLt_cons (by simp [PySem.W.alike]), PySem.W.dataLt_cons (by simp [PySem.W.alike]), PySem.W.dataLt_bool, PySem.W.dataLt_int, PySem.W.dataLt_int]
  have e : PyProof.Rows.lexLt PyProof.Rows.itemOrd (PySem.W.keyToksAll []) (PySem.W.keyToksAll []) = false := PyProof.Rows.lex_irrefl _
  rw [e]
  simp only [PyData.eqv]
  obtain ⟨t1, d1, b1, f1⟩ := x
  obtain ⟨t2, d2, b2, f2⟩ := y
  unfold beforeM
  dsimp only
  by_cases hf : f1 = f2
  · subst hf
    by_cases hd : d1 = d2
    · subst hd
      cases b1 <;> cases b2 <;> simp [PyProof.Rows.b2i]
    · cases b1 <;> cases b2 <;> simp [PyProof.Rows.b2i, hd]
  · have hf' : ¬ -f1 = -f2 := fun z => hf (by omega)
    have e2 : decide (-f1 < -f2) = decide (f2 < f1) := by
      by_cases q : f2 < f1
      · rw [decide_eq_true q, decide_eq_true (show -f1 < -f2 by omega)]
      · rw [decide_eq_false q, decide_eq_false (show ¬ -f1 < -f2 by omega)]
    rw [e2]
    cases b1 <;> cases b2 <;> simp [PyProof.Rows.b2i, hf, hf']
/-- where such a list stands -/
def CdL (K : PySem.W.Frag) (H : Hp) (D : Addr) (L : List Cd) : Prop := SqL K H D (L.map cdV) ∧ ∀ e ∈ L, H e.t = some (.tup [.int e.d, .bl e.b, .int e.f])
theorem CdL.same {K : PySem.W.Frag} {H H' : Hp} {D : Addr} {L : List Cd} (h : CdL K H D L) (s : Same H H') : CdL K H' D L := ⟨s.seq h.1, fun e m => s _ _ (h.2 e m)⟩
theorem cd_item {L : List Cd} {i : Nat} {y : V} (h : (L.map cdV)[i]? = some y) : ∃ e, L[i]? = some e ∧ y = cdV e := by
  rw [List.getElem?_map] at h
  cases q : L[i]? with
  | none => rw [q] at h; cases h
  | some e => rw [q] at h; exact ⟨e, rfl, (Option.some.inj h).symm⟩
theorem cd_get {L : List Cd} {i : Nat} {e : Cd} (h : L[i]? = some e) : (L.map cdV)[i]? = some (cdV e) := by rw [List.getElem?_map, h]; rfl
/-- the data of a triple that stands in the heap -/
def kH (H : Hp) : V → PyData
  | .ref t => match H t with
    | some (.tup [.bl b, .int f, .int d]) => .tuple [.bool b, .int f, .int d]
    | _ => .none
  | _ => .none
theorem kH_of {H : Hp} {t : Addr} {e : Cd} (h : H t = some (.tup [.bl (!e.b), .int (-e.f), .int e.d])) : kH H (.ref t) = tripD e := by
  unfold kH
  simp only [h]
  rfl
theorem filter_snoc {α : Type} (p : α → Bool) {L : List α} {i : Nat} {e : α} (h : L[i]? = some e) : (L.take (i + 1)).filter p = (L.take i).filter p ++ if p e then [e] else [] := by
  rw [take_snoc h, List.filter_append]
  congr 1
  simp only [List.filter_cons, List.filter_nil]
theorem filter_len {α : Type} (p : α → Bool) (L : List α) (i : Nat) : ((L.take i).filter p).length ≤ L.length := Nat.le_trans (List.length_filter_le _ _) (by rw [List.length_take]; exact Nat.min_le_right _ _)
/-- candidates as data -/
def cdD (e : Cd) : PyData := .tuple [.int e.d, .bool e.b, .int e.f]
theorem cds_data : ∀ L : List Cd, PyData.canLayAll0 (L.map cdD) = true ∧ PyData.depthAll (L.map cdD) ≤ 1 ∧ PyData.eqvAll (L.map cdD) (L.map cdD) = true
  | [] => ⟨rfl, Nat.zero_le _, by simp [PyData.eqvAll]⟩
  | q :: qs => by
    obtain ⟨h1, h2, h3⟩ := cds_data qs
    refine ⟨by simp [PyData.canLayAll0, PyData.canLay0, cdD, h1], ?_, by simp [PyData.eqvAll, PyData.eqv, cdD, h3]⟩
    simp only [List.map_cons, PyData.depthAll, cdD, PyData.depth]
    omega
theorem cds_shaped (L : List Cd) : SeqAt.shaped (.list (L.map cdD)) = true := by
  obtain ⟨h1, h2, _⟩ := cds_data L
  have e : PyData.depth (.list (L.map cdD)) = PyData.depthAll (L.map cdD) + 1 := by simp only [PyData.depth]
  unfold SeqAt.shaped
  rw [Bool.and_eq_true]
  exact ⟨by simp only [PyData.canLay0]; exact h1, decide_eq_true (by rw [e]; omega)⟩
theorem cds_eqv (L : List Cd) : PyData.eqv (.list (L.map cdD)) (.list (L.map cdD)) = true := by
  simp only [PyData.eqv]
  exact (cds_data L).2.2
theorem dp_cds {K : PySem.W.Frag} {H : Hp} {D : Addr} {L : List Cd} (h : CdL K H D L) : Dp K H (.ref D) (.list (L.map cdD)) := by
  refine .lst h.1 ?_
  have : ∀ M : List Cd, (∀ e ∈ M, H e.t = some (.tup [.int e.d, .bl e.b, .int e.f])) → DpAll K H (M.map cdV) (M.map cdD) := by
    intro M
    induction M with
    | nil => intro _; exact .nil
    | cons e M ih => exact fun g => .cons (.tup (SqT.of (g e (by simp))) (.cons (.int _) (.cons (.bl _) (.cons (.int _) .nil)))) (ih fun u m => g u (List.mem_cons_of_mem _ m))
  exact this L h.2
def sp_choose_disks (K : PySem.W.Frag) (a : Ad) : Sp := fun vs H Q E => ∃ (C : Addr) (L : List Cd) (w : Nat), vs = [.ref C, .int (w : Int)] ∧ CdL K H C L ∧ L.length ≤ 20 ∧ w ≤ 1000 ∧ (L.map (·.d)).Nodup ∧
  (L.length < w → ∀ H', Same H H' → E (.ref a.c_NotEnoughDisks) none H') ∧
  (¬ L.length < w → (usableM L).length < w → ∀ H', Same H H' → E (.ref a.c_NoSpace) none H') ∧
  (¬ L.length < w → ¬ (usableM L).length < w → ∀ (D : Addr) (ns : List Int) (H' : Hp), Same H H' → H D = none → H' D = some (.lst (ns.map V.int)) → ns.Perm (bestM (usableM L) w) → ns.Pairwise (· ≤ ·) → Q (.ref D) H')
theorem sp_choose_disks_len {K : PySem.W.Frag} {a : Ad} {vs : List V} {H : Hp} {Q : VK} {E : XK} (h : sp_choose_disks K a vs H Q E) : vs.length = 2 := by
  obtain ⟨C, L, w, rfl, _⟩ := h
  rfl
def sp_law_answer (K : PySem.W.Frag) (a : Ad) : Sp := fun vs H Q _ => ∃ (C : Addr) (L : List Cd) (w : Nat), vs = [.ref C, .int (w : Int)] ∧ CdL K H C L ∧ L.length ≤ 20 ∧ w ≤ 1000 ∧ (L.map (·.d)).Nodup ∧
  (L.length < w → ∀ H', Same H H' → Q (.int 3) H') ∧
  (¬ L.length < w → (usableM L).length < w → ∀ H', Same H H' → Q (.int 2) H') ∧
  (¬ L.length < w → ¬ (usableM L).length < w → ∀ (D : Addr) (ns : List Int) (H' : Hp), Same H H' → H D = none → H' D = some (.lst (ns.map V.int)) → ns.Perm (bestM (usableM L) w) → ns.Pairwise (· ≤ ·) → Q (.ref D) H')
theorem sp_law_answer_len {K : PySem.W.Frag} {a : Ad} {vs : List V} {H : Hp} {Q : VK} {E : XK} (h : sp_law_answer K a vs H Q E) : vs.length = 2 := by
  obtain ⟨C, L, w, rfl, _⟩ := h
  rfl
def sp_law_before (K : PySem.W.Frag) (a : Ad) : Sp := fun vs H Q _ => ∃ (x y : Cd), vs = [.ref x.t, .ref y.t] ∧ H x.t = some (.tup [.int x.d, .bl x.b, .int x.f]) ∧ H y.t = some (.tup [.int y.d, .bl y.b, .int y.f]) ∧ Q (.bl (beforeM x y)) H
theorem sp_law_before_len {K : PySem.W.Frag} {a : Ad} {vs : List V} {H : Hp} {Q : VK} {E : XK} (h : sp_law_before K a vs H Q E) : vs.length = 2 := by
  obtain ⟨x, y, rfl, _⟩ := h
  rfl
/-! which pieces are wrong -/
def lessM (P S : List Nat) : List Nat := P.filter fun x => decide (x ∉ S)
theorem less_mem {P S : List Nat} {x : Nat} : x ∈ lessM P S ↔ x ∈ P ∧ x ∉ S := by
  unfold lessM
  rw [List.mem_filter]
  simp
theorem less_len {P : List Nat} (S : List Nat) (h : P.Nodup) : P.length ≤ (lessM P S).length + S.length := by
  have := List.Nodup.length_le_of_subset (l₂ := lessM P S ++ S) h fun x m => by
    by_cases q : x ∈ S
    · exact List.mem_append.mpr (.inr q)
    · exact List.mem_append.mpr (.inl (less_mem.mpr ⟨m, q⟩))
  rwa [List.length_append] at this
theorem less_pair {P S : List Nat} (h : P.Pairwise (· < ·)) : (lessM P S).Pairwise (· < ·) := List.Pairwise.filter _ h
theorem sub_filter {P : List Nat} (hn : P.Nodup) : ∀ {S : List Nat}, S.Sublist P → P.filter (fun x => decide (x ∈ S)) = S := by
  intro S h
  induction h with
  | slnil => rfl
  | @cons l1 l2 x h ih =>
    have nd := List.nodup_cons.mp hn
    rw [List.filter_cons, if_neg (fun q => nd.1 (h.subset (of_decide_eq_true q)))]
    exact ih nd.2
  | @cons_cons l1 l2 x h ih =>
    have nd := List.nodup_cons.mp hn
    rw [List.filter_cons, if_pos (decide_eq_true (List.mem_cons_self ..))]
    congr 1
    have e : l2.filter (fun y => decide (y ∈ x :: l1)) = l2.filter (fun y => decide (y ∈ l1)) := List.filter_congr fun y m => by
      have : y ≠ x := fun z => nd.1 (z ▸ m)
      simp [this]
    rw [e]
    exact ih nd.2
def Cul (F : List ORow) (d n : Nat) (S : List Nat) : Prop := S.Sublist (presM F) ∧ 2 * S.length + d ≤ (presM F).length ∧ Agr F (lessM (presM F) S) d n
def Least (F : List ORow) (d n : Nat) (S : List Nat) : Prop := Cul F d n S ∧ ∀ S', Cul F d n S' → S.length ≤ S'.length
/-- all rows of one length, of words -/
def RowsW (F : List ORow) (n : Nat) : Prop := F.length ≤ 8 ∧ ∀ i ∈ presM F, (rowAt F i).2.length = n ∧ ∀ w ∈ (rowAt F i).2, 0 ≤ w ∧ w < 65521
theorem presM_nodup (F : List ORow) : (presM F).Nodup := (presM_pair F).imp fun h => Nat.ne_of_lt h
/-- rows on polynomials agree -/
theorem agr_pols {F : List ORow} {is : List Nat} {d n : Nat} (hF : RowsW F n) (hp : is.Pairwise (· < ·)) (hin : ∀ i ∈ is, i ∈ presM F) (hd : d ≤ is.length) (h : ∀ t, t < n → ∃ g, Pol d g ∧ ∀ i ∈ is, z ((rowAt F i).2.getD t 0) = g (z ((i : Nat) : Int))) : Agr F is d n := fun i mi => by
  have tl : (is.take d).length = d := by rw [List.length_take]; omega
  have il : (intsN (is.take d)).length = d := by unfold intsN; rw [List.length_map, tl]
  have hl : ∀ i ∈ is, i < 60000 := fun i m => by have := (presM_lt (hin i m)).1; have := hF.1; omega
  have ap : Apart (intsN (is.take d)) := intsN_apart (hp.sublist (List.take_sublist d _)) fun j m => hl j (List.mem_of_mem_take m)
  have mis := List.mem_of_mem_drop mi
  obtain ⟨rl, rw'⟩ := hF.2 i (hin i mis)
  refine List.ext_getElem (by rw [rl]; simp [pieceM]) fun t h1 h2 => ?_
  have ht : t < n := by rw [rl] at h2; exact h2
  obtain ⟨g, hg, e⟩ := h t ht
  have e1 : (pieceM (intsN (is.take d)) (snds ((is.take d).map (rowAt F))) ((i : Nat) : Int) n)[t] = valM (intsN (is.take d)) ((snds ((is.take d).map (rowAt F))).map fun r => r.getD t 0) ((i : Nat) : Int) := by simp [pieceM]
  rw [e1]
  have w1 := valM_word (intsN (is.take d)) ((snds ((is.take d).map (rowAt F))).map fun r => r.getD t 0) ((i : Nat) : Int)
  have w2 := rw' _ (List.getElem_mem h2)
  refine z_inj w1.1 w1.2 w2.1 w2.2 ?_
  have g2 : (rowAt F i).2.getD t 0 = (rowAt F i).2[t] := getD_item (List.getElem?_eq_getElem h2)
  rw [← g2, e i mis]
  refine valM_pol ap (by rw [il]; exact hg) (fun j hj => ?_) _
  rw [il] at hj
  have hj' : (is.take d)[j]? = some ((is.take d)[j]'(by omega)) := List.getElem?_eq_getElem (by omega)
  generalize (is.take d)[j]'(by omega) = m at hj'
  have e3 : (intsN (is.take d)).getD j 0 = (m : Int) := getD_item (by unfold intsN; rw [List.getElem?_map, hj']; rfl)
  have e2 : ((snds ((is.take d).map (rowAt F))).map fun r => r.getD t 0).getD j 0 = (rowAt F m).2.getD t 0 := getD_item (by rw [List.getElem?_map, List.getElem?_map, List.getElem?_map, hj']; rfl)
  rw [e2, e3]
  exact e m (List.mem_of_mem_take (List.mem_of_getElem? hj'))
/-- two polynomials that meet in as many points are one -/
theorem pol_one {F : List ORow} {J : List Nat} {d : Nat} {f g : Zp → Zp} (h8 : F.length ≤ 8) (hp : J.Nodup) (hin : ∀ i ∈ J, i ∈ presM F) (hl : d ≤ J.length) (hf : Pol d f) (hg : Pol d g) (h : ∀ i ∈ J, f (z ((i : Nat) : Int)) = g (z ((i : Nat) : Int))) (x : Zp) : f x = g x := by
  have P := Pol.sub hf hg
  have nd : (J.map fun (i : Nat) => z (i : Int)).Nodup := by
    unfold List.Nodup
    rw [List.pairwise_map]
    refine List.Pairwise.imp_of_mem (fun {a b} ha hb hab e => ?_) hp
    have h1 := (presM_lt (hin _ ha)).1
    have h2 := (presM_lt (hin _ hb)).1
    have this : (a : Int) % 65521 = (b : Int) % 65521 := z_mod_eq e
    omega
  have R := Pol.roots (J.map fun (i : Nat) => z (i : Int)) P nd (by rw [List.length_map]; exact hl) (fun a ha => ?_) x
  · have R' : f x - g x = 0 := R
    grind
  · obtain ⟨i, mi, rfl⟩ := List.mem_map.mp ha
    have q := h i mi
    show f (z (i : Int)) - g (z (i : Int)) = 0
    grind
theorem cul_inter {F : List ORow} {d n : Nat} {S S' : List Nat} (hF : RowsW F n) (h : Cul F d n S) (h' : Cul F d n S') : Cul F d n (S.filter fun x => decide (x ∈ S')) := by
  obtain ⟨s1, l1, a1⟩ := h
  obtain ⟨s2, l2, a2⟩ := h'
  have nd := presM_nodup F
  have hsub : (S.filter fun x => decide (x ∈ S')).Sublist (presM F) := (List.filter_sublist ..).trans s1
  have hle : (S.filter fun x => decide (x ∈ S')).length ≤ S.length := List.length_filter_le _ _
  have k1 := less_len S nd
  have k2 := less_len S' nd
  have k3 := less_len (S.filter fun x => decide (x ∈ S')) nd
  have k4 := less_len (S ++ S') nd
  rw [List.length_append] at k4
  have hl : ∀ i ∈ presM F, i < 60000 := fun i m => by have := (presM_lt m).1; have := hF.1; omega
  refine ⟨hsub, by omega, agr_pols hF (less_pair (presM_pair F)) (fun i m => (less_mem.mp m).1) (by omega) fun t ht => ?_⟩
  obtain ⟨g, hg, e⟩ := agr_pol (less_pair (presM_pair F)) (fun i m => hl i (less_mem.mp m).1) (by omega) ht a1
  obtain ⟨g', hg', e'⟩ := agr_pol (less_pair (presM_pair F)) (fun i m => hl i (less_mem.mp m).1) (by omega) ht a2
  have same : ∀ x, g x = g' x := pol_one hF.1 ((less_pair (S := S ++ S') (presM_pair F)).imp fun h => Nat.ne_of_lt h) (fun i m => (less_mem.mp m).1) (by omega) hg hg' fun i m => by
    obtain ⟨m1, m2⟩ := less_mem.mp m
    rw [← e i (less_mem.mpr ⟨m1, fun q => m2 (List.mem_append.mpr (.inl q))⟩), ← e' i (less_mem.mpr ⟨m1, fun q => m2 (List.mem_append.mpr (.inr q))⟩)]
  refine ⟨g, hg, fun i m => ?_⟩
  obtain ⟨m1, m2⟩ := less_mem.mp m
  by_cases q : i ∈ S
  · have q' : i ∉ S' := fun z => m2 (List.mem_filter.mpr ⟨q, decide_eq_true z⟩)
    rw [same]
    exact e' i (less_mem.mpr ⟨m1, q'⟩)
  · exact e i (less_mem.mpr ⟨m1, q⟩)
/-- the least lies in every other -/
theorem least_in {F : List ORow} {d n : Nat} {S S' : List Nat} (hF : RowsW F n) (h : Least F d n S) (h' : Cul F d n S') : ∀ x ∈ S, x ∈ S' := by
  have q := h.2 _ (cul_inter hF h.1 h')
  have e : S.filter (fun x => decide (x ∈ S')) = S := (List.filter_sublist ..).eq_of_length_le q
  intro x m
  rw [← e] at m
  exact of_decide_eq_true (List.mem_filter.mp m).2
theorem least_one {F : List ORow} {d n : Nat} {S S' : List Nat} (hF : RowsW F n) (h : Least F d n S) (h' : Least F d n S') : S = S' := by
  rw [← sub_filter (presM_nodup F) h.1.1, ← sub_filter (presM_nodup F) h'.1.1]
  refine List.filter_congr fun x _ => ?_
  have : x ∈ S ↔ x ∈ S' := ⟨least_in hF h h'.1 x, least_in hF h' h.1 x⟩
  simp [this]
/-- the changed ones: the others lie on the polynomials ps, each of these is off one -/
theorem changed_cul {F : List ORow} {d : Nat} {C : List Nat} {ps : List (List Int)} (hF : RowsW F ps.length) (hps : ∀ w ∈ ps, w.length ≤ d) (hC : C.Nodup) (h2 : 2 * C.length + d ≤ (presM F).length) (hr : ∀ i ∈ presM F, i ∉ C → (rowAt F i).2 = ps.map fun w => horn w ((i : Nat) : Int)) :
    Cul F d ps.length ((presM F).filter fun x => decide (x ∈ C)) := by
  have nd := presM_nodup F
  have hl : ∀ i ∈ presM F, i < 60000 := fun i m => by have := (presM_lt m).1; have := hF.1; omega
  have lc : ((presM F).filter fun x => decide (x ∈ C)).length ≤ C.length := List.Nodup.length_le_of_subset (nd.sublist (List.filter_sublist ..)) fun x m => of_decide_eq_true (List.mem_filter.mp m).2
  have k := less_len ((presM F).filter fun x => decide (x ∈ C)) nd
  refine ⟨List.filter_sublist .., by omega, agr_of (less_pair (presM_pair F)) (fun i m => hl i (less_mem.mp m).1) (by omega) hps fun i m => ?_⟩
  obtain ⟨m1, m2⟩ := less_mem.mp m
  exact hr i m1 fun q => m2 (List.mem_filter.mpr ⟨m1, decide_eq_true q⟩)
theorem changed_least {F : List ORow} {d : Nat} {C S : List Nat} {ps : List (List Int)} (hF : RowsW F ps.length) (hps : ∀ w ∈ ps, w.length ≤ d) (hC : C.Nodup) (h2 : 2 * C.length + d ≤ (presM F).length) (hr : ∀ i ∈ presM F, i ∉ C → (rowAt F i).2 = ps.map fun w => horn w ((i : Nat) : Int))
    (hn : ∀ i ∈ C, (rowAt F i).2 ≠ ps.map fun w => horn w ((i : Nat) : Int)) (hS : Least F d ps.length S) : S = (presM F).filter fun x => decide (x ∈ C) := by
  have hc := changed_cul hF hps hC h2 hr
  have nd := presM_nodup F
  have hl : ∀ i ∈ presM F, i < 60000 := fun i m => by have := (presM_lt m).1; have := hF.1; omega
  have lc : ((presM F).filter fun x => decide (x ∈ C)).length ≤ C.length := List.Nodup.length_le_of_subset (nd.sublist (List.filter_sublist ..)) fun x m => of_decide_eq_true (List.mem_filter.mp m).2
  have ls := hS.2 _ hc
  have sin := least_in hF hS hc
  rw [← sub_filter nd hS.1.1]
  refine List.filter_congr fun x mx => ?_
  have : x ∈ S ↔ x ∈ C := by
    refine ⟨fun q => of_decide_eq_true (List.mem_filter.mp (sin x q)).2, fun q => Classical.byContradiction fun no => hn x q ?_⟩
    obtain ⟨rl, rw'⟩ := hF.2 x mx
    refine List.ext_getElem (by rw [rl, List.length_map]) fun t h1 h3 => ?_
    have ht : t < ps.length := by rw [rl] at h1; exact h1
    have k1 := less_len S nd
    have k4 := less_len (S ++ C) nd
    rw [List.length_append] at k4
    obtain ⟨g, hg, e⟩ := agr_pol (less_pair (presM_pair F)) (fun i m => hl i (less_mem.mp m).1) (by omega) ht hS.1.2.2
    have same : ∀ y, g y = pev ps[t] y := pol_one hF.1 ((less_pair (S := S ++ C) (presM_pair F)).imp fun h => Nat.ne_of_lt h) (fun i m => (less_mem.mp m).1) (by omega) hg ((pev_pol _).mono (hps _ (List.getElem_mem ht))) fun i m => by
      obtain ⟨m1, m2⟩ := less_mem.mp m
      rw [← e i (less_mem.mpr ⟨m1, fun q => m2 (List.mem_append.mpr (.inl q))⟩), hr i m1 fun q => m2 (List.mem_append.mpr (.inr q)), ← horn_z]
      congr 1
      exact getD_item (by rw [List.getElem?_map, List.getElem?_eq_getElem ht]; rfl)
    have e1 := e x (less_mem.mpr ⟨mx, no⟩)
    have g2 : (rowAt F x).2.getD t 0 = (rowAt F x).2[t] := getD_item (List.getElem?_eq_getElem h1)
    rw [g2, same, ← horn_z] at e1
    have w1 := rw' _ (List.getElem_mem h1)
    have w2 := horn_word ps[t] ((x : Nat) : Int)
    have e2 := z_inj w1.1 w1.2 w2.1 w2.2 e1
    rw [e2]
    simp
  simp [this]
/-! the choices in their order -/
open CB in
theorem cmb_sub : ∀ (P : List Nat) (k r : Nat) (c : List Nat), c ∈ cmb k P.length r → (c.map fun j => P.getD (j - k) 0).Sublist P
  | P, k, 0, c, h => by
    have e : c = [] := by cases P <;> simpa [cmb] using h
    subst e; exact List.nil_sublist _
  | [], k, r + 1, c, h => by simp [cmb] at h
  | x :: P, k, r + 1, c, h => by
    simp only [List.length_cons, cmb, List.mem_append, List.mem_map] at h
    have shift : ∀ d : List Nat, (∀ j ∈ d, k + 1 ≤ j) → (d.map fun j => (x :: P).getD (j - k) 0) = d.map fun j => P.getD (j - (k + 1)) 0 := fun d hd => List.map_congr_left fun j m => by
      have := hd j m
      have e : j - k = (j - (k + 1)) + 1 := by omega
      rw [e, List.getD_cons_succ]
    rcases h with ⟨d, hd, rfl⟩ | h
    · rw [List.map_cons, shift d fun j m => ((cmb_len _ _ _ _ hd).2 j m).1, Nat.sub_self, List.getD_cons_zero]
      exact (cmb_sub P (k + 1) r d hd).cons₂ x
    · rw [shift c fun j m => ((cmb_len _ _ _ _ h).2 j m).1]
      exact (cmb_sub P (k + 1) (r + 1) c h).cons x
open CB in
theorem sub_cmb {S P : List Nat} (h : S.Sublist P) : ∀ k, ∃ c ∈ cmb k P.length S.length, (c.map fun j => P.getD (j - k) 0) = S := by
  have shift : ∀ (x k : Nat) (P d : List Nat), (∀ j ∈ d, k + 1 ≤ j) → (d.map fun j => (x :: P).getD (j - k) 0) = d.map fun j => P.getD (j - (k + 1)) 0 := fun x k P d hd => List.map_congr_left fun j m => by
    have := hd j m
    have e : j - k = (j - (k + 1)) + 1 := by omega
    rw [e, List.getD_cons_succ]
  induction h with
  | slnil => exact fun k => ⟨[], by simp [cmb], rfl⟩
  | @cons l1 l2 x h ih =>
    intro k
    obtain ⟨c, hc, e⟩ := ih (k + 1)
    refine ⟨c, ?_, ?_⟩
    · rw [List.length_cons]
      cases q : l1.length with
      | zero =>
        rw [q] at hc
        have : c = [] := by cases l2 <;> simpa [cmb] using hc
        simp [cmb, this]
      | succ r =>
        rw [q] at hc
        simp only [cmb, List.mem_append]
        exact .inr hc
    · rw [shift x k l2 c fun j m => ((cmb_len _ _ _ _ hc).2 j m).1]
      exact e
  | @cons_cons l1 l2 x h ih =>
    intro k
    obtain ⟨c, hc, e⟩ := ih (k + 1)
    refine ⟨k :: c, ?_, ?_⟩
    · rw [List.length_cons, List.length_cons]
      simp only [cmb, List.mem_append, List.mem_map]
      exact .inl ⟨c, hc, rfl⟩
    · rw [List.map_cons, shift x k l2 c fun j m => ((cmb_len _ _ _ _ hc).2 j m).1, Nat.sub_self, List.getD_cons_zero, e]
theorem cul_least {F : List ORow} {d n : Nat} {S : List Nat} (h : Cul F d n S) : ∃ S', Least F d n S' := by
  have : ∀ (m : Nat) (S : List Nat), S.length ≤ m → Cul F d n S → ∃ S', Least F d n S' := by
    intro m
    induction m with
    | zero => exact fun S l c => ⟨S, c, fun S' _ => by omega⟩
    | succ m ih =>
      intro S l c
      by_cases q : ∃ S', Cul F d n S' ∧ S'.length < S.length
      · obtain ⟨S', c', l'⟩ := q
        exact ih S' (by omega) c'
      · refine ⟨S, c, fun S' c' => Classical.byContradiction fun y => q ⟨S', c', by omega⟩⟩
  exact this _ S (Nat.le_refl _) h
/-- what was found -/
def FoundM (F : List ORow) (d n : Nat) (H : Hp) (x : V) : Prop := (x = .non ∧ ∀ S, ¬ Cul F d n S) ∨ ∃ (S : List Nat) (D : Addr), x = .ref D ∧ Least F d n S ∧ H D = some (.lst ((intsN S).map V.int))
theorem FoundM.same {F : List ORow} {d n : Nat} {H H' : Hp} {x : V} (h : FoundM F d n H x) (s : Same H H') : FoundM F d n H' x := by
  rcases h with h | ⟨S, D, h1, h2, h3⟩
  · exact .inl h
  · exact .inr ⟨S, D, h1, h2, s _ _ h3⟩
theorem perm_mem {xs ys : List Nat} (h1 : xs.Nodup) (h2 : ys.Nodup) (h : ∀ a, a ∈ xs ↔ a ∈ ys) : xs.Perm ys := by
  rw [List.perm_iff_count]
  intro a
  rw [h1.count, h2.count]
  by_cases q : a ∈ xs
  · rw [if_pos q, if_pos ((h a).1 q)]
  · rw [if_neg q, if_neg fun z => q ((h a).2 z)]
/-- the changed ones in order -/
theorem changed_sorted {F : List ORow} {C S : List Nat} {ns : List Int} (e : S = (presM F).filter fun x => decide (x ∈ C)) (hC : C.Nodup) (hin : ∀ x ∈ C, x ∈ presM F) (p : ns.Perm (intsN C)) (h : ns.Pairwise (· ≤ ·)) : intsN S = ns := by
  subst e
  refine sorted_one (List.Perm.trans ?_ p.symm) ?_ h
  · exact List.Perm.map _ (perm_mem ((presM_nodup F).sublist (List.filter_sublist ..)) hC fun a => by
      rw [List.mem_filter]
      simp only [decide_eq_true_eq]
      exact ⟨fun q => q.2, fun q => ⟨hin a q, q⟩⟩)
  · unfold intsN
    rw [List.pairwise_map]
    exact ((presM_pair F).sublist (List.filter_sublist ..)).imp fun h => by omega
/-! promises -/
def sp_wrong_pieces (K : PySem.W.Frag) (a : Ad) : Sp := fun vs H Q E => ∃ (R : Addr) (F : List ORow) (d n : Nat), vs = [.ref R, .int (d : Int)] ∧ RO K H R F ∧ RowsW F n ∧ n ≤ 500 ∧ 1 ≤ d ∧ d ≤ F.length ∧
  ((∀ S, ¬ Cul F d n S) → ∀ H', Same H H' → E (.ref a.c_NotEnoughPieces) none H') ∧
  (∀ (S : List Nat) (D : Addr) (H' : Hp), Least F d n S → Same H H' → H D = none → H' D = some (.lst ((intsN S).map V.int)) → Q (.ref D) H')
theorem sp_wrong_pieces_len {K : PySem.W.Frag} {a : Ad} {vs : List V} {H : Hp} {Q : VK} {E : XK} (h : sp_wrong_pieces K a vs H Q E) : vs.length = 2 := by
  obtain ⟨R, F, d, n, rfl, _⟩ := h
  rfl
theorem rowsW_len {F : List ORow} {n : Nat} (h : RowsW F n) : ∀ e, some e ∈ F → e.2.length = n := fun e m => by
  obtain ⟨i, hi⟩ := List.mem_iff_getElem?.mp m
  have mi : i ∈ presM F := presM_iff.mpr ⟨e, hi⟩
  have := (h.2 i mi).1
  rwa [rowAt_of hi] at this
theorem intsN_len (is : List Nat) : (intsN is).length = is.length := by simp [intsN]
theorem intsN_mem {S : List Nat} {m : Nat} : ((m : Nat) : Int) ∈ intsN S ↔ m ∈ S := by
  unfold intsN
  rw [List.mem_map]
  constructor
  · rintro ⟨x, hx, e⟩
    have : x = m := by omega
    rwa [← this]
  · exact fun h => ⟨m, h, rfl⟩
theorem inV_less (m : Nat) (S : List Nat) : (if true = true then !inV (.int (m : Int)) ((intsN S).map V.int) else inV (.int (m : Int)) ((intsN S).map V.int)) = decide (m ∉ S) := by
  rw [inV_ints]
  by_cases q : m ∈ S
  · simp [intsN_mem, q]
  · simp [intsN_mem, q]
theorem less_take {P S : List Nat} {i m : Nat} (h : P[i]? = some m) : lessM (P.take (i + 1)) S = lessM (P.take i) S ++ if m ∉ S then [m] else [] := by
  unfold lessM
  rw [take_snoc h, List.filter_append]
  congr 1
  simp only [List.filter_cons, List.filter_nil, decide_eq_true_eq]
theorem flat_intsN (S : List Nat) : ((intsN S).map V.int).all flatV = true := by
  rw [List.all_eq_true]
  intro x m
  obtain ⟨c, _, rfl⟩ := List.mem_map.mp m
  rfl
theorem intsN_item {S : List Nat} {i : Nat} {y : V} (h : ((intsN S).map V.int)[i]? = some y) : ∃ m : Nat, S[i]? = some m ∧ y = .int (m : Int) := by
  unfold intsN at h
  rw [List.getElem?_map, List.getElem?_map] at h
  cases q : S[i]? with
  | none => rw [q] at h; cases h
  | some m => rw [q] at h; exact ⟨m, rfl, (Option.some.inj h).symm⟩
theorem pick_ints {P : List Nat} {c : List Nat} (h : ∀ k ∈ c, k < P.length) : (c.map fun k => ((intsN P).map V.int).getD k .non) = (intsN (c.map fun j => P.getD (j - 0) 0)).map V.int := by
  unfold intsN
  rw [List.map_map (l := c), List.map_map (l := c)]
  refine List.map_congr_left fun k m => ?_
  have hk := h k m
  rw [List.getD_eq_getElem?_getD, List.getElem?_map, List.getElem?_map, List.getElem?_eq_getElem hk]
  show V.int _ = V.int ((P.getD (k - 0) 0 : Nat) : Int)
  rw [Nat.sub_zero, List.getD_eq_getElem?_getD, List.getElem?_eq_getElem hk]
  rfl
theorem inV_in (m : Nat) (S : List Nat) : (if false = true then !inV (.int (m : Int)) ((intsN S).map V.int) else inV (.int (m : Int)) ((intsN S).map V.int)) = decide (m ∈ S) := by
  rw [inV_ints]
  by_cases q : m ∈ S
  · simp [intsN_mem, q]
  · simp [intsN_mem, q]
/-! the rows of a disk: free 0, new 1, old 2, waiting 3 -/
def flds (rows first : Int) (d : Addr) (low : Int) : List (Str × V) := [("_rows", .int rows), ("_first", .int first), ("_states", .ref d), ("_lowest", .int low)]
theorem flds_init (rows first : Int) (d : Addr) : putF "_lowest" (.int first) (putF "_states" (.ref d) (putF "_first" (.int first) (putF "_rows" (.int rows) []))) = flds rows first d first := by kernel_rfl
theorem flds_low (rows first : Int) (d : Addr) (low z : Int) : putF "_lowest" (.int z) (flds rows first d low) = flds rows first d z := by kernel_rfl
theorem flds_st (rows first : Int) (d e : Addr) (low : Int) : putF "_states" (.ref e) (flds rows first d low) = flds rows first e low := by kernel_rfl
theorem flds_rows (rows first : Int) (d : Addr) (low : Int) : (flds rows first d low).lookup ("_rows" : Str) = some (.int rows) := by kernel_rfl
theorem flds_first (rows first : Int) (d : Addr) (low : Int) : (flds rows first d low).lookup ("_first" : Str) = some (.int first) := by kernel_rfl
theorem flds_states (rows first : Int) (d : Addr) (low : Int) : (flds rows first d low).lookup ("_states" : Str) = some (.ref d) := by kernel_rfl
theorem flds_lowest (rows first : Int) (d : Addr) (low : Int) : (flds rows first d low).lookup ("_lowest" : Str) = some (.int low) := by kernel_rfl
def kvM (M : List (Int × Int)) : List (Key × V) := M.map fun q => (Sum.inl q.1, V.int q.2)
def stM (M : List (Int × Int)) (r : Int) : Int := match M.find? fun q => decide (q.1 = r) with
  | some q => q.2
  | none => 0
theorem valV_M : ∀ (M : List (Int × Int)) (r : Int), valV (kvM M) (Sum.inl r) = (M.find? fun q => decide (q.1 = r)).map fun q => V.int q.2
  | [], _ => rfl
  | q :: M, r => by
    unfold valV kvM
    rw [List.map_cons, List.find?_cons, List.find?_cons]
    by_cases h : q.1 = r
    · rw [show decide ((Sum.inl q.1 : Key) = Sum.inl r) = true from decide_eq_true (by rw [h]), decide_eq_true h]
      rfl
    · rw [show decide ((Sum.inl q.1 : Key) = Sum.inl r) = false from decide_eq_false fun z => h (Sum.inl.inj z), decide_eq_false h]
      exact valV_M M r
/-- what is known of such a dict -/
structure Ok (rows first : Nat) (φ : Int → Int) (M : List (Int × Int)) : Prop where
  nd : (M.map (·.1)).Nodup
  st : ∀ r, φ r = stM M r
  inn : ∀ q ∈ M, ((first : Int) ≤ q.1 ∧ q.1 < rows) ∧ (1 ≤ q.2 ∧ q.2 ≤ 3)
theorem stM_mem {M : List (Int × Int)} {r s : Int} (nd : (M.map (·.1)).Nodup) (m : (r, s) ∈ M) : stM M r = s := by
  induction M with
  | nil => cases m
  | cons q M ih =>
    unfold stM
    rw [List.find?_cons]
    rw [List.map_cons, List.nodup_cons] at nd
    rcases List.mem_cons.mp m with e | m'
    · subst e
      rw [decide_eq_true rfl]
    · have : q.1 ≠ r := fun z => nd.1 (List.mem_map.mpr ⟨(r, s), m', z.symm⟩)
      rw [decide_eq_false this]
      exact ih nd.2 m'
theorem stM_get {M : List (Int × Int)} {r : Int} (h : stM M r ≠ 0) : (r, stM M r) ∈ M := by
  unfold stM at h ⊢
  cases e : M.find? fun q => decide (q.1 = r) with
  | none => rw [e] at h; exact absurd rfl h
  | some q =>
    have h1 := List.find?_some e
    have h2 : q.1 = r := of_decide_eq_true h1
    show (r, q.2) ∈ M
    rw [← h2]
    exact List.mem_of_find?_eq_some e
theorem Ok.mem {rows first : Nat} {φ : Int → Int} {M : List (Int × Int)} (h : Ok rows first φ M) {r s : Int} (m : (r, s) ∈ M) : φ r = s := by rw [h.st, stM_mem h.nd m]
theorem Ok.get {rows first : Nat} {φ : Int → Int} {M : List (Int × Int)} (h : Ok rows first φ M) {r : Int} (n : φ r ≠ 0) : (r, φ r) ∈ M := by
  rw [h.st] at n ⊢
  exact stM_get n
theorem Ok.val {rows first : Nat} {φ : Int → Int} {M : List (Int × Int)} (h : Ok rows first φ M) (r : Int) : valV (kvM M) (Sum.inl r) = if φ r = 0 then none else some (V.int (φ r)) := by
  rw [valV_M, h.st]
  unfold stM
  cases e : M.find? fun q => decide (q.1 = r) with
  | none => rfl
  | some q =>
    have := (h.inn q (List.mem_of_find?_eq_some e)).2
    show some (V.int q.2) = if q.2 = 0 then none else some (V.int q.2)
    rw [if_neg (by omega)]
theorem Ok.range {rows first : Nat} {φ : Int → Int} {M : List (Int × Int)} (h : Ok rows first φ M) {r : Int} (n : φ r ≠ 0) : ((first : Int) ≤ r ∧ r < rows) ∧ (1 ≤ φ r ∧ φ r ≤ 3) := h.inn _ (h.get n)
def rowsL (first rows : Nat) : List Int := (List.range (rows - first)).map fun (i : Nat) => ((first + i : Nat) : Int)
theorem rowsL_mem {first rows : Nat} {r : Int} : r ∈ rowsL first rows ↔ (first : Int) ≤ r ∧ r < rows := by
  unfold rowsL
  rw [List.mem_map]
  constructor
  · rintro ⟨i, hi, rfl⟩
    have := List.mem_range.mp hi
    omega
  · rintro ⟨h1, h2⟩
    exact ⟨(r - first).toNat, List.mem_range.mpr (by omega), by omega⟩
theorem rowsL_lt (first rows : Nat) : (rowsL first rows).Pairwise (· < ·) := by
  unfold rowsL
  rw [List.pairwise_map]
  refine List.pairwise_lt_range.imp fun {a b} h => ?_
  omega
theorem rowsL_len (first rows : Nat) : (rowsL first rows).length = rows - first := by simp [rowsL]
def pickL (first rows : Nat) (φ : Int → Int) (p : Int → Bool) : List Int := (rowsL first rows).filter fun r => p (φ r)
theorem pick_sorted (first rows : Nat) (φ : Int → Int) (p : Int → Bool) : (pickL first rows φ p).Pairwise (· ≤ ·) := ((rowsL_lt first rows).filter _).imp fun h => Int.le_of_lt h
theorem pick_perm {rows first : Nat} {φ : Int → Int} {M : List (Int × Int)} (h : Ok rows first φ M) (p : Int → Bool) (hp : p 0 = false) : ((M.filter fun q => p q.2).map (·.1)).Perm (pickL first rows φ p) := by
  have n1 : ((M.filter fun q => p q.2).map (·.1)).Nodup := List.Nodup.sublist (List.Sublist.map _ List.filter_sublist) h.nd
  have n2 : (pickL first rows φ p).Nodup := List.Nodup.sublist List.filter_sublist ((rowsL_lt first rows).imp fun h => Int.ne_of_lt h)
  refine (List.perm_ext_iff_of_nodup n1 n2).mpr fun r => ?_
  unfold pickL
  rw [List.mem_map, List.mem_filter, rowsL_mem]
  constructor
  · rintro ⟨q, hq, rfl⟩
    obtain ⟨m, hp'⟩ := List.mem_filter.mp hq
    rw [h.mem (s := q.2) m]
    exact ⟨(h.inn q m).1, hp'⟩
  · rintro ⟨hr, hp'⟩
    have n : φ r ≠ 0 := fun z => by rw [z, hp] at hp'; cases hp'
    exact ⟨(r, φ r), List.mem_filter.mpr ⟨h.get n, hp'⟩, rfl⟩
def upF (φ : Int → Int) (r s : Int) : Int → Int := fun x => if x = r then s else φ x
theorem stM_snoc {M : List (Int × Int)} {r s : Int} (h : stM M r = 0) (hM : ∀ q ∈ M, 1 ≤ q.2) (x : Int) : stM (M ++ [(r, s)]) x = upF (stM M) r s x := by
  unfold upF
  by_cases e : x = r
  · subst e
    rw [if_pos rfl]
    have : M.find? (fun q => decide (q.1 = x)) = none := by
      cases q : M.find? fun q => decide (q.1 = x) with
      | none => rfl
      | some y =>
        unfold stM at h
        rw [q] at h
        have h1 := hM y (List.mem_of_find?_eq_some q)
        have h2 : y.2 = 0 := h
        omega
    unfold stM
    rw [List.find?_append, this]
    simp
  · rw [if_neg e]
    unfold stM
    rw [List.find?_append]
    cases q : M.find? fun q => decide (q.1 = x) with
    | some y => rfl
    | none => simp [Ne.symm e]
theorem Ok.put {rows first : Nat} {φ : Int → Int} {M : List (Int × Int)} (h : Ok rows first φ M) {r s : Int} (h0 : φ r = 0) (hr : (first : Int) ≤ r ∧ r < rows) (hs : 1 ≤ s ∧ s ≤ 3) : Ok rows first (upF φ r s) (M ++ [(r, s)]) := by
  have hM : ∀ q ∈ M, 1 ≤ q.2 := fun q m => (h.inn q m).2.1
  have h0' : stM M r = 0 := by rw [← h.st]; exact h0
  refine ⟨?_, fun x => ?_, fun q m => ?_⟩
  · rw [List.map_append, List.nodup_append]
    refine ⟨h.nd, by simp, fun a ha b hb => ?_⟩
    have : b = r := by simpa using hb
    subst this
    obtain ⟨q, m, rfl⟩ := List.mem_map.mp ha
    intro z
    have h1 := stM_mem h.nd (r := q.1) (s := q.2) m
    rw [z, h0'] at h1
    have := hM q m
    omega
  · rw [stM_snoc h0' hM]
    unfold upF
    split
    · rfl
    · exact h.st x
  · rcases List.mem_append.mp m with m | m
    · exact h.inn q m
    · have : q = (r, s) := by simpa using m
      subst this
      exact ⟨hr, hs⟩
theorem Ok.of {rows first : Nat} {φ : Int → Int} {M : List (Int × Int)} (nd : (M.map (·.1)).Nodup) (inn : ∀ q ∈ M, ((first : Int) ≤ q.1 ∧ q.1 < rows) ∧ (1 ≤ q.2 ∧ q.2 ≤ 3)) (hm : ∀ x, φ x ≠ 0 → (x, φ x) ∈ M) (hm2 : ∀ q ∈ M, φ q.1 = q.2) : Ok rows first φ M := by
  refine ⟨nd, fun x => ?_, inn⟩
  by_cases h : φ x = 0
  · by_cases g : stM M x = 0
    · rw [h, g]
    · have := hm2 _ (stM_get g)
      exact this
  · exact (stM_mem nd (hm x h)).symm
theorem Ok.len {rows first : Nat} {φ : Int → Int} {M : List (Int × Int)} (h : Ok rows first φ M) : M.length = (pickL first rows φ fun s => decide (s ≠ 0)).length := by
  have p := (pick_perm h (fun s => decide (s ≠ 0)) (by decide)).length_eq
  have e : (M.filter fun q => decide (q.2 ≠ 0)) = M := List.filter_eq_self.mpr fun q m => decide_eq_true (by have := (h.inn q m).2; omega)
  rw [e, List.length_map] at p
  exact p
theorem pick_le (first rows : Nat) (φ : Int → Int) (p : Int → Bool) : (pickL first rows φ p).length ≤ rows - first := Nat.le_trans (List.length_filter_le _ _) (by rw [rowsL_len]; exact Nat.le_refl _)
def setM (M : List (Int × Int)) (r s : Int) : List (Int × Int) := M.map fun q => if q.1 = r then (q.1, s) else q
theorem setM_keys (M : List (Int × Int)) (r s : Int) : (setM M r s).map (·.1) = M.map (·.1) := by
  unfold setM
  rw [List.map_map]
  refine List.map_congr_left fun q _ => ?_
  show (if q.1 = r then (q.1, s) else q).1 = q.1
  split <;> rfl
theorem kv_set {M : List (Int × Int)} {r s : Int} (h : (valV (kvM M) (Sum.inl r)).isSome = true) : putK (kvM M) (Sum.inl r) (V.int s) = kvM (setM M r s) := by
  unfold putK
  rw [valV_any, if_pos h]
  unfold kvM setM
  rw [List.map_map, List.map_map]
  refine List.map_congr_left fun q _ => ?_
  show (if (Sum.inl q.1 : Key) = Sum.inl r then ((Sum.inl q.1 : Key), V.int s) else (Sum.inl q.1, V.int q.2)) = (Sum.inl (if q.1 = r then (q.1, s) else q).1, V.int (if q.1 = r then (q.1, s) else q).2)
  by_cases e : q.1 = r
  · rw [if_pos (by rw [e]), if_pos e]
  · rw [if_neg fun z => e (Sum.inl.inj z), if_neg e]
theorem kv_new {M : List (Int × Int)} {r s : Int} (h : valV (kvM M) (Sum.inl r) = none) : putK (kvM M) (Sum.inl r) (V.int s) = kvM (M ++ [(r, s)]) := by
  rw [putK_new _ h]
  unfold kvM
  rw [List.map_append]
  rfl
def delM (M : List (Int × Int)) (r : Int) : List (Int × Int) := M.filter fun q => decide (q.1 ≠ r)
theorem kv_del (M : List (Int × Int)) (r : Int) : dropK (kvM M) (Sum.inl r) = kvM (delM M r) := by
  unfold dropK kvM delM
  rw [List.filter_map]
  congr 1
  refine List.filter_congr fun q _ => ?_
  by_cases e : q.1 = r <;> simp [e]
theorem Ok.set {rows first : Nat} {φ : Int → Int} {M : List (Int × Int)} (h : Ok rows first φ M) {r s : Int} (h0 : φ r ≠ 0) (hs : 1 ≤ s ∧ s ≤ 3) : Ok rows first (upF φ r s) (setM M r s) := by
  refine Ok.of (by rw [setM_keys]; exact h.nd) (fun q m => ?_) (fun x hx => ?_) fun q m => ?_
  · obtain ⟨y, my, rfl⟩ := List.mem_map.mp m
    have := h.inn y my
    split
    · exact ⟨this.1, hs⟩
    · exact this
  · unfold upF at hx ⊢
    by_cases e : x = r
    · subst e
      rw [if_pos rfl]
      refine List.mem_map.mpr ⟨(x, φ x), h.get h0, ?_⟩
      rw [if_pos rfl]
    · rw [if_neg e] at hx ⊢
      refine List.mem_map.mpr ⟨(x, φ x), h.get hx, ?_⟩
      rw [if_neg e]
  · obtain ⟨y, my, rfl⟩ := List.mem_map.mp m
    unfold upF
    by_cases e : y.1 = r
    · rw [if_pos e]
      show (if y.1 = r then s else _) = s
      rw [if_pos e]
    · rw [if_neg e, if_neg e]
      exact h.mem (r := y.1) (s := y.2) my
theorem Ok.del {rows first : Nat} {φ : Int → Int} {M : List (Int × Int)} (h : Ok rows first φ M) (r : Int) : Ok rows first (upF φ r 0) (delM M r) := by
  refine Ok.of (List.Nodup.sublist (List.Sublist.map _ List.filter_sublist) h.nd) (fun q m => h.inn q (List.mem_filter.mp m).1) (fun x hx => ?_) fun q m => ?_
  · unfold upF at hx ⊢
    by_cases e : x = r
    · rw [if_pos e] at hx
      exact absurd rfl hx
    · rw [if_neg e] at hx ⊢
      exact List.mem_filter.mpr ⟨h.get hx, decide_eq_true e⟩
  · obtain ⟨m1, m2⟩ := List.mem_filter.mp m
    have m2 := of_decide_eq_true m2
    unfold upF
    rw [if_neg m2]
    exact h.mem (r := q.1) (s := q.2) m1
def settM (M : List (Int × Int)) : List (Int × Int) := (M.filter fun q => decide (q.2 ≠ 3)).map fun q => (q.1, 2)
def settF (φ : Int → Int) : Int → Int := fun x => if φ x = 0 ∨ φ x = 3 then 0 else 2
theorem Ok.sett {rows first : Nat} {φ : Int → Int} {M : List (Int × Int)} (h : Ok rows first φ M) : Ok rows first (settF φ) (settM M) := by
  have ek : (settM M).map (·.1) = (M.filter fun q => decide (q.2 ≠ 3)).map (·.1) := by unfold settM; rw [List.map_map]; rfl
  refine Ok.of (by rw [ek]; exact List.Nodup.sublist (List.Sublist.map _ List.filter_sublist) h.nd) (fun q m => ?_) (fun x hx => ?_) fun q m => ?_
  · obtain ⟨y, my, rfl⟩ := List.mem_map.mp m
    exact ⟨(h.inn y (List.mem_filter.mp my).1).1, by show (1 : Int) ≤ 2; decide, by show (2 : Int) ≤ 3; decide⟩
  · unfold settF at hx ⊢
    by_cases e : φ x = 0 ∨ φ x = 3
    · rw [if_pos e] at hx
      exact absurd rfl hx
    · rw [if_neg e]
      have n0 : φ x ≠ 0 := fun z => e (.inl z)
      exact List.mem_map.mpr ⟨(x, φ x), List.mem_filter.mpr ⟨h.get n0, decide_eq_true fun z => e (.inr z)⟩, rfl⟩
  · obtain ⟨y, my, rfl⟩ := List.mem_map.mp m
    obtain ⟨m1, m2⟩ := List.mem_filter.mp my
    have m2 := of_decide_eq_true m2
    have e := h.mem (r := y.1) (s := y.2) m1
    have := (h.inn y m1).2
    show settF φ y.1 = 2
    unfold settF
    rw [if_neg (by rw [e]; omega)]
/-- a space stands at p, its dict at d -/
def SpD (a : Ad) (H : Hp) (p d : Addr) (first rows : Nat) (φ : Int → Int) : Prop := ∃ (dx : Addr) (low : Int) (M : List (Int × Int)), H p = some (.ins a.c_Space dx (flds rows first d low)) ∧ H d = some (.dK (kvM M)) ∧ Ok rows first φ M ∧ (first : Int) ≤ low ∧ (∀ r, (first : Int) ≤ r → r < low → φ r ≠ 0) ∧ low ≤ rows + 1
theorem SpD.same {a : Ad} {H H' : Hp} {p d : Addr} {first rows : Nat} {φ : Int → Int} (h : SpD a H p d first rows φ) (s : Same H H') : SpD a H' p d first rows φ := by
  obtain ⟨dx, low, M, h1, h2, h3⟩ := h
  exact ⟨dx, low, M, s _ _ h1, s _ _ h2, h3⟩
def Frm (p d : Addr) (H H' : Hp) : Prop := ∀ b o, H b = some o → b ≠ p → b ≠ d → H' b = some o
def InR (first rows : Nat) (r : Int) : Prop := (first : Int) ≤ r ∧ r < rows
def sp_Space_init (K : PySem.W.Frag) (a : Ad) : Sp := fun vs H Q _ => ∃ (p dx : Addr) (first rows : Nat), vs = [.ref p, .int (rows : Int), .int (first : Int)] ∧ H p = some (.ins a.c_Space dx []) ∧ first ≤ rows ∧
  ∀ (d : Addr) (H' : Hp), H d = none → SpD a H' p d first rows (fun _ => 0) → (∀ b o, H b = some o → b ≠ p → H' b = some o) → Q .non H'
def sp_Space_take (K : PySem.W.Frag) (a : Ad) : Sp := fun vs H Q E => ∃ (p d : Addr) (first rows : Nat) (φ : Int → Int), vs = [.ref p] ∧ SpD a H p d first rows φ ∧ rows ≤ 1000 ∧
  ((∀ r, InR first rows r → φ r ≠ 0) → ∀ H', Same H H' → E (.ref a.c_NoSpace) none H') ∧
  (∀ r, InR first rows r → φ r = 0 → (∀ q, (first : Int) ≤ q → q < r → φ q ≠ 0) → ∀ H', SpD a H' p d first rows (upF φ r 1) → Frm p d H H' → Q (.int r) H')
def sp_Space_claim (K : PySem.W.Frag) (a : Ad) : Sp := fun vs H Q E => ∃ (p d : Addr) (first rows : Nat) (φ : Int → Int) (r : Int), vs = [.ref p, .int r] ∧ SpD a H p d first rows φ ∧ rows ≤ 1000 ∧
  (¬ (InR first rows r ∧ φ r = 0) → ∀ H', Same H H' → E (.ref a.c_InvalidArgument) none H') ∧
  (InR first rows r → φ r = 0 → ∀ H', SpD a H' p d first rows (upF φ r 2) → Frm p d H H' → Q .non H')
def sp_Space_give (K : PySem.W.Frag) (a : Ad) : Sp := fun vs H Q E => ∃ (p d : Addr) (first rows : Nat) (φ : Int → Int) (r : Int), vs = [.ref p, .int r] ∧ SpD a H p d first rows φ ∧ rows ≤ 1000 ∧
  ((φ r = 0 ∨ φ r = 3) → ∀ H', Same H H' → E (.ref a.c_InvalidArgument) none H') ∧
  (¬ (φ r = 0 ∨ φ r = 3) → ∀ H', SpD a H' p d first rows (upF φ r (if φ r = 2 then 3 else 0)) → Frm p d H H' → Q .non H')
def sp_Space_settle (K : PySem.W.Frag) (a : Ad) : Sp := fun vs H Q _ => ∃ (p d : Addr) (first rows : Nat) (φ : Int → Int), vs = [.ref p] ∧ SpD a H p d first rows φ ∧ rows ≤ 1000 ∧
  ∀ (d' : Addr) (H' : Hp), H d' = none → SpD a H' p d' first rows (settF φ) → Frm p d H H' → Q .non H'
def sp_Space_is_free (K : PySem.W.Frag) (a : Ad) : Sp := fun vs H Q _ => ∃ (p d : Addr) (first rows : Nat) (φ : Int → Int) (r : Int), vs = [.ref p, .int r] ∧ SpD a H p d first rows φ ∧ ((InR first rows r ∧ φ r = 0) → Q (.bl true) H) ∧ (¬ (InR first rows r ∧ φ r = 0) → Q (.bl false) H)
def sp_Space_free_count (K : PySem.W.Frag) (a : Ad) : Sp := fun vs H Q _ => ∃ (p d : Addr) (first rows : Nat) (φ : Int → Int), vs = [.ref p] ∧ SpD a H p d first rows φ ∧ Q (.int ((rows : Int) - first - ((pickL first rows φ fun s => decide (s ≠ 0)).length : Nat))) H
def sp_Space_used_rows (K : PySem.W.Frag) (a : Ad) : Sp := fun vs H Q _ => ∃ (p d : Addr) (first rows : Nat) (φ : Int → Int), vs = [.ref p] ∧ SpD a H p d first rows φ ∧ rows ≤ first + 60 ∧
  ∀ (D : Addr) (H' : Hp), Same H H' → H D = none → H' D = some (.lst ((pickL first rows φ fun s => decide (s = 1 ∨ s = 2)).map V.int)) → Q (.ref D) H'
def sp_Space_waiting_rows (K : PySem.W.Frag) (a : Ad) : Sp := fun vs H Q _ => ∃ (p d : Addr) (first rows : Nat) (φ : Int → Int), vs = [.ref p] ∧ SpD a H p d first rows φ ∧ rows ≤ first + 60 ∧
  ∀ (D : Addr) (H' : Hp), Same H H' → H D = none → H' D = some (.lst ((pickL first rows φ fun s => decide (s = 3)).map V.int)) → Q (.ref D) H'
theorem sp_Space_init_len {K : PySem.W.Frag} {a : Ad} {vs : List V} {H : Hp} {Q : VK} {E : XK} (h : sp_Space_init K a vs H Q E) : vs.length = 3 := by
  obtain ⟨p, dx, first, rows, rfl, _⟩ := h
  rfl
theorem sp_Space_take_len {K : PySem.W.Frag} {a : Ad} {vs : List V} {H : Hp} {Q : VK} {E : XK} (h : sp_Space_take K a vs H Q E) : vs.length = 1 := by
  obtain ⟨p, d, first, rows, φ, rfl, _⟩ := h
  rfl
theorem sp_Space_claim_len {K : PySem.W.Frag} {a : Ad} {vs : List V} {H : Hp} {Q : VK} {E : XK} (h : sp_Space_claim K a vs H Q E) : vs.length = 2 := by
  obtain ⟨p, d, first, rows, φ, r, rfl, _⟩ := h
  rfl
theorem sp_Space_give_len {K : PySem.W.Frag} {a : Ad} {vs : List V} {H : Hp} {Q : VK} {E : XK} (h : sp_Space_give K a vs H Q E) : vs.length = 2 := by
  obtain ⟨p, d, first, rows, φ, r, rfl, _⟩ := h
  rfl
theorem sp_Space_settle_len {K : PySem.W.Frag} {a : Ad} {vs : List V} {H : Hp} {Q : VK} {E : XK} (h : sp_Space_settle K a vs H Q E) : vs.length = 1 := by
  obtain ⟨p, d, first, rows, φ, rfl, _⟩ := h
  rfl
theorem sp_Space_is_free_len {K : PySem.W.Frag} {a : Ad} {vs : List V} {H : Hp} {Q : VK} {E : XK} (h : sp_Space_is_free K a vs H Q E) : vs.length = 2 := by
  obtain ⟨p, d, first, rows, φ, r, rfl, _⟩ := h
  rfl
theorem sp_Space_free_count_len {K : PySem.W.Frag} {a : Ad} {vs : List V} {H : Hp} {Q : VK} {E : XK} (h : sp_Space_free_count K a vs H Q E) : vs.length = 1 := by
  obtain ⟨p, d, first, rows, φ, rfl, _⟩ := h
  rfl
theorem sp_Space_used_rows_len {K : PySem.W.Frag} {a : Ad} {vs : List V} {H : Hp} {Q : VK} {E : XK} (h : sp_Space_used_rows K a vs H Q E) : vs.length = 1 := by
  obtain ⟨p, d, first, rows, φ, rfl, _⟩ := h
  rfl
theorem sp_Space_waiting_rows_len {K : PySem.W.Frag} {a : Ad} {vs : List V} {H : Hp} {Q : VK} {E : XK} (h : sp_Space_waiting_rows K a vs H Q E) : vs.length = 1 := by
  obtain ⟨p, d, first, rows, φ, rfl, _⟩ := h
  rfl
/-! the store: blocks in memory, blocks that are committed -/
/-- a block: its pointer's tuple, the tuple of its places, its list in memory -/
structure Blk where
  T : Addr
  PT : Addr
  W : Addr
  s : Nat
  L : List (Addr × Int × Int)
  ws : List Int
  mem : Bool
structure SM where
  dx : Addr
  mL : Addr
  spd : Addr
  bD : Addr
  mD : Addr
  I : Addr
  sp : Int → Addr × Addr
  data : Nat
  par : Nat
  rows : Nat
  made : Nat
  ep : Int
  ms : List Int
  bl : List Blk
  od : List Int
def sflds (m : SM) : List (Str × V) := [("data", .int (m.data : Int)), ("parity", .int (m.par : Int)), ("rows", .int (m.rows : Int)), ("members", .ref m.mL), ("epoch", .int m.ep), ("_images", .ref m.I), ("_made", .int (m.made : Int)), ("_spaces", .ref m.spd), ("_blocks", .ref m.bD), ("_memory", .ref m.mD)]
theorem sf_data (m : SM) : (sflds m).lookup ("data" : Str) = some (.int (m.data : Int)) := by kernel_rfl
theorem sf_parity (m : SM) : (sflds m).lookup ("parity" : Str) = some (.int (m.par : Int)) := by kernel_rfl
theorem sf_rows (m : SM) : (sflds m).lookup ("rows" : Str) = some (.int (m.rows : Int)) := by kernel_rfl
theorem sf_members (m : SM) : (sflds m).lookup ("members" : Str) = some (.ref m.mL) := by kernel_rfl
theorem sf_epoch (m : SM) : (sflds m).lookup ("epoch" : Str) = some (.int m.ep) := by kernel_rfl
theorem sf_images (m : SM) : (sflds m).lookup ("_images" : Str) = some (.ref m.I) := by kernel_rfl
theorem sf_made (m : SM) : (sflds m).lookup ("_made" : Str) = some (.int (m.made : Int)) := by kernel_rfl
theorem sf_spaces (m : SM) : (sflds m).lookup ("_spaces" : Str) = some (.ref m.spd) := by kernel_rfl
theorem sf_blocks (m : SM) : (sflds m).lookup ("_blocks" : Str) = some (.ref m.bD) := by kernel_rfl
theorem sf_memory (m : SM) : (sflds m).lookup ("_memory" : Str) = some (.ref m.mD) := by kernel_rfl
theorem sf_set_made (m : SM) (n : Nat) : putF "_made" (.int (n : Int)) (sflds m) = sflds { m with made := n } := by kernel_rfl
theorem sf_set_images (m : SM) (I : Addr) : putF "_images" (.ref I) (sflds m) = sflds { m with I := I } := by kernel_rfl
theorem sf_set_memory (m : SM) (N : Addr) : putF "_memory" (.ref N) (sflds m) = sflds { m with mD := N } := by kernel_rfl
def keyB (ep : Int) (b : Blk) : NestedKey := .tup [.num ep, .num (b.s : Int), .num (b.ws.length : Int), .tup (b.L.map fun q => .tup [.num q.2.1, .num q.2.2])]
structure BlkAt (H : Hp) (ep : Int) (b : Blk) : Prop where
  t : H b.T = some (.tup [.int ep, .int (b.s : Int), .int (b.ws.length : Int), .ref b.PT])
  pt : H b.PT = some (.tup (b.L.map fun q => V.ref q.1))
  q : ∀ e ∈ b.L, H e.1 = some (.tup [.int e.2.1, .int e.2.2])
  w : b.mem = true → H b.W = some (.lst (b.ws.map V.int))
theorem nk_places {H : Hp} : ∀ {L : List (Addr × Int × Int)}, (∀ e ∈ L, H e.1 = some (.tup [.int e.2.1, .int e.2.2])) → NKs H (L.map fun q => .tup [.num q.2.1, .num q.2.2]) (L.map fun q => V.ref q.1)
  | [], _ => .nil
  | e :: L, h => .cons (.tup (h e (by simp)) (.cons (.num _) (.cons (.num _) .nil))) (nk_places fun x m => h x (List.mem_cons_of_mem _ m))
theorem BlkAt.nk {H : Hp} {ep : Int} {b : Blk} (h : BlkAt H ep b) : NK H (keyB ep b) (.ref b.T) := .tup h.t (.cons (.num _) (.cons (.num _) (.cons (.num _) (.cons (.tup h.pt (nk_places h.q)) .nil))))
theorem places_depth : ∀ (L : List (Addr × Int × Int)), NestedKey.depthAll (L.map fun q => .tup [.num q.2.1, .num q.2.2]) ≤ 1
  | [] => Nat.zero_le _
  | e :: L => by
    have := places_depth L
    simp only [List.map_cons, NestedKey.depthAll, NestedKey.depth]
    omega
theorem keyB_depth (ep : Int) (b : Blk) : (keyB ep b).depth ≤ 8 := by
  have := places_depth b.L
  unfold keyB
  simp only [NestedKey.depth, NestedKey.depthAll]
  omega
theorem keyB_inj {ep : Int} {b c : Blk} (h : keyB ep b = keyB ep c) : b.s = c.s := by
  unfold keyB at h
  have h := NestedKey.tup.inj h
  injection h with _ h
  injection h with h _
  have := NestedKey.num.inj h
  omega
def bxs (ep : Int) (bl : List Blk) : List L2.NE := bl.map fun b => (keyB ep b, b.T, V.bl true)
def mx0 (ep : Int) (bl : List Blk) : List L2.NE := bl.map fun b => (keyB ep b, b.T, V.ref b.W)
def mxs (ep : Int) (bl : List Blk) : List L2.NE := mx0 ep (bl.filter fun b => b.mem)
/-- the state of a block's rows -/
def codeM (b : Blk) : Int := if b.mem = true then 1 else 2
def phiM (bl : List Blk) (d : Int) : Int → Int := fun r => match bl.find? fun b => b.L.any fun q => decide (q.2 = (d, r)) with
  | some b => codeM b
  | none => 0
def plcs (bl : List Blk) : List (Int × Int) := bl.flatMap fun b => b.L.map (·.2)
/-- all that the store leans on -/
inductive StR (S : Addr) (m : SM) : Addr → Prop
  | s : StR S m S
  | ml : StR S m m.mL
  | spd : StR S m m.spd
  | bd : StR S m m.bD
  | md : StR S m m.mD
  | s1 (d : Int) : d ∈ m.ms → StR S m (m.sp d).1
  | s2 (d : Int) : d ∈ m.ms → StR S m (m.sp d).2
  | t (b : Blk) : b ∈ m.bl → StR S m b.T
  | pt (b : Blk) : b ∈ m.bl → StR S m b.PT
  | w (b : Blk) : b ∈ m.bl → b.mem = true → StR S m b.W
  | q (b : Blk) (e : Addr × Int × Int) : b ∈ m.bl → e ∈ b.L → StR S m e.1
structure StorP (a : Ad) (H : Hp) (S : Addr) (m : SM) (ψ : Int → Int → Int) : Prop where
  hS : H S = some (.ins a.c_Store m.dx (sflds m))
  hm : H m.mL = some (.lst (m.ms.map V.int))
  hs : H m.spd = some (.dK (m.od.map fun d => ((Sum.inl d : Key), V.ref (m.sp d).1)))
  sp : ∀ d ∈ m.ms, SpD a H (m.sp d).1 (m.sp d).2 18 m.rows (ψ d)
  su : ∀ d ∈ m.ms, ∀ d' ∈ m.ms, (m.sp d).1 = (m.sp d').1 ∨ (m.sp d).2 = (m.sp d').2 → d = d'
  hb : H m.bD = some (L2.NO a.wd m.bD (bxs m.ep m.bl))
  hM : H m.mD = some (L2.NO a.wd m.mD (mxs m.ep m.bl))
  bm : m.bD ≠ m.mD
  blk : ∀ b ∈ m.bl, BlkAt H m.ep b
  nd : m.ms.Pairwise (· < ·)
  m0 : ∀ d ∈ m.ms, 0 ≤ d ∧ d < 8
  ser : ∀ b ∈ m.bl, b.s < m.made
  un : (m.bl.map (·.s)).Nodup
  row : ∀ b ∈ m.bl, ∀ e ∈ b.L, e.2.1 ∈ m.ms ∧ (18 ≤ e.2.2 ∧ e.2.2 < m.rows)
  dis : (m.bl.flatMap fun b => b.L.map (·.2)).Nodup
  asc : ∀ b ∈ m.bl, (b.L.map fun e => e.2.1).Pairwise (· < ·)
  op : m.od.Perm m.ms
abbrev Stor (a : Ad) (H : Hp) (S : Addr) (m : SM) : Prop := StorP a H S m (phiM m.bl)
theorem SpD.keep {a : Ad} {H H' : Hp} {p d : Addr} {first rows : Nat} {φ : Int → Int} (h : SpD a H p d first rows φ) (k1 : ∀ o, H p = some o → H' p = some o) (k2 : ∀ o, H d = some o → H' d = some o) : SpD a H' p d first rows φ := by
  obtain ⟨dx, low, M, h1, h2, h3⟩ := h
  exact ⟨dx, low, M, k1 _ h1, k2 _ h2, h3⟩
theorem StorP.keep {a : Ad} {H H' : Hp} {S : Addr} {m : SM} {ψ : Int → Int → Int} (h : StorP a H S m ψ) (k : ∀ b o, H b = some o → StR S m b → H' b = some o) : StorP a H' S m ψ :=
  ⟨k _ _ h.hS .s, k _ _ h.hm .ml, k _ _ h.hs .spd, fun d md => (h.sp d md).keep (fun o e => k _ _ e (.s1 d md)) (fun o e => k _ _ e (.s2 d md)), h.su, k _ _ h.hb .bd, k _ _ h.hM .md, h.bm,
    fun b mb => ⟨k _ _ (h.blk b mb).t (.t b mb), k _ _ (h.blk b mb).pt (.pt b mb), fun e me => k _ _ ((h.blk b mb).q e me) (.q b e mb me), fun z => k _ _ ((h.blk b mb).w z) (.w b mb z)⟩, h.nd, h.m0, h.ser, h.un, h.row, h.dis, h.asc, h.op⟩
theorem StorP.same {a : Ad} {H H' : Hp} {S : Addr} {m : SM} {ψ : Int → Int → Int} (h : StorP a H S m ψ) (s : Same H H') : StorP a H' S m ψ := h.keep fun b o e _ => s _ _ e
theorem StorP.there {a : Ad} {H : Hp} {S : Addr} {m : SM} {ψ : Int → Int → Int} (h : StorP a H S m ψ) {b : Addr} (r : StR S m b) : ∃ o, H b = some o := by
  cases r with
  | s => exact ⟨_, h.hS⟩
  | ml => exact ⟨_, h.hm⟩
  | spd => exact ⟨_, h.hs⟩
  | bd => exact ⟨_, h.hb⟩
  | md => exact ⟨_, h.hM⟩
  | s1 d md => obtain ⟨_, _, _, e, _⟩ := h.sp d md; exact ⟨_, e⟩
  | s2 d md => obtain ⟨_, _, _, _, e, _⟩ := h.sp d md; exact ⟨_, e⟩
  | t b mb => exact ⟨_, (h.blk b mb).t⟩
  | pt b mb => exact ⟨_, (h.blk b mb).pt⟩
  | w b mb z => exact ⟨_, (h.blk b mb).w z⟩
  | q b e mb me => exact ⟨_, (h.blk b mb).q e me⟩
theorem StorP.fresh {a : Ad} {H : Hp} {S : Addr} {m : SM} {ψ : Int → Int → Int} (h : StorP a H S m ψ) {b : Addr} (n : H b = none) : ¬ StR S m b := fun r => by
  obtain ⟨o, e⟩ := h.there r
  rw [n] at e
  cases e
theorem StorP.put {a : Ad} {H : Hp} {S : Addr} {m : SM} {ψ : Int → Int → Int} (h : StorP a H S m ψ) {b : Addr} {o : HO} (n : ¬ StR S m b) : StorP a (upd H b o) S m ψ := h.keep fun c u e r => by
  rw [upd_ne fun z => n (by rw [← z]; exact r)]
  exact e
theorem StorP.bkeys {a : Ad} {H : Hp} {S : Addr} {m : SM} {ψ : Int → Int → Int} (h : StorP a H S m ψ) : L2.NKeys H (bxs m.ep m.bl) := fun x mx => by
  obtain ⟨b, mb, rfl⟩ := List.mem_map.mp mx
  exact ⟨(h.blk b mb).nk, keyB_depth _ _⟩
theorem StorP.mkeys {a : Ad} {H : Hp} {S : Addr} {m : SM} {ψ : Int → Int → Int} (h : StorP a H S m ψ) : L2.NKeys H (mxs m.ep m.bl) := fun x mx => by
  obtain ⟨b, mb, rfl⟩ := List.mem_map.mp mx
  have mb := (List.mem_filter.mp mb).1
  exact ⟨(h.blk b mb).nk, keyB_depth _ _⟩
theorem StorP.ser_one {a : Ad} {H : Hp} {S : Addr} {m : SM} {ψ : Int → Int → Int} (h : StorP a H S m ψ) {b c : Blk} (mb : b ∈ m.bl) (mc : c ∈ m.bl) (es : b.s = c.s) : b = c := by
  obtain ⟨i, hi⟩ := List.mem_iff_getElem?.mp mb
  obtain ⟨j, hj⟩ := List.mem_iff_getElem?.mp mc
  have li := item_lt hi
  have lj := item_lt hj
  have e1 : m.bl[i] = b := Option.some.inj ((List.getElem?_eq_getElem li).symm.trans hi)
  have e2 : m.bl[j] = c := Option.some.inj ((List.getElem?_eq_getElem lj).symm.trans hj)
  have un := h.un
  unfold List.Nodup at un
  rw [List.pairwise_iff_getElem] at un
  rcases Nat.lt_trichotomy i j with z | z | z
  · exact absurd (by rw [List.getElem_map, List.getElem_map, e1, e2]; exact es) (un i j (by rw [List.length_map]; exact li) (by rw [List.length_map]; exact lj) z)
  · subst z
    exact e1.symm.trans e2
  · exact absurd (by rw [List.getElem_map, List.getElem_map, e1, e2]; exact es.symm) (un j i (by rw [List.length_map]; exact lj) (by rw [List.length_map]; exact li) z)
theorem StorP.key_one {a : Ad} {H : Hp} {S : Addr} {m : SM} {ψ : Int → Int → Int} (h : StorP a H S m ψ) {b c : Blk} (mb : b ∈ m.bl) (mc : c ∈ m.bl) (e : keyB m.ep b = keyB m.ep c) : b = c := h.ser_one mb mc (keyB_inj e)
/-- the list of a block, in memory -/
theorem at_mx0 {ep : Int} : ∀ {bl : List Blk} {b : Blk}, b ∈ bl → (∀ c ∈ bl, keyB ep c = keyB ep b → c = b) → L2.atN (mx0 ep bl) (keyB ep b) = some (b.T, V.ref b.W)
  | c :: bl, b, mb, h => by
    by_cases e : keyB ep c = keyB ep b
    · have := h c (by simp) e
      subst this
      simp [L2.atN, mx0]
    · have mb' : b ∈ bl := by
        rcases List.mem_cons.mp mb with z | z
        · exact absurd (by rw [z]) e
        · exact z
      have ih := at_mx0 (ep := ep) mb' fun d md => h d (List.mem_cons_of_mem _ md)
      unfold L2.atN mx0 at ih ⊢
      rw [List.map_cons, List.find?_cons, decide_eq_false e]
      exact ih
theorem StorP.mem {a : Ad} {H : Hp} {S : Addr} {m : SM} {ψ : Int → Int → Int} (h : StorP a H S m ψ) {b : Blk} (mb : b ∈ m.bl) (z : b.mem = true) : L2.atN (mxs m.ep m.bl) (keyB m.ep b) = some (b.T, V.ref b.W) := at_mx0 (List.mem_filter.mpr ⟨mb, z⟩) fun _ mc e => h.key_one (List.mem_filter.mp mc).1 mb e
theorem StorP.nomem {a : Ad} {H : Hp} {S : Addr} {m : SM} {ψ : Int → Int → Int} (h : StorP a H S m ψ) {b : Blk} (mb : b ∈ m.bl) (z : b.mem = false) : (L2.atN (mxs m.ep m.bl) (keyB m.ep b)).isSome = false := by
  rw [Bool.eq_false_iff]
  intro y
  obtain ⟨x, mx, e⟩ := atN_iff.mp y
  obtain ⟨c, mc, rfl⟩ := List.mem_map.mp mx
  obtain ⟨mc, zc⟩ := List.mem_filter.mp mc
  rw [h.key_one mc mb e, z] at zc
  cases zc
def SM.put (m : SM) (b : Blk) : SM := { m with made := m.made + 1, bl := m.bl ++ [b] }
def SM.with (m : SM) (bl : List Blk) : SM := { m with bl := bl }
theorem val_sp {f : Int → Addr} : ∀ {ms : List Int} {d : Int}, d ∈ ms → valV (ms.map fun d => ((Sum.inl d : Key), V.ref (f d))) (Sum.inl d) = some (V.ref (f d))
  | x :: ms, d, m => by
    unfold valV
    rw [List.map_cons, List.find?_cons]
    by_cases e : x = d
    · subst e
      rw [decide_eq_true rfl]
      rfl
    · rw [decide_eq_false (show ¬ (Sum.inl x : Key) = Sum.inl d from fun z => e (Sum.inl.inj z))]
      rcases List.mem_cons.mp m with z | z
      · exact absurd z.symm e
      · exact val_sp z
theorem val_no {f : Int → Addr} : ∀ {ms : List Int} {d : Int}, d ∉ ms → valV (ms.map fun d => ((Sum.inl d : Key), V.ref (f d))) (Sum.inl d) = none
  | [], _, _ => rfl
  | x :: ms, d, m => by
    unfold valV
    rw [List.map_cons, List.find?_cons, decide_eq_false (show ¬ (Sum.inl x : Key) = Sum.inl d from fun z => m (by rw [Sum.inl.inj z]; simp))]
    exact val_no fun z => m (List.mem_cons_of_mem _ z)
theorem StorP.spget {a : Ad} {H : Hp} {S : Addr} {m : SM} {ψ : Int → Int → Int} (h : StorP a H S m ψ) {d : Int} (md : d ∈ m.ms) : DGet H m.spd (.int d) (some (.ref (m.sp d).1)) := by
  have := DGet.k (k := Sum.inl d) h.hs
  rw [val_sp (f := fun d => (m.sp d).1) (h.op.mem_iff.mpr md)] at this
  exact this
/-- one space is another one now -/
theorem StorP.space {a : Ad} {H H' : Hp} {S : Addr} {m : SM} {ψ : Int → Int → Int} (h : StorP a H S m ψ) {d : Int} (md : d ∈ m.ms) {φ : Int → Int} (n : SpD a H' (m.sp d).1 (m.sp d).2 18 m.rows φ) (fr : Frm (m.sp d).1 (m.sp d).2 H H') : StorP a H' S m (fun x => if x = d then φ else ψ x) := by
  obtain ⟨dx, low, M, e1, e2, _⟩ := h.sp d md
  have k : ∀ b o, H b = some o → (∀ q fs, o = .ins a.c_Space q fs → fs.length = 4 → False) → (∀ L, o = .dK (kvM L) → False) → H' b = some o := fun b o e n1 n2 => fr b o e (ne_of e e1 fun z => n1 _ _ z rfl) (ne_of e e2 fun z => n2 _ z)
  refine ⟨k _ _ h.hS (fun q fs z l => ?_) (fun L z => nomatch z), k _ _ h.hm (fun q fs z => nomatch z) (fun L z => nomatch z), k _ _ h.hs (fun q fs z => nomatch z) (fun L z => ?_), fun x mx => ?_, h.su, k _ _ h.hb (fun q fs z => nomatch z) (fun L z => nomatch z), k _ _ h.hM (fun q fs z => nomatch z) (fun L z => nomatch z), h.bm, fun b mb => ?_, h.nd, h.m0, h.ser, h.un, h.row, h.dis, h.asc, h.op⟩
  · injection z with _ _ z
    rw [← z] at l
    exact absurd l (by show ¬ 10 = 4; decide)
  · have z := HO.dK.inj z
    have m1 : ((Sum.inl d : Key), V.ref (m.sp d).1) ∈ kvM L := by
      rw [← z]
      exact List.mem_map.mpr ⟨d, h.op.mem_iff.mpr md, rfl⟩
    obtain ⟨q, _, e⟩ := List.mem_map.mp m1
    cases e
  · by_cases c : x = d
    · subst c
      show SpD a H' _ _ 18 m.rows (if x = x then φ else ψ x)
      rw [if_pos rfl]
      exact n
    · show SpD a H' _ _ 18 m.rows (if x = d then φ else ψ x)
      rw [if_neg c]
      have n1 : ∀ i : Bool, (m.sp x).1 ≠ (m.sp d).1 ∧ (m.sp x).2 ≠ (m.sp d).2 := fun _ => ⟨fun z => c (h.su x mx d md (.inl z)), fun z => c (h.su x mx d md (.inr z))⟩
      obtain ⟨dx', low', M', g1, g2, _⟩ := h.sp x mx
      exact (h.sp x mx).keep (fun o e => fr _ _ e (n1 true).1 (ne_of g1 e2 (by intro z; cases z))) fun o e => fr _ _ e (ne_of g2 e1 (by intro z; cases z)) (n1 true).2
  · have hb := h.blk b mb
    exact ⟨k _ _ hb.t (fun q fs z => nomatch z) (fun L z => nomatch z), k _ _ hb.pt (fun q fs z => nomatch z) (fun L z => nomatch z), fun e me => k _ _ (hb.q e me) (fun q fs z => nomatch z) (fun L z => nomatch z), fun z => k _ _ (hb.w z) (fun q fs z => nomatch z) (fun L z => nomatch z)⟩
theorem StorP.psi {a : Ad} {H : Hp} {S : Addr} {m : SM} {ψ ψ' : Int → Int → Int} (h : StorP a H S m ψ) (e : ∀ d ∈ m.ms, ψ d = ψ' d) : StorP a H S m ψ' :=
  ⟨h.hS, h.hm, h.hs, fun d md => by rw [← e d md]; exact h.sp d md, h.su, h.hb, h.hM, h.bm, h.blk, h.nd, h.m0, h.ser, h.un, h.row, h.dis, h.asc, h.op⟩
theorem sub_flat {α β : Type} (f : α → List β) (p : α → Bool) : ∀ l : List α, ((l.filter p).flatMap f).Sublist (l.flatMap f)
  | [] => List.Sublist.refl _
  | x :: l => by
    rw [List.filter_cons]
    split
    · rw [List.flatMap_cons, List.flatMap_cons]
      exact (List.Sublist.refl _).append (sub_flat f p l)
    · rw [List.flatMap_cons]
      exact (sub_flat f p l).trans (List.sublist_append_right _ _)
theorem StorP.apart {a : Ad} {H : Hp} {S : Addr} {m : SM} {ψ : Int → Int → Int} (h : StorP a H S m ψ) {b c : Blk} (mb : b ∈ m.bl) (mc : c ∈ m.bl) (n : b.s ≠ c.s) : ∀ x ∈ b.L.map (·.2), x ∉ c.L.map (·.2) := fun x mx my => by
  have dis := h.dis
  unfold List.Nodup at dis
  rw [List.pairwise_flatMap] at dis
  have p := dis.2
  rw [List.pairwise_iff_getElem] at p
  obtain ⟨i, hi⟩ := List.mem_iff_getElem?.mp mb
  obtain ⟨j, hj⟩ := List.mem_iff_getElem?.mp mc
  have li := item_lt hi
  have lj := item_lt hj
  have e1 : m.bl[i] = b := Option.some.inj ((List.getElem?_eq_getElem li).symm.trans hi)
  have e2 : m.bl[j] = c := Option.some.inj ((List.getElem?_eq_getElem lj).symm.trans hj)
  rcases Nat.lt_trichotomy i j with z | z | z
  · exact p i j li lj z x (by rw [e1]; exact mx) x (by rw [e2]; exact my) rfl
  · subst z
    exact n (by rw [← e1, e2])
  · exact p j i lj li z x (by rw [e2]; exact my) x (by rw [e1]; exact mx) rfl
theorem phi_zero {bl : List Blk} {d r : Int} : phiM bl d r = 0 ↔ ¬ ∃ b ∈ bl, ∃ q ∈ b.L, q.2 = (d, r) := by
  unfold phiM
  constructor
  · intro h
    split at h
    · unfold codeM at h
      split at h <;> omega
    · next z =>
      rintro ⟨b, mb, q, mq, e⟩
      exact List.find?_eq_none.mp z b mb (List.any_eq_true.mpr ⟨q, mq, decide_eq_true e⟩)
  · intro h
    split
    · next b z =>
      have y := List.find?_some z
      obtain ⟨q, mq, e⟩ := List.any_eq_true.mp y
      exact absurd ⟨b, List.mem_of_find?_eq_some z, q, mq, of_decide_eq_true e⟩ h
    · rfl
theorem phi_of {bl : List Blk} {b : Blk} {d r : Int} (mb : b ∈ bl) {q : Addr × Int × Int} (mq : q ∈ b.L) (e : q.2 = (d, r)) (one : ∀ c ∈ bl, ∀ x ∈ c.L, x.2 = (d, r) → c = b) : phiM bl d r = codeM b := by
  unfold phiM
  split
  · next c z =>
    have y := List.find?_some z
    obtain ⟨x, mx, ex⟩ := List.any_eq_true.mp y
    rw [one c (List.mem_of_find?_eq_some z) x mx (of_decide_eq_true ex)]
  · next z => exact absurd (List.any_eq_true.mpr ⟨q, mq, decide_eq_true e⟩) (List.find?_eq_none.mp z b mb)
theorem StorP.one {a : Ad} {H : Hp} {S : Addr} {m : SM} {ψ : Int → Int → Int} (h : StorP a H S m ψ) {b c : Blk} (mb : b ∈ m.bl) (mc : c ∈ m.bl) {q x : Addr × Int × Int} (mq : q ∈ b.L) (mx : x ∈ c.L) (e : x.2 = q.2) : c = b := Classical.byContradiction fun n => by
  have ns : b.s ≠ c.s := fun z => n (h.ser_one mb mc z).symm
  exact h.apart mb mc ns q.2 (List.mem_map.mpr ⟨q, mq, rfl⟩) (List.mem_map.mpr ⟨x, mx, e⟩)
theorem StorP.phi {a : Ad} {H : Hp} {S : Addr} {m : SM} {ψ : Int → Int → Int} (h : StorP a H S m ψ) {b : Blk} (mb : b ∈ m.bl) {q : Addr × Int × Int} (mq : q ∈ b.L) : phiM m.bl q.2.1 q.2.2 = codeM b := phi_of mb mq rfl fun c mc x mx e => h.one mb mc mq mx e
/-- places given back -/
def giveF (ψ : Int → Int → Int) (X : List (Int × Int)) (d : Int) : Int → Int := fun r => if (d, r) ∈ X then (if ψ d r = 2 then 3 else 0) else ψ d r
theorem give_nil (ψ : Int → Int → Int) (d : Int) : giveF ψ [] d = ψ d := by
  funext r
  unfold giveF
  rw [if_neg (by simp)]
theorem give_snoc {ψ : Int → Int → Int} {X : List (Int × Int)} {q : Int × Int} (n : q ∉ X) (x : Int) : (if x = q.1 then upF (giveF ψ X q.1) q.2 (if giveF ψ X q.1 q.2 = 2 then 3 else 0) else giveF ψ X x) = giveF ψ (X ++ [q]) x := by
  have eq : giveF ψ X q.1 q.2 = ψ q.1 q.2 := by
    unfold giveF
    rw [if_neg n]
  funext r
  rw [eq]
  by_cases c : x = q.1
  · subst c
    rw [if_pos rfl]
    unfold upF giveF
    by_cases c2 : r = q.2
    · subst c2
      rw [if_pos rfl, if_pos (show (q.1, q.2) ∈ X ++ [q] from List.mem_append_right _ (List.mem_singleton.mpr rfl))]
    · have : ((q.1, r) ∈ X ++ [q]) ↔ (q.1, r) ∈ X := by
        rw [List.mem_append, List.mem_singleton]
        exact ⟨fun z => z.elim id fun z => absurd (congrArg Prod.snd z) c2, .inl⟩
      rw [if_neg c2]
      simp only [this]
  · rw [if_neg c]
    unfold giveF
    have : ((x, r) ∈ X ++ [q]) ↔ (x, r) ∈ X := by
      rw [List.mem_append, List.mem_singleton]
      exact ⟨fun z => z.elim id fun z => absurd (congrArg Prod.fst z) c, .inl⟩
    simp only [this]
theorem out_bxs {ep : Int} {bl : List Blk} {b : Blk} (h : ∀ c ∈ bl, c.s = b.s → c = b) : L2.outN (bxs ep bl) (keyB ep b) = bxs ep (bl.filter fun c => decide (c.s ≠ b.s)) := by
  unfold L2.outN bxs
  rw [List.filter_map]
  congr 1
  refine List.filter_congr fun c mc => ?_
  by_cases e : c.s = b.s
  · have := h c mc e
    simp [this]
  · have : keyB ep c ≠ keyB ep b := fun z => e (keyB_inj z)
    simp [e, this]
theorem out_mxs {ep : Int} {bl : List Blk} {b : Blk} (h : ∀ c ∈ bl, c.s = b.s → c = b) : L2.outN (mxs ep bl) (keyB ep b) = mxs ep (bl.filter fun c => decide (c.s ≠ b.s)) := by
  unfold L2.outN mxs mx0
  rw [List.filter_map, List.filter_filter, List.filter_filter]
  congr 1
  refine List.filter_congr fun c mc => ?_
  by_cases e : c.s = b.s
  · have := h c mc e
    simp [this]
  · have : keyB ep c ≠ keyB ep b := fun z => e (keyB_inj z)
    simp [e, this]
theorem mxs_less {ep : Int} {bl : List Blk} {b : Blk} (h : ∀ c ∈ bl, c.s = b.s → c = b) (z : b.mem = false) : mxs ep (bl.filter fun c => decide (c.s ≠ b.s)) = mxs ep bl := by
  unfold mxs mx0
  rw [List.filter_filter]
  congr 1
  refine List.filter_congr fun c mc => ?_
  by_cases e : c.s = b.s
  · have := h c mc e
    rw [this, z]
    simp
  · simp [e]
/-- a block is taken out of the dicts -/
theorem StorP.drop {a : Ad} {H H' : Hp} {S : Addr} {m : SM} {ψ : Int → Int → Int} (h : StorP a H S m ψ) {b : Blk}
    (hB : H' m.bD = some (L2.NO a.wd m.bD (bxs m.ep (m.bl.filter fun c => decide (c.s ≠ b.s))))) (hM : H' m.mD = some (L2.NO a.wd m.mD (mxs m.ep (m.bl.filter fun c => decide (c.s ≠ b.s))))) (kp : ∀ x o, H x = some o → x ≠ m.bD → x ≠ m.mD → H' x = some o) :
    StorP a H' S (m.with (m.bl.filter fun c => decide (c.s ≠ b.s))) ψ := by
  have k : ∀ x o, H x = some o → (∀ f, o ≠ .ext f) → H' x = some o := fun x o e n => kp x o e (ne_of e h.hb (n _)) (ne_of e h.hM (n _))
  have sub : ∀ c ∈ m.bl.filter fun c => decide (c.s ≠ b.s), c ∈ m.bl := fun c mc => (List.mem_filter.mp mc).1
  refine ⟨k _ _ h.hS (fun f z => nomatch z), k _ _ h.hm (fun f z => nomatch z), k _ _ h.hs (fun f z => nomatch z), fun d md => ?_, h.su, hB, hM, h.bm, fun c mc => ?_, h.nd, h.m0, fun c mc => h.ser c (sub c mc), h.un.sublist (List.Sublist.map _ List.filter_sublist), fun c mc => h.row c (sub c mc), h.dis.sublist (sub_flat _ _ _), fun c mc => h.asc c (sub c mc), h.op⟩
  · obtain ⟨dx, low, M, e1, e2, r⟩ := h.sp d md
    exact ⟨dx, low, M, k _ _ e1 (fun f z => nomatch z), k _ _ e2 (fun f z => nomatch z), r⟩
  · have hb := h.blk c (sub c mc)
    exact ⟨k _ _ hb.t (fun f z => nomatch z), k _ _ hb.pt (fun f z => nomatch z), fun e me => k _ _ (hb.q e me) (fun f z => nomatch z), fun z => k _ _ (hb.w z) (fun f z => nomatch z)⟩
def SM.clear (m : SM) (N : Addr) : SM := { m with mD := N, bl := m.bl.map fun b => { b with mem := false } }
theorem plcs_clear (bl : List Blk) : plcs (bl.map fun b => { b with mem := false }) = plcs bl := by
  unfold plcs
  rw [List.flatMap_map]
theorem bxs_clear (ep : Int) (bl : List Blk) : bxs ep (bl.map fun b => { b with mem := false }) = bxs ep bl := by
  unfold bxs
  rw [List.map_map]
  rfl
theorem mxs_clear (ep : Int) (bl : List Blk) : mxs ep (bl.map fun b => { b with mem := false }) = [] := by
  unfold mxs
  rw [List.filter_eq_nil_iff.mpr]
  · rfl
  · intro b mb
    obtain ⟨c, _, rfl⟩ := List.mem_map.mp mb
    exact Bool.false_ne_true
/-- nothing is in memory any more -/
theorem StorP.forgotten {a : Ad} {H H' : Hp} {S N : Addr} {m : SM} {ψ : Int → Int → Int} (h : StorP a H S m ψ) (nN : H N = none) (hS : H' S = some (.ins a.c_Store m.dx (sflds { m with mD := N }))) (hN : H' N = some (L2.NO a.wd N [])) (k : ∀ x o, H x = some o → x ≠ S → H' x = some o) : StorP a H' S (m.clear N) ψ := by
  have kx : ∀ x o, H x = some o → (∀ q fs, o = .ins a.c_Store q fs → fs.length = 10 → False) → H' x = some o := fun x o e n => k x o e (ne_of e h.hS fun z => n _ _ z rfl)
  have nt : ∀ {o : HO}, (∀ q fs, o ≠ .ins a.c_Store q fs) → (∀ q fs, o = .ins a.c_Store q fs → fs.length = 10 → False) := fun n q fs z _ => n q fs z
  refine ⟨hS, kx _ _ h.hm (nt fun q fs z => nomatch z), kx _ _ h.hs (nt fun q fs z => nomatch z), fun d md => ?_, h.su, ?_, ?_, ne_of_none h.hb nN, fun c mc => ?_, h.nd, h.m0, fun c mc => ?_, ?_, fun c mc => ?_, ?_, fun c mc => ?_, h.op⟩
  · obtain ⟨dx, low, M, e1, e2, r⟩ := h.sp d md
    exact ⟨dx, low, M, kx _ _ e1 (fun q fs z l => by injection z with _ _ z; rw [← z] at l; exact absurd l (by show ¬ 4 = 10; decide)), kx _ _ e2 (nt fun q fs z => nomatch z), r⟩
  · show H' m.bD = some (L2.NO a.wd m.bD (bxs m.ep (m.bl.map fun b => { b with mem := false })))
    rw [bxs_clear]
    exact kx _ _ h.hb (nt fun q fs z => nomatch z)
  · show H' N = some (L2.NO a.wd N (mxs m.ep (m.bl.map fun b => { b with mem := false })))
    rw [mxs_clear]
    exact hN
  · obtain ⟨b, mb, rfl⟩ := List.mem_map.mp mc
    have hb := h.blk b mb
    exact ⟨kx _ _ hb.t (nt fun q fs z => nomatch z), kx _ _ hb.pt (nt fun q fs z => nomatch z), fun e me => kx _ _ (hb.q e me) (nt fun q fs z => nomatch z), fun z => Bool.noConfusion z⟩
  · obtain ⟨b, mb, rfl⟩ := List.mem_map.mp mc
    exact h.ser b mb
  · show ((m.bl.map fun b => ({ b with mem := false } : Blk)).map fun c => c.s).Nodup
    rw [List.map_map]
    exact h.un
  · obtain ⟨b, mb, rfl⟩ := List.mem_map.mp mc
    exact h.row b mb
  · show (plcs (m.bl.map fun b => { b with mem := false })).Nodup
    rw [plcs_clear]
    exact h.dis
  · obtain ⟨b, mb, rfl⟩ := List.mem_map.mp mc
    exact h.asc b mb
/-- a space's own dict is another one -/
def SM.resp (m : SM) (d : Int) (e : Addr) : SM := { m with sp := fun x => if x = d then ((m.sp d).1, e) else m.sp x }
theorem StorP.resp {a : Ad} {H H' : Hp} {S : Addr} {m : SM} {ψ : Int → Int → Int} (h : StorP a H S m ψ) {d : Int} (md : d ∈ m.ms) {e : Addr} (ne : H e = none) {φ : Int → Int} (n : SpD a H' (m.sp d).1 e 18 m.rows φ) (fr : Frm (m.sp d).1 (m.sp d).2 H H') : StorP a H' S (m.resp d e) (fun x => if x = d then φ else ψ x) := by
  have g1 : ∀ x ∈ m.ms, ((m.resp d e).sp x).1 = (m.sp x).1 := fun x _ => by
    show (if x = d then ((m.sp d).1, e) else m.sp x).1 = _
    by_cases c : x = d
    · rw [if_pos c, c]
    · rw [if_neg c]
  obtain ⟨dx, low, M, e1, e2, _⟩ := h.sp d md
  have k : ∀ b o, H b = some o → (∀ q fs, o = .ins a.c_Space q fs → fs.length = 4 → False) → (∀ L, o = .dK (kvM L) → False) → H' b = some o := fun b o e n1 n2 => fr b o e (ne_of e e1 fun z => n1 _ _ z rfl) (ne_of e e2 fun z => n2 _ z)
  have off : ∀ x ∈ m.ms, (m.sp x).2 ≠ e := fun x mx => by
    obtain ⟨_, _, _, _, g, _⟩ := h.sp x mx
    exact ne_of_none g ne
  refine ⟨k _ _ h.hS (fun q fs z l => ?_) (fun L z => nomatch z), k _ _ h.hm (fun q fs z => nomatch z) (fun L z => nomatch z), ?_, fun x mx => ?_, fun x mx y my z => ?_, k _ _ h.hb (fun q fs z => nomatch z) (fun L z => nomatch z), k _ _ h.hM (fun q fs z => nomatch z) (fun L z => nomatch z), h.bm, fun b mb => ?_, h.nd, h.m0, h.ser, h.un, h.row, h.dis, h.asc, h.op⟩
  · injection z with _ _ z
    rw [← z] at l
    exact absurd l (by show ¬ 10 = 4; decide)
  · show H' m.spd = some (.dK (m.od.map fun x => ((Sum.inl x : Key), V.ref ((m.resp d e).sp x).1)))
    rw [show (m.od.map fun x => ((Sum.inl x : Key), V.ref ((m.resp d e).sp x).1)) = m.od.map fun x => ((Sum.inl x : Key), V.ref (m.sp x).1) from List.map_congr_left fun x mx => by rw [g1 x (h.op.mem_iff.mp mx)]]
    refine k _ _ h.hs (fun q fs z => nomatch z) fun L z => ?_
    have z := HO.dK.inj z
    have m1 : ((Sum.inl d : Key), V.ref (m.sp d).1) ∈ kvM L := by
      rw [← z]
      exact List.mem_map.mpr ⟨d, h.op.mem_iff.mpr md, rfl⟩
    obtain ⟨q, _, e⟩ := List.mem_map.mp m1
    cases e
  · show SpD a H' ((m.resp d e).sp x).1 ((m.resp d e).sp x).2 18 m.rows (if x = d then φ else ψ x)
    rw [g1 x mx]
    by_cases c : x = d
    · subst c
      show SpD a H' _ (if x = x then ((m.sp x).1, e) else m.sp x).2 18 m.rows (if x = x then φ else ψ x)
      rw [if_pos rfl, if_pos rfl]
      exact n
    · show SpD a H' _ (if x = d then ((m.sp d).1, e) else m.sp x).2 18 m.rows (if x = d then φ else ψ x)
      rw [if_neg c, if_neg c]
      have n1 : (m.sp x).1 ≠ (m.sp d).1 := fun z => c (h.su x mx d md (.inl z))
      have n2 : (m.sp x).2 ≠ (m.sp d).2 := fun z => c (h.su x mx d md (.inr z))
      obtain ⟨dx', low', M', g1, g2, _⟩ := h.sp x mx
      exact (h.sp x mx).keep (fun o e => fr _ _ e n1 (ne_of g1 e2 (by intro z; cases z))) fun o e => fr _ _ e (ne_of g2 e1 (by intro z; cases z)) n2
  · rw [g1 x mx, g1 y my] at z
    rcases z with z | z
    · exact h.su x mx y my (.inl z)
    · change (if x = d then ((m.sp d).1, e) else m.sp x).2 = (if y = d then ((m.sp d).1, e) else m.sp y).2 at z
      by_cases cx : x = d
      · by_cases cy : y = d
        · rw [cx, cy]
        · rw [if_pos cx, if_neg cy] at z
          exact absurd z.symm (off y my)
      · by_cases cy : y = d
        · rw [if_neg cx, if_pos cy] at z
          exact absurd z (off x mx)
        · rw [if_neg cx, if_neg cy] at z
          exact h.su x mx y my (.inr z)
  · have hb := h.blk b mb
    exact ⟨k _ _ hb.t (fun q fs z => nomatch z) (fun L z => nomatch z), k _ _ hb.pt (fun q fs z => nomatch z) (fun L z => nomatch z), fun e me => k _ _ (hb.q e me) (fun q fs z => nomatch z) (fun L z => nomatch z), fun z => k _ _ (hb.w z) (fun q fs z => nomatch z) (fun L z => nomatch z)⟩
theorem seq_keep {K : PySem.W.Frag} {H H' : Hp} {P : Addr} {xs : List V} (h : SqL K H P xs) (k : ∀ o, H P = some o → H' P = some o) : SqL K H' P xs := by
  rcases h with (h | ⟨o, h⟩) | h
  · exact .inl (.inl (k _ h))
  · exact .inl (.inr ⟨o, k _ h⟩)
  · exact .inr h
def usedM (m : SM) (d : Int) : Nat := (pickL 18 m.rows (phiM m.bl d) fun s => decide (s ≠ 0)).length
theorem inV_intsS (x : Int) : ∀ ws : List Int, inV (.int x) (ws.map V.int) = decide (x ∈ ws)
  | [] => rfl
  | w :: ws => by
    have ih := inV_intsS x ws
    unfold inV at ih ⊢
    rw [List.map_cons, List.any_cons, ih]
    by_cases h : x = w
    · subst h
      simp [eqV]
    · simp [eqV, h]
      exact fun z => absurd z.symm h
theorem flat_intsS (ws : List Int) : (ws.map V.int).all flatV = true := List.all_eq_true.mpr fun x m => by
  obtain ⟨w, _, rfl⟩ := List.mem_map.mp m
  rfl
theorem best_facts {U : List Cd} {w : Nat} (nd : (U.map (·.d)).Nodup) (hw : w ≤ U.length) : (bestM U w).length = w ∧ (bestM U w).Nodup ∧ ∀ x ∈ bestM U w, ∃ e ∈ U, e.d = x := by
  have p : (U.mergeSort leM).Perm U := List.mergeSort_perm U leM
  have s : (U.mergeSort leM).Pairwise fun x y => leM x y = true := List.pairwise_mergeSort leM_trans leM_total U
  have b := best_of (w := w) p (strict_of s ((p.map _).nodup_iff.mpr nd))
  refine ⟨?_, ?_, fun x m => ?_⟩
  · rw [← b.length_eq, List.length_map, List.length_take, p.length_eq]
    omega
  · exact (List.Sublist.map _ List.filter_sublist).nodup nd
  · obtain ⟨e, me, rfl⟩ := List.mem_map.mp m
    exact ⟨e, (List.mem_filter.mp me).1, rfl⟩
theorem one_row {d : Int} : ∀ {L : List (Addr × Int × Int)}, (L.map fun e => e.2.1).Pairwise (· < ·) → (L.filter fun e => decide (e.2.1 = d)).length ≤ 1 := fun {L} h => by
  have p : (L.filter fun e => decide (e.2.1 = d)).Pairwise (fun x y => x.2.1 < y.2.1) := (List.pairwise_map.mp h).sublist List.filter_sublist
  have q : ∀ e ∈ L.filter fun e => decide (e.2.1 = d), e.2.1 = d := fun e m => of_decide_eq_true (List.mem_filter.mp m).2
  revert p q
  generalize (L.filter fun e => decide (e.2.1 = d)) = M
  intro p q
  match M, p, q with
  | [], _, _ => exact Nat.zero_le _
  | [x], _, _ => exact Nat.le_refl _
  | x :: y :: R, p, q =>
    have h1 := (List.pairwise_cons.mp p).1 y (by simp)
    have h2 := q x (by simp)
    have h3 := q y (by simp)
    omega
theorem flat_le {α β : Type} {f : α → List β} : ∀ {l : List α}, (∀ x ∈ l, (f x).length ≤ 1) → (l.flatMap f).length ≤ l.length
  | [], _ => Nat.le_refl _
  | x :: l, h => by
    rw [List.flatMap_cons, List.length_append, List.length_cons]
    have := h x (by simp)
    have := flat_le (l := l) fun y m => h y (List.mem_cons_of_mem _ m)
    omega
theorem StorP.used {a : Ad} {H : Hp} {S : Addr} {m : SM} {ψ : Int → Int → Int} (h : StorP a H S m ψ) (d : Int) : usedM m d ≤ m.bl.length := by
  have nd : (pickL 18 m.rows (phiM m.bl d) fun s => decide (s ≠ 0)).Nodup := ((rowsL_lt 18 m.rows).imp fun h => Int.ne_of_lt h).sublist List.filter_sublist
  refine Nat.le_trans (List.Nodup.length_le_of_subset (l₂ := m.bl.flatMap fun b => (b.L.filter fun e => decide (e.2.1 = d)).map (·.2.2)) nd fun r mr => ?_) (flat_le fun b mb => by rw [List.length_map]; exact one_row (h.asc b mb))
  have z := of_decide_eq_true (List.mem_filter.mp mr).2
  have c : ∃ b ∈ m.bl, ∃ q ∈ b.L, q.2 = (d, r) := Classical.byContradiction fun y => z (phi_zero.mpr y)
  obtain ⟨b, mb, q, mq, e⟩ := c
  refine List.mem_flatMap.mpr ⟨b, mb, List.mem_map.mpr ⟨q, List.mem_filter.mpr ⟨mq, decide_eq_true (by rw [e])⟩, by rw [e]⟩⟩
/-- not all rows of a disk are used -/
theorem StorP.room {a : Ad} {H : Hp} {S : Addr} {m : SM} {ψ : Int → Int → Int} (h : StorP a H S m ψ) (hl : m.bl.length + 18 < m.rows) (d : Int) : ¬ ∀ r, InR 18 m.rows r → phiM m.bl d r ≠ 0 := fun z => by
  have e : pickL 18 m.rows (phiM m.bl d) (fun s => decide (s ≠ 0)) = rowsL 18 m.rows := List.filter_eq_self.mpr fun r mr => decide_eq_true (z r (rowsL_mem.mp mr))
  have := h.used d
  unfold usedM at this
  rw [e, rowsL_len] at this
  omega
/-- the blocks' rows and those of new places -/
def psiT (bl : List Blk) (PL : List (Addr × Int × Int)) (d : Int) : Int → Int := fun r => if PL.any (fun q => decide (q.2 = (d, r))) = true then 1 else phiM bl d r
theorem psi_add (bl : List Blk) (b : Blk) (z : b.mem = true) (n : ∀ q ∈ b.L, phiM bl q.2.1 q.2.2 = 0) (d : Int) : psiT bl b.L d = phiM (bl ++ [b]) d := by
  funext r
  unfold psiT
  by_cases c : ∃ q ∈ b.L, q.2 = (d, r)
  · obtain ⟨q, mq, e⟩ := c
    rw [if_pos (List.any_eq_true.mpr ⟨q, mq, decide_eq_true e⟩)]
    have n0 := n q mq
    rw [e] at n0
    refine ((phi_of (b := b) (List.mem_append_right _ (by simp)) mq e fun x mx y my ey => ?_).trans (by unfold codeM; rw [if_pos z])).symm
    rcases List.mem_append.mp mx with mx | mx
    · exact absurd ⟨x, mx, y, my, ey⟩ (phi_zero.mp n0)
    · exact List.mem_singleton.mp mx
  · rw [if_neg fun y => c ?_]
    · unfold phiM
      rw [List.find?_append]
      cases y : bl.find? fun b => b.L.any fun q => decide (q.2 = (d, r)) with
      | some x => rfl
      | none =>
        have : [b].find? (fun b => b.L.any fun q => decide (q.2 = (d, r))) = none := by
          rw [List.find?_eq_none]
          intro x mx
          rw [List.mem_singleton.mp mx]
          intro w
          obtain ⟨q, mq, e⟩ := List.any_eq_true.mp w
          exact c ⟨q, mq, of_decide_eq_true e⟩
        rw [this]
        rfl
    · obtain ⟨q, mq, e⟩ := List.any_eq_true.mp y
      exact ⟨q, mq, of_decide_eq_true e⟩
theorem new_place {α : Type} {A B : List α} {x : α} {j : Nat} (nd : (A ++ B).Nodup) (h : B[j]? = some x) : x ∉ A ++ B.take j := by
  have s : (A ++ B.take (j + 1)).Nodup := nd.sublist ((List.Sublist.refl A).append (List.take_sublist _ _))
  rw [take_snoc h, ← List.append_assoc, List.nodup_append] at s
  exact fun m => s.2.2 x m x (by simp) rfl
theorem plcs_snoc (bl : List Blk) (b : Blk) : plcs (bl ++ [b]) = plcs bl ++ b.L.map (·.2) := by
  unfold plcs
  rw [List.flatMap_append, List.flatMap_cons, List.flatMap_nil, List.append_nil]
theorem plcs_sub {l' l : List Blk} (s : l'.Sublist l) : (plcs l').Sublist (plcs l) := by
  unfold plcs
  induction s with
  | slnil => exact List.Sublist.refl _
  | cons x s ih =>
    rw [List.flatMap_cons]
    exact ih.trans (List.sublist_append_right _ _)
  | cons_cons x s ih =>
    rw [List.flatMap_cons, List.flatMap_cons]
    exact (List.Sublist.refl _).append ih
theorem mem_plcs {bl : List Blk} {x : Int × Int} : x ∈ plcs bl ↔ ∃ b ∈ bl, ∃ q ∈ b.L, q.2 = x := by
  unfold plcs
  rw [List.mem_flatMap]
  constructor
  · rintro ⟨b, mb, mx⟩
    obtain ⟨q, mq, e⟩ := List.mem_map.mp mx
    exact ⟨b, mb, q, mq, e⟩
  · rintro ⟨b, mb, q, mq, e⟩
    exact ⟨b, mb, List.mem_map.mpr ⟨q, mq, e⟩⟩
theorem settle_phi {a : Ad} {H : Hp} {S : Addr} {m : SM} {ψ : Int → Int → Int} (h : StorP a H S m ψ) (p : Blk → Bool) (d : Int) : settF (giveF (phiM m.bl) (plcs (m.bl.filter fun b => !p b)) d) = phiM ((m.bl.filter p).map fun b => { b with mem := false }) d := by
  funext r
  by_cases c : ∃ b ∈ m.bl, ∃ q ∈ b.L, q.2 = (d, r)
  · obtain ⟨b, mb, q, mq, e⟩ := c
    have v := h.phi mb mq
    rw [show q.2.1 = d by rw [e], show q.2.2 = r by rw [e]] at v
    by_cases pb : p b = true
    · have n : (d, r) ∉ plcs (m.bl.filter fun b => !p b) := fun z => by
        obtain ⟨x, mx, y, my, ey⟩ := mem_plcs.mp z
        obtain ⟨mx, px⟩ := List.mem_filter.mp mx
        rw [h.one mb mx mq my (by rw [ey, e]), pb] at px
        cases px
      have g : giveF (phiM m.bl) (plcs (m.bl.filter fun b => !p b)) d r = codeM b := by
        unfold giveF
        rw [if_neg n, v]
      have hc : codeM b = 1 ∨ codeM b = 2 := by unfold codeM; split <;> simp
      have e1 : phiM ((m.bl.filter p).map fun b => { b with mem := false }) d r = codeM { b with mem := false } := phi_of (List.mem_map.mpr ⟨b, List.mem_filter.mpr ⟨mb, pb⟩, rfl⟩) mq e fun x mx y my ey => by
        obtain ⟨x', mx', rfl⟩ := List.mem_map.mp mx
        rw [h.one mb (List.mem_filter.mp mx').1 mq my (by rw [ey, e])]
      rw [e1]
      show (if giveF _ _ d r = 0 ∨ giveF _ _ d r = 3 then (0 : Int) else 2) = 2
      rw [g, if_neg (by omega)]
    · have n : (d, r) ∈ plcs (m.bl.filter fun b => !p b) := mem_plcs.mpr ⟨b, List.mem_filter.mpr ⟨mb, by simpa using pb⟩, q, mq, e⟩
      have g : giveF (phiM m.bl) (plcs (m.bl.filter fun b => !p b)) d r = 0 ∨ giveF (phiM m.bl) (plcs (m.bl.filter fun b => !p b)) d r = 3 := by
        unfold giveF
        rw [if_pos n]
        split <;> simp
      have e1 : phiM ((m.bl.filter p).map fun b => { b with mem := false }) d r = 0 := phi_zero.mpr fun ⟨x, mx, y, my, ey⟩ => by
        obtain ⟨x', mx', rfl⟩ := List.mem_map.mp mx
        obtain ⟨mx', px⟩ := List.mem_filter.mp mx'
        rw [h.one mb mx' mq my (by rw [ey, e])] at px
        exact pb px
      rw [e1]
      show (if giveF _ _ d r = 0 ∨ giveF _ _ d r = 3 then (0 : Int) else 2) = 0
      rw [if_pos g]
  · have n : (d, r) ∉ plcs (m.bl.filter fun b => !p b) := fun z => by
      obtain ⟨x, mx, y, my, ey⟩ := mem_plcs.mp z
      exact c ⟨x, (List.mem_filter.mp mx).1, y, my, ey⟩
    have g : giveF (phiM m.bl) (plcs (m.bl.filter fun b => !p b)) d r = 0 := by
      unfold giveF
      rw [if_neg n]
      exact phi_zero.mpr c
    have e1 : phiM ((m.bl.filter p).map fun b => { b with mem := false }) d r = 0 := phi_zero.mpr fun ⟨x, mx, y, my, ey⟩ => by
      obtain ⟨x', mx', rfl⟩ := List.mem_map.mp mx
      exact c ⟨x', (List.mem_filter.mp mx').1, y, my, ey⟩
    rw [e1]
    show (if giveF _ _ d r = 0 ∨ giveF _ _ d r = 3 then (0 : Int) else 2) = 0
    rw [g, if_pos (.inl rfl)]
theorem StorP.width {a : Ad} {H : Hp} {S : Addr} {m : SM} {ψ : Int → Int → Int} (h : StorP a H S m ψ) {b : Blk} (mb : b ∈ m.bl) : b.L.length ≤ m.ms.length := by
  have nd : (b.L.map fun e => e.2.1).Nodup := (h.asc b mb).imp fun z => Int.ne_of_lt z
  have := List.Nodup.length_le_of_subset nd (l₂ := m.ms) fun x mx => by
    obtain ⟨e, me, rfl⟩ := List.mem_map.mp mx
    exact (h.row b mb e me).1
  rw [List.length_map] at this
  exact this
/-! promises -/
def sp_Store_init (K : PySem.W.Frag) (a : Ad) : Sp := fun vs H Q _ => ∃ (S dx M : Addr) (d p r : Nat) (e : Int) (ms : List Int), vs = [.ref S, .int (d : Int), .int (p : Int), .int (r : Int), .ref M, .int e] ∧ H S = some (.ins a.c_Store dx []) ∧ H M = some (.lst (ms.map V.int)) ∧ ms.Pairwise (· < ·) ∧ (∀ x ∈ ms, 0 ≤ x ∧ x < 8) ∧ ms.length ≤ 8 ∧ 18 ≤ r ∧ r ≤ 100 ∧
  ∀ (m : SM) (H' : Hp), Stor a H' S m → m.data = d → m.par = p → m.rows = r → m.made = 0 → m.ep = e → m.ms = ms → m.bl = [] → (∀ b o, H b = some o → b ≠ S → H' b = some o) → (∀ b, StR S m b → b = S ∨ H b = none) → Q .non H'
theorem sp_Store_init_len {K : PySem.W.Frag} {a : Ad} {vs : List V} {H : Hp} {Q : VK} {E : XK} (h : sp_Store_init K a vs H Q E) : vs.length = 6 := by
  obtain ⟨S, dx, M, d, p, r, e, ms, rfl, _⟩ := h
  rfl
def sp_Store_look (K : PySem.W.Frag) (a : Ad) : Sp := fun vs H Q _ => ∃ (S I : Addr) (m : SM), vs = [.ref S, .ref I] ∧ Stor a H S m ∧
  ∀ H', Stor a H' S { m with I := I } → (∀ b o, H b = some o → b ≠ S → H' b = some o) → Q .non H'
theorem sp_Store_look_len {K : PySem.W.Frag} {a : Ad} {vs : List V} {H : Hp} {Q : VK} {E : XK} (h : sp_Store_look K a vs H Q E) : vs.length = 2 := by
  obtain ⟨S, I, m, rfl, _⟩ := h
  rfl
def sp_Store_free_counts (K : PySem.W.Frag) (a : Ad) : Sp := fun vs H Q _ => ∃ (S : Addr) (m : SM), vs = [.ref S] ∧ Stor a H S m ∧ m.ms.length ≤ 8 ∧
  ∀ (D : Addr) (L : List (Addr × Int × Int)) (H' : Hp), Same H H' → H D = none → H' D = some (.lst (L.map fun e => V.ref e.1)) → (∀ e ∈ L, H' e.1 = some (.tup [.int e.2.1, .int e.2.2])) → L.map (·.2) = m.ms.map (fun d => (d, (m.rows : Int) - (18 : Nat) - (usedM m d : Nat))) → Q (.ref D) H'
theorem sp_Store_free_counts_len {K : PySem.W.Frag} {a : Ad} {vs : List V} {H : Hp} {Q : VK} {E : XK} (h : sp_Store_free_counts K a vs H Q E) : vs.length = 1 := by
  obtain ⟨S, m, rfl, _⟩ := h
  rfl
def sp_Store_put (K : PySem.W.Frag) (a : Ad) : Sp := fun vs H Q E => ∃ (S W A : Addr) (m : SM) (ws av : List Int) (ims : List (Option Addr)), vs = [.ref S, .ref W, .ref A] ∧ Stor a H S m ∧ SqL K H W (ws.map V.int) ∧ ¬ StR S m W ∧ (SqL K H A (av.map V.int) ∨ SqT K H A (av.map V.int)) ∧ SqL K H m.I (ims.map refI) ∧ ims.length ≤ 100 ∧ ws.length ≤ 9000 ∧ m.rows ≤ 100 ∧ m.ms.length ≤ 8 ∧ 1 ≤ m.data ∧ m.data + m.par ≤ 8 ∧
  (1000 * m.data < ws.length → ∀ H', Same H H' → E (.ref a.c_InvalidArgument) none H') ∧
  (ws.length ≤ 1000 * m.data → (m.ms.filter fun d => decide (d ∉ av)).length < m.data + m.par → ∀ H', Same H H' → E (.ref a.c_NotEnoughDisks) none H') ∧
  (ws.length ≤ 1000 * m.data → m.data + m.par ≤ (m.ms.filter fun d => decide (d ∉ av)).length → m.bl.length + 18 < m.rows ∧ m.bl.length ≤ 50 ∧
    ∀ (b : Blk) (H' : Hp), Stor a H' S (m.put b) → b.mem = true → b.s = m.made → b.ws = ws → b.L.length = m.data + m.par → (∀ e ∈ b.L, e.2.1 ∉ av) → (∀ x o, H x = some o → ¬ StR S m x → H' x = some o) → (∀ x, StR S (m.put b) x → StR S m x ∨ H x = none) → Q (.ref b.T) H')
theorem sp_Store_put_len {K : PySem.W.Frag} {a : Ad} {vs : List V} {H : Hp} {Q : VK} {E : XK} (h : sp_Store_put K a vs H Q E) : vs.length = 3 := by
  obtain ⟨S, W, A, m, ws, av, ims, rfl, _⟩ := h
  rfl
/-- some of the blocks go -/
def sp_Store_forget (K : PySem.W.Frag) (a : Ad) : Sp := fun vs H Q _ => ∃ (S P : Addr) (m : SM) (gs : List Blk) (ψ : Int → Int → Int), vs = [.ref S, .ref P] ∧ StorP a H S m ψ ∧ SqL K H P (gs.map fun b => V.ref b.T) ∧ ¬ StR S m P ∧ gs.Sublist m.bl ∧ m.bl.length ≤ 50 ∧ m.rows ≤ 1000 ∧ (∀ b ∈ gs, ∀ q ∈ b.L, ψ q.2.1 q.2.2 = 1 ∨ ψ q.2.1 q.2.2 = 2) ∧
  ∀ (H' : Hp), StorP a H' S (m.with (m.bl.filter fun b => decide (b.s ∉ gs.map (·.s)))) (giveF ψ (plcs gs)) → (∀ x o, H x = some o → ¬ StR S m x → H' x = some o) → Q .non H'
theorem sp_Store_forget_len {K : PySem.W.Frag} {a : Ad} {vs : List V} {H : Hp} {Q : VK} {E : XK} (h : sp_Store_forget K a vs H Q E) : vs.length = 2 := by
  obtain ⟨S, P, m, gs, ψ, rfl, _⟩ := h
  rfl
/-- m' is m, but for its blocks and their rows -/
structure Cm (m m' : SM) : Prop where
  data : m'.data = m.data
  par : m'.par = m.par
  rows : m'.rows = m.rows
  made : m'.made = m.made
  ep : m'.ep = m.ep
  I : m'.I = m.I
/-- what a commit writes: the pieces of the new blocks that are kept, in their order -/
noncomputable def comB (ims : List (Option Addr)) (m : SM) (b : Blk) : List (Int × Int × List Int) := reqM ims (b.L.map (·.2)) m.ep b.s (stripeM b.ws m.data b.L.length) (List.range b.L.length)
noncomputable def comM (ims : List (Option Addr)) (m : SM) (ls : List Blk) : List (Int × Int × List Int) := ((m.bl.filter fun b => b.mem).filter fun b => decide (b.s ∈ ls.map (·.s))).flatMap (comB ims m)
/-- a list of write requests, and one flush -/
structure WFl (H : Hp) (D F : Addr) (L : List Rq) : Prop where
  d : H D = some (.lst (L.map rqV ++ [.ref F]))
  f : H F = some (.tup [.str "flush"])
  t : ∀ e ∈ L, H e.t = some (.tup [.str "write", .int e.d, .int e.r, .ref e.s])
  s : ∀ e ∈ L, H e.s = some (.lst (e.ws.map V.int))
  n : ∀ e ∈ L, e.t ≠ D ∧ e.s ≠ D
/-- a request that is new since H0, and not the list at R -/
structure RqN (H0 H : Hp) (R : Addr) (e : Rq) : Prop where
  t : H e.t = some (.tup [.str "write", .int e.d, .int e.r, .ref e.s])
  s : H e.s = some (.lst (e.ws.map V.int))
  nt : H0 e.t = none
  ns : H0 e.s = none
  tR : e.t ≠ R
  sR : e.s ≠ R
theorem RqN.same {H0 H H' : Hp} {R : Addr} {e : Rq} (h : RqN H0 H R e) (s : Same H H') : RqN H0 H' R e := ⟨s _ _ h.t, s _ _ h.s, h.nt, h.ns, h.tR, h.sR⟩
theorem RqN.put {H0 H : Hp} {R : Addr} {e : Rq} {o : HO} (h : RqN H0 H R e) : RqN H0 (upd H R o) R e := ⟨(upd_ne h.tR).trans h.t, (upd_ne h.sR).trans h.s, h.nt, h.ns, h.tR, h.sR⟩
theorem RqN.off {H0 H : Hp} {R x : Addr} {e : Rq} {o u : HO} (h : RqN H0 H R e) (hx : H0 x = some u) : RqN H0 (upd H x o) R e := ⟨(upd_ne (ne_of_none hx h.nt).symm).trans h.t, (upd_ne (ne_of_none hx h.ns).symm).trans h.s, h.nt, h.ns, h.tR, h.sR⟩
def sp_Store_commit (K : PySem.W.Frag) (a : Ad) : Sp := fun vs H Q _ => ∃ (S LV : Addr) (m : SM) (ls : List Blk) (ims : List (Option Addr)), vs = [.ref S, .ref LV] ∧ Stor a H S m ∧ SqL K H LV (ls.map fun b => V.ref b.T) ∧ (∀ b ∈ ls, b ∈ m.bl) ∧ ls.length ≤ 100 ∧ m.bl.length ≤ 50 ∧ m.rows ≤ 1000 ∧ SqL K H m.I (ims.map refI) ∧ ims.length ≤ 100 ∧ 1 ≤ m.data ∧ (0 ≤ m.ep ∧ m.ep < 65521) ∧ m.made ≤ 100000 ∧ m.ms.length ≤ 8 ∧ (∀ b ∈ m.bl, b.mem = true → b.ws.length ≤ 400 ∧ m.data ≤ b.L.length) ∧
  ∀ (D F : Addr) (L : List Rq) (m' : SM) (H' : Hp), Stor a H' S m' → Cm m m' → m'.ms = m.ms → m'.bl = ((m.bl.filter fun b => decide (b.s ∈ ls.map (·.s))).map fun b => { b with mem := false }) → (∀ x o, H x = some o → ¬ StR S m x → H' x = some o) → (∀ x, StR S m' x → StR S m x ∨ H x = none) →
    WFl H' D F L → L.map rqM = comM ims m ls → (∀ x, x = D ∨ x = F ∨ (∃ e ∈ L, x = e.t ∨ x = e.s) → H x = none ∧ ¬ StR S m' x) → Q (.ref D) H'
theorem sp_Store_commit_len {K : PySem.W.Frag} {a : Ad} {vs : List V} {H : Hp} {Q : VK} {E : XK} (h : sp_Store_commit K a vs H Q E) : vs.length = 2 := by
  obtain ⟨S, LV, m, ls, ims, rfl, _⟩ := h
  rfl
/-! what repair_stripe finds at the places: good pieces or none -/
def OsAt (st : Sts) (pls : List (Int × Int)) (e s : Int) (n : Nat) (os : List (Option (List Int))) : Prop := os.length = pls.length ∧ ∀ (i : Nat) (q : Int × Int) (o : Option (List Int)), pls[i]? = some q → os[i]? = some o → GpIs st q.1.toNat q.2.toNat e s n o
def presO (os : List (Option (List Int))) : List Nat := (List.range os.length).filter fun i => (os.getD i none).isSome
/-- those that are away, or in C -/
def brkM (os : List (Option (List Int))) (C : List Nat) : List Nat := (List.range os.length).filter fun i => decide (i ∈ C) || (os.getD i none).isNone
def Off (os : List (Option (List Int))) (C : List Nat) (G : List (List Int)) : Prop := (∀ (i : Nat) (ws : List Int), os[i]? = some (some ws) → i ∉ C → ws = G.getD i []) ∧ ∀ i ∈ C, ∃ ws, os[i]? = some (some ws) ∧ ws ≠ G.getD i []
abbrev sndO (F : List ORow) : List (Option (List Int)) := F.map fun o => o.map Prod.snd
theorem sndO_get {F : List ORow} {i : Nat} {o : ORow} (h : F[i]? = some o) : (sndO F)[i]? = some (o.map Prod.snd) := by rw [List.getElem?_map, h]; rfl
theorem presM_snd (F : List ORow) : presM F = presO (sndO F) := by
  unfold presM presO
  rw [List.length_map]
  refine List.filter_congr fun i m => ?_
  have li := List.mem_range.mp m
  have hi : F[i]? = some F[i] := List.getElem?_eq_getElem li
  rw [getD_item hi, getD_item (sndO_get hi)]
  cases F[i] <;> rfl
theorem good_words {sc : List Int} {k d r : Int} (h : Good sc k d r) : ∀ w ∈ payM sc, Wd w := fun w m => h.2.2.2.1 w (by
  unfold payM at m
  exact List.mem_of_mem_drop (List.mem_of_mem_take m))
theorem os_words {st : Sts} {pls : List (Int × Int)} {e s : Int} {n : Nat} {os : List (Option (List Int))} (h : OsAt st pls e s n os) : ∀ (i : Nat) (ws : List Int), os[i]? = some (some ws) → ws.length = n ∧ ∀ w ∈ ws, Wd w := fun i ws hi => by
  obtain ⟨q, hq⟩ : ∃ q, pls[i]? = some q := ⟨_, List.getElem?_eq_getElem (by rw [← h.1]; exact item_lt hi)⟩
  obtain ⟨sc, _, g, _, l, e⟩ := h.2 i q _ hq hi
  exact ⟨by rw [← e, l], by rw [← e]; exact good_words g⟩
/-! the changed ones of a stripe -/
theorem changed_cul2 {F : List ORow} {d n : Nat} {C : List Nat} {G : Nat → List Int} (hF : RowsW F n) (hG : ∀ t, t < n → ∃ f, Pol d f ∧ ∀ k : Nat, k < F.length → z ((G k).getD t 0) = f (z (k : Int))) (hC : C.Nodup) (h2 : 2 * C.length + d ≤ (presM F).length) (hr : ∀ i ∈ presM F, i ∉ C → (rowAt F i).2 = G i) :
    Cul F d n ((presM F).filter fun x => decide (x ∈ C)) := by
  have nd := presM_nodup F
  have lc : ((presM F).filter fun x => decide (x ∈ C)).length ≤ C.length := List.Nodup.length_le_of_subset (nd.sublist (List.filter_sublist ..)) fun x m => of_decide_eq_true (List.mem_filter.mp m).2
  have k := less_len ((presM F).filter fun x => decide (x ∈ C)) nd
  refine ⟨List.filter_sublist .., by omega, agr_pols hF (less_pair (presM_pair F)) (fun i m => (less_mem.mp m).1) (by omega) fun t ht => ?_⟩
  obtain ⟨f, hf, e⟩ := hG t ht
  refine ⟨f, hf, fun i m => ?_⟩
  obtain ⟨m1, m2⟩ := less_mem.mp m
  rw [hr i m1 fun q => m2 (List.mem_filter.mpr ⟨m1, decide_eq_true q⟩)]
  exact e i (presM_lt m1).1
theorem changed_least2 {F : List ORow} {d n : Nat} {C S : List Nat} {G : Nat → List Int} (hF : RowsW F n) (hG : ∀ t, t < n → ∃ f, Pol d f ∧ ∀ k : Nat, k < F.length → z ((G k).getD t 0) = f (z (k : Int))) (hl : ∀ k, k < F.length → (G k).length = n ∧ ∀ w ∈ G k, Wd w) (hC : C.Nodup) (h2 : 2 * C.length + d ≤ (presM F).length) (hr : ∀ i ∈ presM F, i ∉ C → (rowAt F i).2 = G i)
    (hn : ∀ i ∈ C, (rowAt F i).2 ≠ G i) (hS : Least F d n S) : S = (presM F).filter fun x => decide (x ∈ C) := by
  have hc := changed_cul2 hF hG hC h2 hr
  have nd := presM_nodup F
  have h6 : ∀ i ∈ presM F, i < 60000 := fun i m => by have := (presM_lt m).1; have := hF.1; omega
  have lc : ((presM F).filter fun x => decide (x ∈ C)).length ≤ C.length := List.Nodup.length_le_of_subset (nd.sublist (List.filter_sublist ..)) fun x m => of_decide_eq_true (List.mem_filter.mp m).2
  have ls := hS.2 _ hc
  have sin := least_in hF hS hc
  rw [← sub_filter nd hS.1.1]
  refine List.filter_congr fun x mx => ?_
  have : x ∈ S ↔ x ∈ C := by
    refine ⟨fun q => of_decide_eq_true (List.mem_filter.mp (sin x q)).2, fun q => Classical.byContradiction fun no => hn x q ?_⟩
    obtain ⟨rl, rw'⟩ := hF.2 x mx
    have lx := (presM_lt mx).1
    obtain ⟨gl, gw⟩ := hl x lx
    refine List.ext_getElem (by rw [rl, gl]) fun t h1 h3 => ?_
    have ht : t < n := by omega
    have k1 := less_len S nd
    have k4 := less_len (S ++ C) nd
    rw [List.length_append] at k4
    obtain ⟨g, hg, e⟩ := agr_pol (less_pair (presM_pair F)) (fun i m => h6 i (less_mem.mp m).1) (by omega) ht hS.1.2.2
    obtain ⟨f, hf, hfG⟩ := hG t ht
    have same : ∀ y, g y = f y := pol_one hF.1 ((less_pair (S := S ++ C) (presM_pair F)).imp fun h => Nat.ne_of_lt h) (fun i m => (less_mem.mp m).1) (by omega) hg hf fun i m => by
      obtain ⟨m1, m2⟩ := less_mem.mp m
      rw [← e i (less_mem.mpr ⟨m1, fun q => m2 (List.mem_append.mpr (.inl q))⟩), hr i m1 fun q => m2 (List.mem_append.mpr (.inr q)), hfG i (presM_lt m1).1]
    have e1 := e x (less_mem.mpr ⟨mx, no⟩)
    rw [same, ← hfG x lx] at e1
    have g2 : (rowAt F x).2.getD t 0 = (rowAt F x).2[t] := getD_item (List.getElem?_eq_getElem h1)
    have g3 : (G x).getD t 0 = (G x)[t] := getD_item (List.getElem?_eq_getElem h3)
    rw [g2, g3] at e1
    have w1 := rw' _ (List.getElem_mem h1)
    have w2 := gw _ (List.getElem_mem h3)
    exact z_inj w1.1 w1.2 w2.1 w2.2 e1
  simp [this]
/-! reading and repairing committed blocks -/
def sp_read_stripe (K : PySem.W.Frag) (a : Ad) : Sp := fun vs H Q E => ∃ (X : Addr → Prop) (I P Sa : Addr) (st : Sts) (pls : List (Int × Int)) (e s : Int) (W : List Int) (d : Nat) (gs : List Bool), vs = [.ref I, .ref P, .ref Sa, .int (W.length : Nat), .int (d : Int)] ∧ ImM H X I st ∧ st.length ≤ 100 ∧ (∀ (i : Nat) (dk : DkO), st[i]? = some (some dk) → dk.rows.length ≤ 100) ∧
  PtsT K H P pls ∧ PlOk pls ∧ SqT K H Sa [.int e, .int s] ∧ 1 ≤ d ∧ d ≤ pls.length ∧ pls.length ≤ 6 ∧ W.length ≤ 100 ∧ (∀ w ∈ W, Wd w) ∧ PcOk st pls e s W d gs ∧
  ((gs.filter id).length < d → ∀ H', Same H H' → E (.ref a.c_Damaged) none H') ∧
  (d ≤ (gs.filter id).length → ∀ (D : Addr) (H' : Hp), Same H H' → H' D = some (.lst (W.map V.int)) → Q (.ref D) H')
theorem sp_read_stripe_len {K : PySem.W.Frag} {a : Ad} {vs : List V} {H : Hp} {Q : VK} {E : XK} (h : sp_read_stripe K a vs H Q E) : vs.length = 5 := by
  obtain ⟨X, I, P, Sa, st, pls, e, s, W, d, gs, rfl, _⟩ := h
  rfl
def sp_repair_stripe (K : PySem.W.Frag) (a : Ad) : Sp := fun vs H Q E => ∃ (X : Addr → Prop) (I P Sa : Addr) (st : Sts) (pls : List (Int × Int)) (e s : Int) (W : List Int) (d : Nat) (os : List (Option (List Int))) (C : List Nat), vs = [.ref I, .ref P, .ref Sa, .int (W.length : Nat), .int (d : Int)] ∧ ImM H X I st ∧ st.length ≤ 100 ∧ (∀ (i : Nat) (dk : DkO), st[i]? = some (some dk) → dk.rows.length ≤ 100) ∧
  PtsT K H P pls ∧ PlOk pls ∧ SqT K H Sa [.int e, .int s] ∧ Stp e s ∧ 1 ≤ d ∧ d ≤ pls.length ∧ pls.length ≤ 6 ∧ W.length ≤ 100 ∧ (∀ w ∈ W, Wd w) ∧ OsAt st pls e s (sizeM W.length d) os ∧ C.Nodup ∧ Off os C (stripeM W d pls.length) ∧ ((presO os).length < d ∨ 2 * C.length + d ≤ (presO os).length) ∧
  ((presO os).length < d → ∀ H', Same H H' → E (.ref a.c_Damaged) none H') ∧
  (2 * C.length + d ≤ (presO os).length → ∀ (D : Addr) (L : List Rq) (H' : Hp), Same H H' → H D = none → WRq H' D L → L.map rqM = reqM (adrs st) pls e s (stripeM W d pls.length) (brkM os C) → (∀ e ∈ L, H e.t = none ∧ H e.s = none) → Q (.ref D) H')
theorem sp_repair_stripe_len {K : PySem.W.Frag} {a : Ad} {vs : List V} {H : Hp} {Q : VK} {E : XK} (h : sp_repair_stripe K a vs H Q E) : vs.length = 5 := by
  obtain ⟨X, I, P, Sa, st, pls, e, s, W, d, os, C, rfl, _⟩ := h
  rfl
/-- what stands at a block's places: its own pieces, or none that is good -/
structure BOk (st : Sts) (m : SM) (b : Blk) (os : List (Option (List Int))) : Prop where
  at' : OsAt st (b.L.map (·.2)) m.ep b.s (sizeM b.ws.length m.data) os
  off : Off os [] (stripeM b.ws m.data (b.L.map (·.2)).length)
  d : m.data ≤ b.L.length
  l : b.L.length ≤ 6
  w : b.ws.length ≤ 100
  ww : ∀ x ∈ b.ws, Wd x
def gsO (os : List (Option (List Int))) : List Bool := os.map Option.isSome
theorem gs_pres (os : List (Option (List Int))) : ((gsO os).filter id).length = (presO os).length := by
  unfold gsO presO
  have : ∀ l : List (Option (List Int)), ((l.map Option.isSome).filter id).length = ((List.range l.length).filter fun i => (l.getD i none).isSome).length := fun l => by
    refine rev_ind (P := fun l : List (Option (List Int)) => ((l.map Option.isSome).filter id).length = ((List.range l.length).filter fun i => (l.getD i none).isSome).length) rfl (fun l o ih => ?_) l
    rw [List.map_append, List.filter_append, List.length_append, List.length_append, List.length_singleton, List.range_succ, List.filter_append, List.length_append, ih]
    congr 1
    · congr 1
      refine List.filter_congr fun i mi => ?_
      have := List.mem_range.mp mi
      rw [List.getD_eq_getElem?_getD, List.getD_eq_getElem?_getD, List.getElem?_append_left this]
    · cases o <;> simp [List.filter_cons]
  exact this os
theorem BOk.pc {st : Sts} {m : SM} {b : Blk} {os : List (Option (List Int))} (h : BOk st m b os) : PcOk st (b.L.map (·.2)) m.ep b.s b.ws m.data (gsO os) := by
  refine ⟨by unfold gsO; rw [List.length_map]; exact h.at'.1, fun i q g hq hg => ?_⟩
  unfold gsO at hg
  rw [List.getElem?_map] at hg
  cases z : os[i]? with
  | none => rw [z] at hg; cases hg
  | some o =>
    rw [z] at hg
    obtain rfl : o.isSome = g := Option.some.inj hg
    have := h.at'.2 i q o hq z
    cases o with
    | none => exact this
    | some ws =>
      have e := h.off.1 i ws z (by simp)
      rw [← e]
      exact this
theorem StorP.plok {a : Ad} {H : Hp} {S : Addr} {m : SM} {ψ : Int → Int → Int} (h : StorP a H S m ψ) {b : Blk} (mb : b ∈ m.bl) (hr : m.rows ≤ 4000) : PlOk (b.L.map (·.2)) := fun q mq => by
  obtain ⟨e, me, rfl⟩ := List.mem_map.mp mq
  obtain ⟨r1, r2⟩ := h.row b mb e me
  have r3 := h.m0 _ r1
  omega
theorem BlkAt.pts {K : PySem.W.Frag} {H : Hp} {ep : Int} {b : Blk} (h : BlkAt H ep b) : PtsT K H b.PT (b.L.map (·.2)) := ⟨b.L, SqT.of h.pt, rfl, fun e me => SqT.of (h.q e me)⟩
def sp_Store_get (K : PySem.W.Frag) (a : Ad) : Sp := fun vs H Q _ => ∃ (S : Addr) (m : SM) (b : Blk) (X : Addr → Prop) (st : Sts) (os : List (Option (List Int))), vs = [.ref S, .ref b.T] ∧ Stor a H S m ∧ b ∈ m.bl ∧ b.mem = false ∧ m.rows ≤ 1000 ∧ 1 ≤ m.data ∧ ImM H X m.I st ∧ st.length ≤ 100 ∧ (∀ (i : Nat) (dk : DkO), st[i]? = some (some dk) → dk.rows.length ≤ 100) ∧ BOk st m b os ∧ m.data ≤ (presO os).length ∧
  ∀ (D : Addr) (H' : Hp), Same H H' → H' D = some (.lst (b.ws.map V.int)) → Q (.ref D) H'
theorem sp_Store_get_len {K : PySem.W.Frag} {a : Ad} {vs : List V} {H : Hp} {Q : VK} {E : XK} (h : sp_Store_get K a vs H Q E) : vs.length = 2 := by
  obtain ⟨S, m, b, X, st, os, rfl, _⟩ := h
  rfl
noncomputable def repB (st : Sts) (m : SM) (os : Blk → List (Option (List Int))) (b : Blk) : List (Int × Int × List Int) := reqM (adrs st) (b.L.map (·.2)) m.ep b.s (stripeM b.ws m.data (b.L.map (·.2)).length) (brkM (os b) [])
def sp_Store_repairs (K : PySem.W.Frag) (a : Ad) : Sp := fun vs H Q E => ∃ (S LV : Addr) (m : SM) (ls : List Blk) (X : Addr → Prop) (st : Sts) (os : Blk → List (Option (List Int))), vs = [.ref S, .ref LV] ∧ Stor a H S m ∧ SqL K H LV (ls.map fun b => V.ref b.T) ∧ (∀ b ∈ ls, b ∈ m.bl) ∧ ls.length ≤ 100 ∧ m.bl.length ≤ 50 ∧ m.rows ≤ 1000 ∧ 1 ≤ m.data ∧ (0 ≤ m.ep ∧ m.ep < 65521) ∧ m.made ≤ 100000 ∧ ImM H X m.I st ∧ st.length ≤ 100 ∧ (∀ (i : Nat) (dk : DkO), st[i]? = some (some dk) → dk.rows.length ≤ 100) ∧ (∀ b ∈ ls, b.mem = false → BOk st m b (os b)) ∧
  ((∃ b ∈ ls, b.mem = false ∧ (presO (os b)).length < m.data) → ∀ H', Same H H' → E (.ref a.c_Damaged) none H') ∧
  ((∀ b ∈ ls, b.mem = false → m.data ≤ (presO (os b)).length) → ∀ (D : Addr) (L : List Rq) (rs : List Blk) (H' : Hp), Same H H' → H D = none → WRq H' D L → (∀ e ∈ L, H e.t = none ∧ H e.s = none) → (∀ b, b ∈ rs ↔ b ∈ ls ∧ b.mem = false) → L.map rqM = rs.flatMap (repB st m os) → L.length ≤ 400 → Q (.ref D) H')
theorem sp_Store_repairs_len {K : PySem.W.Frag} {a : Ad} {vs : List V} {H : Hp} {Q : VK} {E : XK} (h : sp_Store_repairs K a vs H Q E) : vs.length = 2 := by
  obtain ⟨S, LV, m, ls, X, st, os, rfl, _⟩ := h
  rfl
theorem bxs_put {ep : Int} {rs : List Blk} {b : Blk} (n : b.s ∉ rs.map (·.s)) : L2.putN (bxs ep rs) (keyB ep b) b.T (.bl true) = bxs ep (rs ++ [b]) := by
  rw [L2.putN_new fun x mx z => ?_]
  · unfold bxs
    rw [List.map_append]
    rfl
  · obtain ⟨c, mc, rfl⟩ := List.mem_map.mp mx
    exact n (List.mem_map.mpr ⟨c, mc, keyB_inj z⟩)
theorem bxs_again {ep : Int} {rs : List Blk} {b : Blk} (h : b ∈ rs) : L2.putN (bxs ep rs) (keyB ep b) b.T (.bl true) = bxs ep rs := by
  have e : (L2.atN (bxs ep rs) (keyB ep b)).isSome = true := L2.atN_iff.mpr ⟨(keyB ep b, b.T, V.bl true), List.mem_map.mpr ⟨b, h, rfl⟩, rfl⟩
  unfold L2.putN
  rw [if_pos e]
  unfold bxs
  rw [List.map_map]
  refine List.map_congr_left fun c mc => ?_
  show (if keyB ep c = keyB ep b then (keyB ep c, c.T, V.bl true) else (keyB ep c, c.T, V.bl true)) = _
  split <;> rfl
/-! the law's own -/
/-! the law's own: k29 -/
def sp_law_carry (K : PySem.W.Frag) (a : Ad) : Sp := fun vs H Q _ => ∃ (X : Addr → Prop) (I R : Addr) (st : Sts) (rs : List Rq) (fs : List Addr) (n : Nat), vs = [.ref I, .ref R] ∧ ImM H X I st ∧ st.length ≤ 100 ∧ n ≤ 100 ∧ (∀ (i : Nat) (dk : DkO), st[i]? = some (some dk) → dk.rows.length = n) ∧ H R = some (.lst (rs.map rqV ++ fs.map V.ref)) ∧ (∀ e ∈ rs, H e.t = some (.tup [.str "write", .int e.d, .int e.r, .ref e.s]) ∧ H e.s = some (.lst (e.ws.map V.int))) ∧ (∀ f ∈ fs, H f = some (.tup [.str "flush"])) ∧ rs.length + fs.length ≤ 1000 ∧ ¬ mutS X I st R ∧
  (∀ e ∈ rs, ¬ mutS X I st e.s ∧ e.ws.length ≤ 1008 ∧ 0 ≤ e.d ∧ e.d < (st.length : Nat) ∧ 0 ≤ e.r ∧ e.r < (n : Nat)) ∧
  ∀ H', ImM H' X I (carryM st rs) → (∀ b o, H b = some o → ¬ dkS st b → H' b = some o) → (∀ b, H' b = none → H b = none) → Q .non H'
theorem sp_law_carry_len {K : PySem.W.Frag} {a : Ad} {vs : List V} {H : Hp} {Q : VK} {E : XK} (h : sp_law_carry K a vs H Q E) : vs.length = 2 := by
  obtain ⟨X, I, R, st, rs, fs, n, rfl, _⟩ := h
  rfl
def sp_law_spoil (K : PySem.W.Frag) (a : Ad) : Sp := fun vs H Q _ => ∃ (X : Addr → Prop) (p l I : Addr) (st : Sts) (dk : DkO) (d r : Nat) (sc : Addr × List Int), vs = [.ref p, .ref dk.A, .int (r : Int)] ∧ Pot H p l ∧ X p ∧ (∀ q, H q = none → ¬ X q) ∧ ImM H X I st ∧ ¬ dkS st l ∧ st[d]? = some (some dk) ∧ dk.rows[r]? = some (some sc) ∧ dk.rows.length ≤ 100 ∧ 0 < sc.2.length ∧ sc.2.length ≤ 60 ∧ (∀ w ∈ sc.2, Wd w) ∧
  ∀ (o : Option (Addr × List Int)) (H' : Hp), Pot H' p l → ImM H' X I (putS st d r o) → (∀ b u, H b = some u → b ≠ p → b ≠ dk.A → H' b = some u) → (∀ b, H' b = none → H b = none) → (∀ sc', o = some sc' → H sc'.1 = none ∧ ∃ (i : Nat) (v : Int), i < sc.2.length ∧ Wd v ∧ z v ≠ z (sc.2.getD i 0) ∧ sc'.2 = sc.2.set i v) → Q .non H'
theorem sp_law_spoil_len {K : PySem.W.Frag} {a : Ad} {vs : List V} {H : Hp} {Q : VK} {E : XK} (h : sp_law_spoil K a vs H Q E) : vs.length = 3 := by
  obtain ⟨X, p, l, I, st, dk, d, r, sc, rfl, _⟩ := h
  rfl
def sp_law_refused (K : PySem.W.Frag) (a : Ad) : Sp := fun vs H Q _ => ∃ (S LV : Addr) (m : SM) (ls : List Blk) (X : Addr → Prop) (st : Sts) (os : Blk → List (Option (List Int))), vs = [.ref S, .ref LV] ∧ Stor a H S m ∧ SqL K H LV (ls.map fun b => V.ref b.T) ∧ (∀ b ∈ ls, b ∈ m.bl) ∧ ls.length ≤ 100 ∧ m.bl.length ≤ 50 ∧ m.rows ≤ 1000 ∧ 1 ≤ m.data ∧ (0 ≤ m.ep ∧ m.ep < 65521) ∧ m.made ≤ 100000 ∧ ImM H X m.I st ∧ st.length ≤ 100 ∧ (∀ (i : Nat) (dk : DkO), st[i]? = some (some dk) → dk.rows.length ≤ 100) ∧ (∀ b ∈ ls, b.mem = false → BOk st m b (os b)) ∧
  (∃ b ∈ ls, b.mem = false ∧ (presO (os b)).length < m.data) ∧ ∀ H', Same H H' → Q (.bl true) H'
theorem sp_law_refused_len {K : PySem.W.Frag} {a : Ad} {vs : List V} {H : Hp} {Q : VK} {E : XK} (h : sp_law_refused K a vs H Q E) : vs.length = 2 := by
  obtain ⟨S, LV, m, ls, X, st, os, rfl, _⟩ := h
  rfl
/-! a store, a pot, images: what may change, and what stays -/
def XX (S : Addr) (m : SM) (p q : Addr) : Prop := q = p ∨ StR S m q
abbrev Mu (S p : Addr) (m : SM) (st : Sts) (q : Addr) : Prop := mutS (XX S m p) m.I st q
def Kp (M : Addr → Prop) (H : Hp) (M' : Addr → Prop) (H' : Hp) : Prop := ∀ q o, H q = some o → ¬ M q → H' q = some o ∧ ¬ M' q
theorem Kp.trans {M M1 M2 : Addr → Prop} {H H1 H2 : Hp} (x : Kp M H M1 H1) (y : Kp M1 H1 M2 H2) : Kp M H M2 H2 := fun q o e n => y q o (x q o e n).1 (x q o e n).2
theorem Kp.same {M : Addr → Prop} {H H' : Hp} (s : Same H H') : Kp M H M H' := fun q o e n => ⟨s _ _ e, n⟩
structure W29 (a : Ad) (H : Hp) (S p l : Addr) (m : SM) (st : Sts) : Prop where
  s : Stor a H S m
  P : Pot H p l
  im : ImM H (XX S m p) m.I st
  pS : ¬ StR S m p
  lm : ¬ Mu S p m st l
section
variable {a : Ad} {H H' : Hp} {S p l : Addr} {m : SM} {st : Sts}
theorem W29.off (w : W29 a H S p l m st) {q : Addr} (n : H q = none) : ¬ Mu S p m st q := by
  obtain ⟨_, _, _, hp⟩ := w.P.list
  rintro ((rfl | r) | rfl | ⟨i, dk, g, rfl⟩)
  · rw [hp] at n; cases n
  · exact w.s.fresh n r
  · rw [w.im.hI] at n; cases n
  · rw [(w.im.hD i dk g).1] at n; cases n
theorem W29.same (w : W29 a H S p l m st) (s : Same H H') : W29 a H' S p l m st := ⟨w.s.same s, w.P.same s, w.im.same s, w.pS, w.lm⟩
theorem W29.draw (w : W29 a H S p l m st) (P' : Pot H' p l) (o : But p H H') : W29 a H' S p l m st ∧ Kp (Mu S p m st) H (Mu S p m st) H' :=
  ⟨⟨w.s.keep fun b u e r => o _ _ e fun z => w.pS (by rw [← z]; exact r), P', w.im.draw o (.inl rfl), w.pS, w.lm⟩, fun q u e n => ⟨o _ _ e fun z => n (.inl (.inl z)), n⟩⟩
theorem W29.upd (w : W29 a H S p l m st) {q : Addr} {o : HO} (n : ¬ Mu S p m st q) (nl : q ≠ l) (ns : ∀ (i : Nat) (dk : DkO) (r : Nat) (sc : Addr × List Int), st[i]? = some (some dk) → dk.rows[r]? = some (some sc) → q ≠ sc.1) : W29 a (upd H q o) S p l m st := by
  have k : ∀ b u, H b = some u → b ≠ q → L2.upd H q o b = some u := fun b u e z => by rw [upd_ne z]; exact e
  have mu : ∀ b, Mu S p m st b → b ≠ q := fun b h z => n (by rw [← z]; exact h)
  refine ⟨w.s.put fun r => n (.inl (.inr r)), w.P.only Only.upd (fun z => n (.inl (.inl z.symm))) nl.symm, ⟨k _ _ w.im.hI (mu _ (.inr (.inl rfl))), w.im.ip, fun i dk g => ⟨k _ _ (w.im.hD i dk g).1 (mu _ (.inr (.inr ⟨i, dk, g, rfl⟩))), (w.im.hD i dk g).2⟩, w.im.hU, fun i dk r sc g1 g2 => ⟨k _ _ (w.im.hR i dk r sc g1 g2).1 (ns i dk r sc g1 g2).symm, (w.im.hR i dk r sc g1 g2).2⟩⟩, w.pS, w.lm⟩
theorem W29.store (w : W29 a H S p l m st) {m' : SM} (s' : Stor a H' S m') (eI : m'.I = m.I) (fr : ∀ x o, H x = some o → ¬ StR S m x → H' x = some o) (up : ∀ x, StR S m' x → StR S m x ∨ H x = none) : W29 a H' S p l m' st ∧ Kp (Mu S p m st) H (Mu S p m' st) H' := by
  obtain ⟨ns, i, acc, seed, h1, h2, h3⟩ := w.P
  have old : ∀ {x o}, H x = some o → StR S m' x → StR S m x := fun {x o} e r => by
    rcases up x r with z | z
    · exact z
    · rw [z] at e; cases e
  have mm : ∀ {x o}, H x = some o → ¬ Mu S p m st x → ¬ Mu S p m' st x := fun {x o} e n => by
    rintro ((z | r) | z | z)
    · exact n (.inl (.inl z))
    · exact n (.inl (.inr (old e r)))
    · exact n (.inr (.inl (by rw [z, eI])))
    · exact n (.inr (.inr z))
  have im2 : ImM H (fun q => XX S m p q ∨ XX S m' p q) m.I st := w.im.more fun q o e => by
    rintro (z | z | z)
    · exact z
    · exact .inl z
    · exact .inr (old e z)
  have im3 : ImM H' (fun q => XX S m p q ∨ XX S m' p q) m.I st := im2.but fun q o e n => fr q o e fun r => n (.inl (.inr r))
  refine ⟨⟨s', ⟨ns, i, acc, seed, fr _ _ h1 w.pS, fr _ _ h2 fun r => w.lm (.inl (.inr r)), h3⟩, ?_, fun r => w.pS (old h1 r), mm h2 w.lm⟩, fun q o e n => ⟨fr _ _ e fun r => n (.inl (.inr r)), mm e n⟩⟩
  rw [eI]
  exact im3.more fun q o _ h => .inr h
/-- the images are other ones now -/
theorem W29.img (w : W29 a H S p l m st) {st' : Sts} (P' : Pot H' p l) (im' : ImM H' (XX S m p) m.I st') (fr : ∀ q o, H q = some o → q ≠ p → q ≠ m.I → ¬ dkS st q → H' q = some o) (ds : ∀ q, dkS st' q → dkS st q ∨ H q = none) : W29 a H' S p l m st' ∧ Kp (Mu S p m st) H (Mu S p m st') H' := by
  obtain ⟨_, _, _, _, _, h2, _⟩ := id w.P
  have mm : ∀ {x o}, H x = some o → ¬ Mu S p m st x → ¬ Mu S p m st' x := fun {x o} e n => by
    rintro (z | z | z)
    · exact n (.inl z)
    · exact n (.inr (.inl z))
    · rcases ds x z with y | y
      · exact n (.inr (.inr y))
      · rw [y] at e; cases e
  refine ⟨⟨w.s.keep fun b u e r => fr b u e (fun z => w.pS (by rw [← z]; exact r)) (fun z => w.im.ip (.inr (by rw [← z]; exact r))) ?_, P', im', w.pS, mm h2 w.lm⟩, fun q u e n => ⟨fr q u e (fun z => n (.inl (.inl z))) (fun z => n (.inr (.inl z))) fun z => n (.inr (.inr z)), mm e n⟩⟩
  rintro ⟨i, dk, g, z⟩
  exact (w.im.hD i dk g).2.2 (.inr (by rw [← z]; exact r))
theorem W29.gone (w : W29 a H S p l m st) (d : Nat) : W29 a (L2.upd H m.I (.lst ((st.set d none).map dkV))) S p l m (st.set d none) ∧ Kp (Mu S p m st) H (Mu S p m (st.set d none)) (L2.upd H m.I (.lst ((st.set d none).map dkV))) := by
  obtain ⟨_, _, _, _, _, h2, _⟩ := id w.P
  refine w.img (w.P.only Only.upd (fun z => w.im.ip (.inl z.symm)) fun z => w.lm (.inr (.inl z))) (w.im.drop d) (fun q o e _ n _ => by rw [upd_ne n]; exact e) fun q z => ?_
  rcases setS_dkS z with y | ⟨dk, y, _⟩
  · exact .inl y
  · cases y
end
/-! sectors and pieces -/
theorem carry_get {st : Sts} {n : Nat} (hn : ∀ (i : Nat) (dk : DkO), st[i]? = some (some dk) → dk.rows.length = n) (x r : Nat) : ∀ rs : List Rq, (∀ e ∈ rs, Pres st e.d.toNat ∧ e.r.toNat < n) →
    (∃ e ∈ rs, e.d.toNat = x ∧ e.r.toNat = r ∧ secS (carryM st rs) x r = some (e.s, e.ws)) ∨ ((∀ e ∈ rs, ¬ (e.d.toNat = x ∧ e.r.toNat = r)) ∧ secS (carryM st rs) x r = secS st x r) := by
  refine rev_ind (P := fun rs : List Rq => (∀ e ∈ rs, Pres st e.d.toNat ∧ e.r.toNat < n) → (∃ e ∈ rs, e.d.toNat = x ∧ e.r.toNat = r ∧ secS (carryM st rs) x r = some (e.s, e.ws)) ∨ ((∀ e ∈ rs, ¬ (e.d.toNat = x ∧ e.r.toNat = r)) ∧ secS (carryM st rs) x r = secS st x r)) (fun _ => .inr ⟨fun _ m => (nomatch m), rfl⟩) fun rs e ih h => ?_
  have he := h e (by simp)
  have ih := ih fun x m => h x (List.mem_append_left _ m)
  rw [carry_snoc]
  by_cases c : e.d.toNat = x ∧ e.r.toNat = r
  · obtain ⟨c1, c2⟩ := c
    left
    refine ⟨e, by simp, c1, c2, ?_⟩
    obtain ⟨dk, g⟩ := (carry_pres st rs e.d.toNat).mpr he.1
    rw [c1] at g ⊢
    rw [← c2]
    exact putS_sec g (by rw [carry_rows hn rs x dk g]; exact he.2)
  · have ne : secS (putS (carryM st rs) e.d.toNat e.r.toNat (some (e.s, e.ws))) x r = secS (carryM st rs) x r := putS_sec_ne (by
      by_cases y : e.d.toNat = x
      · exact .inr fun w => c ⟨y, w⟩
      · exact .inl y)
    rw [ne]
    rcases ih with ⟨u, mu, e1, e2, e3⟩ | ⟨a1, a2⟩
    · exact .inl ⟨u, List.mem_append_left _ mu, e1, e2, e3⟩
    · refine .inr ⟨fun u mu => ?_, a2⟩
      rcases List.mem_append.mp mu with mu | mu
      · exact a1 u mu
      · rw [List.mem_singleton.mp mu]
        exact c
theorem mem_req {ims : List (Option Addr)} {pls : List (Int × Int)} {e s : Int} {rows : List (List Int)} {ns : List Nat} {u : Int × Int × List Int} : u ∈ reqM ims pls e s rows ns ↔ ∃ n ∈ ns, presentM ims (pls.getD n (0, 0)).1.toNat = true ∧ u = ((pls.getD n (0, 0)).1, (pls.getD n (0, 0)).2, sealM 3 (pls.getD n (0, 0)).1 (pls.getD n (0, 0)).2 e s (rows.getD n [])) := by
  unfold reqM
  rw [List.mem_flatMap]
  constructor
  · rintro ⟨n, mn, h⟩
    unfold oneM at h
    split at h
    · next c => exact ⟨n, mn, c, List.mem_singleton.mp h⟩
    · cases h
  · rintro ⟨n, mn, c, rfl⟩
    refine ⟨n, mn, ?_⟩
    unfold oneM
    rw [if_pos c]
    simp
noncomputable def rowB (m : SM) (b : Blk) (j : Nat) : List Int := (stripeM b.ws m.data b.L.length).getD j []
/-- the piece is the right one -/
def Rt (st : Sts) (m : SM) (b : Blk) (j : Nat) (q : Addr × Int × Int) : Prop := ∃ D, secS st q.2.1.toNat q.2.2.toNat = some (D, sealM 3 q.2.1 q.2.2 m.ep b.s (rowB m b j))
def AllR (st : Sts) (m : SM) (bl : List Blk) : Prop := ∀ b ∈ bl, ∀ (j : Nat) q, b.L[j]? = some q → Rt st m b j q
def OnlyR (st : Sts) (bl : List Blk) : Prop := ∀ (x r : Nat) sc, secS st x r = some sc → ∃ b ∈ bl, ∃ (j : Nat) (q : Addr × Int × Int), b.L[j]? = some q ∧ q.2.1 = (x : Int) ∧ q.2.2 = (r : Int)
/-- a request writes a piece -/
def PcReq (m : SM) (bl : List Blk) (u : Int × Int × List Int) : Prop := ∃ b ∈ bl, ∃ (j : Nat) (q : Addr × Int × Int), b.L[j]? = some q ∧ u = (q.2.1, q.2.2, sealM 3 q.2.1 q.2.2 m.ep b.s (rowB m b j))
theorem plc_get {b : Blk} {j : Nat} {q : Addr × Int × Int} (h : b.L[j]? = some q) : (b.L.map (·.2)).getD j (0, 0) = q.2 := getD_item (by rw [List.getElem?_map, h]; rfl)
theorem com_pc {ims : List (Option Addr)} {m : SM} {bl : List Blk} {u : Int × Int × List Int} (h : u ∈ bl.flatMap (comB ims m)) : PcReq m bl u := by
  obtain ⟨b, mb, h⟩ := List.mem_flatMap.mp h
  obtain ⟨n, mn, _, e⟩ := mem_req.mp h
  have ln := List.mem_range.mp mn
  have hq : b.L[n]? = some b.L[n] := List.getElem?_eq_getElem ln
  rw [plc_get hq] at e
  exact ⟨b, mb, n, _, hq, e⟩
theorem com_mem {ims : List (Option Addr)} {m : SM} {bl : List Blk} {b : Blk} (mb : b ∈ bl) {j : Nat} {q : Addr × Int × Int} (hq : b.L[j]? = some q) (hp : presentM ims q.2.1.toNat = true) : (q.2.1, q.2.2, sealM 3 q.2.1 q.2.2 m.ep b.s (rowB m b j)) ∈ bl.flatMap (comB ims m) := by
  refine List.mem_flatMap.mpr ⟨b, mb, mem_req.mpr ⟨j, List.mem_range.mpr (item_lt hq), ?_, ?_⟩⟩
  · rw [plc_get hq]; exact hp
  · rw [plc_get hq]; rfl
theorem rep_pc {st : Sts} {m : SM} {bl : List Blk} {os : Blk → List (Option (List Int))} {u : Int × Int × List Int} (hl : ∀ b ∈ bl, (os b).length = b.L.length) (h : u ∈ bl.flatMap (repB st m os)) : ∃ b ∈ bl, ∃ (j : Nat) (q : Addr × Int × Int), b.L[j]? = some q ∧ u = (q.2.1, q.2.2, sealM 3 q.2.1 q.2.2 m.ep b.s (rowB m b j)) ∧ j ∈ brkM (os b) [] := by
  obtain ⟨b, mb, h⟩ := List.mem_flatMap.mp h
  obtain ⟨n, mn, _, e⟩ := mem_req.mp h
  have ln : n < b.L.length := by rw [← hl b mb]; exact List.mem_range.mp (List.mem_filter.mp mn).1
  have hq : b.L[n]? = some b.L[n] := List.getElem?_eq_getElem ln
  rw [plc_get hq, List.length_map] at e
  exact ⟨b, mb, n, _, hq, e, mn⟩
theorem rep_mem {st : Sts} {m : SM} {bl : List Blk} {os : Blk → List (Option (List Int))} {b : Blk} (mb : b ∈ bl) {j : Nat} {q : Addr × Int × Int} (hq : b.L[j]? = some q) (hp : presentM (adrs st) q.2.1.toNat = true) (hj : j ∈ brkM (os b) []) : (q.2.1, q.2.2, sealM 3 q.2.1 q.2.2 m.ep b.s (rowB m b j)) ∈ bl.flatMap (repB st m os) := by
  refine List.mem_flatMap.mpr ⟨b, mb, mem_req.mpr ⟨j, hj, ?_, ?_⟩⟩
  · rw [plc_get hq]; exact hp
  · rw [plc_get hq, List.length_map]; rfl
theorem one_idx {L : List (Addr × Int × Int)} (asc : (L.map fun e => e.2.1).Pairwise (· < ·)) {i j : Nat} {u q : Addr × Int × Int} (hu : L[j]? = some u) (hq : L[i]? = some q) (e : u.2.1 = q.2.1) : j = i := Classical.byContradiction fun n => place_ne (asc.imp fun h => Int.ne_of_lt h) hu hq n e
/-- carrying out requests for pieces -/
theorem carry_pc {a : Ad} {H : Hp} {S : Addr} {m : SM} {ψ : Int → Int → Int} (h : StorP a H S m ψ) {bl : List Blk} (hb : ∀ b ∈ bl, ∃ c ∈ m.bl, c.s = b.s ∧ c.L = b.L ∧ c.ws = b.ws) (hs : ∀ b ∈ bl, ∀ c ∈ bl, b.s = c.s → b = c) {st : Sts} {n : Nat} (hn : ∀ (i : Nat) (dk : DkO), st[i]? = some (some dk) → dk.rows.length = n) {L : List Rq} (hL : ∀ e ∈ L, PcReq m bl (rqM e)) (hp : ∀ e ∈ L, Pres st e.d.toNat ∧ e.r.toNat < n) {b : Blk} (mb : b ∈ bl) {j : Nat} {q : Addr × Int × Int} (hq : b.L[j]? = some q) :
    Rt (carryM st L) m b j q ∨ ((∀ e ∈ L, ¬ (e.d = q.2.1 ∧ e.r = q.2.2)) ∧ secS (carryM st L) q.2.1.toNat q.2.2.toNat = secS st q.2.1.toNat q.2.2.toNat) := by
  obtain ⟨b', mb', _, eL, _⟩ := hb b mb
  have mq : q ∈ b'.L := by rw [eL]; exact List.mem_of_getElem? hq
  have rq := h.row b' mb' q mq
  have r0 := h.m0 _ rq.1
  rcases carry_get hn q.2.1.toNat q.2.2.toNat L hp with ⟨e, me, e1, e2, e3⟩ | ⟨a1, a2⟩
  · left
    obtain ⟨c, mc, i, u, hu, eu⟩ := hL e me
    obtain ⟨c', mc', esc, eLc, _⟩ := hb c mc
    have mu : u ∈ c'.L := by rw [eLc]; exact List.mem_of_getElem? hu
    have ru := h.row c' mc' u mu
    have u0 := h.m0 _ ru.1
    have d1 : e.d = u.2.1 := congrArg Prod.fst eu
    have d2 : e.r = u.2.2 := congrArg (fun x => x.2.1) eu
    have d3 : e.ws = sealM 3 u.2.1 u.2.2 m.ep c.s (rowB m c i) := congrArg (fun x => x.2.2) eu
    have g1 : u.2.1 = q.2.1 := by rw [d1] at e1; omega
    have g2 : u.2.2 = q.2.2 := by rw [d2] at e2; omega
    have eb : c' = b' := h.one mb' mc' mq mu (Prod.ext g1 g2)
    obtain ⟨_, _, esb, _, _⟩ := hb b mb
    have ecb : c = b := by
      refine hs c mc b mb ?_
      obtain ⟨b2, mb2, e2s, e2L, _⟩ := hb b mb
      have : b2 = b' := by
        have m2 : q ∈ b2.L := by rw [e2L]; exact List.mem_of_getElem? hq
        exact h.one mb' mb2 mq m2 rfl
      rw [← esc, eb, ← this, e2s]
    subst ecb
    have ij : i = j := one_idx (by have := h.asc b' mb'; rw [eL] at this; exact this) hu hq g1
    subst ij
    refine ⟨e.s, ?_⟩
    rw [e3, d3, g1, g2]
  · refine .inr ⟨fun e me z => a1 e me ⟨by rw [z.1], by rw [z.2]⟩, a2⟩
/-! good pieces, by a flag for each -/
def osP (g : Nat → Bool) (G : List (List Int)) (n : Nat) : List (Option (List Int)) := (List.range n).map fun j => if g j = true then some (G.getD j []) else none
theorem osP_get {g : Nat → Bool} {G : List (List Int)} {n j : Nat} (h : j < n) : (osP g G n)[j]? = some (if g j = true then some (G.getD j []) else none) := by
  unfold osP
  rw [List.getElem?_map, List.getElem?_range h]
  rfl
theorem osP_len (g : Nat → Bool) (G : List (List Int)) (n : Nat) : (osP g G n).length = n := by unfold osP; rw [List.length_map, List.length_range]
theorem osP_pres (g : Nat → Bool) (G : List (List Int)) (n : Nat) : presO (osP g G n) = (List.range n).filter g := by
  unfold presO
  rw [osP_len]
  refine List.filter_congr fun j mj => ?_
  rw [getD_item (osP_get (List.mem_range.mp mj))]
  cases g j <;> rfl
theorem osP_brk (g : Nat → Bool) (G : List (List Int)) (n : Nat) : brkM (osP g G n) [] = (List.range n).filter fun j => !g j := by
  unfold brkM
  rw [osP_len]
  refine List.filter_congr fun j mj => ?_
  rw [getD_item (osP_get (List.mem_range.mp mj))]
  cases g j <;> simp
noncomputable def osB (g : Nat → Bool) (m : SM) (b : Blk) : List (Option (List Int)) := osP g (stripeM b.ws m.data b.L.length) b.L.length
theorem osB_ok {a : Ad} {H : Hp} {S : Addr} {m : SM} {ψ : Int → Int → Int} (h : StorP a H S m ψ) {b : Blk} (mb : b ∈ m.bl) {st : Sts} {g : Nat → Bool} (hr : m.rows ≤ 1000) (ep : 0 ≤ m.ep ∧ m.ep < 65521) (mk : m.made ≤ 100000) (d1 : 1 ≤ m.data) (hd : m.data ≤ b.L.length) (hl : b.L.length ≤ 6) (hw : b.ws.length ≤ 100) (hww : ∀ x ∈ b.ws, Wd x)
    (h1 : ∀ (j : Nat) q, b.L[j]? = some q → g j = true → Rt st m b j q) (h0 : ∀ (j : Nat) q, b.L[j]? = some q → g j = false → GpIs st q.2.1.toNat q.2.2.toNat m.ep b.s (sizeM b.ws.length m.data) none) : BOk st m b (osB g m b) := by
  refine ⟨⟨by unfold osB; rw [osP_len, List.length_map], fun i q o hq ho => ?_⟩, ⟨fun i ws hi _ => ?_, fun i mi => nomatch mi⟩, hd, hl, hw, hww⟩
  · rw [List.getElem?_map] at hq
    cases zq : b.L[i]? with
    | none => rw [zq] at hq; cases hq
    | some u =>
      rw [zq] at hq
      obtain rfl : u.2 = q := Option.some.inj hq
      have il := item_lt zq
      unfold osB at ho
      rw [osP_get il] at ho
      have rq := h.row b mb u (List.mem_of_getElem? zq)
      have r0 := h.m0 _ rq.1
      have hser := h.ser b mb
      cases zg : g i with
      | false =>
        rw [zg, if_neg Bool.false_ne_true] at ho
        obtain rfl : none = o := Option.some.inj ho
        exact h0 i u zq zg
      | true =>
        rw [zg, if_pos rfl] at ho
        obtain rfl : some (rowB m b i) = o := Option.some.inj ho
        obtain ⟨D, hD⟩ := h1 i u zq zg
        obtain ⟨row, hrow⟩ : ∃ row, (stripeM b.ws m.data b.L.length)[i]? = some row := ⟨_, List.getElem?_eq_getElem (by rw [stripe_len hd]; exact il)⟩
        have mrow := List.mem_of_getElem? hrow
        have sl := stripe_row (c := b.L.length) d1 _ mrow
        have er : rowB m b i = row := getD_item hrow
        have szl := size_lt b.ws.length m.data d1
        rw [er] at hD ⊢
        rw [← sl]
        refine gp_seal hD ?_ (by omega) (by omega) ⟨ep, by omega, by omega⟩ (stripe_words hww _ mrow) (by omega)
        rw [show ((u.2.1.toNat : Nat) : Int) = u.2.1 by omega, show ((u.2.2.toNat : Nat) : Int) = u.2.2 by omega]
  · have il := item_lt hi
    unfold osB at hi il
    rw [osP_len] at il
    rw [osP_get il] at hi
    have hi := Option.some.inj hi
    split at hi
    · rw [List.length_map]
      exact (Option.some.inj hi).symm
    · cases hi
/-- few disks away: enough pieces -/
theorem osB_many {b : Blk} {m : SM} {g : Nat → Bool} {hs : List Int} (asc : (b.L.map fun e => e.2.1).Pairwise (· < ·)) (h : ∀ (j : Nat) q, b.L[j]? = some q → g j = false → q.2.1 ∈ hs) : b.L.length ≤ (presO (osB g m b)).length + hs.length := by
  unfold osB
  rw [osP_pres]
  have part : ∀ n : Nat, ((List.range n).filter g).length + ((List.range n).filter fun j => !g j).length = n := fun n => by
    induction n with
    | zero => rfl
    | succ n ih =>
      rw [List.range_succ, List.filter_append, List.filter_append, List.length_append, List.length_append]
      cases z : g n <;> simp [List.filter_cons, z] <;> omega
  have p := part b.L.length
  have bad : ((List.range b.L.length).filter fun j => !g j).length ≤ hs.length := by
    have nd : (((List.range b.L.length).filter fun j => !g j).map fun j => ((b.L.map fun e => e.2.1).getD j 0)).Nodup := by
      unfold List.Nodup
      rw [List.pairwise_map]
      have pw : ((List.range b.L.length).filter fun j => !g j).Pairwise (· < ·) := List.Pairwise.filter _ List.pairwise_lt_range
      refine pw.imp_of_mem fun {x y} mx my xy e => ?_
      have lx := List.mem_range.mp (List.mem_filter.mp mx).1
      have ly := List.mem_range.mp (List.mem_filter.mp my).1
      have := List.pairwise_iff_getElem.mp asc x y (by rw [List.length_map]; exact lx) (by rw [List.length_map]; exact ly) xy
      rw [getD_item (List.getElem?_eq_getElem (by rw [List.length_map]; exact lx)), getD_item (List.getElem?_eq_getElem (by rw [List.length_map]; exact ly))] at e
      omega
    have := List.Nodup.length_le_of_subset nd (l₂ := hs) fun x mx => by
      obtain ⟨j, mj, rfl⟩ := List.mem_map.mp mx
      obtain ⟨lj, gj⟩ := List.mem_filter.mp mj
      have lj := List.mem_range.mp lj
      have hq : b.L[j]? = some b.L[j] := List.getElem?_eq_getElem lj
      have e : (b.L.map fun e => e.2.1).getD j 0 = b.L[j].2.1 := getD_item (by rw [List.getElem?_map, hq]; rfl)
      rw [e]
      exact h j _ hq (by simpa using gj)
    rw [List.length_map] at this
    exact this
  omega
/-- a sector as it was, or away, or with a changed word -/
def Dm (s0 s1 : Option (Addr × List Int)) : Prop := s1 = s0 ∨ s1 = none ∨ ∃ (sc : Addr × List Int) (i : Nat) (v : Int) (D : Addr), s0 = some sc ∧ i < sc.2.length ∧ Wd v ∧ z v ≠ z (sc.2.getD i 0) ∧ s1 = some (D, sc.2.set i v)
theorem dm_gp {st : Sts} {d r : Nat} {e s : Int} {n : Nat} {s0 : Option (Addr × List Int)} (h : Dm s0 (secS st d r)) (ne : secS st d r ≠ s0) (hw : ∀ sc, s0 = some sc → Whole sc.2) : GpIs st d r e s n none := by
  show ∀ sc, secS st d r = some sc → ¬ _
  intro sc hsc hg
  rcases h with h | h | ⟨sc0, i, v, D, h1, h2, h3, h4, h5⟩
  · exact ne h
  · rw [h] at hsc; cases hsc
  · rw [h5] at hsc
    cases hsc
    exact one_changed (hw sc0 h1) h2 h4 hg.1.2.2
theorem gp_none {st : Sts} {d r : Nat} {e s : Int} {n : Nat} (h : secS st d r = none) : GpIs st d r e s n none := by
  show ∀ sc, secS st d r = some sc → ¬ _
  intro sc hsc
  rw [h] at hsc
  cases hsc
/-! the law's list of blocks -/
structure Ln where
  t : Addr
  b : Blk
  k : Addr
structure Bk (M : Addr → Prop) (H : Hp) (BK : Addr) (bs : List Ln) : Prop where
  d : H BK = some (.lst (bs.map fun e => V.ref e.t)) ∧ ¬ M BK
  t : ∀ e ∈ bs, H e.t = some (.tup [.ref e.b.T, .ref e.k]) ∧ ¬ M e.t
  k : ∀ e ∈ bs, H e.k = some (.lst (e.b.ws.map V.int)) ∧ ¬ M e.k
  n : ∀ e ∈ bs, e.k ≠ BK
theorem Bk.kp {M M' : Addr → Prop} {H H' : Hp} {BK : Addr} {bs : List Ln} (h : Bk M H BK bs) (k : Kp M H M' H') : Bk M' H' BK bs := ⟨k _ _ h.d.1 h.d.2, fun e me => k _ _ (h.t e me).1 (h.t e me).2, fun e me => k _ _ (h.k e me).1 (h.k e me).2, h.n⟩
theorem ln_item {bs : List Ln} {i : Nat} {y : V} (h : (bs.map fun e => V.ref e.t)[i]? = some y) : ∃ e, bs[i]? = some e ∧ y = V.ref e.t := by
  rw [List.getElem?_map] at h
  cases z : bs[i]? with
  | none => rw [z] at h; cases h
  | some e => rw [z] at h; exact ⟨e, rfl, (Option.some.inj h).symm⟩
theorem blk_item {bs : List Blk} {i : Nat} {y : V} (h : (bs.map fun b => V.ref b.T)[i]? = some y) : ∃ b, bs[i]? = some b ∧ y = V.ref b.T := by
  rw [List.getElem?_map] at h
  cases z : bs[i]? with
  | none => rw [z] at h; cases h
  | some b => rw [z] at h; exact ⟨b, rfl, (Option.some.inj h).symm⟩
def clearB (b : Blk) : Blk := { b with mem := false }
structure M29 (m : SM) (d w cn : Nat) : Prop where
  data : m.data = d
  par : m.par = w - d
  rows : m.rows = 64
  ep : m.ep = 1
  ms : m.ms = upto cn
  made : m.made = m.bl.length
  bl : ∀ b ∈ m.bl, b.L.length = w ∧ b.ws.length ≤ 30 ∧ ∀ x ∈ b.ws, Wd x
theorem upto_mem {n : Nat} {x : Int} : x ∈ upto n ↔ 0 ≤ x ∧ x < (n : Int) := by
  unfold upto
  rw [List.mem_map]
  constructor
  · rintro ⟨i, mi, rfl⟩
    have := List.mem_range.mp mi
    omega
  · rintro ⟨h0, h1⟩
    exact ⟨x.toNat, List.mem_range.mpr (by omega), by omega⟩
theorem upto_asc (n : Nat) : (upto n).Pairwise (· < ·) := by
  unfold upto
  rw [List.pairwise_map]
  exact List.pairwise_lt_range.imp fun h => by omega
theorem upto_snoc (n : Nat) : upto (n + 1) = upto n ++ [(n : Int)] := by
  unfold upto
  rw [List.range_succ, List.map_append]
  rfl
theorem str_I {S : Addr} {m : SM} {I b : Addr} (h : StR S { m with I := I } b) : StR S m b := by
  cases h with
  | s => exact .s
  | ml => exact .ml
  | spd => exact .spd
  | bd => exact .bd
  | md => exact .md
  | s1 d md => exact .s1 d md
  | s2 d md => exact .s2 d md
  | t c mc => exact .t c mc
  | pt c mc => exact .pt c mc
  | w c mc z => exact .w c mc z
  | q c e mc me => exact .q c e mc me
/-- blank disks -/
def blanks (as : List Addr) : Sts := as.map fun A => some ⟨A, blk64⟩
theorem blanks_at {as : List Addr} {i : Nat} {dk : DkO} (g : (blanks as)[i]? = some (some dk)) : ∃ A, as[i]? = some A ∧ dk = ⟨A, blk64⟩ := by
  unfold blanks at g
  rw [List.getElem?_map] at g
  cases z : as[i]? with
  | none => rw [z] at g; cases g
  | some A => rw [z] at g; cases g; exact ⟨A, rfl, rfl⟩
theorem blanks_im {H : Hp} {X : Addr → Prop} {I : Addr} {as : List Addr} (hI : H I = some (.lst (as.map V.ref))) (nI : ¬ X I) (nd : as.Nodup) (ha : ∀ A ∈ as, H A = some (.lst (blk64.map rowV)) ∧ A ≠ I ∧ ¬ X A) : ImM H X I (blanks as) := by
  refine ⟨?_, nI, fun i dk g => ?_, fun i j dk dk' g1 g2 e => ?_, fun i dk r sc g1 g2 => ?_⟩
  · rw [hI]
    unfold blanks
    rw [List.map_map]
    rfl
  · obtain ⟨A, hA, rfl⟩ := blanks_at g
    exact ha A (List.mem_of_getElem? hA)
  · obtain ⟨A, hA, rfl⟩ := blanks_at g1
    obtain ⟨B, hB, rfl⟩ := blanks_at g2
    have e : A = B := e
    subst e
    have h1 := item_lt hA
    have h2 := item_lt hB
    have e1 : as[i] = A := Option.some.inj ((List.getElem?_eq_getElem h1).symm.trans hA)
    have e2 : as[j] = A := Option.some.inj ((List.getElem?_eq_getElem h2).symm.trans hB)
    rcases Nat.lt_trichotomy i j with z | z | z
    · exact absurd (e1.trans e2.symm) (List.pairwise_iff_getElem.mp nd i j h1 h2 z)
    · exact z
    · exact absurd (e2.trans e1.symm) (List.pairwise_iff_getElem.mp nd j i h2 h1 z)
  · obtain ⟨A, _, rfl⟩ := blanks_at g1
    exact absurd g2 blk64_none
theorem blanks_sec (as : List Addr) (x r : Nat) : secS (blanks as) x r = none := by
  cases z : secS (blanks as) x r with
  | none => rfl
  | some sc =>
    obtain ⟨dk, h1, h2⟩ := sec_some z
    obtain ⟨A, _, rfl⟩ := blanks_at h1
    exact absurd h2 blk64_none
theorem blanks_pres {as : List Addr} {x : Nat} (h : x < as.length) : Pres (blanks as) x := by
  refine ⟨⟨as[x], blk64⟩, ?_⟩
  unfold blanks
  rw [List.getElem?_map, List.getElem?_eq_getElem h]
  rfl
theorem M29.put {m : SM} {d w cn : Nat} (h : M29 m d w cn) {b : Blk} (eL : b.L.length = w) (ew : b.ws.length ≤ 30) (eww : ∀ x ∈ b.ws, Wd x) : M29 (m.put b) d w cn :=
  ⟨h.data, h.par, h.rows, h.ep, h.ms, by show m.made + 1 = (m.bl ++ [b]).length; rw [List.length_append, h.made]; rfl, fun c mc => by
    rcases List.mem_append.mp mc with mc | mc
    · exact h.bl c mc
    · rw [List.mem_singleton.mp mc]; exact ⟨eL, ew, eww⟩⟩
theorem Bk.more {M : Addr → Prop} {H : Hp} {BK : Addr} {bs : List Ln} (h : Bk M H BK bs) {e : Ln} (t : H e.t = some (.tup [.ref e.b.T, .ref e.k]) ∧ ¬ M e.t) (k : H e.k = some (.lst (e.b.ws.map V.int)) ∧ ¬ M e.k) (n : e.k ≠ BK) : Bk M (upd H BK (.lst ((bs.map fun e => V.ref e.t) ++ [.ref e.t]))) BK (bs ++ [e]) := by
  have mem : ∀ c ∈ bs ++ [e], c ∈ bs ∨ c = e := fun c mc => (List.mem_append.mp mc).imp_right List.mem_singleton.mp
  refine ⟨⟨by rw [upd_same, List.map_append]; rfl, h.d.2⟩, fun c mc => ?_, fun c mc => ?_, fun c mc => ?_⟩
  · rcases mem c mc with mc | rfl
    · exact ⟨by rw [upd_ne (ne_of (h.t c mc).1 h.d.1 fun z => nomatch z)]; exact (h.t c mc).1, (h.t c mc).2⟩
    · exact ⟨by rw [upd_ne (ne_of t.1 h.d.1 fun z => nomatch z)]; exact t.1, t.2⟩
  · rcases mem c mc with mc | rfl
    · exact ⟨by rw [upd_ne (h.n c mc)]; exact (h.k c mc).1, (h.k c mc).2⟩
    · exact ⟨by rw [upd_ne n]; exact k.1, k.2⟩
  · rcases mem c mc with mc | rfl
    · exact h.n c mc
    · exact n
theorem W29.secs {a : Ad} {H : Hp} {S p l : Addr} {m : SM} {st : Sts} (w : W29 a H S p l m st) {q : Addr} (n : H q = none) : ∀ (i : Nat) (dk : DkO) (r : Nat) (sc : Addr × List Int), st[i]? = some (some dk) → dk.rows[r]? = some (some sc) → q ≠ sc.1 := fun i dk r sc g1 g2 => (ne_of_none (w.im.hR i dk r sc g1 g2).1 n).symm
theorem row_len {m : SM} {d w cn : Nat} (M : M29 m d w cn) (d1 : 1 ≤ d) {b : Blk} (hw : b.ws.length ≤ 30) (j : Nat) : (rowB m b j).length ≤ 30 := by
  unfold rowB
  rw [List.getD_eq_getElem?_getD]
  cases z : (stripeM b.ws m.data b.L.length)[j]? with
  | none => exact Nat.zero_le _
  | some r =>
    have := stripe_row (c := b.L.length) (show 1 ≤ m.data by rw [M.data]; exact d1) r (List.mem_of_getElem? z)
    have := size_lt b.ws.length m.data (by rw [M.data]; exact d1)
    show r.length ≤ 30
    omega
/-- where a request for a piece writes -/
theorem pc_range {a : Ad} {H : Hp} {S : Addr} {m : SM} {ψ : Int → Int → Int} (h : StorP a H S m ψ) {d w cn : Nat} (M : M29 m d w cn) (d1 : 1 ≤ d) {bl : List Blk} (hb : ∀ b ∈ bl, ∃ c ∈ m.bl, c.s = b.s ∧ c.L = b.L ∧ c.ws = b.ws) {u : Int × Int × List Int} (hu : PcReq m bl u) : (0 ≤ u.1 ∧ u.1 < (cn : Int)) ∧ (18 ≤ u.2.1 ∧ u.2.1 < 64) ∧ u.2.2.length ≤ 38 := by
  obtain ⟨b, mb, j, q, hq, rfl⟩ := hu
  obtain ⟨c, mc, _, eL, ew⟩ := hb b mb
  have mq : q ∈ c.L := by rw [eL]; exact List.mem_of_getElem? hq
  obtain ⟨r1, r2⟩ := h.row c mc q mq
  rw [M.ms] at r1
  rw [M.rows] at r2
  have := row_len M d1 (b := b) (by rw [← ew]; exact (M.bl c mc).2.1) j
  refine ⟨upto_mem.mp r1, r2, ?_⟩
  show (sealM 3 q.2.1 q.2.2 m.ep b.s (rowB m b j)).length ≤ 38
  rw [sealM_length]
  omega
/-- the images keep their shape -/
structure Gm (st : Sts) (cn : Nat) : Prop where
  len : st.length = cn
  rows : ∀ (i : Nat) (dk : DkO), st[i]? = some (some dk) → dk.rows.length = 64
theorem Gm.put {st : Sts} {cn : Nat} (h : Gm st cn) (d r : Nat) (o : Option (Addr × List Int)) : Gm (putS st d r o) cn := ⟨by rw [putS_len]; exact h.len, putS_rows h.rows⟩
theorem Gm.carry {st : Sts} {cn : Nat} (h : Gm st cn) (L : List Rq) : Gm (carryM st L) cn := ⟨by rw [carry_len]; exact h.len, carry_rows h.rows L⟩
theorem Gm.gone {st : Sts} {cn : Nat} (h : Gm st cn) (d : Nat) : Gm (st.set d none) cn := ⟨by rw [List.length_set]; exact h.len, fun i dk g => by
  rcases setS_some g with ⟨_, z⟩ | ⟨_, z⟩
  · cases z
  · exact h.rows i dk z⟩
theorem Gm.blanks {as : List Addr} {cn : Nat} (h : as.length = cn) : Gm (blanks as) cn := ⟨by show (List.map _ as).length = cn; rw [List.length_map]; exact h, fun i dk g => by
  obtain ⟨A, _, rfl⟩ := blanks_at g
  rfl⟩
theorem Gm.rows100 {st : Sts} {cn : Nat} (h : Gm st cn) : ∀ (i : Nat) (dk : DkO), st[i]? = some (some dk) → dk.rows.length ≤ 100 := fun i dk g => by rw [h.rows i dk g]; decide
theorem rt_cm {st : Sts} {m m' : SM} {b b' : Blk} {j : Nat} {q : Addr × Int × Int} (ed : m'.data = m.data) (ee : m'.ep = m.ep) (es : b'.s = b.s) (ew : b'.ws = b.ws) (eL : b'.L = b.L) (h : Rt st m b j q) : Rt st m' b' j q := by
  obtain ⟨D, hD⟩ := h
  refine ⟨D, ?_⟩
  unfold rowB at hD ⊢
  rw [ed, ee, es, ew, eL]
  exact hD
theorem clear_back {m : SM} : ∀ b ∈ m.bl.map clearB, ∃ c ∈ m.bl, c.s = b.s ∧ c.L = b.L ∧ c.ws = b.ws := fun b mb => by
  obtain ⟨c, mc, rfl⟩ := List.mem_map.mp mb
  exact ⟨c, mc, rfl, rfl, rfl⟩
theorem W29.new {a : Ad} {H : Hp} {S p l : Addr} {m m' : SM} {st : Sts} (w : W29 a H S p l m st) (eI : m'.I = m.I) {x : Addr} (n : H x = none) (ns : ¬ StR S m' x) : ¬ Mu S p m' st x := by
  have o := w.off n
  rintro ((z | z) | z | z)
  · exact o (.inl (.inl z))
  · exact ns z
  · exact o (.inr (.inl (by rw [z, eI])))
  · exact o (.inr (.inr z))
theorem W29.pDk {a : Ad} {H : Hp} {S p l : Addr} {m : SM} {st : Sts} (w : W29 a H S p l m st) : ¬ dkS st p := by
  rintro ⟨i, dk, g, z⟩
  exact (w.im.hD i dk g).2.2 (.inl z.symm)
/-- after the images' requests are carried out -/
theorem W29.carried {a : Ad} {H H' : Hp} {S p l : Addr} {m : SM} {st : Sts} (w : W29 a H S p l m st) {L : List Rq} (im : ImM H' (XX S m p) m.I (carryM st L)) (fr : ∀ b o, H b = some o → ¬ dkS st b → H' b = some o) : W29 a H' S p l m (carryM st L) ∧ Kp (Mu S p m st) H (Mu S p m (carryM st L)) H' := by
  obtain ⟨ns, i, acc, seed, h1, h2, h3⟩ := w.P
  exact w.img ⟨ns, i, acc, seed, fr _ _ h1 w.pDk, fr _ _ h2 fun z => w.lm (.inr (.inr z)), h3⟩ im (fun q o e _ _ n => fr q o e n) fun q z => .inl ((carry_dkS st L q).mp z)
/-- a row of a disk is another one -/
theorem W29.row {a : Ad} {H : Hp} {S p l : Addr} {m : SM} {st : Sts} (w : W29 a H S p l m st) {x r : Nat} {dk : DkO} (g : st[x]? = some (some dk)) : W29 a (L2.upd H dk.A (.lst ((dk.rows.set r none).map rowV))) S p l m (putS st x r none) ∧ Kp (Mu S p m st) H (Mu S p m (putS st x r none)) (L2.upd H dk.A (.lst ((dk.rows.set r none).map rowV))) := by
  have hD := w.im.hD x dk g
  refine w.img (w.P.only Only.upd (fun z => hD.2.2 (.inl z.symm)) fun z => w.lm (.inr (.inr ⟨x, dk, g, z⟩))) (w.im.put g fun s z => by cases z) (fun q o e _ _ n => ?_) fun q z => .inl (putS_dkS.mp z)
  rw [upd_ne fun z => n ⟨x, dk, g, z⟩]
  exact e
theorem dm_none (s0 : Option (Addr × List Int)) : Dm s0 none := .inr (.inl rfl)
theorem pres_put {st : Sts} {d r i : Nat} {o : Option (Addr × List Int)} (h : Pres st i) : Pres (putS st d r o) i := putS_pres.mpr h
theorem osB_len (g : Nat → Bool) (m : SM) (b : Blk) : (osB g m b).length = b.L.length := by unfold osB; rw [osP_len]
theorem osB_all (m : SM) (b : Blk) : (presO (osB (fun _ => true) m b)).length = b.L.length ∧ brkM (osB (fun _ => true) m b) [] = [] := by
  unfold osB
  rw [osP_pres, osP_brk]
  refine ⟨?_, List.filter_eq_nil_iff.mpr fun x _ z => by cases z⟩
  rw [List.filter_eq_self.mpr fun _ _ => rfl, List.length_range]
theorem osB_not (m : SM) (b : Blk) : (presO (osB (fun _ => false) m b)).length = 0 := by
  unfold osB
  rw [osP_pres, List.filter_eq_nil_iff.mpr fun x _ z => by cases z]
  rfl
def plB (b : Blk) (j : Nat) : Int × Int := (b.L.map (·.2)).getD j (0, 0)
/-- is the piece as it was -/
def gS (st1 st : Sts) (b : Blk) (j : Nat) : Bool := decide (secS st (plB b j).1.toNat (plB b j).2.toNat = secS st1 (plB b j).1.toNat (plB b j).2.toNat)
theorem gS_at {st1 st : Sts} {b : Blk} {j : Nat} {q : Addr × Int × Int} (h : b.L[j]? = some q) : gS st1 st b j = decide (secS st q.2.1.toNat q.2.2.toNat = secS st1 q.2.1.toNat q.2.2.toNat) := by
  unfold gS plB
  rw [plc_get h]
/-- is the piece's disk none of these -/
def gD (hs : List Int) (b : Blk) (j : Nat) : Bool := decide ((plB b j).1 ∉ hs)
theorem gD_at {hs : List Int} {b : Blk} {j : Nat} {q : Addr × Int × Int} (h : b.L[j]? = some q) : gD hs b j = decide (q.2.1 ∉ hs) := by
  unfold gD plB
  rw [plc_get h]
theorem rt_whole {a : Ad} {H : Hp} {S : Addr} {m : SM} {ψ : Int → Int → Int} (h : StorP a H S m ψ) {b : Blk} (mb : b ∈ m.bl) (hr : m.rows ≤ 1000) (ep : 0 ≤ m.ep ∧ m.ep < 65521) (mk : m.made ≤ 100000) (d1 : 1 ≤ m.data) (hd : m.data ≤ b.L.length) (hw : b.ws.length ≤ 100) (hww : ∀ x ∈ b.ws, Wd x) {st : Sts} {j : Nat} {q : Addr × Int × Int} (hq : b.L[j]? = some q) (rt : Rt st m b j q) : ∀ sc, secS st q.2.1.toNat q.2.2.toNat = some sc → Whole sc.2 := fun sc hsc => by
  obtain ⟨D, hD⟩ := rt
  rw [hD] at hsc
  cases hsc
  have rq := h.row b mb q (List.mem_of_getElem? hq)
  have r0 := h.m0 _ rq.1
  have hser := h.ser b mb
  obtain ⟨row, hrow⟩ : ∃ row, (stripeM b.ws m.data b.L.length)[j]? = some row := ⟨_, List.getElem?_eq_getElem (by rw [stripe_len hd]; exact item_lt hq)⟩
  have mrow := List.mem_of_getElem? hrow
  have sl := stripe_row (c := b.L.length) d1 _ mrow
  have szl := size_lt b.ws.length m.data d1
  have er : rowB m b j = row := getD_item hrow
  rw [er]
  exact (seal_good (k := 3) ⟨by decide, by omega, by omega⟩ ⟨ep, by omega, by omega⟩ (stripe_words hww _ mrow) (by omega)).2.2
theorem Bk.put {M0 M : Addr → Prop} {H0 H : Hp} {BK q : Addr} {bs : List Ln} {o : HO} (h0 : Bk M0 H0 BK bs) (h : Bk M H BK bs) (n : H0 q = none) : Bk M (upd H q o) BK bs :=
  ⟨⟨(upd_ne (ne_of_none h0.d.1 n)).trans h.d.1, h.d.2⟩, fun e me => ⟨(upd_ne (ne_of_none (h0.t e me).1 n)).trans (h.t e me).1, (h.t e me).2⟩, fun e me => ⟨(upd_ne (ne_of_none (h0.k e me).1 n)).trans (h.k e me).1, (h.k e me).2⟩, h.n⟩
/-- what the law holds once its blocks are there -/
structure F29 (a : Ad) (H : Hp) (S p l BK LP FL : Addr) (m : SM) (st : Sts) (bs : List Ln) (cb fb : List Blk) : Prop where
  W : W29 a H S p l m st
  B : Bk (Mu S p m st) H BK bs
  L : H LP = some (.lst (cb.map fun b => V.ref b.T)) ∧ ¬ Mu S p m st LP
  F : H FL = some (.lst (fb.map fun b => V.ref b.T)) ∧ ¬ Mu S p m st FL
section
variable {a : Ad} {H H' H0 : Hp} {S p l BK LP FL : Addr} {m : SM} {st st' st0 : Sts} {bs : List Ln} {cb fb : List Blk}
theorem F29.kp (f : F29 a H S p l BK LP FL m st bs cb fb) (w : W29 a H' S p l m st') (k : Kp (Mu S p m st) H (Mu S p m st') H') : F29 a H' S p l BK LP FL m st' bs cb fb := ⟨w, f.B.kp k, k _ _ f.L.1 f.L.2, k _ _ f.F.1 f.F.2⟩
theorem F29.same (f : F29 a H S p l BK LP FL m st bs cb fb) (s : Same H H') : F29 a H' S p l BK LP FL m st bs cb fb := f.kp (f.W.same s) (Kp.same s)
theorem F29.draw (f : F29 a H S p l BK LP FL m st bs cb fb) (P' : Pot H' p l) (o : But p H H') : F29 a H' S p l BK LP FL m st bs cb fb := f.kp (f.W.draw P' o).1 (f.W.draw P' o).2
theorem F29.put (f0 : F29 a H0 S p l BK LP FL m st0 bs cb fb) (f : F29 a H S p l BK LP FL m st bs cb fb) {q : Addr} {o : HO} (n : H0 q = none) (nM : ¬ Mu S p m st q) (nl : q ≠ l) (ns : ∀ (i : Nat) (dk : DkO) (r : Nat) (sc : Addr × List Int), st[i]? = some (some dk) → dk.rows[r]? = some (some sc) → q ≠ sc.1) : F29 a (upd H q o) S p l BK LP FL m st bs cb fb :=
  ⟨f.W.upd nM nl ns, f0.B.put f.B n, ⟨(upd_ne (ne_of_none f0.L.1 n)).trans f.L.1, f.L.2⟩, ⟨(upd_ne (ne_of_none f0.F.1 n)).trans f.F.1, f.F.2⟩⟩
end
/-- sectors hurt on these disks alone -/
structure Ht (st1 st : Sts) (hs : List Int) : Prop where
  dm : ∀ x r, Dm (secS st1 x r) (secS st x r)
  eq : ∀ (x r : Nat), (x : Int) ∉ hs → secS st x r = secS st1 x r
theorem Ht.put {st1 st : Sts} {hs : List Int} (h : Ht st1 st hs) {x r : Nat} {o : Option (Addr × List Int)} {dk : DkO} (mx : (x : Int) ∈ hs) (gd : st[x]? = some (some dk)) (hr : r < dk.rows.length) (d : Dm (secS st1 x r) o) : Ht st1 (putS st x r o) hs := by
  refine ⟨fun y r' => ?_, fun y r' ny => ?_⟩
  · by_cases c : y = x ∧ r' = r
    · obtain ⟨rfl, rfl⟩ := c
      rw [putS_sec gd hr]
      exact d
    · rw [putS_sec_ne (by
        by_cases z : x = y
        · exact .inr fun w => c ⟨z.symm, w.symm⟩
        · exact .inl z)]
      exact h.dm y r'
  · rw [putS_sec_ne (.inl fun z => ny (by rw [← z]; exact mx))]
    exact h.eq y r' ny
theorem Ht.more {st1 st : Sts} {hs : List Int} (h : Ht st1 st hs) (x : Int) : Ht st1 st (hs ++ [x]) := ⟨h.dm, fun y r n => h.eq y r fun z => n (List.mem_append_left _ z)⟩
theorem sec_facts {a : Ad} {H : Hp} {S : Addr} {m : SM} {ψ : Int → Int → Int} (h : StorP a H S m ψ) {d w cn : Nat} (M : M29 m d w cn) (d1 : 1 ≤ d) (dw : d ≤ w) (mk : m.made ≤ 100000) {cb : List Blk} (hcb : ∀ b ∈ cb, b ∈ m.bl) {st1 : Sts} (A : AllR st1 m cb) (O : OnlyR st1 cb) {x r : Nat} {sc : Addr × List Int} (hsc : secS st1 x r = some sc) : 0 < sc.2.length ∧ sc.2.length ≤ 60 ∧ ∀ w ∈ sc.2, Wd w := by
  obtain ⟨b, mb, j, q, hq, e1, e2⟩ := O x r sc hsc
  have rt := A b mb j q hq
  obtain ⟨B1, B2, B3⟩ := M.bl b (hcb b mb)
  have wh := rt_whole h (hcb b mb) (by rw [M.rows]; decide) (by rw [M.ep]; decide) mk (by rw [M.data]; exact d1) (by rw [M.data, B1]; exact dw) (by omega) B3 hq rt sc (by rw [e1, e2, Int.toNat_natCast, Int.toNat_natCast]; exact hsc)
  obtain ⟨D, hD⟩ := rt
  rw [e1, e2, Int.toNat_natCast, Int.toNat_natCast, hsc] at hD
  have e3 : sc.2 = sealM 3 (x : Int) (r : Int) m.ep b.s (rowB m b j) := congrArg Prod.snd (Option.some.inj hD)
  have := row_len M d1 (b := b) B2 j
  refine ⟨by have := wh.1.1; omega, by rw [e3, sealM_length]; omega, wh.2.1⟩
section
variable {P : Program} {w : World} {K : PySem.W.Frag} {mg : Str → Option Value} {base : Heap} {a : Ad}
theorem sc_is_present : FnScope ["images", "disk"] ["images", "disk"] (defScope s_is_present) := ⟨rfl, rfl, rfl, by decide +kernel, rfl, by decide +kernel, by decide +kernel⟩
theorem ok_is_present (T : Txt w K mg a) : FnOk P w K mg base CX0 1 a.f_is_present a.d_is_present ["images", "disk"] (sp_is_present K a) := by
  refine T.F_is_present.ok sc_is_present (fun vs H Q E h => ?len) (fun cdv A outer s H vs Q E hr h => ?body)
  case len =>
    exact sp_is_present_len h
  case body =>
    obtain ⟨I, ims, d, rfl, hI, hl, k⟩ := h
    refine ⟨_, (pss_one (ps_ret (pe_and (pe_chain op_le op_lt pe_int (pv 1) (pe_callB call_len_seq (by rfl) T.n_len PySem.boot_len (pa_cons (pv 0) pa_nil))) (pe_one (pe_cmpR op_notN (pe_ix ix_list (pv 0) (pv 1) (fun _ _ => rfl)) pe_non (nomark _)))))), ?_⟩
    refine ⟨_, rfl, _, _, rfl, rfl, _, rfl, ite2 (fun _ => ⟨_, rfl, I, _, rfl, .inl hI, _, _, rfl, rfl, _, rfl, ite2 (fun b => ?_) (fun b => ?_)⟩) (fun a => absurd (decide_eq_true (show (0 : Int) ≤ (d : Int) by omega)) a)⟩
    · have b := of_decide_eq_true b
      rw [List.length_map] at b
      have hd : d < ims.length := by omega
      have hg : ims[d]? = some ims[d] := List.getElem?_eq_getElem hd
      refine ⟨_, rfl, _, rfl, I, _, _, _, rfl, rfl, hI, at_of (j := d) rfl (imgs_get hg), ?_⟩
      have e : presentM ims d = ims[d].isSome := by unfold presentM; rw [getD_item hg]
      rw [e] at k
      cases q : ims[d] with
      | none => rw [q] at k; exact ⟨rfl, k⟩
      | some x => rw [q] at k; exact ⟨rfl, k⟩
    · have e : presentM ims d = false := by
        unfold presentM
        rw [List.getD_eq_getElem?_getD, List.getElem?_eq_none (by
          have : ¬ (d : Int) < ((ims.map refI).length : Int) := fun z => b (decide_eq_true z)
          rw [List.length_map] at this
          omega)]
        rfl
      rw [e] at k
      exact k
theorem sc_inverse : FnScope ["a", "number", "next_number", "factor", "next_factor", "quotient"] ["a"] (defScope s_inverse) := ⟨rfl, rfl, rfl, by decide +kernel, rfl, by decide +kernel, by decide +kernel⟩
theorem ok_inverse (T : Txt w K mg a) : FnOk P w K mg base (L2N.CX P w) 1 a.f_inverse a.d_inverse ["a"] (sp_inverse K a) := by
  refine T.F_inverse.okN sc_inverse (fun vs H Q E h => ?len) (fun cdv A outer s H vs Q E hr h => ?body)
  case len =>
    exact sp_inverse_len h
  case body =>
    obtain ⟨x, rfl, kE, kQ⟩ := h
    refine ⟨_, (pss_cons (ps_par (i := 1) (j := 2) (by rfl) sc_inverse.nd rfl rfl (by decide) rfl rfl (pa_cons (pe_const T.g_PRIME) (pa_cons (pe_op op_mod (pv 0) (pe_const T.g_PRIME)) pa_nil)) (by rfl))
      (pss_cons (ps_asg (pe_tup (pa_cons pe_int (pa_cons pe_int pa_nil))) (pg_tup rfl (pgs_cons (pg_name (i := 3) sc_inverse.nd rfl (Or.inl rfl)) (pgs_cons (pg_name (i := 4) sc_inverse.nd rfl (Or.inl rfl)) pgs_nil))))
      (pss_cons (ps_if (pt_cmpR op_eq (pv 2) pe_int (nomark _))
      (pss_one (L2N.ps_raise rfl (L2N.takes_of rfl rfl rfl rfl) (L2N.pmk_own PySem.F.excBase_ValueError T.x_InvalidArgument T.g_InvalidArgument T.k_InvalidArgument (raises_own T.b_InvalidArgument T.t_InvalidArgument) (by exact rfl))))
      pss_nil)
      (pss_cons (ps_while (passes_of rfl) (pt_cmpR op_ne (pv 2) pe_int (nomark _))
      (pss_cons (ps_set (i := 5) sc_inverse.nd rfl (Or.inl rfl) (pe_op op_fdiv (pv 1) (pv 2)))
      (pss_cons (ps_par (i := 1) (j := 2) (by rfl) sc_inverse.nd rfl rfl (by decide) rfl rfl (pa_cons (pv 2) (pa_cons (pe_op op_sub (pv 1) (pe_op op_mul (pv 5) (pv 2))) pa_nil)) (by rfl))
      (pss_one (ps_par (i := 3) (j := 4) (by rfl) sc_inverse.nd rfl rfl (by decide) rfl rfl (pa_cons (pv 4) (pa_cons (pe_op op_sub (pv 3) (pe_op op_mul (pv 5) (pv 4))) pa_nil)) (by rfl))))))
      (pss_one (ps_ret (pe_op op_mod (pv 3) (pe_const T.g_PRIME)))))))), ?_⟩
    have p1 := Int.emod_nonneg x (show (65521 : Int) ≠ 0 by decide)
    have p2 := Int.emod_lt_of_pos x (show (0 : Int) < 65521 by decide)
    refine ⟨_, rfl, _, _, rfl, rfl, (by show (0 : Int) < 65521; decide), _, _, rfl, (by show 2 ≤ sizeLine; decide), fun t ht => ?_⟩
    have sm : Same H (upd H t (.tup [V.int 0, V.int 1])) := fun b o z => by rw [upd_ne (ne_of_none z ht)]; exact z
    refine ⟨t, _, rfl, SqT.of upd_same, rfl, _, _, rfl, _, _, rfl, rfl, ?_⟩
    refine ⟨_, rfl, rfl, _, rfl, ?_⟩
    refine ite2 (fun e => ?_) (fun e => ?_)
    · have e0 : x % 65521 = 0 := V.int.inj (of_decide_eq_true e)
      exact kE e0 _ sm
    · have e0 : x % 65521 ≠ 0 := fun z => e (decide_eq_true (congrArg V.int z))
      refine ⟨fun m σ H' => ∃ (n r f g : Int) (u : Option V), σ = [some (.int x), some (.int n), some (.int r), some (.int f), some (.int g), u] ∧ Same H H' ∧ m = r.toNat ∧ 0 ≤ r ∧ r < n ∧ n ≤ 65521 ∧ (x * f - n) % 65521 = 0 ∧ (x * g - r) % 65521 = 0 ∧ Int.gcd n r = 1,
        ⟨_, _, _, _, _, _, rfl, sm, rfl, p1, p2, Int.le_refl _, by omega, by omega, gcd_q x e0⟩, ?_⟩
      rintro m σ H' ⟨n, r, f, g, u, rfl, sm', rfl, r0, rn, nq, h1, h2, hg⟩
      refine ⟨_, rfl, rfl, _, rfl, ?_⟩
      refine ite2 (fun er => ?_) (fun er => ?_)
      · have r1 : r ≠ 0 := fun z => by subst z; simp at er
        have rp : 0 < r := by omega
        have d0 : 0 ≤ n / r := Int.ediv_nonneg (by omega) r0
        have d1 : n / r ≤ 65521 := by
          have := Int.ediv_le_self r (show 0 ≤ n by omega)
          omega
        have rr : n - n / r * r = n % r := by
          have := Int.mul_ediv_add_emod n r
          rw [Int.mul_comm] at this
          omega
        have q1 := Int.emod_nonneg n r1
        have q2 := Int.emod_lt_of_pos n rp
        refine ⟨fun σ' H'' => ∃ m', m' < r.toNat ∧ _, fun _ _ z => z, ?_⟩
        refine ⟨_, rfl, _, rfl, _, _, rfl, rfl, ⟨rp, by omega⟩, ?_⟩
        refine ⟨_, rfl, _, rfl, _, rfl, _, rfl, _, _, rfl, rfl, .inl ⟨by omega, by omega⟩, _, _, rfl, rfl, _, _, rfl, ?_⟩
        refine ⟨_, rfl, _, rfl, _, rfl, _, rfl, _, _, rfl, rfl, .inl ⟨by omega, by omega⟩, _, _, rfl, rfl, _, _, rfl, ?_⟩
        exact ⟨(n - n / r * r).toNat, by omega, r, n - n / r * r, g, f - n / r * g, _, rfl, sm', rfl, by omega, by omega, by omega, h2, euclid_turn h1 h2, gcd_turn hg⟩
      · have r1 : r = 0 := by
          have := Classical.not_not.mp (fun z => er (by rw [decide_eq_false z]; rfl))
          exact V.int.inj this
        subst r1
        have n1 : n = 1 := by
          rw [Int.gcd_zero_right] at hg
          omega
        subst n1
        have z := invP_eq (euclid_end h1)
        refine ⟨_, rfl, _, _, rfl, rfl, (by show (0 : Int) < 65521; decide), ?_⟩
        show Q (.int (f % 65521)) H'
        rw [← z]
        exact kQ e0 _ sm'
theorem sc_check_lengths : FnScope ["pieces", "piece"] ["pieces"] (defScope s_check_lengths) := ⟨rfl, rfl, rfl, by decide +kernel, rfl, by decide +kernel, by decide +kernel⟩
theorem ok_check_lengths (T : Txt w K mg a) : FnOk P w K mg base (L2N.CX P w) 1 a.f_check_lengths a.d_check_lengths ["pieces"] (sp_check_lengths K a) := by
  refine T.F_check_lengths.okN sc_check_lengths (fun vs H Q E h => ?len) (fun cdv A outer s H vs Q E hr h => ?body)
  case len =>
    exact sp_check_lengths_len h
  case body =>
    obtain ⟨R, F, rfl, hR, kE, kQ⟩ := h
    refine ⟨_, (pss_one (ps_for (passes_of rfl) rfl (pi_list (pv 0)) (pg_name (i := 1) sc_check_lengths.nd rfl (Or.inl rfl))
      (pss_one (ps_if (pt_cmpR op_ne (pe_callB call_len_seq (by rfl) T.n_len PySem.boot_len (pa_cons (pv 1) pa_nil)) (pe_callB call_len_seq (by rfl) T.n_len PySem.boot_len (pa_cons (pe_ix ix_list (pv 0) pe_int (fun _ _ => rfl)) pa_nil)) (nomark _))
      (pss_one (L2N.ps_raise rfl (L2N.takes_of rfl rfl rfl rfl) (L2N.pmk_own PySem.F.excBase_ValueError T.x_InvalidArgument T.g_InvalidArgument T.k_InvalidArgument (raises_own T.b_InvalidArgument T.t_InvalidArgument) (by exact rfl))))
      pss_nil)))), ?_⟩
    refine ⟨_, rfl, R, rfl, ⟨_, hR.1⟩, for_list (K := K) (a := R) (xs := refs F) (fun i σ H' => ∃ v : Option V, σ = [some (.ref R), v] ∧ H' = H ∧ ∀ (j : Nat) (e : Addr × List Int), j < i → F[j]? = some e → e.2.length = ((snds F).getD 0 []).length)
      ⟨none, rfl, rfl, fun j e h => absurd h (by omega)⟩ (fun i σ H' _ ⟨_, _, e, _⟩ => by rw [e]; exact hR.1) ?_ ?_⟩
    · rintro i y σ H' hi ⟨v, rfl, rfl, hq⟩
      obtain ⟨e, he, rfl⟩ := refs_item hi
      have em := List.mem_of_getElem? he
      have lt0 : 0 < F.length := by have := item_lt he; omega
      have h0 : F[0]? = some F[0] := List.getElem?_eq_getElem lt0
      have m0 := List.mem_of_getElem? h0
      have g0 : ((snds F).getD 0 []) = F[0].2 := snds_get h0
      refine ⟨_, rfl, e.1, _, rfl, .inl (hR.2 e em), _, rfl, R, _, _, _, rfl, rfl, hR.1, at_of (j := 0) rfl (refs_get h0), F[0].1, _, rfl, .inl (hR.2 _ m0), rfl, _, rfl, ?_⟩
      rw [List.length_map, List.length_map]
      refine ite2 (fun q => ?_) (fun q => ?_)
      · refine kE ⟨e.2, List.mem_map.mpr ⟨e, em, rfl⟩, fun q' => ?_⟩ _ (Same.refl _)
        rw [g0] at q'
        rw [q'] at q
        simp at q
      · refine ⟨some (V.ref e.1), rfl, rfl, fun j e' hj hj' => ?_⟩
        by_cases c : j = i
        · subst c
          rw [he] at hj'
          have := Option.some.inj hj'
          subst this
          rw [g0]
          refine Classical.byContradiction fun ne => q ?_
          rw [decide_eq_false (fun z' => ne (by have := V.int.inj z'; omega))]
          rfl
        · exact hq j e' (by omega) hj'
    · rintro σ H' ⟨v, rfl, rfl, hq⟩
      rw [refs_len] at hq
      refine kQ (fun ⟨r, m, ne⟩ => ne ?_) _ (Same.refl _)
      obtain ⟨e, me, rfl⟩ := List.mem_map.mp m
      obtain ⟨j, hj⟩ := List.mem_iff_getElem?.mp me
      exact hq j e (item_lt hj) hj
theorem sc_check_words : FnScope ["words", "weighted", "at", "word"] ["words"] (defScope s_check_words) := ⟨rfl, rfl, rfl, by decide +kernel, rfl, by decide +kernel, by decide +kernel⟩
theorem ok_check_words (T : Txt w K mg a) : FnOk P w K mg base CX0 1 a.f_check_words a.d_check_words ["words"] (sp_check_words K a) := by
  refine T.F_check_words.ok sc_check_words (fun vs H Q E h => ?len) (fun cdv A outer s H vs Q E hr h => ?body)
  case len =>
    exact sp_check_words_len h
  case body =>
    obtain ⟨l, ws, rfl, hS, hlen, k⟩ := h
    refine ⟨_, (pss_cons (ps_setLc (i := 1) (own := [("at", 2), ("word", 3)]) (g := (gTup K 2 (gCons (gName 2) (gCons (gName 3) gNil)))) (by rfl) sc_check_words.nd rfl rfl (sw_true rfl rfl rfl (by decide +kernel)) (pi_enumS (by rfl) T.n_enumerate (pa_cons (pv 0) pa_nil) (pk_cons pe_int pk_nil)) (blkOk_by (own := [("at", 2), ("word", 3)]) (N := ["words", "weighted", "at", "word"]) (sc := defScope s_check_words) (by decide +kernel))
      (fun _ _ _ _ _ => (pg_tup rfl (pgs_cons (pg_name (i := 2) sc_check_words.nd rfl (Or.inl rfl)) (pgs_cons (pg_name (i := 3) sc_check_words.nd rfl (Or.inl rfl)) pgs_nil)))) (fun _ _ _ _ _ => pts_nil) (fun _ _ _ _ _ => (pe_op op_mul (pv 2) (pv 3))))
      (pss_one (ps_ret (pe_tup (pa_cons (pe_op op_mod (pe_callB (cr_sum rfl) (by rfl) T.n_sum (by decide +kernel) (pa_cons (pv 0) pa_nil)) (pe_const T.g_PRIME)) (pa_cons (pe_op op_mod (pe_callB (cr_sum rfl) (by rfl) T.n_sum (by decide +kernel) (pa_cons (pv 1) pa_nil)) (pe_const T.g_PRIME)) pa_nil)))))), ?_⟩
    refine ⟨_, rfl, _, _, _, rfl, rfl, hS, by decide, by decide, fun D new => lc_it (walk_enumS (k := 1)) (fun i H' => Same H H' ∧ H' D = some (.lst (((wts ws).take i).map V.int))) ⟨Same.new new, upd_same⟩ (fun i H' _ q => q.1.seq hS) ?_ ?_⟩
    · rintro i y H1 H2 hi ⟨s1, hD⟩ ⟨t, u, v, rfl, ht, rfl, hu, hv⟩
      cases hu
      obtain ⟨c, hc, rfl⟩ := int_item hv
      have s2 : Same H1 (upd H1 t (.tup [V.int (1 + (i : Nat)), V.int c])) := Same.new ht
      rw [List.length_map] at hi
      refine ⟨t, _, rfl, SqT.of upd_same, rfl, _, _, rfl, _, _, rfl, rfl, ?_⟩
      refine ⟨rfl, _, rfl, _, rfl, _, _, rfl, rfl, .inl ⟨by omega, by omega⟩, _, s2 _ _ hD, small _ (by simp; omega), same_put (s1.trans s2) new, ?_⟩
      have g : (wts ws)[i]? = some ((1 + (i : Int)) * c) := by
        unfold wts
        rw [List.getElem?_map, List.getElem?_range hi]
        show some (_ * ws.getD i 0) = _
        rw [getD_item hc]
      rw [upd_same, take_snoc g, List.map_append]
      rfl
    rintro H1 ⟨s1, hD⟩
    rw [List.take_of_length_le (by simp [wts])] at hD
    refine ⟨_, rfl, l, ws, rfl, s1.seq hS, _, _, rfl, rfl, (by show (0 : Int) < 65521; decide), ?_⟩
    refine ⟨_, rfl, D, _, rfl, SqL.of hD, _, _, rfl, rfl, (by show (0 : Int) < 65521; decide), ?_⟩
    refine ⟨by show 2 ≤ sizeLine; decide, fun D2 n2 => k D2 _ (s1.trans (Same.new n2)) ?_ upd_same⟩
    exact Classical.byContradiction fun q => by
      cases q' : H D2 with
      | none => exact q q'
      | some o => rw [s1 _ _ q'] at n2; cases n2
theorem sc_is_place : FnScope ["kind", "disk", "row"] ["kind", "disk", "row"] (defScope s_is_place) := ⟨rfl, rfl, rfl, by decide +kernel, rfl, by decide +kernel, by decide +kernel⟩
theorem ok_is_place (T : Txt w K mg a) : FnOk P w K mg base CX0 1 a.f_is_place a.d_is_place ["kind", "disk", "row"] (sp_is_place K a) := by
  refine T.F_is_place.ok sc_is_place (fun vs H Q E h => ?len) (fun cdv A outer s H vs Q E hr h => ?body)
  case len =>
    exact sp_is_place_len h
  case body =>
    obtain ⟨k, d, r, rfl, h1, h2⟩ := h
    refine ⟨_, (pss_one (ps_ret (pe_and (pe_chain op_le op_le (pe_const T.g_LABEL) (pv 0) (pe_const T.g_PIECE)) (pe_and (pe_chain op_le op_lt pe_int (pv 1) (pe_const T.g_MAX_DISKS)) (pe_one (pe_chain op_le op_lt pe_int (pv 2) (pe_const T.g_MAX_ROWS))))))), ?_⟩
    refine ⟨_, rfl, _, _, rfl, rfl, _, rfl, ite2 (fun a1 => ⟨_, _, rfl, rfl, _, rfl, ite2 (fun a2 => ?_) (fun a2 => h2 fun z => a2 (decide_eq_true z.1.2))⟩) (fun a1 => ⟨_, rfl, iteF (h2 fun z => a1 (decide_eq_true z.1.1))⟩)⟩
    have a1 := of_decide_eq_true a1
    have a2 := of_decide_eq_true a2
    refine ⟨_, rfl, _, _, rfl, rfl, _, rfl, ite2 (fun b1 => ⟨_, _, rfl, rfl, _, rfl, ite2 (fun b2 => ?_) (fun b2 => h2 fun z => b2 (decide_eq_true z.2.1.2))⟩) (fun b1 => ⟨_, rfl, iteF (h2 fun z => b1 (decide_eq_true z.2.1.1))⟩)⟩
    have b1 := of_decide_eq_true b1
    have b2 := of_decide_eq_true b2
    refine ⟨_, rfl, _, _, rfl, rfl, _, rfl, ite2 (fun c1 => ⟨_, _, rfl, rfl, ?_⟩) (fun c1 => h2 fun z => c1 (decide_eq_true z.2.2.1))⟩
    have c1 := of_decide_eq_true c1
    show Q (.bl (decide (r < 4000))) H
    by_cases c2 : r < 4000
    · rw [decide_eq_true c2]
      exact h1 ⟨⟨a1, a2⟩, ⟨b1, b2⟩, ⟨c1, c2⟩⟩
    · rw [decide_eq_false c2]
      exact h2 fun z => c2 z.2.2.2
theorem sc_choose_disks : FnScope ["candidates", "width", "ranked", "disk", "present", "free", "_"] ["candidates", "width"] (defScope s_choose_disks) := ⟨rfl, rfl, rfl, by decide +kernel, rfl, by decide +kernel, by decide +kernel⟩
theorem ok_choose_disks (T : Txt w K mg a) : FnOk P w K mg base (L2.CX P w) 1 a.f_choose_disks a.d_choose_disks ["candidates", "width"] (sp_choose_disks K a) := by
  refine T.F_choose_disks.okX sc_choose_disks (fun vs H Q E h => ?len) (fun cdv A outer s H vs Q E hr h => ?body)
  case len =>
    exact sp_choose_disks_len h
  case body =>
    obtain ⟨C, L, w, rfl, hC, hl, hw, nd, kD, kS, kQ⟩ := h
    refine ⟨_, (pss_cons (ps_if (pt_cmpR op_lt (pe_callB call_len_seq (by rfl) T.n_len PySem.boot_len (pa_cons (pv 0) pa_nil)) (pv 1) (nomark _))
      (pss_one (ps_raise rfl (takes_of rfl rfl rfl rfl) (pmk_own PySem.F.excBase_ValueError T.x_NotEnoughDisks T.g_NotEnoughDisks T.k_NotEnoughDisks (raises_own T.b_NotEnoughDisks T.t_NotEnoughDisks) (by exact rfl))))
      pss_nil)
      (pss_cons (ps_set (i := 2) sc_choose_disks.nd rfl (Or.inl rfl) (pe_callB (cr_sortedD hr.units) (by rfl) T.n_sorted (by decide +kernel) (pa_cons (pe_lc (own := [("disk", 3), ("present", 4), ("free", 5)]) (g := (gTup K 3 (gCons (gName 3) (gCons (gName 4) (gCons (gName 5) gNil))))) (by rfl) sc_choose_disks.nd (pi_list (pv 0)) (blkOk_by (own := [("disk", 3), ("present", 4), ("free", 5)]) (N := ["candidates", "width", "ranked", "disk", "present", "free", "_"]) (sc := defScope s_choose_disks) (by decide +kernel))
      (fun _ _ _ _ _ => (pg_tup rfl (pgs_cons (pg_name (i := 3) sc_choose_disks.nd rfl (Or.inl rfl)) (pgs_cons (pg_name (i := 4) sc_choose_disks.nd rfl (Or.inl rfl)) (pgs_cons (pg_name (i := 5) sc_choose_disks.nd rfl (Or.inl rfl)) pgs_nil))))) (fun _ _ _ _ _ => (pts_one (pt_cmpR op_gt (pv 5) pe_int (nomark _)))) (fun _ _ _ _ _ => (pe_tup (pa_cons (pe_not (pv 4)) (pa_cons (pe_un un_neg (pv 5)) (pa_cons (pv 3) pa_nil)))))) pa_nil)))
      (pss_cons (ps_if (pt_cmpR op_lt (pe_callB call_len_seq (by rfl) T.n_len PySem.boot_len (pa_cons (pv 2) pa_nil)) (pv 1) (nomark _))
      (pss_one (ps_raise rfl (takes_of rfl rfl rfl rfl) (pmk_own PySem.F.excBase_ValueError T.x_NoSpace T.g_NoSpace T.k_NoSpace (raises_own T.b_NoSpace T.t_NoSpace) (by exact rfl))))
      pss_nil)
      (pss_one (ps_ret (pe_callB cr_sorted (by rfl) T.n_sorted (by decide +kernel) (pa_cons (pe_lc (own := [("_", 6), ("disk", 3)]) (g := (gTup K 3 (gCons (gName 6) (gCons (gName 6) (gCons (gName 3) gNil))))) (by rfl) sc_choose_disks.nd (pi_list (pe_slice sl_list (pv 2) po_none (po_some (pv 1)))) (blkOk_by (own := [("_", 6), ("disk", 3)]) (N := ["candidates", "width", "ranked", "disk", "present", "free", "_"]) (sc := defScope s_choose_disks) (by decide +kernel))
      (fun _ _ _ _ _ => (pg_tup rfl (pgs_cons (pg_name (i := 6) sc_choose_disks.nd rfl (Or.inl rfl)) (pgs_cons (pg_name (i := 6) sc_choose_disks.nd rfl (Or.inl rfl)) (pgs_cons (pg_name (i := 3) sc_choose_disks.nd rfl (Or.inl rfl)) pgs_nil))))) (fun _ _ _ _ _ => pts_nil) (fun _ _ _ _ _ => (pv 3))) pa_nil))))))), ?_⟩
    refine ⟨_, rfl, C, _, rfl, .inl hC.1, _, rfl, _, _, rfl, rfl, _, rfl, ite2 (fun b => kD (by have := of_decide_eq_true b; rw [List.length_map] at this; omega) _ (Same.refl _)) (fun b => ?_)⟩
    have nw : ¬ L.length < w := fun z => b (decide_eq_true (by rw [List.length_map]; omega))
    -- ranked = sorted([...])
    refine ⟨_, rfl, C, rfl, ⟨_, hC.1⟩, fun D nD => lc_list (K := K) (a := C) (xs := L.map cdV) (fun i H' => ∃ G : List (Addr × Cd), Same H H' ∧ H' D = some (.lst (G.map fun e => V.ref e.1)) ∧ G.map (·.2) = (L.take i).filter (fun e => decide (0 < e.f)) ∧ ∀ e ∈ G, H' e.1 = some (.tup [.bl (!e.2.b), .int (-e.2.f), .int e.2.d]))
      ⟨[], Same.new nD, upd_same, rfl, fun _ m => nomatch m⟩ (fun i H' _ ⟨_, s', _⟩ => s'.seq hC.1) ?_ ?_⟩
    · rintro i y H' hi ⟨G, s1, hD, eG, hG⟩
      obtain ⟨e, he, rfl⟩ := cd_item hi
      have me := List.mem_of_getElem? he
      refine ⟨e.t, _, rfl, SqT.of (s1 _ _ (hC.2 e me)), rfl, _, _, rfl, _, _, rfl, _, _, rfl, rfl, ?_⟩
      have fs := filter_snoc (fun e : Cd => decide (0 < e.f)) he
      have lG : G.length ≤ L.length := by
        have := congrArg List.length eG
        rw [List.length_map] at this
        rw [this]
        exact filter_len _ _ _
      refine ⟨rfl, _, rfl, _, _, rfl, rfl, _, rfl, ite2 (fun q => ?_) (fun q => ?_)⟩
      · have q := of_decide_eq_true q
        rw [decide_eq_true q] at fs
        refine ⟨_, rfl, _, rfl, _, rfl, _, rfl, _, rfl, (by show 3 ≤ sizeLine; decide), fun t nt => ?_⟩
        have st := Same.new (o := .tup [V.bl (!e.b), V.int (-e.f), V.int e.d]) nt
        have hD2 := st _ _ hD
        have hG2 : ∀ e' ∈ G, upd H' t (.tup [V.bl (!e.b), V.int (-e.f), V.int e.d]) e'.1 = some (.tup [.bl (!e'.2.b), .int (-e'.2.f), .int e'.2.d]) := fun e' m => st _ _ (hG e' m)
        have dt : upd H' t (.tup [V.bl (!e.b), V.int (-e.f), V.int e.d]) t = some (.tup [.bl (!e.b), .int (-e.f), .int e.d]) := upd_same
        have s2 := s1.trans st
        have ntD : t ≠ D := (ne_of_none hD nt).symm
        refine ⟨_, hD2, small _ (by rw [List.length_map]; omega), G ++ [(t, e)], same_put s2 nD, ?_, ?_, fun e' m => ?_⟩
        · rw [upd_same, List.map_append]
          rfl
        · rw [fs, List.map_append, eG]
          rfl
        · rcases List.mem_append.mp m with m | m
          · rw [upd_ne (ne_of (hG2 e' m) hD2 (by intro q; cases q))]
            exact hG2 e' m
          · have : e' = (t, e) := by simpa using m
            subst this
            rw [upd_ne ntD]
            exact dt
      · have q' : ¬ 0 < e.f := fun z => q (decide_eq_true z)
        rw [decide_eq_false q'] at fs
        refine ⟨G, s1, hD, ?_, hG⟩
        rw [fs, eG]
        simp
    rintro H1 ⟨G, s1, hD, eG, hG⟩
    rw [List.length_map, List.take_length] at eG
    replace eG : G.map (·.2) = usableM L := eG
    -- sorted
    have mU : ∀ e ∈ G, e.2 ∈ usableM L := fun e m => by rw [← eG]; exact List.mem_map.mpr ⟨e, m, rfl⟩
    have kG : ∀ e ∈ G, kH H1 (.ref e.1) = tripD e.2 := fun e m => kH_of (hG e m)
    have lG : G.length ≤ 20 := by
      have := congrArg List.length eG
      rw [List.length_map] at this
      have h2 : (usableM L).length ≤ L.length := List.length_filter_le _ _
      omega
    refine ⟨D, G.map fun e => V.ref e.1, kH H1, rfl, SqL.of hD, fun x m => ?_, fun x m y m' => ?_, .inl fun x m => ?_, fun x m => ?_, fun R nR => ?_⟩
    · obtain ⟨e, me, rfl⟩ := List.mem_map.mp m
      rw [kG e me]
      exact .tup (SqT.of (hG e me)) (.cons (.bl _) (.cons (.int _) (.cons (.int _) .nil)))
    · obtain ⟨x1, m1, rfl⟩ := List.mem_map.mp m
      obtain ⟨y1, m2, rfl⟩ := List.mem_map.mp m'
      obtain ⟨e, me, rfl⟩ := List.mem_map.mp m1
      obtain ⟨e', me', rfl⟩ := List.mem_map.mp m2
      rw [kG e me, kG e' me']
      exact trip_alike _ _
    · obtain ⟨y1, m1, rfl⟩ := List.mem_map.mp m
      obtain ⟨e, me, rfl⟩ := List.mem_map.mp m1
      rw [kG e me]
      exact ⟨_, _, rfl⟩
    · obtain ⟨e, me, rfl⟩ := List.mem_map.mp m
      rw [kG e me]
      simp [tripD, PyData.depth, PyData.depthAll]
    have eS : (G.map fun e => V.ref e.1).mergeSort (PySem.W.dataLe false (kH H1)) = (G.mergeSort fun x y => leM x.2 y.2).map fun e => V.ref e.1 := by
      refine (List.map_mergeSort fun x mx y my => ?_).symm
      rw [PySem.W.dataLe_eq]
      show leM x.2 y.2 = !PySem.W.dataLt (kH H1 (.ref y.1)) (kH H1 (.ref x.1))
      rw [kG x mx, kG y my, trip_lt]
      rfl
    rw [eS]
    have pS : (G.mergeSort fun x y => leM x.2 y.2).Perm G := List.mergeSort_perm _ _
    have oS : (G.mergeSort fun x y => leM x.2 y.2).Pairwise fun x y => leM x.2 y.2 = true := List.pairwise_mergeSort (fun a b c => leM_trans a.2 b.2 c.2) (fun a b => leM_total a.2 b.2) G
    generalize (G.mergeSort fun x y => leM x.2 y.2) = S at pS oS ⊢
    have lS : S.length = (usableM L).length := by rw [pS.length_eq, ← eG, List.length_map]
    have pS2 : (S.map (·.2)).Perm (usableM L) := by rw [← eG]; exact pS.map _
    have ndU : ((usableM L).map (·.d)).Nodup := List.Nodup.sublist (List.Sublist.map _ List.filter_sublist) nd
    have strict : (S.map (·.2)).Pairwise fun x y => beforeM x y = true := strict_of (List.pairwise_map.mpr oS) ((pS2.map _).nodup_iff.mpr ndU)
    have best := best_of (w := w) pS2 strict
    have sR := Same.new (o := .lst (S.map fun e => V.ref e.1)) nR
    have dR : upd H1 R (.lst (S.map fun e => V.ref e.1)) R = some (.lst (S.map fun e => V.ref e.1)) := upd_same
    have hS : ∀ e ∈ S, upd H1 R (.lst (S.map fun e => V.ref e.1)) e.1 = some (.tup [.bl (!e.2.b), .int (-e.2.f), .int e.2.d]) := fun e m => sR _ _ (hG e (pS.mem_iff.mp m))
    have s2 := s1.trans sR
    have nR0 := same_none s1 nR
    generalize upd H1 R (.lst (S.map fun e => V.ref e.1)) = H2 at dR hS s2 ⊢
    -- if len(ranked) < width
    refine ⟨_, rfl, R, _, rfl, .inl (SqL.of dR), _, rfl, _, _, rfl, rfl, _, rfl, ite2 (fun b => kS nw (by have := of_decide_eq_true b; rw [List.length_map] at this; omega) _ s2) (fun b => ?_)⟩
    have nu : ¬ (usableM L).length < w := fun z => b (decide_eq_true (by rw [List.length_map]; omega))
    -- sorted([disk for _, _, disk in ranked[:width]])
    refine ⟨_, rfl, _, rfl, _, rfl, R, _, rfl, SqL.of dR, fun T nT => ?_⟩
    rw [cut_take, ← List.map_take]
    have sT := Same.new (o := .lst ((S.take w).map fun e => V.ref e.1)) nT
    have dT : upd H2 T (.lst ((S.take w).map fun e => V.ref e.1)) T = some (.lst ((S.take w).map fun e => V.ref e.1)) := upd_same
    have hT : ∀ e ∈ S.take w, upd H2 T (.lst ((S.take w).map fun e => V.ref e.1)) e.1 = some (.tup [.bl (!e.2.b), .int (-e.2.f), .int e.2.d]) := fun e m => sT _ _ (hS e (List.mem_of_mem_take m))
    have s3 := s2.trans sT
    generalize upd H2 T (.lst ((S.take w).map fun e => V.ref e.1)) = H3 at dT hT s3 ⊢
    have lB : (S.take w).length ≤ 20 := by
      rw [List.length_take, lS, ← eG, List.length_map]
      omega
    rw [← List.map_take] at best
    generalize S.take w = B at dT hT best lB ⊢
    refine ⟨T, rfl, ⟨_, SqL.of dT⟩, fun N nN => lc_list (K := K) (a := T) (xs := B.map fun e => V.ref e.1) (fun i H' => Same H3 H' ∧ H' N = some (.lst (((B.take i).map fun e => e.2.d).map V.int))) ⟨Same.new nN, upd_same⟩ (fun i H' _ q => q.1.seq (SqL.of dT)) ?_ ?_⟩
    · rintro i y H' hi ⟨s4, hN⟩
      obtain ⟨e, he, rfl⟩ : ∃ e, B[i]? = some e ∧ y = V.ref e.1 := by
        rw [List.getElem?_map] at hi
        cases q : B[i]? with
        | none => rw [q] at hi; cases hi
        | some e => rw [q] at hi; exact ⟨e, rfl, (Option.some.inj hi).symm⟩
      have me := List.mem_of_getElem? he
      refine ⟨e.1, _, rfl, SqT.of (s4 _ _ (hT e me)), rfl, _, _, rfl, _, _, rfl, _, _, rfl, rfl, ?_⟩
      refine ⟨rfl, _, rfl, _, hN, small _ (by rw [List.length_map, List.length_map, List.length_take]; omega), same_put s4 nN, ?_⟩
      rw [upd_same, take_snoc he, List.map_append, List.map_append]
      rfl
    rintro H4 ⟨s4, hN⟩
    rw [List.take_of_length_le (by rw [List.length_map]; exact Nat.le_refl _)] at hN
    refine ⟨N, _, rfl, SqL.of hN, by rw [List.length_map]; omega, fun ns Z pm oz nZ => ?_⟩
    have s5 := (s3.trans s4).trans (Same.new (o := .lst (ns.map V.int)) nZ)
    rw [List.map_map] at best
    exact kQ nw nu Z ns _ s5 (same_none (s3.trans s4) nZ) upd_same (pm.trans best) oz
theorem sc_piece_size : FnScope ["length", "data"] ["length", "data"] (defScope s_piece_size) := ⟨rfl, rfl, rfl, by decide +kernel, rfl, by decide +kernel, by decide +kernel⟩
theorem ok_piece_size (T : Txt w K mg a) : FnOk P w K mg base CX0 1 a.f_piece_size a.d_piece_size ["length", "data"] (sp_piece_size K a) := by
  refine T.F_piece_size.ok sc_piece_size (fun vs H Q E h => ?len) (fun cdv A outer s H vs Q E hr h => ?body)
  case len =>
    exact sp_piece_size_len h
  case body =>
    obtain ⟨n, d, rfl, hd, hd2, k⟩ := h
    refine ⟨_, (pss_one (ps_ret (pe_op op_fdiv (pe_op op_sub (pe_op op_add (pv 0) (pv 1)) pe_int) (pv 1)))), ?_⟩
    refine ⟨_, rfl, _, rfl, _, _, rfl, rfl, _, _, rfl, rfl, _, rfl, _, _, rfl, rfl, ⟨by omega, by omega⟩, ?_⟩
    have e : ((n : Int) + (d : Int) - 1) / (d : Int) = ((sizeM n d : Nat) : Int) := by
      unfold sizeM
      rw [show (n : Int) + (d : Int) - 1 = ((n + d - 1 : Nat) : Int) by omega]
      rfl
    show Q (.int (((n : Int) + (d : Int) - 1) / (d : Int))) H
    rw [e]
    exact k
theorem sc_law_pot : FnScope ["script", "seed", "cell"] ["script"] (defScope s_law_pot) := ⟨rfl, rfl, rfl, by decide +kernel, rfl, by decide +kernel, by decide +kernel⟩
theorem ok_law_pot (T : Txt w K mg a) : FnOk P w K mg base CX0 1 a.f_law_pot a.d_law_pot ["script"] (sp_law_pot K a) := by
  refine T.F_law_pot.ok sc_law_pot (fun vs H Q E h => ?len) (fun cdv A outer s H vs Q E hr h => ?body)
  case len =>
    exact sp_law_pot_len h
  case body =>
    obtain ⟨s, ns, rfl, hS, hlen, k⟩ := h
    refine ⟨_, (pss_cons (ps_set (i := 1) sc_law_pot.nd rfl (Or.inl rfl) pe_int)
      (pss_cons (ps_for PassesOwn.never rfl (pi_list (pv 0)) (pg_name (i := 2) sc_law_pot.nd rfl (Or.inl rfl))
      (pss_one (ps_set (i := 1) sc_law_pot.nd rfl (Or.inl rfl) (pe_op op_mod (pe_callTy call_int1 (by rfl) T.n_int (by decide +kernel) (pa_cons (pe_op op_add (pe_op op_mul (pv 1) pe_int) (pv 2)) pa_nil)) pe_int))))
      (pss_one (ps_ret (pe_lst (pa_cons (pe_callTy call_list_of (by rfl) T.n_list (by decide +kernel) (pa_cons (pv 0) pa_nil)) (pa_cons pe_int (pa_cons pe_int (pa_cons (pv 1) pa_nil))))))))), ?_⟩
    refine ⟨_, rfl, s, rfl, ⟨_, hS⟩, for_list (K := K) (a := s) (xs := ns.map V.int) (fun i σ H' => ∃ (z : Int) (v : Option V), σ = [some (.ref s), some (.int z), v] ∧ 0 ≤ z ∧ z < 2147483647 ∧ H' = H)
      ⟨1, none, rfl, by decide, by decide, rfl⟩ (fun i σ H' _ ⟨_, _, _, _, _, e⟩ => by rw [e]; exact hS) ?_ ?_⟩
    · rintro i y σ H' hi ⟨z, v, rfl, z0, z1, rfl⟩
      obtain ⟨c, hc, rfl⟩ := int_item hi
      refine ⟨_, rfl, _, _, rfl, rfl, .inl ⟨by omega, by omega⟩, _, rfl, _, _, rfl, rfl, .inl ⟨_, rfl, _, _, rfl, rfl, (by show (0 : Int) < 2147483647; decide), ?_⟩⟩
      exact ⟨_, _, rfl, Int.emod_nonneg _ (by decide), Int.emod_lt_of_pos _ (by decide), rfl⟩
    · rintro σ H' ⟨z, v, rfl, z0, z1, rfl⟩
      refine ⟨_, rfl, s, _, rfl, .inl hS, fun l hl => ?_⟩
      refine ⟨_, rfl, (by show 4 ≤ sizeLine; decide), fun p hp => ?_⟩
      have npl : l ≠ p := fun e => by subst e; rw [upd_same] at hp; cases hp
      have hp0 : H' p = none := by rw [upd_ne npl.symm] at hp; exact hp
      refine k p l _ hp0 hl (fun b o e => ?_) ⟨ns, 0, 0, z, upd_same, by rw [upd_ne npl, upd_same], by decide, by decide, z0, z1⟩
      rw [upd_ne (ne_of_none e hp0), upd_ne (ne_of_none e hl)]
      exact e
theorem sc_law_next : FnScope ["pot", "limit", "cell", "found", "mixed"] ["pot", "limit"] (defScope s_law_next) := ⟨rfl, rfl, rfl, by decide +kernel, rfl, by decide +kernel, by decide +kernel⟩
theorem ok_law_next (T : Txt w K mg a) : FnOk P w K mg base CX0 1 a.f_law_next a.d_law_next ["pot", "limit"] (sp_law_next K a) := by
  refine T.F_law_next.ok sc_law_next (fun vs H Q E h => ?len) (fun cdv A outer s H vs Q E hr h => ?body)
  case len =>
    exact sp_law_next_len h
  case body =>
    obtain ⟨p, l, m, rfl, hP, m0, m1, k⟩ := h
    obtain ⟨ns, i, acc, seed, h1, h2, i0, acc0, s0, s1⟩ := id hP
    have nlp := hP.ne
    have mod0 : ∀ x : Int, 0 ≤ x % m := fun x => Int.emod_nonneg _ (by omega)
    have mod1 : ∀ x : Int, x % m < m := fun x => Int.emod_lt_of_pos _ m0
    have mW : m.natAbs < 2 ^ 41 := by
      have : m.natAbs < 2199023255552 := by omega
      exact this
    refine ⟨_, (Evl.pss_cut (ps_if (PW.pt (pw_and (pt_cmpR op_eq (pe_ix ix_list (pv 0) pe_int (fun _ _ => rfl)) pe_int (nomark _)) (pw_and1 (pt_cmpR op_lt (pe_ix ix_list (pv 0) pe_int (fun _ _ => rfl)) (pe_callB call_len_seq (by rfl) T.n_len PySem.boot_len (pa_cons (pe_ix ix_list (pv 0) pe_int (fun _ _ => rfl)) pa_nil)) (nomark _)))))
      (pss_cons (ps_set (i := 2) sc_law_next.nd rfl (Or.inl rfl) (pe_callB call_abs (by rfl) T.n_abs (by decide +kernel) (pa_cons (pe_callTy call_int1 (by rfl) T.n_int (by decide +kernel) (pa_cons (pe_ix ix_list (pe_ix ix_list (pv 0) pe_int (fun _ _ => rfl)) (pe_ix ix_list (pv 0) pe_int (fun _ _ => rfl)) (fun _ _ => rfl)) pa_nil)) pa_nil)))
      (pss_cons (ps_asg (pe_op op_add (pe_ix ix_list (pv 0) pe_int (fun _ _ => rfl)) pe_int) (pg_sub (pv 0) pe_int set_list))
      (pss_cons (ps_if (pt_cmpR op_lt (pv 2) (pe_op op_pow pe_int pe_int) (nomark _))
      (pss_one (ps_ret (pe_op op_mod (pe_callTy call_int1 (by rfl) T.n_int (by decide +kernel) (pa_cons (pv 2) pa_nil)) (pv 1))))
      pss_nil)
      (pss_one (ps_asg (pv 2) (pg_sub (pv 0) pe_int set_list))))))
      pss_nil)
      (pss_cons (ps_if (pt_cmpR op_gt (pe_ix ix_list (pv 0) pe_int (fun _ _ => rfl)) pe_int (nomark _))
      (pss_cons (ps_set (i := 3) sc_law_next.nd rfl (Or.inl rfl) (pe_op op_mod (pe_callTy call_int1 (by rfl) T.n_int (by decide +kernel) (pa_cons (pe_ix ix_list (pv 0) pe_int (fun _ _ => rfl)) pa_nil)) (pv 1)))
      (pss_cons (ps_asg (pe_op op_fdivW (pe_ix ix_list (pv 0) pe_int (fun _ _ => rfl)) (pv 1)) (pg_sub (pv 0) pe_int set_list))
      (pss_one (ps_ret (pv 3)))))
      pss_nil)
      (pss_cons (ps_asg (pe_op op_mod (pe_callTy call_int1 (by rfl) T.n_int (by decide +kernel) (pa_cons (pe_op op_add (pe_op op_mul (pe_ix ix_list (pv 0) pe_int (fun _ _ => rfl)) pe_int) pe_int) pa_nil)) pe_int) (pg_sub (pv 0) pe_int set_list))
      (pss_cons (ps_set (i := 4) sc_law_next.nd rfl (Or.inl rfl) (pe_op op_mod (pe_callTy call_int1 (by rfl) T.n_int (by decide +kernel) (pa_cons (pe_op op_add (pe_op op_mul (pe_ix ix_list (pv 0) pe_int (fun _ _ => rfl)) pe_int) (pe_op op_fdiv (pe_ix ix_list (pv 0) pe_int (fun _ _ => rfl)) pe_int)) pa_nil)) pe_int))
      (pss_one (ps_ret (pe_op op_mod (pe_callTy call_int1 (by rfl) T.n_int (by decide +kernel) (pa_cons (pv 4) pa_nil)) (pv 1)))))))), ?_⟩
    refine ⟨fun σ H' => ∃ (u : Option V) (i' acc' : Int), σ = [some (.ref p), some (.int m), u, none, none] ∧ H' p = some (.lst [.ref l, .int i', .int acc', .int seed]) ∧ 0 ≤ i' ∧ 0 ≤ acc' ∧ Only p H H', ?_, ?_⟩
    · -- if pot[2] == 0 and pot[1] < len(pot[0])
      refine ⟨_, rfl, p, _, _, _, rfl, rfl, SqL.of h1, at_of (j := 2) rfl rfl, rfl, _, rfl, ?_⟩
      refine ite2 (fun e2 => ?_) (fun e2 => iteF ⟨none, i, acc, rfl, h1, i0, acc0, Only.refl⟩)
      refine ⟨_, rfl, p, _, _, _, rfl, rfl, SqL.of h1, at_of (j := 1) rfl rfl, _, rfl, p, _, _, _, rfl, rfl, SqL.of h1, at_of (j := 0) rfl rfl, l, _, rfl, .inl (SqL.of h2), _, _, rfl, rfl, _, rfl, ?_⟩
      refine ite2 (fun e3 => ?_) (fun e3 => ⟨none, i, acc, rfl, h1, i0, acc0, Only.refl⟩)
      have i1 : i < (ns.length : Int) := by
        have := of_decide_eq_true e3
        rw [List.length_map] at this
        exact this
      obtain ⟨j, rfl⟩ : ∃ j : Nat, i = (j : Int) := ⟨i.toNat, by omega⟩
      have hj : j < ns.length := by omega
      have hit : (ns.map V.int)[j]? = some (V.int ns[j]) := by rw [List.getElem?_map, List.getElem?_eq_getElem hj]; rfl
      -- cell = abs(int(pot[0][pot[1]])); pot[1] = pot[1] + 1
      refine ⟨_, rfl, p, _, _, _, rfl, rfl, SqL.of h1, at_of (j := 0) rfl rfl, _, rfl, p, _, _, _, rfl, rfl, SqL.of h1, at_of (j := 1) rfl rfl, l, _, _, _, rfl, rfl, SqL.of h2, at_of (j := j) rfl hit, .inl ⟨_, rfl, _, rfl, ?_⟩⟩
      have abs0 : 0 ≤ (if ns[j] < 0 then -ns[j] else ns[j]) := by split <;> omega
      generalize (if ns[j] < 0 then -ns[j] else ns[j]) = c at abs0 ⊢
      refine ⟨_, rfl, p, _, _, _, rfl, rfl, SqL.of h1, at_of (j := 1) rfl rfl, _, _, rfl, rfl, _, rfl, p, _, _, 1, rfl, rfl, h1, rfl, ?_⟩
      have g1 : upd H p (.lst (List.set [V.ref l, V.int (j : Int), V.int acc, V.int seed] 1 (V.int ((j : Int) + 1)))) p = some (.lst [.ref l, .int ((j : Int) + 1), .int acc, .int seed]) := upd_same
      -- if cell < 10 ** 18: return int(cell) % limit
      refine ⟨_, rfl, _, _, rfl, rfl, ⟨by decide, by decide, by decide⟩, _, _, rfl, rfl, _, rfl, ?_⟩
      refine ite2 (fun e4 => ?_) (fun e4 => ?_)
      · refine ⟨_, rfl, .inl ⟨_, rfl, _, rfl, _, _, rfl, rfl, m0, ?_⟩⟩
        exact k _ _ (mod0 _) (mod1 _) ⟨ns, _, _, _, g1, by rw [upd_ne nlp]; exact h2, by omega, acc0, s0, s1⟩ Only.upd
      · -- pot[2] = cell
        refine ⟨_, rfl, _, rfl, p, _, _, 2, rfl, rfl, g1, rfl, ?_⟩
        exact ⟨_, (j : Int) + 1, c, rfl, upd_same, by omega, abs0, Only.upd.trans Only.upd⟩
    · rintro σ H' ⟨u, i', acc', rfl, g1, i0', acc0', oH⟩
      have g2 : H' l = some (.lst (ns.map V.int)) := by rw [oH _ nlp]; exact h2
      -- if pot[2] > 0
      refine ⟨_, rfl, p, _, _, _, rfl, rfl, SqL.of g1, at_of (j := 2) rfl rfl, _, _, rfl, rfl, _, rfl, ?_⟩
      refine ite2 (fun e2 => ?_) (fun e2 => ?_)
      · refine ⟨_, rfl, p, _, _, _, rfl, rfl, SqL.of g1, at_of (j := 2) rfl rfl, .inl ⟨_, rfl, _, rfl, _, _, rfl, rfl, m0, ?_⟩⟩
        refine ⟨_, rfl, p, _, _, _, rfl, rfl, SqL.of g1, at_of (j := 2) rfl rfl, _, rfl, _, _, rfl, rfl, wide_div m0 mW (by decide) (by decide), _, rfl, p, _, _, 2, rfl, rfl, g1, rfl, ?_⟩
        refine ⟨_, rfl, ?_⟩
        exact k _ _ (mod0 _) (mod1 _) ⟨ns, i', acc' / m, seed, upd_same, by rw [upd_ne nlp]; exact g2, i0', Int.ediv_nonneg acc0' (by omega), s0, s1⟩ (oH.trans Only.upd)
      · -- pot[3] = int(pot[3] * 48271 + 12345) % 2147483647
        refine ⟨_, rfl, p, _, _, _, rfl, rfl, SqL.of g1, at_of (j := 3) rfl rfl, _, _, rfl, rfl, .inl ⟨by omega, by omega⟩, _, _, rfl, rfl, .inl ⟨_, rfl, _, _, rfl, rfl, (by show (0 : Int) < 2147483647; decide), ?_⟩⟩
        have t0 := Int.emod_nonneg (seed * 48271 + 12345) (show (2147483647 : Int) ≠ 0 by decide)
        have t1 := Int.emod_lt_of_pos (seed * 48271 + 12345) (show (0 : Int) < 2147483647 by decide)
        refine ⟨_, rfl, p, _, _, 3, rfl, rfl, g1, rfl, ?_⟩
        have g3 : upd H' p (.lst (List.set [V.ref l, V.int i', V.int acc', V.int seed] 3 (V.int ((seed * 48271 + 12345) % 2147483647)))) p = some (.lst [.ref l, .int i', .int acc', .int ((seed * 48271 + 12345) % 2147483647)]) := upd_same
        refine ⟨_, rfl, p, _, _, _, rfl, rfl, SqL.of g3, at_of (j := 3) rfl rfl, _, _, rfl, rfl, .inl ⟨by omega, by omega⟩, _, rfl, p, _, _, _, rfl, rfl, SqL.of g3, at_of (j := 3) rfl rfl, _, _, rfl, rfl, ⟨by decide, by decide⟩, _, _, rfl, rfl, .inl ⟨_, rfl, _, _, rfl, rfl, (by show (0 : Int) < 2147483629; decide), ?_⟩⟩
        refine ⟨_, rfl, .inl ⟨_, rfl, _, rfl, _, _, rfl, rfl, m0, ?_⟩⟩
        exact k _ _ (mod0 _) (mod1 _) ⟨ns, _, _, _, g3, by rw [upd_ne nlp]; exact g2, i0', acc0', t0, t1⟩ (oH.trans Only.upd)
theorem sc_law_carry : FnScope ["images", "requests", "request"] ["images", "requests"] (defScope s_law_carry) := ⟨rfl, rfl, rfl, by decide +kernel, rfl, by decide +kernel, by decide +kernel⟩
theorem ok_law_carry (T : Txt w K mg a) : FnOk P w K mg base CX0 1 a.f_law_carry a.d_law_carry ["images", "requests"] (sp_law_carry K a) := by
  refine T.F_law_carry.ok sc_law_carry (fun vs H Q E h => ?len) (fun cdv A outer s H vs Q E hr h => ?body)
  case len =>
    exact sp_law_carry_len h
  case body =>
    obtain ⟨X, I, R, st, rs, fs, n, rfl, hI, ls, n100, hn, hR, hW, hF, lr, nR, he, k⟩ := h
    refine ⟨_, (pss_one (ps_for PassesOwn.never rfl (pi_list (pv 1)) (pg_name (i := 2) sc_law_carry.nd rfl (Or.inl rfl))
      (pss_one (ps_if (PW.pt (pw_and (pt_cmpR op_eq (pe_ix ix_tup (pv 2) pe_int (fun _ _ => rfl)) pe_str (nomark _)) (pw_and1 (pt_cmpR op_notN (pe_ix ix_list (pv 0) (pe_ix ix_tup (pv 2) pe_int (fun _ _ => rfl)) (fun _ _ => rfl)) pe_non (nomark _)))))
      (pss_one (ps_asg (pe_ix ix_tup (pv 2) pe_int (fun _ _ => rfl)) (pg_sub (pe_ix ix_list (pv 0) (pe_ix ix_tup (pv 2) pe_int (fun _ _ => rfl)) (fun _ _ => rfl)) (pe_ix ix_tup (pv 2) pe_int (fun _ _ => rfl)) set_list)))
      pss_nil)))), ?_⟩
    have dR : ¬ dkS st R := fun z => nR (.inr (.inr z))
    refine ⟨_, rfl, R, rfl, ⟨_, SqL.of hR⟩, for_list (K := K) (a := R) (xs := rs.map rqV ++ fs.map V.ref) (fun i σ H' => ∃ v2 : Option V, σ = [some (.ref I), some (.ref R), v2] ∧ ImM H' X I (carryM st (rs.take i)) ∧ (∀ b o, H b = some o → ¬ dkS st b → H' b = some o) ∧ ∀ b, H' b = none → H b = none) ⟨none, rfl, hI, fun b o e _ => e, fun _ e => e⟩ (fun i σ H' _ ⟨_, _, _, fr, _⟩ => SqL.of (fr _ _ hR dR)) ?_ ?_⟩
    · rintro i x σ H1 hx ⟨v2, rfl, hI1, fr, ou⟩
      by_cases il : i < rs.length
      · obtain ⟨e, hg, rfl⟩ : ∃ e, rs[i]? = some e ∧ x = rqV e := by
          rw [List.getElem?_append_left (by rw [List.length_map]; exact il), List.getElem?_map] at hx
          cases z : rs[i]? with
          | none => rw [z] at hx; cases hx
          | some e => rw [z] at hx; exact ⟨e, rfl, (Option.some.inj hx).symm⟩
        have me := List.mem_of_getElem? hg
        have hw := hW e me
        obtain ⟨m1, m2, d0, d1, r0, r1⟩ := he e me
        have et : rs.take (i + 1) = rs.take i ++ [e] := take_snoc hg
        have ht : H1 e.t = some (.tup [.str "write", .int e.d, .int e.r, .ref e.s]) := fr _ _ hw.1 (by
          rintro ⟨j, dk, g, z⟩
          exact ne_of hw.1 (hI.hD j dk g).1 (by intro y; cases y) z)
        have hs : H1 e.s = some (.lst (e.ws.map V.int)) := fr _ _ hw.2 fun z => m1 (.inr (.inr z))
        have lc := carry_len st (rs.take i)
        obtain ⟨d, hd⟩ : ∃ d : Nat, e.d = (d : Int) := ⟨e.d.toNat, by omega⟩
        obtain ⟨r, hr'⟩ : ∃ r : Nat, e.r = (r : Int) := ⟨e.r.toNat, by omega⟩
        have dlt : d < (carryM st (rs.take i)).length := by omega
        have gd : (carryM st (rs.take i))[d]? = some (carryM st (rs.take i))[d] := List.getElem?_eq_getElem dlt
        refine ⟨_, rfl, e.t, _, _, _, rfl, rfl, SqT.of ht, at_of (j := 0) rfl rfl, rfl, _, rfl, ?_⟩
        rw [decide_eq_true rfl]
        refine iteT ⟨_, rfl, _, rfl, e.t, _, _, _, rfl, rfl, SqT.of ht, at_of (j := 1) rfl rfl, I, _, _, _, rfl, rfl, SqL.of hI1.hI, at_of (j := d) hd (dk_get gd), rfl, _, rfl, ?_⟩
        rw [et, carry_snoc]
        cases hdk : (carryM st (rs.take i))[d] with
        | none =>
          rw [hdk] at gd
          rw [decide_eq_true (show dkV none = V.non from rfl)]
          have e2 : putS (carryM st (rs.take i)) e.d.toNat e.r.toNat (some (e.s, e.ws)) = carryM st (rs.take i) := by
            unfold putS
            rw [hd, Int.toNat_natCast, gd]
          rw [e2]
          exact iteF ⟨_, rfl, hI1, fr, ou⟩
        | some dk =>
          rw [hdk] at gd
          rw [decide_eq_false (show ¬ dkV (some dk) = V.non from fun z => nomatch z)]
          have hD := hI1.hD d dk gd
          have hrl : dk.rows.length = n := carry_rows hn (rs.take i) d dk gd
          refine iteT ⟨_, rfl, e.t, _, _, _, rfl, rfl, SqT.of ht, at_of (j := 3) rfl rfl, ?_⟩
          refine ⟨_, rfl, _, rfl, e.t, _, _, _, rfl, rfl, SqT.of ht, at_of (j := 1) rfl rfl, I, _, _, _, rfl, rfl, SqL.of hI1.hI, at_of (j := d) hd (dk_get gd), ?_⟩
          refine ⟨_, rfl, e.t, _, _, _, rfl, rfl, SqT.of ht, at_of (j := 2) rfl rfl, dk.A, _, _, r, rfl, rfl, hD.1, by rw [List.length_map]; rw [hr']; exact ixN_nat (by omega), ?_⟩
          have em : (dk.rows.map rowV).set r (V.ref e.s) = (dk.rows.set r (some (e.s, e.ws))).map rowV := map_set_row dk.rows r (some (e.s, e.ws))
          rw [em]
          have ds : dkS st dk.A := (carry_dkS st (rs.take i) dk.A).mp ⟨d, dk, gd, rfl⟩
          refine ⟨_, rfl, ?_, fun b o q n => by rw [upd_ne (fun z => n (by rw [z]; exact ds))]; exact fr b o q n, fun b q => ?_⟩
          · rw [hd, hr', Int.toNat_natCast, Int.toNat_natCast]
            refine hI1.put gd fun s' z => ?_
            cases z
            exact ⟨hs, by rw [carry_mut]; exact m1, m2⟩
          · by_cases z : b = dk.A
            · rw [z, upd_same] at q
              cases q
            · rw [upd_ne z] at q
              exact ou b q
      · have lx := item_lt hx
        rw [List.length_append, List.length_map, List.length_map] at lx
        obtain ⟨f, mf, rfl⟩ : ∃ f ∈ fs, x = V.ref f := by
          rw [List.getElem?_append_right (by rw [List.length_map]; omega), List.getElem?_map] at hx
          cases z : fs[i - (rs.map rqV).length]? with
          | none => rw [z] at hx; cases hx
          | some f => rw [z] at hx; exact ⟨f, List.mem_of_getElem? z, (Option.some.inj hx).symm⟩
        have hf : H1 f = some (.tup [.str "flush"]) := fr _ _ (hF f mf) (by
          rintro ⟨j, dk, g, z⟩
          exact ne_of (hF f mf) (hI.hD j dk g).1 (by intro y; cases y) z)
        refine ⟨_, rfl, f, _, _, _, rfl, rfl, SqT.of hf, at_of (j := 0) rfl rfl, rfl, _, rfl, ?_⟩
        rw [decide_eq_false (show ¬ V.str "flush" = V.str "write" by intro y; injection y with y; revert y; decide)]
        refine iteF (iteF ⟨_, rfl, ?_, fr, ou⟩)
        rw [List.take_of_length_le (by omega)] at hI1 ⊢
        exact hI1
    rintro σ H1 ⟨v2, rfl, hI1, fr, ou⟩
    rw [List.take_of_length_le (by rw [List.length_append, List.length_map]; omega)] at hI1
    exact k H1 hI1 fr ou
theorem sc_Space_init : FnScope ["self", "rows", "first"] ["self", "rows", "first"] (defScope s_Space_init) := ⟨rfl, rfl, rfl, by decide +kernel, rfl, by decide +kernel, by decide +kernel⟩
theorem ok_Space_init (T : Txt w K mg a) : FnOk P w K mg base CX0 1 a.f_Space_init a.d_Space_init ["self", "rows", "first"] (sp_Space_init K a) := by
  refine T.F_Space_init.ok sc_Space_init (fun vs H Q E h => ?len) (fun cdv A outer s H vs Q E hr h => ?body)
  case len =>
    exact sp_Space_init_len h
  case body =>
    obtain ⟨p, dx, first, rows, rfl, hp, hfr, k⟩ := h
    refine ⟨_, (pss_cons (ps_fld (pv 0) (pv 1) rfl)
      (pss_cons (ps_fld (pv 0) (pv 2) rfl)
      (pss_cons (ps_fld (pv 0) pe_dnewK rfl)
      (pss_one (ps_fld (pv 0) (pv 2) rfl))))), ?_⟩
    refine ⟨_, rfl, _, rfl, p, _, dx, _, rfl, hp, T.cl_Space, T.na_Space_rows, (by show 0 < 1000; decide), ?_⟩
    refine ⟨_, rfl, _, rfl, p, _, dx, _, rfl, upd_same, T.cl_Space, T.na_Space_first, (by show 1 < 1000; decide), ?_⟩
    intro d hd
    have npd : p ≠ d := ne_of_none (upd_same) hd
    have hd0 : H d = none := by rw [upd_ne npd.symm, upd_ne npd.symm] at hd; exact hd
    refine ⟨_, rfl, p, _, dx, _, rfl, (by rw [upd_ne npd]; exact upd_same), T.cl_Space, T.na_Space_states, (by show 2 < 1000; decide), ?_⟩
    refine ⟨_, rfl, _, rfl, p, _, dx, _, rfl, upd_same, T.cl_Space, T.na_Space_lowest, (by show 3 < 1000; decide), ?_⟩
    refine k d _ hd0 ⟨dx, first, [], ?_, ?_, ⟨List.nodup_nil, fun _ => rfl, fun _ m => nomatch m⟩, Int.le_refl _, fun r a1 a2 => by omega, by omega⟩ fun b o e nb => ?_
    · rw [upd_same]
      exact congrArg (fun l => some (HO.ins a.c_Space dx l)) (flds_init (rows : Int) (first : Int) d)
    · rw [upd_ne npd.symm, upd_ne npd.symm, upd_same]
      rfl
    · rw [upd_ne nb, upd_ne nb, upd_ne (ne_of_none e hd0), upd_ne nb, upd_ne nb]
      exact e
theorem sc_Space_take : FnScope ["self", "row"] ["self"] (defScope s_Space_take) := ⟨rfl, rfl, rfl, by decide +kernel, rfl, by decide +kernel, by decide +kernel⟩
theorem ok_Space_take (T : Txt w K mg a) : FnOk P w K mg base (L2.CX P w) 1 a.f_Space_take a.d_Space_take ["self"] (sp_Space_take K a) := by
  refine T.F_Space_take.okX sc_Space_take (fun vs H Q E h => ?len) (fun cdv A outer s H vs Q E hr h => ?body)
  case len =>
    exact sp_Space_take_len h
  case body =>
    obtain ⟨p, d, first, rows, φ, rfl, hs, hr1, kE, kQ⟩ := h
    obtain ⟨dx, low, M, h1, h2, ok, l1, l2, l3⟩ := hs
    have npd : p ≠ d := ne_of h1 h2 (by intro z; cases z)
    refine ⟨_, (pss_cons (ps_set (i := 1) sc_Space_take.nd rfl (Or.inl rfl) (pe_fld (pv 0) rfl))
      (pss_cons (ps_while (passes_of rfl) (pt_cmp (pc_din (hu_of hr) (pv 1) (pe_fld (pv 0) rfl)))
      (pss_one (ps_aug (i := 1) sc_Space_take.nd rfl (Or.inl rfl) pe_int ip_add)))
      (pss_cons (ps_if (pt_cmpR op_ge (pv 1) (pe_fld (pv 0) rfl) (nomark _))
      (pss_one (ps_raise rfl (takes_of rfl rfl rfl rfl) (pmk_own PySem.F.excBase_ValueError T.x_NoSpace T.g_NoSpace T.k_NoSpace (raises_own T.b_NoSpace T.t_NoSpace) (by exact rfl))))
      pss_nil)
      (pss_cons (ps_dput (hu_of hr) (pe_fld (pv 0) rfl) (pv 1) (pe_const T.g_NEW) rfl)
      (pss_cons (ps_fld (pv 0) (pe_op op_add (pv 1) pe_int) rfl)
      (pss_one (ps_ret (pv 1)))))))), ?_⟩
    refine ⟨_, rfl, p, _, dx, _, _, rfl, h1, T.cl_Space, T.na_Space_lowest, flds_lowest _ _ _ _, ?_⟩
    -- while row in self._states
    refine ⟨fun n σ H' => ∃ row : Int, σ = [some (.ref p), some (.int row)] ∧ n = ((rows : Int) + 2 - row).toNat ∧ low ≤ row ∧ row ≤ rows + 1 ∧ (∀ r, (first : Int) ≤ r → r < row → φ r ≠ 0) ∧ H' = H, ⟨_, low, rfl, rfl, Int.le_refl _, l3, l2, rfl⟩, ?_⟩
    rintro n σ H' ⟨row, rfl, rfl, a1, a2, a3, rfl⟩
    refine ⟨_, rfl, _, rfl, p, _, dx, _, _, rfl, h1, T.cl_Space, T.na_Space_states, flds_states _ _ _ _, d, _, rfl, DGet.k (k := Sum.inl row) h2, _, rfl, ?_⟩
    rw [ok.val]
    by_cases e : φ row = 0
    · rw [if_pos e]
      refine iteF ?_
      refine ⟨_, rfl, _, rfl, p, _, dx, _, _, rfl, h1, T.cl_Space, T.na_Space_rows, flds_rows _ _ _ _, _, _, rfl, rfl, _, rfl, ite2 (fun b => kE (fun r hr => a3 r hr.1 (by have := of_decide_eq_true b; have := hr.2; omega)) _ (Same.refl _)) (fun b => ?_)⟩
      have b' : row < rows := Int.not_le.mp fun z => b (decide_eq_true z)
      have vn : valV (kvM M) (Sum.inl row) = none := by rw [ok.val, if_pos e]
      have lM : M.length ≤ rows := by rw [ok.len]; exact Nat.le_trans (pick_le _ _ _ _) (Nat.sub_le _ _)
      refine ⟨_, rfl, p, _, dx, _, _, rfl, h1, T.cl_Space, T.na_Space_states, flds_states _ _ _ _, _, rfl, d, _, rfl, DPut.k (k := Sum.inl row) h2 (small _ (by simp [kvM]; omega)), ?_⟩
      rw [kv_new vn]
      refine ⟨_, rfl, _, _, rfl, rfl, _, rfl, p, _, dx, _, rfl, by rw [upd_ne npd]; exact h1, T.cl_Space, T.na_Space_lowest, (by show 4 < 1000; decide), ?_⟩
      refine ⟨_, rfl, kQ row ⟨by omega, b'⟩ e a3 _ ⟨dx, row + 1, M ++ [(row, 1)], ?_, ?_, ok.put e ⟨by omega, b'⟩ ⟨by decide, by decide⟩, by omega, fun r r1 r2 => ?_, by omega⟩ fun b o eb n1 n2 => ?_⟩
      · rw [upd_same]
        exact congrArg (fun l => some (HO.ins a.c_Space dx l)) (flds_low (rows : Int) (first : Int) d low (row + 1))
      · rw [upd_ne npd.symm, upd_same]
      · unfold upF
        split
        · decide
        · exact a3 r r1 (by omega)
      · rw [upd_ne n1, upd_ne n2]
        exact eb
    · rw [if_neg e]
      refine iteT ?_
      have rg := (ok.range e).1
      refine ⟨fun σ' H'' => ∃ m', m' < ((rows : Int) + 2 - row).toNat ∧ _, fun _ _ q => q, ?_⟩
      refine ⟨_, rfl, _, _, rfl, rfl, _, ?_, row + 1, rfl, rfl, by omega, by omega, fun r r1 r2 => ?_, rfl⟩
      · omega
      · by_cases z : r = row
        · rw [z]
          exact e
        · exact a3 r r1 (by omega)
theorem sc_Space_settle : FnScope ["self", "row", "state"] ["self"] (defScope s_Space_settle) := ⟨rfl, rfl, rfl, by decide +kernel, rfl, by decide +kernel, by decide +kernel⟩
theorem ok_Space_settle (T : Txt w K mg a) : FnOk P w K mg base CX0 1 a.f_Space_settle a.d_Space_settle ["self"] (sp_Space_settle K a) := by
  refine T.F_Space_settle.ok sc_Space_settle (fun vs H Q E h => ?len) (fun cdv A outer s H vs Q E hr h => ?body)
  case len =>
    exact sp_Space_settle_len h
  case body =>
    obtain ⟨p, d, first, rows, φ, rfl, hs, hr1, k⟩ := h
    obtain ⟨dx, low, M, h1, h2, ok, l1, l2, l3⟩ := id hs
    have npd : p ≠ d := ne_of h1 h2 (by intro z; cases z)
    refine ⟨_, (pss_cons (ps_fld (pv 0) (pe_lock (pe_dc (own := [("row", 1), ("state", 2)]) (g := (gTup K 2 (gCons (gName 1) (gCons (gName 2) gNil)))) (by rfl) sc_Space_settle.nd (pi_items (pe_fld (pv 0) rfl)) (blkOk_by (own := [("row", 1), ("state", 2)]) (N := ["self", "row", "state"]) (sc := defScope s_Space_settle) (by decide +kernel))
      (fun _ _ _ _ _ => (pg_tup rfl (pgs_cons (pg_name (i := 1) sc_Space_settle.nd rfl (Or.inl rfl)) (pgs_cons (pg_name (i := 2) sc_Space_settle.nd rfl (Or.inl rfl)) pgs_nil)))) (fun _ _ _ _ _ => (pts_one (pt_cmpR op_ne (pv 2) (pe_const T.g_WAITING) (nomark _)))) (fun _ _ _ _ _ => (pv 1)) (fun _ _ _ _ _ => (pe_const T.g_OLD)))) rfl)
      (pss_one (ps_fld (pv 0) (pe_fld (pv 0) rfl) rfl))), ?_⟩
    have hdl : upd H d (.dK (kvM M)) = H := funext fun b => by
      by_cases z : b = d
      · rw [z, upd_same, h2]
      · rw [upd_ne z]
    refine ⟨d, _, h2, trivial, fun od => ?_⟩
    have h1' : upd H d (.frz od (.dK (kvM M))) p = some (.ins a.c_Space dx (flds rows first d low)) := by rw [upd_ne npd]; exact h1
    refine ⟨_, rfl, p, _, dx, _, _, rfl, h1', T.cl_Space, T.na_Space_states, flds_states _ _ _ _, d, od, kvM M, rfl, upd_same, fun D nD => ?_⟩
    have lM : M.length ≤ rows := by rw [ok.len]; exact Nat.le_trans (pick_le _ _ _ _) (Nat.sub_le _ _)
    have lk : (kvM M).length = M.length := by simp [kvM]
    have frz : upd H d (.frz od (.dK (kvM M))) d = some (.frz od (.dK (kvM M))) := upd_same
    have wk := walk_items (d := d) (o := od) (kvs := kvM M)
    refine ⟨fun i m H' => m = (kvM M).length - i ∧ i ≤ (kvM M).length ∧ Same (upd H d (.frz od (.dK (kvM M)))) H' ∧ H' D = some (.dK (kvM (settM (M.take i)))), ⟨_, rfl, Nat.zero_le _, Same.new nD, upd_same⟩, ?_⟩
    rintro i m H1 ⟨rfl, hi, s1, hD⟩
    by_cases hlt : i < (kvM M).length
    · refine .inr ⟨wk.goes i H1 hlt (s1 _ _ frz), fun H' => Same (upd H d (.frz od (.dK (kvM M)))) H' ∧ H' D = some (.dK (kvM (settM (M.take (i + 1))))), fun H' q => ⟨(kvM M).length - (i + 1), by omega, rfl, hlt, q.1, q.2⟩, fun x H' y => ?_⟩
      obtain ⟨t, u, v, rfl, ht, rfl, hu, hv⟩ := wk.yields i H1 x H' hlt (s1 _ _ frz) y
      obtain ⟨q, hq, e1, e2⟩ : ∃ q : Int × Int, M[i]? = some q ∧ u = V.int q.1 ∧ v = V.int q.2 := by
        replace hu : ((kvM M)[i]?.map fun kv => kV kv.1) = some u := hu
        replace hv : ((kvM M)[i]?.map Prod.snd) = some v := hv
        unfold kvM at hu hv
        rw [List.getElem?_map] at hu hv
        cases z : M[i]? with
        | none => rw [z] at hu; cases hu
        | some q => rw [z] at hu hv; exact ⟨q, rfl, (Option.some.inj hu).symm, (Option.some.inj hv).symm⟩
      subst e1 e2
      have mq := List.mem_of_getElem? hq
      have st := Same.new (o := .tup [V.int q.1, V.int q.2]) ht
      have es : settM (M.take (i + 1)) = settM (M.take i) ++ if q.2 = 3 then [] else [(q.1, 2)] := by
        unfold settM
        rw [take_snoc hq, List.filter_append, List.map_append]
        congr 1
        by_cases e3 : q.2 = 3 <;> simp [e3]
      refine ⟨t, _, rfl, SqT.of upd_same, rfl, _, _, rfl, _, _, rfl, rfl, ?_⟩
      refine ⟨rfl, _, rfl, rfl, _, rfl, ite2 (fun b => ?_) (fun b => ?_)⟩
      · have q3 : q.2 ≠ 3 := fun z => by simp [z] at b
        rw [if_neg q3] at es
        have vn : valV (kvM (settM (M.take i))) (Sum.inl q.1) = none := by
          rw [valV_M]
          cases z : (settM (M.take i)).find? fun y => decide (y.1 = q.1) with
          | none => rfl
          | some y =>
            exfalso
            have h0 := List.find?_some z
            have h1 : y.1 = q.1 := of_decide_eq_true h0
            obtain ⟨w, mw, e⟩ := List.mem_map.mp (List.mem_of_find?_eq_some z)
            have mw := (List.mem_filter.mp mw).1
            have e1 : w.1 = q.1 := by rw [← h1, ← e]
            obtain ⟨j, hj⟩ := List.mem_iff_getElem?.mp mw
            rw [List.getElem?_take] at hj
            split at hj
            · next hji =>
              have k1 : (M.map (·.1))[j]? = some q.1 := by rw [List.getElem?_map, hj, ← e1]; rfl
              have k2 : (M.map (·.1))[i]? = some q.1 := by rw [List.getElem?_map, hq]; rfl
              have lj := item_lt hj
              have := (List.getElem?_inj (by rw [List.length_map]; exact lj) ok.nd).mp (k1.trans k2.symm)
              omega
            · cases hj
        refine ⟨_, rfl, _, Sum.inl q.1, rfl, st _ _ hD, small _ ?_, same_put (s1.trans st) nD, ?_⟩
        · unfold kvM settM
          rw [List.length_map, List.length_map]
          have := List.length_filter_le (fun q : Int × Int => decide (q.2 ≠ 3)) (M.take i)
          rw [List.length_take] at this
          omega
        · rw [upd_same, es, kv_new vn]
      · have q3 : q.2 = 3 := Classical.byContradiction fun z => b (by simp [z])
        rw [if_pos q3, List.append_nil] at es
        exact ⟨s1.trans st, by rw [es]; exact st _ _ hD⟩
    · have ei : i = (kvM M).length := by omega
      subst ei
      refine .inl ⟨wk.stops H1 (s1 _ _ frz), ?_⟩
      rw [lk, List.take_length] at hD
      have hd1 := s1 _ _ frz
      have nDd : D ≠ d := (ne_of_none frz nD).symm
      have nD0 : H D = none := by rw [upd_ne nDd] at nD; exact nD
      have npD : p ≠ D := ne_of_none h1' nD
      have s2 : Same H (upd H1 d (.dK (kvM M))) := fun b o e => by
        by_cases z : b = d
        · subst z
          rw [upd_same]
          rw [h2] at e
          exact e
        · rw [upd_ne z]
          exact s1 _ _ (by rw [upd_ne z]; exact e)
      refine ⟨hd1, _, rfl, p, _, dx, _, rfl, s2 _ _ h1, T.cl_Space, T.na_Space_states, (by show 4 < 1000; decide), ?_⟩
      rw [flds_st]
      refine ⟨_, rfl, p, _, dx, _, _, rfl, upd_same, T.cl_Space, T.na_Space_first, flds_first _ _ _ _, _, rfl, p, _, dx, _, rfl, upd_same, T.cl_Space, T.na_Space_lowest, (by show 4 < 1000; decide), ?_⟩
      rw [flds_low]
      refine k D _ nD0 ⟨dx, first, settM M, upd_same, ?_, ok.sett, Int.le_refl _, fun r r1 r2 => absurd r2 (by omega), by omega⟩ fun b o eb n1 n2 => ?_
      · rw [upd_ne npD.symm, upd_ne npD.symm, upd_ne nDd]
        exact hD
      · rw [upd_ne n1, upd_ne n1]
        exact s2 _ _ eb
theorem sc_Space_free_count : FnScope ["self"] ["self"] (defScope s_Space_free_count) := ⟨rfl, rfl, rfl, by decide +kernel, rfl, by decide +kernel, by decide +kernel⟩
theorem ok_Space_free_count (T : Txt w K mg a) : FnOk P w K mg base CX0 1 a.f_Space_free_count a.d_Space_free_count ["self"] (sp_Space_free_count K a) := by
  refine T.F_Space_free_count.ok sc_Space_free_count (fun vs H Q E h => ?len) (fun cdv A outer s H vs Q E hr h => ?body)
  case len =>
    exact sp_Space_free_count_len h
  case body =>
    obtain ⟨p, d, first, rows, φ, rfl, hs, k⟩ := h
    obtain ⟨dx, low, M, h1, h2, ok, l1, l2, l3⟩ := id hs
    refine ⟨_, (pss_one (ps_ret (pe_op op_sub (pe_op op_sub (pe_fld (pv 0) rfl) (pe_fld (pv 0) rfl)) (pe_callB call_lenD (by rfl) T.n_len PySem.boot_len (pa_cons (pe_fld (pv 0) rfl) pa_nil))))), ?_⟩
    refine ⟨_, rfl, p, _, dx, _, _, rfl, h1, T.cl_Space, T.na_Space_rows, flds_rows _ _ _ _, _, rfl, p, _, dx, _, _, rfl, h1, T.cl_Space, T.na_Space_first, flds_first _ _ _ _, _, _, rfl, rfl, _, rfl, p, _, dx, _, _, rfl, h1, T.cl_Space, T.na_Space_states, flds_states _ _ _ _, d, _, rfl, h2, _, _, rfl, rfl, ?_⟩
    have e : ((kvM M).length : Int) = ((pickL first rows φ fun s => decide (s ≠ 0)).length : Nat) := by rw [← ok.len]; simp [kvM]
    show Q (.int ((rows : Int) - first - ((kvM M).length : Int))) H
    rw [e]
    exact k
theorem sc_Store_look : FnScope ["self", "images"] ["self", "images"] (defScope s_Store_look) := ⟨rfl, rfl, rfl, by decide +kernel, rfl, by decide +kernel, by decide +kernel⟩
theorem ok_Store_look (T : Txt w K mg a) : FnOk P w K mg base CX0 1 a.f_Store_look a.d_Store_look ["self", "images"] (sp_Store_look K a) := by
  refine T.F_Store_look.ok sc_Store_look (fun vs H Q E h => ?len) (fun cdv A outer s H vs Q E hr h => ?body)
  case len =>
    exact sp_Store_look_len h
  case body =>
    obtain ⟨S, I, m, rfl, h, k⟩ := h
    refine ⟨_, (pss_one (ps_fld (pv 0) (pv 1) rfl)), ?_⟩
    refine ⟨_, rfl, _, rfl, S, _, m.dx, _, rfl, h.hS, T.cl_Store, T.na_Store_images, (by show 10 < 1000; decide), ?_⟩
    have e : HO.ins a.c_Store m.dx (putF "_images" (.ref I) (sflds m)) = HO.ins a.c_Store m.dx (sflds { m with I := I }) := congrArg _ (sf_set_images m I)
    show Q .non (upd H S (HO.ins a.c_Store m.dx (putF "_images" (.ref I) (sflds m))))
    rw [e]
    have ne : ∀ {b o}, H b = some o → o ≠ .ins a.c_Store m.dx (sflds m) → b ≠ S := fun h1 n => ne_of h1 h.hS n
    refine k _ ⟨upd_same, ?_, ?_, fun d md => ?_, h.su, ?_, ?_, h.bm, fun b mb => ?_, h.nd, h.m0, h.ser, h.un, h.row, h.dis, h.asc, h.op⟩ fun b o e n => by rw [upd_ne n]; exact e
    · show upd H S _ m.mL = _
      rw [upd_ne (ne h.hm (by intro z; cases z))]
      exact h.hm
    · show upd H S _ m.spd = _
      rw [upd_ne (ne h.hs (by intro z; cases z))]
      exact h.hs
    · exact (h.sp d md).keep (fun o e => by
        obtain ⟨_, _, _, e1, _⟩ := h.sp d md
        show upd H S _ (m.sp d).1 = _
        rw [upd_ne (ne e1 fun z => ?_)]
        · exact e
        · injection z with _ _ z
          exact absurd (congrArg List.length z) (by show ¬ (4 = 10); decide)) fun o e => by
        obtain ⟨_, _, _, _, e1, _⟩ := h.sp d md
        show upd H S _ (m.sp d).2 = _
        rw [upd_ne (ne e1 (by intro z; cases z))]
        exact e
    · show upd H S _ m.bD = _
      rw [upd_ne (ne h.hb (by intro z; cases z))]
      exact h.hb
    · show upd H S _ m.mD = _
      rw [upd_ne (ne h.hM (by intro z; cases z))]
      exact h.hM
    · have hb := h.blk b mb
      exact ⟨by rw [upd_ne (ne hb.t (by intro z; cases z))]; exact hb.t, by rw [upd_ne (ne hb.pt (by intro z; cases z))]; exact hb.pt, fun e me => by rw [upd_ne (ne (hb.q e me) (by intro z; cases z))]; exact hb.q e me, fun z => by rw [upd_ne (ne (hb.w z) (by intro z; cases z))]; exact hb.w z⟩
theorem sc_sector_at : FnScope ["images", "disk", "row"] ["images", "disk", "row"] (defScope s_sector_at) := ⟨rfl, rfl, rfl, by decide +kernel, rfl, by decide +kernel, by decide +kernel⟩
theorem ok_sector_at (T : Txt w K mg a) : FnOk P w K mg base CX0 2 a.f_sector_at a.d_sector_at ["images", "disk", "row"] (sp_sector_at K a) := by
  refine T.F_sector_at.ok sc_sector_at (fun vs H Q E h => ?len) (fun cdv A outer s H vs Q E hr h => ?body)
  case len =>
    exact sp_sector_at_len h
  case body =>
    obtain ⟨X, I, st, d, r, rfl, hI, ls, lr, k⟩ := h
    refine ⟨_, (pss_cons (ps_if (PW.pt (pw_or (pt_not (pt_val (pe_call (ok_is_present T) (hr.mono (by decide)) rfl T.g_is_present T.F_is_present.kp T.d_is_present .nil pass0 (pa_cons (pv 0) (pa_cons (pv 1) pa_nil))))) (pw_or1 (pt_not (pt_chain op_le op_lt pe_int (pv 2) (pe_callB call_len_seq (by rfl) T.n_len PySem.boot_len (pa_cons (pe_ix ix_list (pv 0) (pv 1) (fun _ _ => rfl)) pa_nil)))))))
      (pss_one (ps_ret pe_non))
      pss_nil)
      (pss_one (ps_ret (pe_ix ix_list (pe_ix ix_list (pv 0) (pv 1) (fun _ _ => rfl)) (pv 2) (fun _ _ => rfl))))), ?_⟩
    have hq : SqL K H I ((adrs st).map refI) := by rw [adrs_refI]; exact SqL.of hI.hI
    refine ⟨_, rfl, _, rfl, I, adrs st, d, rfl, hq, by unfold adrs; rw [List.length_map]; exact ls, ?_⟩
    have hp := adrs_pres st d
    cases e : presentM (adrs st) d with
    | false =>
      refine ⟨_, rfl, iteT ?_⟩
      have : secV st d r = .non := by
        unfold secV secS
        cases g : st[d]? with
        | none => rfl
        | some o => cases o with
          | none => rfl
          | some dk =>
            rw [hp.mpr ⟨dk, g⟩] at e
            cases e
      rw [this] at k
      exact k
    | true =>
      obtain ⟨dk, g⟩ := hp.mp e
      have hD := (hI.hD d dk g).1
      refine ⟨_, rfl, iteF ?_⟩
      refine ⟨_, rfl, _, _, rfl, rfl, _, rfl, ite2 (fun _ => ?_) (fun a => absurd (decide_eq_true (show (0 : Int) ≤ (r : Int) by omega)) a)⟩
      refine ⟨_, rfl, _, rfl, I, _, _, _, rfl, rfl, SqL.of hI.hI, at_of (j := d) rfl (dk_get g), dk.A, _, rfl, .inl (SqL.of hD), _, _, rfl, rfl, _, rfl, ?_⟩
      have es : secS st d r = (dk.rows[r]?).join := by unfold secS; rw [g]
      by_cases hr' : r < dk.rows.length
      · rw [decide_eq_true (show (r : Int) < ((dk.rows.map rowV).length : Nat) by rw [List.length_map]; omega)]
        have gr : dk.rows[r]? = some dk.rows[r] := List.getElem?_eq_getElem hr'
        refine iteF ⟨_, rfl, _, rfl, I, _, _, _, rfl, rfl, SqL.of hI.hI, at_of (j := d) rfl (dk_get g), _, rfl, dk.A, _, _, _, rfl, rfl, SqL.of hD, at_of (j := r) rfl (row_get gr), ?_⟩
        unfold secV at k
        rw [es, gr] at k
        exact k
      · rw [decide_eq_false (show ¬ (r : Int) < ((dk.rows.map rowV).length : Nat) by rw [List.length_map]; omega)]
        unfold secV at k
        rw [es, List.getElem?_eq_none (by omega)] at k
        exact iteT k
theorem sc_weight : FnScope ["place", "others", "x", "above", "below", "other"] ["place", "others", "x"] (defScope s_weight) := ⟨rfl, rfl, rfl, by decide +kernel, rfl, by decide +kernel, by decide +kernel⟩
theorem ok_weight (T : Txt w K mg a) : FnOk P w K mg base CX0 2 a.f_weight a.d_weight ["place", "others", "x"] (sp_weight K a) := by
  refine T.F_weight.ok sc_weight (fun vs H Q E h => ?len) (fun cdv A outer s H vs Q E hr h => ?body)
  case len =>
    exact sp_weight_len h
  case body =>
    obtain ⟨p, o, os, x, rfl, hO, hne, k⟩ := h
    refine ⟨_, (pss_cons (ps_asg (pe_tup (pa_cons pe_int (pa_cons pe_int pa_nil))) (pg_tup rfl (pgs_cons (pg_name (i := 3) sc_weight.nd rfl (Or.inl rfl)) (pgs_cons (pg_name (i := 4) sc_weight.nd rfl (Or.inl rfl)) pgs_nil))))
      (pss_cons (ps_for PassesOwn.never rfl (pi_list (pv 1)) (pg_name (i := 5) sc_weight.nd rfl (Or.inl rfl))
      (pss_cons (ps_set (i := 3) sc_weight.nd rfl (Or.inl rfl) (pe_op op_mod (pe_op op_mul (pv 3) (pe_op op_sub (pv 2) (pv 5))) (pe_const T.g_PRIME)))
      (pss_one (ps_set (i := 4) sc_weight.nd rfl (Or.inl rfl) (pe_op op_mod (pe_op op_mul (pv 4) (pe_op op_sub (pv 0) (pv 5))) (pe_const T.g_PRIME))))))
      (pss_one (ps_ret (pe_op op_mod (pe_op op_mul (pv 3) (pe_call ((ok_inverse T)).ofN (hr.mono (by decide)) rfl T.g_inverse T.F_inverse.kp T.d_inverse .nil passL (pa_cons (pv 4) pa_nil))) (pe_const T.g_PRIME)))))), ?_⟩
    refine ⟨by show 2 ≤ sizeLine; decide, fun t ht => ?_⟩
    have sm : Same H (upd H t (.tup [V.int 1, V.int 1])) := Same.new ht
    refine ⟨t, _, rfl, SqT.of upd_same, rfl, _, _, rfl, _, _, rfl, rfl, ?_⟩
    refine ⟨_, rfl, o, rfl, ⟨_, sm.seq hO⟩, for_list (K := K) (a := o) (xs := os.map V.int) (fun i σ H' => ∃ v : Option V, σ = [some (.int p), some (.ref o), some (.int x), some (.int (prodM (os.take i) x 1)), some (.int (prodM (os.take i) p 1)), v] ∧ Same H H')
      ⟨none, rfl, sm⟩ (fun i σ H' _ ⟨_, _, s⟩ => s.seq hO) ?_ ?_⟩
    · rintro i y σ H' hi ⟨v, rfl, s'⟩
      obtain ⟨c, hc, rfl⟩ := int_item hi
      have b1 := prodM_word (os.take i) x 1 (by decide) (by decide)
      have b2 := prodM_word (os.take i) p 1 (by decide) (by decide)
      refine ⟨_, rfl, _, rfl, _, rfl, _, _, rfl, rfl, _, _, rfl, rfl, .inl ⟨by omega, by omega⟩, _, _, rfl, rfl, (by show (0 : Int) < 65521; decide), ?_⟩
      refine ⟨_, rfl, _, rfl, _, rfl, _, _, rfl, rfl, _, _, rfl, rfl, .inl ⟨by omega, by omega⟩, _, _, rfl, rfl, (by show (0 : Int) < 65521; decide), ?_⟩
      refine ⟨some (V.int c), ?_, s'⟩
      rw [take_snoc hc, prodM_snoc, prodM_snoc]
      rfl
    · rintro σ H' ⟨v, rfl, s'⟩
      have ea : os.take (os.map V.int).length = os := by rw [List.length_map, List.take_length]
      rw [ea]
      have b1 := prodM_word os x 1 (by decide) (by decide)
      refine ⟨_, rfl, _, rfl, _, rfl, fun z => absurd z hne, fun _ H2 s2 => ?_⟩
      refine ⟨_, _, rfl, rfl, .inl ⟨by omega, by omega⟩, _, _, rfl, rfl, (by show (0 : Int) < 65521; decide), ?_⟩
      exact k _ (s'.trans s2)
theorem sc_present_numbers : FnScope ["pieces", "data", "present", "number", "piece"] ["pieces", "data"] (defScope s_present_numbers) := ⟨rfl, rfl, rfl, by decide +kernel, rfl, by decide +kernel, by decide +kernel⟩
theorem ok_present_numbers (T : Txt w K mg a) : FnOk P w K mg base (L2N.CX P w) 2 a.f_present_numbers a.d_present_numbers ["pieces", "data"] (sp_present_numbers K a) := by
  refine T.F_present_numbers.okN sc_present_numbers (fun vs H Q E h => ?len) (fun cdv A outer s H vs Q E hr h => ?body)
  case len =>
    exact sp_present_numbers_len h
  case body =>
    obtain ⟨R, F, data, rfl, hR, h50, kB, kF, kQ⟩ := h
    have hml : (refsO F).length = F.length := List.length_map _
    refine ⟨_, (pss_cons (ps_if (pt_cmpR op_gt (pe_callB call_len_seq (by rfl) T.n_len PySem.boot_len (pa_cons (pv 0) pa_nil)) (pe_const T.g_MAX_PIECES) (nomark _))
      (pss_one (L2N.ps_raise rfl (L2N.takes_of rfl rfl rfl rfl) (L2N.pmk_own PySem.F.excBase_ValueError T.x_InvalidArgument T.g_InvalidArgument T.k_InvalidArgument (raises_own T.b_InvalidArgument T.t_InvalidArgument) (by exact rfl))))
      pss_nil)
      (pss_cons (ps_if (PW.pt (pw_or (pt_cmpR op_lt (pv 1) pe_int (nomark _)) (pw_or1 (pt_cmpR op_gt (pv 1) (pe_callB call_len_seq (by rfl) T.n_len PySem.boot_len (pa_cons (pv 0) pa_nil)) (nomark _)))))
      (pss_one (L2N.ps_raise rfl (L2N.takes_of rfl rfl rfl rfl) (L2N.pmk_own PySem.F.excBase_ValueError T.x_InvalidArgument T.g_InvalidArgument T.k_InvalidArgument (raises_own T.b_InvalidArgument T.t_InvalidArgument) (by exact rfl))))
      pss_nil)
      (pss_cons (ps_setLc (i := 2) (own := [("number", 3), ("piece", 4)]) (g := (gTup K 2 (gCons (gName 3) (gCons (gName 4) gNil)))) (by rfl) sc_present_numbers.nd rfl rfl (sw_true rfl rfl rfl (by decide +kernel)) (pi_enum (by rfl) T.n_enumerate (pa_cons (pv 0) pa_nil)) (blkOk_by (own := [("number", 3), ("piece", 4)]) (N := ["pieces", "data", "present", "number", "piece"]) (sc := defScope s_present_numbers) (by decide +kernel))
      (fun _ _ _ _ _ => (pg_tup rfl (pgs_cons (pg_name (i := 3) sc_present_numbers.nd rfl (Or.inl rfl)) (pgs_cons (pg_name (i := 4) sc_present_numbers.nd rfl (Or.inl rfl)) pgs_nil)))) (fun _ _ _ _ _ => (pts_one (pt_cmpR op_notN (pv 4) pe_non (nomark _)))) (fun _ _ _ _ _ => (pv 3)))
      (pss_cons (ps_expr (pe_call (ok_check_lengths T) (hr.mono (by decide)) rfl T.g_check_lengths T.F_check_lengths.kp T.d_check_lengths .nil (L2N.passes_call (L2N.takes_of rfl rfl rfl rfl) (fun _ _ _ _ z => z)) (pa_cons (pe_lc (own := [("number", 3)]) (g := (gName 3)) (by rfl) sc_present_numbers.nd (pi_list (pv 2)) (blkOk_by (own := [("number", 3)]) (N := ["pieces", "data", "present", "number", "piece"]) (sc := defScope s_present_numbers) (by decide +kernel))
      (fun _ _ _ _ _ => (pg_name (i := 3) sc_present_numbers.nd rfl (Or.inl rfl))) (fun _ _ _ _ _ => pts_nil) (fun _ _ _ _ _ => (pe_ix (by exact ix_list : IxR _ (rIxL K)) (pv 0) (pv 3) (fun _ _ => rfl)))) pa_nil)))
      (pss_cons (ps_if (pt_cmpR op_lt (pe_callB call_len_seq (by rfl) T.n_len PySem.boot_len (pa_cons (pv 2) pa_nil)) (pv 1) (nomark _))
      (pss_one (L2N.ps_raise rfl (L2N.takes_of rfl rfl rfl rfl) (L2N.pmk_own PySem.F.excBase_ValueError T.x_NotEnoughPieces T.g_NotEnoughPieces T.k_NotEnoughPieces (raises_own T.b_NotEnoughPieces T.t_NotEnoughPieces) (by exact rfl))))
      pss_nil)
      (pss_one (ps_ret (pv 2)))))))), ?_⟩
    refine ⟨_, rfl, R, _, rfl, .inl hR.1, _, _, rfl, rfl, _, rfl, ite2 (fun z => kB (.inl (by have := of_decide_eq_true z; omega)) _ (Same.refl _)) (fun z1 => ?_)⟩
    refine ⟨_, rfl, _, _, rfl, rfl, _, rfl, ite2 (fun z => kB (.inr (.inl (by have := of_decide_eq_true z; omega))) _ (Same.refl _)) (fun z2 => ?_)⟩
    refine ⟨_, rfl, _, rfl, R, _, rfl, .inl hR.1, _, _, rfl, rfl, _, rfl, ite2 (fun z => kB (.inr (.inr (.inl (by have := of_decide_eq_true z; omega)))) _ (Same.refl _)) (fun z3 => ?_)⟩
    have a1 : F.length ≤ 8 := Classical.byContradiction fun q => z1 (decide_eq_true (by omega))
    have a2 : 1 ≤ data := Classical.byContradiction fun q => z2 (decide_eq_true (by omega))
    have a3 : data ≤ F.length := Classical.byContradiction fun q => z3 (decide_eq_true (by omega))
    -- present = [number for number, piece in enumerate(pieces) if piece is not None]
    refine ⟨_, rfl, R, _, rfl, hR.1, fun D new => lc_it walk_enum (fun i H' => Same H H' ∧ H' D = some (.lst ((intsN ((List.range i).filter fun j => (F.getD j none).isSome)).map V.int))) ⟨Same.new new, upd_same⟩ (fun i H' _ q => q.1.seq hR.1) ?_ ?_⟩
    · rintro i y H1 H2 hi ⟨s1, hD⟩ ⟨t, u, v, rfl, ht, rfl, hu, hv⟩
      cases hu
      obtain ⟨o, ho, rfl⟩ := refsO_item hv
      have s2 : Same H1 (upd H1 t (.tup [V.int (i : Nat), refO o])) := Same.new ht
      refine ⟨t, _, rfl, SqT.of upd_same, rfl, _, _, rfl, _, _, rfl, rfl, ?_⟩
      have fs : (List.range (i + 1)).filter (fun j => (F.getD j none).isSome) = ((List.range i).filter fun j => (F.getD j none).isSome) ++ if (F.getD i none).isSome then [i] else [] := by
        rw [List.range_succ, List.filter_append]
        congr 1
        simp only [List.filter_cons, List.filter_nil]
      have gi := getD_item (d := none) ho
      have le : ((List.range i).filter fun j => (F.getD j none).isSome).length ≤ i := Nat.le_trans (List.length_filter_le _ _) (by rw [List.length_range]; exact Nat.le_refl _)
      refine ⟨rfl, _, rfl, rfl, _, rfl, ?_⟩
      cases o with
      | none =>
        refine iteF ⟨s1.trans s2, ?_⟩
        rw [fs, gi]
        show _ = some (HO.lst ((intsN (_ ++ [])).map V.int))
        rw [List.append_nil]
        exact s2 _ _ hD
      | some e =>
        refine iteT ⟨_, rfl, _, s2 _ _ hD, small _ (by rw [List.length_map]; unfold intsN; rw [List.length_map]; omega), same_put (s1.trans s2) new, ?_⟩
        rw [fs, gi]
        show _ = some (HO.lst ((intsN (_ ++ [i])).map V.int))
        rw [upd_same]
        unfold intsN
        rw [List.map_append, List.map_append]
        rfl
    rintro H1 ⟨s1, hD⟩
    rw [hml] at hD
    replace hD : H1 D = some (.lst ((intsN (presM F)).map V.int)) := hD
    have pl := presM_len F
    have hR1 := hR.same s1
    -- check_lengths([pieces[number] for number in present])
    refine ⟨_, rfl, D, rfl, ⟨_, SqL.of hD⟩, fun C nC => lc_list (K := K) (a := D) (xs := (intsN (presM F)).map V.int) (fun i H' => Same H1 H' ∧ H' C = some (.lst (refs ((rowsP F).take i)))) ⟨Same.new nC, upd_same⟩ (fun i H' _ q => q.1.seq (SqL.of hD)) ?_ ?_⟩
    · rintro i y H2 hi ⟨s2, hC⟩
      obtain ⟨c, hc, rfl⟩ := int_item hi
      obtain ⟨m, hm, rfl⟩ : ∃ m : Nat, (presM F)[i]? = some m ∧ c = (m : Int) := by
        unfold intsN at hc
        rw [List.getElem?_map] at hc
        cases q : (presM F)[i]? with
        | none => rw [q] at hc; cases hc
        | some m => rw [q] at hc; exact ⟨m, rfl, (Option.some.inj hc).symm⟩
      have hg := (presM_lt (List.mem_of_getElem? hm)).2
      have g : (rowsP F)[i]? = some (rowAt F m) := by rw [List.getElem?_map, hm]; rfl
      refine ⟨rfl, _, rfl, _, rfl, R, _, _, _, rfl, rfl, s2.seq hR1.1, at_of (j := m) rfl (refsO_get hg), _, hC, small _ (by simp [refs]; omega), same_put s2 nC, ?_⟩
      rw [upd_same, take_snoc g]
      unfold refs
      rw [List.map_append]
      rfl
    rintro H2 ⟨s2, hC⟩
    rw [List.take_of_length_le (by simp [intsN])] at hC
    have RLC : RL K H2 C (rowsP F) := ⟨SqL.of hC, fun e me => by
      obtain ⟨i, mi, rfl⟩ := List.mem_map.mp me
      exact (hR1.same s2).rows i mi⟩
    refine ⟨C, rowsP F, rfl, RLC, fun b H3 s3 => kB (.inr (.inr (.inr b))) _ ((s1.trans s2).trans s3), fun nb H3 s3 => ?_⟩
    have sA := (s1.trans s2).trans s3
    have nB : ¬ BadP F data := by
      rintro (q | q | q | q)
      · omega
      · omega
      · omega
      · exact nb q
    refine ⟨_, rfl, D, _, rfl, .inl (SqL.of ((s2.trans s3) _ _ hD)), _, rfl, _, _, rfl, rfl, _, rfl, ?_⟩
    rw [show ((intsN (presM F)).map V.int).length = (presM F).length by simp [intsN]]
    refine ite2 (fun z => kF nB (of_decide_eq_true (p := ((presM F).length : Int) < data) z) _ sA) (fun z => ?_)
    exact ⟨_, rfl, kQ nB (fun q => z (decide_eq_true (show ((presM F).length : Int) < data from q))) D _ sA new ((s2.trans s3) _ _ hD)⟩
theorem sc_seal : FnScope ["kind", "disk", "row", "stamp", "payload", "epoch", "serial", "words"] ["kind", "disk", "row", "stamp", "payload"] (defScope s_seal) := ⟨rfl, rfl, rfl, by decide +kernel, rfl, by decide +kernel, by decide +kernel⟩
theorem ok_seal (T : Txt w K mg a) : FnOk P w K mg base (L2.CX P w) 2 a.f_seal a.d_seal ["kind", "disk", "row", "stamp", "payload"] (sp_seal K a) := by
  refine T.F_seal.okX sc_seal (fun vs H Q E h => ?len) (fun cdv A outer s H vs Q E hr h => ?body)
  case len =>
    exact sp_seal_len h
  case body =>
    obtain ⟨k, d, r, st, pl, e, s', ws, rfl, hT, hS, hlen, kE, kQ⟩ := h
    refine ⟨_, (pss_cons (ps_asg (pv 3) (pg_tup rfl (pgs_cons (pg_name (i := 5) sc_seal.nd rfl (Or.inl rfl)) (pgs_cons (pg_name (i := 6) sc_seal.nd rfl (Or.inl rfl)) pgs_nil))))
      (pss_cons (ps_if (pt_not (pt_val (pe_call (ok_is_place T) (hr.mono (by decide)) rfl T.g_is_place T.F_is_place.kp T.d_is_place .nil pass0 (pa_cons (pv 0) (pa_cons (pv 1) (pa_cons (pv 2) pa_nil))))))
      (pss_one (ps_raise rfl (takes_of rfl rfl rfl rfl) (pmk_own PySem.F.excBase_ValueError T.x_InvalidArgument T.g_InvalidArgument T.k_InvalidArgument (raises_own T.b_InvalidArgument T.t_InvalidArgument) (by exact rfl))))
      pss_nil)
      (pss_cons (ps_if (PW.pt (pw_or (pt_not (pt_chain op_le op_lt pe_int (pv 5) (pe_const T.g_PRIME))) (pw_or1 (pt_not (pt_chain op_le op_lt pe_int (pv 6) (pe_op op_mul (pe_const T.g_PRIME) (pe_const T.g_PRIME)))))))
      (pss_one (ps_raise rfl (takes_of rfl rfl rfl rfl) (pmk_own PySem.F.excBase_ValueError T.x_InvalidArgument T.g_InvalidArgument T.k_InvalidArgument (raises_own T.b_InvalidArgument T.t_InvalidArgument) (by exact rfl))))
      pss_nil)
      (pss_cons (ps_if (pt_cmpR op_gt (pe_callB call_len_seq (by rfl) T.n_len PySem.boot_len (pa_cons (pv 4) pa_nil)) (pe_const T.g_MAX_PAYLOAD) (nomark _))
      (pss_one (ps_raise rfl (takes_of rfl rfl rfl rfl) (pmk_own PySem.F.excBase_ValueError T.x_InvalidArgument T.g_InvalidArgument T.k_InvalidArgument (raises_own T.b_InvalidArgument T.t_InvalidArgument) (by exact rfl))))
      pss_nil)
      (pss_cons (ps_set (i := 7) sc_seal.nd rfl (Or.inl rfl) (pe_lst (pa_cons (pv 0) (pa_cons (pv 1) (pa_cons (pv 2) (pa_cons (pv 5) (pa_cons (pe_op op_fdiv (pv 6) (pe_const T.g_PRIME)) (pa_cons (pe_op op_mod (pv 6) (pe_const T.g_PRIME)) (StX.pa_star (pv 4) pa_nil)))))))))
      (pss_one (ps_ret (pe_lst (StX.pa_star (pv 7) (StX.pa_star (pe_call (ok_check_words T) (hr.mono (by decide)) rfl T.g_check_words T.F_check_words.kp T.d_check_words .nil pass0 (pa_cons (pv 7) pa_nil)) pa_nil)))))))))), ?_⟩
    refine ⟨_, rfl, st, _, rfl, hT, rfl, _, _, rfl, _, _, rfl, rfl, ?_⟩
    refine ⟨_, rfl, _, rfl, _, rfl, k, d, r, rfl, fun hp => ⟨true, rfl, iteF ?_⟩, fun hn => ⟨false, rfl, iteT (kE (.inl hn) _ (Same.refl _))⟩⟩
    have bad : ¬ Stp e s' → E (.ref a.c_InvalidArgument) none H := fun z => kE (.inr (.inl z)) _ (Same.refl _)
    refine ⟨_, rfl, _, _, rfl, rfl, _, rfl, ite2 (fun a1 => ⟨_, _, rfl, rfl, _, rfl, ite2 (fun z => bad fun y => ?_) (fun z => ?_)⟩) (fun a1 => ⟨_, rfl, iteT (bad fun y => a1 (decide_eq_true y.1.1))⟩)⟩
    · rw [decide_eq_true y.1.2] at z
      cases z
    refine ⟨_, rfl, _, _, rfl, rfl, _, rfl, ite2 (fun b1 => ?_) (fun b1 => ⟨_, rfl, iteT (bad fun y => b1 (decide_eq_true y.2.1))⟩)⟩
    refine ⟨_, _, rfl, rfl, .inl ⟨by decide, by decide⟩, _, _, rfl, rfl, _, rfl, ite2 (fun z => bad fun y => ?_) (fun z2 => ?_)⟩
    · rw [decide_eq_true (show s' < 65521 * 65521 from y.2.2)] at z
      cases z
    have hs : Stp e s' := by
      have a1 := of_decide_eq_true a1
      have b1 := of_decide_eq_true b1
      have a2 : e < 65521 := Classical.byContradiction fun q => z (by rw [decide_eq_false q]; rfl)
      have b2 : s' < 65521 * 65521 := Classical.byContradiction fun q => z2 (by rw [decide_eq_false q]; rfl)
      exact ⟨⟨a1, a2⟩, ⟨b1, b2⟩⟩
    refine ⟨_, rfl, pl, _, rfl, .inl hS, _, _, rfl, rfl, _, rfl, ite2 (fun z => kE (.inr (.inr ?_)) _ (Same.refl _)) (fun z => ?_)⟩
    · have := of_decide_eq_true z
      rw [List.length_map] at this
      omega
    have hl : ws.length ≤ 1000 := Classical.byContradiction fun q => z (decide_eq_true (by rw [List.length_map]; omega))
    have good : ¬ BadSeal k d r e s' ws := by
      rintro (q | q | q)
      · exact q hp
      · exact q hs
      · omega
    refine ⟨_, rfl, _, rfl, _, rfl, _, rfl, _, rfl, _, _, rfl, rfl, ⟨by decide, by decide⟩, _, rfl, _, _, rfl, rfl, (by show (0 : Int) < 65521; decide), ?_⟩
    refine ⟨_, rfl, pl, _, rfl, .inr hS, Nat.le_of_lt (small _ (by simp; omega)), fun q2 n2 => ?_⟩
    have ew : V.int k :: V.int d :: V.int r :: V.int e :: V.int (s' / 65521) :: V.int (s' % 65521) :: (ws.map V.int ++ []) = (hdM k d r e s' ws).map V.int := by unfold hdM; rw [List.map_append, List.append_nil]; rfl
    dsimp only
    rw [ew]
    have dW : upd H q2 (.lst ((hdM k d r e s' ws).map V.int)) q2 = some (.lst ((hdM k d r e s' ws).map V.int)) := upd_same
    have S2 := Same.new (o := .lst ((hdM k d r e s' ws).map V.int)) n2
    have hlW := hdM_length k d r e s' ws
    generalize hG : hdM k d r e s' ws = W at dW hlW S2 ⊢
    generalize upd H q2 (.lst (W.map V.int)) = H2 at dW S2 ⊢
    refine ⟨_, rfl, q2, _, rfl, .inr (SqL.of dW), _, rfl, q2, W, rfl, SqL.of dW, by omega, fun C H3 s3 nC hC => ⟨C, _, rfl, .inl (SqT.of hC), Nat.le_of_lt (small _ (by simp; omega)), fun q4 n4 => ?_⟩⟩
    have n0 : H q4 = none := same_none (S2.trans s3) n4
    refine kQ good q4 _ ((S2.trans s3).trans (Same.new n4)) n0 ?_
    rw [upd_same]
    unfold sealM
    rw [hG, List.map_append]
    rfl
theorem sc_is_whole : FnScope ["sector"] ["sector"] (defScope s_is_whole) := ⟨rfl, rfl, rfl, by decide +kernel, rfl, by decide +kernel, by decide +kernel⟩
theorem ok_is_whole (T : Txt w K mg a) : FnOk P w K mg base CX0 2 a.f_is_whole a.d_is_whole ["sector"] (sp_is_whole K a) := by
  refine T.F_is_whole.ok sc_is_whole (fun vs H Q E h => ?len) (fun cdv A outer s H vs Q E hr h => ?body)
  case len =>
    exact sp_is_whole_len h
  case body =>
    obtain ⟨l, ws, rfl, hS, hlen, kT, kF⟩ := h
    have hml : (ws.map V.int).length = ws.length := List.length_map _
    refine ⟨_, (pss_cons (ps_if (pt_not (pt_chain op_le op_le pe_int (pe_op op_sub (pe_op op_sub (pe_callB call_len_seq (by rfl) T.n_len PySem.boot_len (pa_cons (pv 0) pa_nil)) (pe_const T.g_HEADER_WORDS)) (pe_const T.g_CHECK_WORDS)) (pe_const T.g_MAX_PAYLOAD)))
      (pss_one (ps_ret pe_bl))
      pss_nil)
      (pss_cons (ps_if (PW.pt (pw_or (pt_cmpR op_lt (pe_callB (cr_min rfl) (by rfl) T.n_min (by decide +kernel) (pa_cons (pv 0) pa_nil)) pe_int (nomark _)) (pw_or1 (pt_cmpR op_ge (pe_callB (cr_max rfl) (by rfl) T.n_max (by decide +kernel) (pa_cons (pv 0) pa_nil)) (pe_const T.g_PRIME) (nomark _)))))
      (pss_one (ps_ret pe_bl))
      pss_nil)
      (pss_one (ps_ret (pe_cmpR (op_eqD hr.units) (pe_callTy call_tuple_of (by rfl) T.n_tuple (by decide +kernel) (pa_cons (pe_slice sl_list (pv 0) (po_some (pe_un un_neg (pe_const T.g_CHECK_WORDS))) po_none) pa_nil)) (pe_call (ok_check_words T) (hr.mono (by decide)) rfl T.g_check_words T.F_check_words.kp T.d_check_words .nil pass0 (pa_cons (pe_slice sl_list (pv 0) po_none (po_some (pe_un un_neg (pe_const T.g_CHECK_WORDS)))) pa_nil)) (nomark _)))))), ?_⟩
    refine ⟨_, rfl, l, _, rfl, .inl hS, _, _, rfl, rfl, _, _, rfl, rfl, _, _, rfl, rfl, _, rfl, ite2 (fun a1 => ⟨_, _, rfl, rfl, _, rfl, ite2 (fun z => kF (fun g => ?_) _ (Same.refl _)) (fun z => ?_)⟩) (fun a1 => ⟨_, rfl, iteT (kF (fun g => a1 (decide_eq_true ?_)) _ (Same.refl _))⟩)⟩
    · rw [decide_eq_true (show ((ws.map V.int).length : Int) - 6 - 2 ≤ 1000 by have := g.1.2; omega)] at z
      cases z
    rotate_left
    · have := g.1.1
      omega
    have a1 := of_decide_eq_true a1
    have a2 : ((ws.map V.int).length : Int) - 6 - 2 ≤ 1000 := Classical.byContradiction fun q => z (by rw [decide_eq_false q]; rfl)
    have l8 : 8 ≤ ws.length := by omega
    have l9 : ws.length ≤ 1008 := by omega
    refine ⟨_, rfl, l, ws, rfl, hS, by omega, fun m hm hmin => ⟨_, _, rfl, rfl, _, rfl, ite2 (fun z => kF (fun g => ?_) _ (Same.refl _)) (fun z1 => ⟨_, rfl, l, ws, rfl, hS, by omega, fun M hM hmax => ⟨_, _, rfl, rfl, _, rfl, ite2 (fun z => kF (fun g => ?_) _ (Same.refl _)) (fun z2 => ?_)⟩⟩)⟩⟩
    · have := (g.2.1 m hm).1
      have := of_decide_eq_true z
      omega
    · have := (g.2.1 M hM).2
      have := of_decide_eq_true z
      omega
    have wds : ∀ w ∈ ws, Wd w := fun w hw => by
      have x1 := hmin w hw
      have x2 := hmax w hw
      have x3 : ¬ m < 0 := fun q => z1 (decide_eq_true q)
      have x4 : ¬ 65521 ≤ M := fun q => z2 (decide_eq_true q)
      exact ⟨by omega, by omega⟩
    refine ⟨_, rfl, _, rfl, _, rfl, l, _, rfl, hS, fun q1 n1 => ?_⟩
    rw [cut_last (by omega), hml, ← List.map_drop]
    have S1 := Same.new (o := .lst ((ws.drop (ws.length - 2)).map V.int)) n1
    refine ⟨q1, _, rfl, .inl ⟨SqL.of upd_same, fun q2 n2 => ?_⟩⟩
    have S2 := Same.new (o := .tup ((ws.drop (ws.length - 2)).map V.int)) n2
    have dT : upd (upd H q1 (.lst ((ws.drop (ws.length - 2)).map V.int))) q2 (.tup ((ws.drop (ws.length - 2)).map V.int)) q2 = some (.tup ((ws.drop (ws.length - 2)).map V.int)) := upd_same
    refine ⟨_, rfl, _, rfl, _, rfl, l, _, rfl, S2.seq (S1.seq hS), fun q3 n3 => ?_⟩
    rw [cut_but (by omega), hml, ← List.map_take]
    have S3 := Same.new (o := .lst ((ws.take (ws.length - 2)).map V.int)) n3
    refine ⟨q3, _, rfl, SqL.of upd_same, by rw [List.length_take]; omega, fun C H4 s4 nC dC => ?_⟩
    have sA := ((S1.trans S2).trans S3).trans s4
    refine ⟨_, _, dp_tints (SqT.of (s4 _ _ (S3 _ _ dT))), dp_tints (xs := [_, _]) (SqT.of dC), shaped_tints _, shaped_tints _, ?_⟩
    rw [eqv_tints]
    by_cases q : ws.drop (ws.length - 2) = [ck1 (ws.take (ws.length - 2)), ck2 (ws.take (ws.length - 2))]
    · rw [decide_eq_true q]
      exact kT ⟨⟨l8, l9⟩, wds, q⟩ _ sA
    · rw [decide_eq_false q]
      exact kF (fun g => q g.2.2) _ sA
theorem sc_data_pieces : FnScope ["words", "data", "size", "filled", "j"] ["words", "data"] (defScope s_data_pieces) := ⟨rfl, rfl, rfl, by decide +kernel, rfl, by decide +kernel, by decide +kernel⟩
theorem ok_data_pieces (T : Txt w K mg a) : FnOk P w K mg base CX0 2 a.f_data_pieces a.d_data_pieces ["words", "data"] (sp_data_pieces K a) := by
  refine T.F_data_pieces.ok sc_data_pieces (fun vs H Q E h => ?len) (fun cdv A outer s H vs Q E hr h => ?body)
  case len =>
    exact sp_data_pieces_len h
  case body =>
    obtain ⟨W, ws, d, rfl, hS, hlen, d1, d8, k⟩ := h
    refine ⟨_, (pss_cons (ps_set (i := 2) sc_data_pieces.nd rfl (Or.inr rfl) (pe_call (ok_piece_size T) (hr.mono (by decide)) rfl T.g_piece_size T.F_piece_size.kp T.d_piece_size .nil pass0 (pa_cons (pe_callB call_len_seq (by rfl) T.n_len PySem.boot_len (pa_cons (pv 0) pa_nil)) (pa_cons (pv 1) pa_nil))))
      (pss_cons (ps_set (i := 3) sc_data_pieces.nd rfl (Or.inr rfl) (pe_lst (StX.pa_star (pv 0) (StX.pa_star (pe_op op_rep (pe_lst (pa_cons pe_int pa_nil)) (pe_op op_sub (pe_op op_mul (pv 2) (pv 1)) (pe_callB call_len_seq (by rfl) T.n_len PySem.boot_len (pa_cons (pv 0) pa_nil)))) pa_nil))))
      (pss_one (ps_ret (pe_lc (own := [("j", 4)]) (g := (gName 4)) (by rfl) sc_data_pieces.nd (pi_range1 (by rfl) T.n_range (pa_cons (pv 1) pa_nil)) (blkOk_by (own := [("j", 4)]) (N := ["words", "data", "size", "filled", "j"]) (sc := defScope s_data_pieces) (by decide +kernel))
      (fun _ _ _ _ _ => (pg_name (i := 4) sc_data_pieces.nd rfl (Or.inl rfl))) (fun _ _ _ _ _ => pts_nil) (fun _ _ _ _ _ => (pe_slice (by exact sl_list : SlR _ (rSlL K)) (pv 3) (po_some (pe_op op_mul (pv 4) (pv 2))) (po_some (pe_op op_mul (pe_op op_add (pv 4) pe_int) (pv 2)))))))))), ?_⟩
    refine ⟨_, rfl, W, _, rfl, .inl hS, _, rfl, ws.length, d, by rw [List.length_map]; rfl, d1, by omega, ?_⟩
    have szl := size_lt ws.length d d1
    have sle := size_le ws.length d d1
    have fl := fill_len ws d d1
    have hb8 : sizeM ws.length d * d ≤ sizeM ws.length d * 8 := Nat.mul_le_mul_left _ d8
    generalize hsz : sizeM ws.length d = sz at szl sle fl hb8 ⊢
    refine ⟨_, rfl, W, _, rfl, .inr hS, ?_⟩
    refine ⟨(by show 1 ≤ sizeLine; decide), fun q nq => ?_⟩
    have sq := Same.new (o := .lst [V.int 0]) nq
    refine ⟨_, rfl, _, rfl, _, _, rfl, rfl, .inl ⟨by omega, by omega⟩, _, rfl, W, _, rfl, .inl (sq.seq hS), _, _, rfl, rfl, q, ((sz * d - ws.length : Nat) : Int), _, rfl, congrArg V.int (by rw [List.length_map]; omega), upd_same, by omega, by omega, ?_, fun q2 n2 => ?_⟩
    · rw [Int.toNat_natCast]
      exact Nat.le_of_lt (small _ (by simp; omega))
    rw [Int.toNat_natCast, rep_zero]
    have s2 := sq.trans (Same.new (o := .lst ((List.replicate (sz * d - ws.length) (0 : Int)).map V.int)) n2)
    refine ⟨q2, _, rfl, .inr (SqL.of upd_same), ?_, fun q3 n3 => ?_⟩
    · exact Nat.le_of_lt (small _ (by simp; omega))
    have eW : ws.map V.int ++ ((List.replicate (sz * d - ws.length) (0 : Int)).map V.int ++ []) = (fillM ws d).map V.int := by unfold fillM; rw [hsz, List.map_append, List.append_nil]
    rw [eW]
    have s3 := s2.trans (Same.new (o := .lst ((fillM ws d).map V.int)) n3)
    have dF : upd (upd (upd H q (.lst [V.int 0])) q2 (.lst ((List.replicate (sz * d - ws.length) (0 : Int)).map V.int))) q3 (.lst ((fillM ws d).map V.int)) q3 = some (.lst ((fillM ws d).map V.int)) := upd_same
    generalize upd (upd (upd H q (.lst [V.int 0])) q2 (.lst ((List.replicate (sz * d - ws.length) (0 : Int)).map V.int))) q3 (.lst ((fillM ws d).map V.int)) = H3 at s3 dF ⊢
    have cl := cuts_len ws d
    refine ⟨_, rfl, _, rfl, by omega, by omega, fun D nD => ?_⟩
    rw [Int.toNat_natCast]
    refine lc_it walk_range (fun i H' => ∃ F : List (Addr × List Int), Same H3 H' ∧ LA H' D F ∧ snds F = (cutsM ws d).take i) ⟨[], Same.new nD, ⟨upd_same, fun _ m => nomatch m⟩, rfl⟩ (fun _ _ _ _ => True.intro) ?_ ?_
    · rintro i y H4 H5 hi ⟨F, s4, LF, eF⟩ ⟨rfl, rfl⟩
      have hlt : (i + 1) * sz ≤ sz * 8 := by rw [Nat.mul_comm]; exact Nat.mul_le_mul_left _ (by omega)
      have hlt2 : i * sz ≤ (i + 1) * sz := Nat.mul_le_mul_right _ (by omega)
      refine ⟨rfl, _, rfl, _, rfl, _, rfl, _, _, rfl, rfl, .inl ⟨by omega, by omega⟩, _, rfl, _, rfl, _, _, rfl, rfl, _, rfl, _, _, rfl, rfl, .inl ⟨by omega, by omega⟩, _, rfl, q3, _, rfl, SqL.of (s4 _ _ dF), fun C nC => ?_⟩
      rw [show (0 : Int) + (i : Nat) = (i : Int) by omega, show ((i : Int) + 1) * (sz : Int) = (((i + 1) * sz : Nat) : Int) by push_cast; rfl, show (i : Int) * (sz : Int) = ((i * sz : Nat) : Int) by push_cast; rfl, cut_ints]
      have er : ((fillM ws d).drop (i * sz)).take ((i + 1) * sz - i * sz) = (cutsM ws d).getD i [] := by
        have q : (cutsM ws d)[i]? = some (((fillM ws d).drop (i * sz)).take sz) := by unfold cutsM; rw [List.getElem?_map, List.getElem?_range hi, hsz]; rfl
        rw [getD_item q, show (i + 1) * sz - i * sz = sz by rw [Nat.succ_mul]; omega]
      rw [er]
      have gi : (cutsM ws d)[i]? = some ((cutsM ws d).getD i []) := by rw [List.getD_eq_getElem?_getD, List.getElem?_eq_getElem (by omega)]; rfl
      generalize (cutsM ws d).getD i [] = row at gi ⊢
      have sC := Same.new (o := .lst (row.map V.int)) nC
      have LC := LF.same sC
      have nCD : C ≠ D := (ne_of_none LF.1 nC).symm
      have lF : F.length ≤ i := by
        have := congrArg List.length eF
        rw [snds_len, List.length_take] at this
        omega
      refine ⟨_, LC.1, small _ (by rw [refs_len]; omega), F ++ [(C, row)], same_put (s4.trans sC) nD, ?_, ?_⟩
      · rw [show refs F ++ [V.ref C] = refs (F ++ [(C, row)]) by unfold refs; rw [List.map_append]; rfl]
        refine LA.put fun e' me => ?_
        rcases List.mem_append.mp me with me | me
        · exact LC.2 e' me
        · have : e' = (C, row) := by simpa using me
          subst this
          exact ⟨upd_same, nCD⟩
      · rw [take_snoc gi, ← eF, snds, List.map_append]
        rfl
    rintro H4 ⟨F, s4, LF, eF⟩
    rw [List.take_of_length_le (by omega)] at eF
    exact k D F H4 (s3.trans s4) (same_none s3 nD) LF eF
theorem sc_law_word : FnScope ["pot", "kind"] ["pot"] (defScope s_law_word) := ⟨rfl, rfl, rfl, by decide +kernel, rfl, by decide +kernel, by decide +kernel⟩
theorem ok_law_word (T : Txt w K mg a) : FnOk P w K mg base CX0 2 a.f_law_word a.d_law_word ["pot"] (sp_law_word K a) := by
  refine T.F_law_word.ok sc_law_word (fun vs H Q E h => ?len) (fun cdv A outer s H vs Q E hr h => ?body)
  case len =>
    exact sp_law_word_len h
  case body =>
    obtain ⟨p, l, rfl, hP, k⟩ := h
    refine ⟨_, (pss_cons (ps_set (i := 1) sc_law_word.nd rfl (Or.inl rfl) (pe_call (ok_law_next T) (hr.mono (by decide)) rfl T.g_law_next T.F_law_next.kp T.d_law_next .nil pass0 (pa_cons (pv 0) (pa_cons pe_int pa_nil))))
      (pss_cons (ps_if (pt_cmpR op_eq (pv 1) pe_int (nomark _))
      (pss_one (ps_ret pe_int))
      pss_nil)
      (pss_cons (ps_if (pt_cmpR op_eq (pv 1) pe_int (nomark _))
      (pss_one (ps_ret (pe_op op_sub pe_int (pe_call (ok_law_next T) (hr.mono (by decide)) rfl T.g_law_next T.F_law_next.kp T.d_law_next .nil pass0 (pa_cons (pv 0) (pa_cons pe_int pa_nil))))))
      pss_nil)
      (pss_cons (ps_if (pt_cmpR op_lt (pv 1) pe_int (nomark _))
      (pss_one (ps_ret (pe_call (ok_law_next T) (hr.mono (by decide)) rfl T.g_law_next T.F_law_next.kp T.d_law_next .nil pass0 (pa_cons (pv 0) (pa_cons pe_int pa_nil)))))
      pss_nil)
      (pss_one (ps_ret (pe_call (ok_law_next T) (hr.mono (by decide)) rfl T.g_law_next T.F_law_next.kp T.d_law_next .nil pass0 (pa_cons (pv 0) (pa_cons pe_int pa_nil))))))))), ?_⟩
    refine ⟨_, rfl, p, l, 8, rfl, hP, by decide, by decide, fun c H1 c0 c1 P1 o1 => ?_⟩
    refine ⟨_, rfl, rfl, _, rfl, ?_⟩
    refine ite2 (fun _ => k _ _ ⟨by decide, by decide⟩ P1 o1) (fun _ => ?_)
    refine ⟨_, rfl, rfl, _, rfl, ?_⟩
    refine ite2 (fun _ => ?_) (fun _ => ?_)
    · exact ⟨_, rfl, p, l, 3, rfl, P1, by decide, by decide, fun v H2 v0 v1 P2 o2 => ⟨_, _, rfl, rfl, k _ _ ⟨by omega, by omega⟩ P2 (o1.trans o2)⟩⟩
    · refine ⟨_, rfl, _, _, rfl, rfl, _, rfl, ?_⟩
      refine ite2 (fun _ => ?_) (fun _ => ?_)
      · exact ⟨_, rfl, p, l, 9, rfl, P1, by decide, by decide, fun v H2 v0 v1 P2 o2 => k _ _ ⟨by omega, by omega⟩ P2 (o1.trans o2)⟩
      · exact ⟨_, rfl, p, l, 65521, rfl, P1, by decide, by decide, fun v H2 v0 v1 P2 o2 => k _ _ ⟨by omega, by omega⟩ P2 (o1.trans o2)⟩
theorem sc_law_spoil : FnScope ["pot", "sectors", "row", "sector", "at"] ["pot", "sectors", "row"] (defScope s_law_spoil) := ⟨rfl, rfl, rfl, by decide +kernel, rfl, by decide +kernel, by decide +kernel⟩
theorem ok_law_spoil (T : Txt w K mg a) : FnOk P w K mg base CX0 2 a.f_law_spoil a.d_law_spoil ["pot", "sectors", "row"] (sp_law_spoil K a) := by
  refine T.F_law_spoil.ok sc_law_spoil (fun vs H Q E h => ?len) (fun cdv A outer s H vs Q E hr h => ?body)
  case len =>
    exact sp_law_spoil_len h
  case body =>
    obtain ⟨X, p, l, I, st, dk, d, r, sc, rfl, P, Xp, hx, hI, nl, gd, gr, l100, l0, l60, hw, k⟩ := h
    refine ⟨_, (pss_cons (ps_set (i := 3) sc_law_spoil.nd rfl (Or.inl rfl) (pe_ix ix_list (pv 1) (pv 2) (fun _ _ => rfl)))
      (pss_one (ps_if (PW.pt (pw_or (pt_cmpR op_isN (pv 3) pe_non (nomark _)) (pw_or1 (pt_cmpR op_eq (pe_call (ok_law_next T) (hr.mono (by decide)) rfl T.g_law_next T.F_law_next.kp T.d_law_next .nil pass0 (pa_cons (pv 0) (pa_cons pe_int pa_nil))) pe_int (nomark _)))))
      (pss_one (ps_asg pe_non (pg_sub (pv 1) (pv 2) set_list)))
      (pss_cons (ps_set (i := 4) sc_law_spoil.nd rfl (Or.inl rfl) (pe_call (ok_law_next T) (hr.mono (by decide)) rfl T.g_law_next T.F_law_next.kp T.d_law_next .nil pass0 (pa_cons (pv 0) (pa_cons (pe_callB call_len_seq (by rfl) T.n_len PySem.boot_len (pa_cons (pv 3) pa_nil)) pa_nil))))
      (pss_one (ps_asg (pe_op op_cat (pe_op op_cat (pe_slice sl_list (pv 3) po_none (po_some (pv 4))) (pe_lst (pa_cons (pe_op op_mod (pe_callTy call_int1 (by rfl) T.n_int (by decide +kernel) (pa_cons (pe_op op_add (pe_op op_add (pe_ix ix_list (pv 3) (pv 4) (fun _ _ => rfl)) pe_int) (pe_call (ok_law_next T) (hr.mono (by decide)) rfl T.g_law_next T.F_law_next.kp T.d_law_next .nil pass0 (pa_cons (pv 0) (pa_cons pe_int pa_nil)))) pa_nil)) pe_int) pa_nil))) (pe_slice sl_list (pv 3) (po_some (pe_op op_add (pv 4) pe_int)) po_none)) (pg_sub (pv 1) (pv 2) set_list))))))), ?_⟩
    have hD := hI.hD d dk gd
    have hR := hI.hR d dk r sc gd gr
    have rl := item_lt gr
    refine ⟨_, rfl, _, rfl, dk.A, _, _, _, rfl, rfl, SqL.of hD.1, at_of (j := r) rfl (row_get gr), ?_⟩
    obtain ⟨Sc, S⟩ := sc
    dsimp only at hR l0 l60 hw k
    have hSc := hR.1
    have old : ∀ {H0 : Hp} {q : Addr}, But p H H0 → Pot H0 p l → H0 q = none → H q = none := fun {H0 q} b0 P0' h => by
      cases z : H q with
      | none => rfl
      | some ob =>
        by_cases y : q = p
        · obtain ⟨_, _, _, hp2⟩ := P0'.list
          rw [y, hp2] at h; cases h
        · rw [b0 _ _ z y] at h; cases h
    have fin : ∀ {H0 : Hp}, But p H H0 → Pot H0 p l → ∀ o : Option (Addr × List Int), (∀ sc', o = some sc' → (H sc'.1 = none ∧ H0 sc'.1 = some (.lst (sc'.2.map V.int)) ∧ sc'.2.length ≤ 1008) ∧ ∃ (i : Nat) (v : Int), i < S.length ∧ Wd v ∧ z v ≠ z (S.getD i 0) ∧ sc'.2 = S.set i v) → Q .non (upd H0 dk.A (.lst ((dk.rows.map rowV).set r (rowV o)))) := fun {H0} b0 P0' o ho => by
      rw [map_set_row]
      have hI0 := hI.draw b0 Xp
      have im := hI0.put gd (r := r) (o := o) fun sc z => by
        obtain ⟨⟨h1, h2, h3⟩, _⟩ := ho sc z
        refine ⟨h2, fun y => ?_, h3⟩
        rcases y with y | y | ⟨i, dk', g, y⟩
        · exact hx _ h1 y
        · rw [y, hI.hI] at h1; cases h1
        · rw [y, (hI.hD i dk' g).1] at h1; cases h1
      refine k o _ (P0'.only Only.upd (fun z => hD.2.2 (by rw [← z]; exact Xp)) fun z => nl ⟨d, dk, gd, z⟩) im (fun b u e n1 n2 => by rw [upd_ne n2]; exact b0 b u e n1) (fun b nb => ?_) fun sc' z => ⟨(ho sc' z).1.1, (ho sc' z).2⟩
      by_cases c : b = dk.A
      · rw [c, upd_same] at nb; cases nb
      · rw [upd_ne c] at nb
        exact old b0 P0' nb
    refine ⟨_, rfl, rfl, _, rfl, ?_⟩
    rw [decide_eq_false (show ¬ rowV (some (Sc, S)) = V.non from fun z => nomatch z)]
    refine iteF ⟨_, rfl, p, l, 2, rfl, P, by decide, by decide, fun kd H1 k0 k1 P1 o1 => ⟨rfl, _, rfl, ite2 (fun _ => ?_) fun _ => ?_⟩⟩
    · refine ⟨_, rfl, _, rfl, dk.A, _, _, r, rfl, rfl, (hI.draw o1.but Xp).hD d dk gd |>.1, by rw [List.length_map]; exact ixN_nat rl, ?_⟩
      exact fin o1.but P1 none fun sc z => nomatch z
    · have b1 : But p H H1 := o1.but
      have hSc2 : H1 Sc = some (.lst (S.map V.int)) := o1.but _ _ hSc (P.noList hSc fun _ _ _ => ints_pot)
      refine ⟨_, rfl, _, rfl, Sc, _, rfl, .inl (SqL.of hSc2), p, l, _, rfl, P1, by rw [List.length_map]; omega, by rw [List.length_map]; omega, fun j H3 j0 j1 P3 o3 => ?_⟩
      rw [List.length_map] at j1
      obtain ⟨at', rfl⟩ : ∃ n : Nat, j = (n : Int) := ⟨j.toNat, by omega⟩
      have hat : at' < S.length := by omega
      have hSc3 : H3 Sc = some (.lst (S.map V.int)) := o3.but _ _ hSc2 (P1.noList hSc2 fun _ _ _ => ints_pot)
      obtain ⟨w0, hw0⟩ : ∃ w0, S[at']? = some w0 := ⟨_, List.getElem?_eq_getElem hat⟩
      have gw : (S.map V.int)[at']? = some (.int w0) := by rw [List.getElem?_map, hw0]; rfl
      have ww : Wd w0 := hw w0 (List.mem_of_getElem? hw0)
      refine ⟨_, rfl, _, rfl, _, rfl, Sc, _, rfl, SqL.of hSc3, fun q1 n1 => ?_⟩
      have x4 := Same.new (o := .lst (cutV (S.map V.int) none (some (at' : Int)))) n1
      have d4 : upd H3 q1 (.lst (cutV (S.map V.int) none (some (at' : Int)))) q1 = some (.lst (cutV (S.map V.int) none (some (at' : Int)))) := upd_same
      have q1p : q1 ≠ p := (P3.off n1).1.symm
      generalize upd H3 q1 (.lst (cutV (S.map V.int) none (some (at' : Int)))) = H4 at x4 d4 ⊢
      have P4 := P3.same x4
      have hSc4 := x4 _ _ hSc3
      refine ⟨_, rfl, _, rfl, Sc, _, _, _, rfl, rfl, SqL.of hSc4, at_of (j := at') rfl gw, _, _, rfl, rfl, _, rfl, p, l, 65520, rfl, P4, by decide, by decide, fun u H5 u0 u1 P5 o5 => ⟨_, _, rfl, rfl, .inl ⟨_, rfl, _, _, rfl, rfl, (by show (0 : Int) < 65521; decide), by show 1 ≤ sizeLine; decide, fun q2 n2 => ?_⟩⟩⟩
      obtain ⟨v, hv⟩ : ∃ v : Int, v = (w0 + 1 + u) % 65521 := ⟨_, rfl⟩
      have d5 := o5.but _ _ d4 q1p
      have hSc5 : H5 Sc = some (.lst (S.map V.int)) := o5.but _ _ hSc4 (P4.noList hSc4 fun _ _ _ => ints_pot)
      have x6 := Same.new (o := .lst [V.int v]) n2
      have d6 : upd H5 q2 (.lst [V.int v]) q2 = some (.lst [V.int v]) := upd_same
      show rCat (V.ref q1) (V.ref q2) (upd H5 q2 (.lst [V.int ((w0 + 1 + u) % 65521)])) _
      rw [← hv]
      generalize upd H5 q2 (.lst [V.int v]) = H6 at x6 d6 ⊢
      have c1 : (cutV (S.map V.int) none (some (at' : Int))).length ≤ 200 := by rw [cut_take, List.length_take, List.length_map]; omega
      refine ⟨q1, q2, _, _, rfl, rfl, x6 _ _ d5, d6, Nat.le_of_lt (small _ (by show _ + 1 ≤ _; omega)), fun q3 n3 => ?_⟩
      have x7 := Same.new (o := .lst (cutV (S.map V.int) none (some (at' : Int)) ++ [V.int v])) n3
      have d7 : upd H6 q3 (.lst (cutV (S.map V.int) none (some (at' : Int)) ++ [V.int v])) q3 = some (.lst (cutV (S.map V.int) none (some (at' : Int)) ++ [V.int v])) := upd_same
      generalize upd H6 q3 (.lst (cutV (S.map V.int) none (some (at' : Int)) ++ [V.int v])) = H7 at x7 d7 ⊢
      have hSc7 := x7 _ _ (x6 _ _ hSc5)
      refine ⟨_, rfl, _, rfl, _, _, rfl, rfl, _, rfl, Sc, _, rfl, SqL.of hSc7, fun q4 n4 => ?_⟩
      have c2 : (cutV (S.map V.int) (some ((at' : Int) + 1)) none).length ≤ 200 := by rw [show ((at' : Int) + 1) = ((at' + 1 : Nat) : Int) from rfl, cut_drop, List.length_drop, List.length_map]; omega
      have x8 := Same.new (o := .lst (cutV (S.map V.int) (some ((at' : Int) + 1)) none)) n4
      have d8' : upd H7 q4 (.lst (cutV (S.map V.int) (some ((at' : Int) + 1)) none)) q4 = some (.lst (cutV (S.map V.int) (some ((at' : Int) + 1)) none)) := upd_same
      generalize upd H7 q4 (.lst (cutV (S.map V.int) (some ((at' : Int) + 1)) none)) = H8 at x8 d8' ⊢
      refine ⟨q3, q4, _, _, rfl, rfl, x8 _ _ d7, d8', Nat.le_of_lt (small _ (by rw [List.length_append]; show _ + 1 + _ ≤ _; omega)), fun q5 n5 => ?_⟩
      rw [set_cut19 S at' v hat]
      have x9 := Same.new (o := .lst ((S.set at' v).map V.int)) n5
      have d9 : upd H8 q5 (.lst ((S.set at' v).map V.int)) q5 = some (.lst ((S.set at' v).map V.int)) := upd_same
      have x59 := ((x6.trans x7).trans x8)
      have P8 := P5.same x59
      have b8 : But p H H8 := (((b1.trans o3.but).trans x4.but).trans o5.but).trans x59.but
      have n5' := old b8 P8 n5
      generalize upd H8 q5 (.lst ((S.set at' v).map V.int)) = H9 at x9 d9 ⊢
      have P9 := P8.same x9
      have b9 : But p H H9 := b8.trans x9.but
      have hI9 := hI.draw b9 Xp
      refine ⟨_, rfl, _, rfl, dk.A, _, _, r, rfl, rfl, (hI9.hD d dk gd).1, by rw [List.length_map]; exact ixN_nat rl, ?_⟩
      refine fin b9 P9 (some (q5, S.set at' v)) fun sc z => ?_
      cases z
      refine ⟨⟨n5', d9, by rw [List.length_set]; omega⟩, at', v, hat, by rw [hv]; exact ⟨Int.emod_nonneg _ (by decide), Int.emod_lt_of_pos _ (by decide)⟩, fun y2 => ?_, rfl⟩
      have y3 := z_mod_eq y2
      have e0 : S.getD at' 0 = w0 := getD_item hw0
      rw [e0, hv] at y3
      have w1 := ww.1
      have w2 := ww.2
      omega
theorem sc_Store_free_counts : FnScope ["self", "disk"] ["self"] (defScope s_Store_free_counts) := ⟨rfl, rfl, rfl, by decide +kernel, rfl, by decide +kernel, by decide +kernel⟩
theorem ok_Store_free_counts (T : Txt w K mg a) : FnOk P w K mg base CX0 2 a.f_Store_free_counts a.d_Store_free_counts ["self"] (sp_Store_free_counts K a) := by
  refine T.F_Store_free_counts.ok sc_Store_free_counts (fun vs H Q E h => ?len) (fun cdv A outer s H vs Q E hr h => ?body)
  case len =>
    exact sp_Store_free_counts_len h
  case body =>
    obtain ⟨S, m, rfl, h, l8, k⟩ := h
    refine ⟨_, (pss_one (ps_ret (pe_lc (own := [("disk", 1)]) (g := (gName 1)) (by rfl) sc_Store_free_counts.nd (pi_list (pe_fld (pv 0) rfl)) (blkOk_by (own := [("disk", 1)]) (N := ["self", "disk"]) (sc := defScope s_Store_free_counts) (by decide +kernel))
      (fun _ _ _ _ _ => (pg_name (i := 1) sc_Store_free_counts.nd rfl (Or.inl rfl))) (fun _ _ _ _ _ => pts_nil) (fun _ _ _ _ _ => (pe_tup (pa_cons (pv 1) (pa_cons (pe_meth0 (pe_dget (hu_of hr) (by exact (pe_fld (pv 0) rfl) : PE _ _ (tFld K _ _)) (pv 1) (fun _ _ => rfl)) T.cl_Space T.m_Space_free_count (ok_Space_free_count T) (hr.mono (by decide)) T.d_Space_free_count .nil pass0) pa_nil))))))), ?_⟩
    refine ⟨_, rfl, S, _, m.dx, _, _, rfl, h.hS, T.cl_Store, T.na_Store_members, sf_members m, m.mL, rfl, ⟨_, SqL.of h.hm⟩, fun D nD => lc_list (K := K) (a := m.mL) (xs := m.ms.map V.int) (fun i H' => Same H H' ∧ ∃ L : List (Addr × Int × Int), H' D = some (.lst (L.map fun e => V.ref e.1)) ∧ L.length = i ∧ (∀ e ∈ L, H' e.1 = some (.tup [.int e.2.1, .int e.2.2])) ∧ L.map (·.2) = (m.ms.take i).map (fun d => (d, (m.rows : Int) - (18 : Nat) - (usedM m d : Nat)))) ⟨Same.new nD, [], upd_same, rfl, fun _ m => (nomatch m), rfl⟩ (fun i H' _ q => q.1.seq (SqL.of h.hm)) ?_ ?_⟩
    · rintro i y H1 hy ⟨s1, L, d1, lL, hL, eL⟩
      obtain ⟨d, hd, rfl⟩ := int_item hy
      have md := List.mem_of_getElem? hd
      have st := h.same s1
      obtain ⟨dx, low, M, e1, _⟩ := id (st.sp d md)
      have lM : i ≤ 8 := by have := item_lt hd; omega
      refine ⟨rfl, _, rfl, _, rfl, S, _, m.dx, _, _, rfl, st.hS, T.cl_Store, T.na_Store_spaces, sf_spaces m, _, rfl, m.spd, _, rfl, st.spget md, (m.sp d).1, dx, _, rfl, e1, rfl, (m.sp d).1, (m.sp d).2, 18, m.rows, phiM m.bl d, rfl, st.sp d md, by show 2 ≤ sizeLine; decide, fun t nt => ?_⟩
      have eu : (pickL 18 m.rows (phiM m.bl d) fun s => decide (s ≠ 0)).length = usedM m d := rfl
      rw [eu]
      have sT := Same.new (o := .tup [V.int d, V.int ((m.rows : Int) - (18 : Nat) - (usedM m d : Nat))]) nt
      have dT : upd H1 t (.tup [V.int d, V.int ((m.rows : Int) - (18 : Nat) - (usedM m d : Nat))]) t = some (.tup [.int d, .int ((m.rows : Int) - (18 : Nat) - (usedM m d : Nat))]) := upd_same
      generalize upd H1 t (.tup [V.int d, V.int ((m.rows : Int) - (18 : Nat) - (usedM m d : Nat))]) = H2 at sT dT ⊢
      have tD : t ≠ D := (ne_of_none d1 nt).symm
      refine ⟨_, sT _ _ d1, small _ (by rw [List.length_map, lL]; omega), same_put (s1.trans sT) nD, L ++ [(t, d, (m.rows : Int) - (18 : Nat) - (usedM m d : Nat))], by rw [upd_same, List.map_append]; rfl, by rw [List.length_append, lL]; rfl, fun e me => ?_, by rw [List.map_append, eL, take_snoc hd, List.map_append]; rfl⟩
      rcases List.mem_append.mp me with me | me
      · rw [upd_ne (ne_of (hL e me) d1 (by intro z; cases z))]
        exact sT _ _ (hL e me)
      · rw [List.mem_singleton.mp me, upd_ne tD]
        exact dT
    rintro H1 ⟨s1, L, d1, lL, hL, eL⟩
    rw [List.length_map, List.take_length] at eL
    exact k D L H1 s1 nD d1 hL eL
theorem sc_weights : FnScope ["places", "x", "at", "place"] ["places", "x"] (defScope s_weights) := ⟨rfl, rfl, rfl, by decide +kernel, rfl, by decide +kernel, by decide +kernel⟩
theorem ok_weights (T : Txt w K mg a) : FnOk P w K mg base CX0 3 a.f_weights a.d_weights ["places", "x"] (sp_weights K a) := by
  refine T.F_weights.ok sc_weights (fun vs H Q E h => ?len) (fun cdv A outer s H vs Q E hr h => ?body)
  case len =>
    exact sp_weights_len h
  case body =>
    obtain ⟨l, ws, x, rfl, hW, hap, hlen, k⟩ := h
    refine ⟨_, (pss_one (ps_ret (pe_lc (own := [("at", 2), ("place", 3)]) (g := (gTup K 2 (gCons (gName 2) (gCons (gName 3) gNil)))) (by rfl) sc_weights.nd (pi_enum (by rfl) T.n_enumerate (pa_cons (pv 0) pa_nil)) (blkOk_by (own := [("at", 2), ("place", 3)]) (N := ["places", "x", "at", "place"]) (sc := defScope s_weights) (by decide +kernel))
      (fun _ _ _ _ _ => (pg_tup rfl (pgs_cons (pg_name (i := 2) sc_weights.nd rfl (Or.inl rfl)) (pgs_cons (pg_name (i := 3) sc_weights.nd rfl (Or.inl rfl)) pgs_nil)))) (fun _ _ _ _ _ => pts_nil) (fun _ _ _ _ _ => (pe_call (ok_weight T) (hr.mono (by decide)) rfl T.g_weight T.F_weight.kp T.d_weight .nil pass0 (pa_cons (pv 3) (pa_cons (pe_op op_cat (pe_slice (by exact sl_list : SlR _ (rSlL K)) (pv 0) po_none (po_some (pv 2))) (pe_slice (by exact sl_list : SlR _ (rSlL K)) (pv 0) (po_some (pe_op op_add (pv 2) pe_int)) po_none)) (pa_cons (pv 1) pa_nil)))))))), ?_⟩
    have hS : SqL K H l (ws.map V.int) := SqL.of hW
    refine ⟨_, rfl, l, _, rfl, hS, fun D new => lc_it walk_enum (fun i H' => Same H H' ∧ H' D = some (.lst (((weightsM ws x).take i).map V.int))) ⟨Same.new new, upd_same⟩ (fun i H' _ q => q.1.seq hS) ?_ ?_⟩
    · rintro i y H1 H2 hi ⟨s1, hD⟩ ⟨t, u, v, rfl, ht, rfl, hu, hv⟩
      cases hu
      obtain ⟨c, hc, rfl⟩ := int_item hv
      have s2 : Same H1 (upd H1 t (.tup [V.int (i : Nat), V.int c])) := Same.new ht
      have s3 := s1.trans s2
      have w3 := s3 _ _ hW
      refine ⟨t, _, rfl, SqT.of upd_same, rfl, _, _, rfl, _, _, rfl, rfl, ?_⟩
      refine ⟨rfl, _, rfl, _, rfl, _, rfl, _, rfl, l, _, rfl, SqL.of w3, fun p1 n1 => ?_⟩
      have s4 := Same.new (o := .lst (cutV (ws.map V.int) none (some ((i : Nat) : Int)))) n1
      refine ⟨_, rfl, _, rfl, _, _, rfl, rfl, _, rfl, l, _, rfl, SqL.of (s4 _ _ w3), fun p2 n2 => ?_⟩
      have s5 := Same.new (o := .lst (cutV (ws.map V.int) (some (((i : Nat) : Int) + 1)) none)) n2
      have q1 := s5 _ _ (upd_same (H := upd H1 t (.tup [V.int (i : Nat), V.int c])) (a := p1) (o := .lst (cutV (ws.map V.int) none (some ((i : Nat) : Int)))))
      refine ⟨p1, p2, _, _, rfl, rfl, q1, upd_same, ?_, fun p3 n3 => ?_⟩
      · have a1 := cutV_length (ws.map V.int) none (some ((i : Nat) : Int))
        have a2 := cutV_length (ws.map V.int) (some (((i : Nat) : Int) + 1)) none
        rw [List.length_map] at a1 a2
        exact Nat.le_of_lt (small _ (by omega))
      · have eo : cutV (ws.map V.int) none (some ((i : Nat) : Int)) ++ cutV (ws.map V.int) (some (((i : Nat) : Int) + 1)) none = (others ws i).map V.int := by
          rw [cut_take, show (((i : Nat) : Int) + 1) = ((i + 1 : Nat) : Int) from rfl, cut_drop]
          simp [others, List.map_append, List.map_take, List.map_drop]
        rw [eo]
        have s6 := Same.new (o := .lst ((others ws i).map V.int)) n3
        have hi' : i < ws.length := by simpa using hi
        have gc : ws.getD i 0 = c := getD_item hc
        have ok := wgt_ok (others_apart hap hi')
        rw [gc] at ok
        refine ⟨_, rfl, c, p3, others ws i, x, rfl, SqL.of upd_same, ok, fun H7 s7 => ?_⟩
        have s8 := (((s3.trans s4).trans s5).trans s6).trans s7
        have d8 := s7 _ _ (s6 _ _ (s5 _ _ (s4 _ _ (s2 _ _ hD))))
        refine ⟨_, d8, small _ (by simp; omega), fun b o e => ?_, ?_⟩
        · rw [upd_ne (ne_of_none e new)]
          exact s8 b o e
        · rw [upd_same, take_snoc (weightsM_get hi'), List.map_append, gc]
          rfl
    · rintro H' ⟨s', hD⟩
      rw [List.take_of_length_le (by rw [weightsM_length]; simp)] at hD
      exact k D H' s' new hD
theorem sc_unseal : FnScope ["sector", "kind", "disk", "row", "epoch", "high", "low"] ["sector", "kind", "disk", "row"] (defScope s_unseal) := ⟨rfl, rfl, rfl, by decide +kernel, rfl, by decide +kernel, by decide +kernel⟩
theorem ok_unseal (T : Txt w K mg a) : FnOk P w K mg base CX0 3 a.f_unseal a.d_unseal ["sector", "kind", "disk", "row"] (sp_unseal K a) := by
  refine T.F_unseal.ok sc_unseal (fun vs H Q E h => ?len) (fun cdv A outer s H vs Q E hr h => ?body)
  case len =>
    exact sp_unseal_len h
  case body =>
    obtain ⟨sv, k, d, r, rfl, h⟩ := h
    refine ⟨_, (pss_cons (ps_if (PW.pt (pw_or (pt_cmpR op_isN (pv 0) pe_non (nomark _)) (pw_or (pt_not (pt_val (pe_call (ok_is_place T) (hr.mono (by decide)) rfl T.g_is_place T.F_is_place.kp T.d_is_place .nil pass0 (pa_cons (pv 1) (pa_cons (pv 2) (pa_cons (pv 3) pa_nil)))))) (pw_or1 (pt_cmpR (op_neD hr.units) (pe_slice sl_list (pv 0) po_none (po_some pe_int)) (pe_lst (pa_cons (pv 1) (pa_cons (pv 2) (pa_cons (pv 3) pa_nil)))) (nomark _))))))
      (pss_one (ps_ret pe_non))
      pss_nil)
      (pss_cons (ps_if (pt_not (pt_val (pe_call (ok_is_whole T) (hr.mono (by decide)) rfl T.g_is_whole T.F_is_whole.kp T.d_is_whole .nil pass0 (pa_cons (pv 0) pa_nil))))
      (pss_one (ps_ret pe_non))
      pss_nil)
      (pss_cons (ps_asg (pe_slice sl_list (pv 0) (po_some pe_int) (po_some (pe_const T.g_HEADER_WORDS))) (pg_lst rfl (pgs_cons (pg_name (i := 4) sc_unseal.nd rfl (Or.inl rfl)) (pgs_cons (pg_name (i := 5) sc_unseal.nd rfl (Or.inl rfl)) (pgs_cons (pg_name (i := 6) sc_unseal.nd rfl (Or.inl rfl)) pgs_nil)))))
      (pss_one (ps_ret (pe_tup (pa_cons (pe_tup (pa_cons (pv 4) (pa_cons (pe_op op_add (pe_op op_mul (pv 5) (pe_const T.g_PRIME)) (pv 6)) pa_nil))) (pa_cons (pe_slice sl_list (pv 0) (po_some (pe_const T.g_HEADER_WORDS)) (po_some (pe_un un_neg (pe_const T.g_CHECK_WORDS)))) pa_nil)))))))), ?_⟩
    rcases h with ⟨rfl, kN⟩ | ⟨l, ws, rfl, hS, hlen, kN, kQ⟩
    · exact ⟨_, rfl, rfl, _, rfl, ite2 (fun _ => kN _ (Same.refl _)) (fun q => absurd rfl q)⟩
    have hml : (ws.map V.int).length = ws.length := List.length_map _
    refine ⟨_, rfl, rfl, _, rfl, ite2 (fun q => by cases q) (fun _ => ?_)⟩
    refine ⟨_, rfl, _, rfl, _, rfl, k, d, r, rfl, fun hp => ⟨true, rfl, iteF ?_⟩, fun hn => ⟨false, rfl, iteT (kN (fun g => hn g.1) _ (Same.refl _))⟩⟩
    refine ⟨_, rfl, _, rfl, l, _, rfl, hS, fun q1 n1 => ?_⟩
    rw [show cutV (ws.map V.int) none (some 3) = (ws.take 3).map V.int from (cut_take _ 3).trans List.map_take.symm]
    have S1 := Same.new (o := .lst ((ws.take 3).map V.int)) n1
    refine ⟨_, rfl, _, rfl, _, rfl, by show 3 ≤ sizeLine; decide, fun q2 n2 => ?_⟩
    have S2 := Same.new (o := .lst [V.int k, .int d, .int r]) n2
    have d1 := S2 _ _ (upd_same (H := H) (a := q1) (o := .lst ((ws.take 3).map V.int)))
    refine ⟨_, _, dp_ints (SqL.of d1), dp_ints (xs := [k, d, r]) (SqL.of upd_same), shaped_ints _, shaped_ints _, _, rfl, ?_⟩
    rw [eqv_ints]
    have sA := S1.trans S2
    refine ite2 (fun z => kN (fun g => ?_) _ sA) (fun z => ?_)
    · rw [decide_eq_true g.2.1] at z
      cases z
    have h3 : ws.take 3 = [k, d, r] := Classical.byContradiction fun q => z (by rw [decide_eq_false q]; rfl)
    clear d1
    generalize upd (upd H q1 (.lst ((ws.take 3).map V.int))) q2 (.lst [V.int k, .int d, .int r]) = H2 at sA ⊢
    refine ⟨_, rfl, l, ws, rfl, sA.seq hS, hlen, fun hw H3 s3 => ⟨true, rfl, iteF ?_⟩, fun hw H3 s3 => ⟨false, rfl, iteT (kN (fun g => hw g.2.2) _ (sA.trans s3))⟩⟩
    have sB := sA.trans s3
    have hg : Good ws k d r := ⟨hp, h3, hw⟩
    have l8 := hw.1.1
    refine ⟨_, rfl, _, rfl, _, rfl, l, _, rfl, sB.seq hS, fun q3 n3 => ?_⟩
    rw [cut_mid36 (by omega), mid_items (by omega)]
    refine ⟨q3, _, rfl, SqL.of upd_same, rfl, _, _, rfl, _, _, rfl, _, _, rfl, rfl, ?_⟩
    have S3 := Same.new (o := .lst [V.int (ws.getD 3 0), .int (ws.getD 4 0), .int (ws.getD 5 0)]) n3
    have sC := sB.trans S3
    generalize upd H3 q3 (.lst [V.int (ws.getD 3 0), .int (ws.getD 4 0), .int (ws.getD 5 0)]) = H4 at sC ⊢
    have w4 : Wd (ws.getD 4 0) := by
      have : ws[4]? = some ws[4] := List.getElem?_eq_getElem (by omega)
      rw [getD_item this]
      exact hw.2.1 _ (List.getElem_mem _)
    refine ⟨_, rfl, _, rfl, _, _, rfl, rfl, .inl ⟨by have := w4.1; omega, by have := w4.2; omega⟩, _, rfl, _, _, rfl, rfl, by show 2 ≤ sizeLine; decide, fun S nS => ?_⟩
    have S4 := Same.new (o := .tup [V.int (ws.getD 3 0), .int (ws.getD 4 0 * 65521 + ws.getD 5 0)]) nS
    refine ⟨_, rfl, _, rfl, _, rfl, _, rfl, l, _, rfl, S4.seq (sC.seq hS), fun D nD => ?_⟩
    rw [cut_pay (by omega), hml, ← List.map_drop, ← List.map_take]
    have S5 := Same.new (o := .lst (((ws.drop 6).take (ws.length - 8)).map V.int)) nD
    refine ⟨by show 2 ≤ sizeLine; decide, fun Tt nT => ?_⟩
    have S6 := Same.new (o := .tup [V.ref S, .ref D]) nT
    have sD := ((sC.trans S4).trans S5).trans S6
    refine kQ hg Tt S D _ sD (same_none ((sC.trans S4).trans S5) nT) (same_none (sC.trans S4) nD) upd_same (S6 _ _ (S5 _ _ upd_same)) (S6 _ _ upd_same)
theorem sc_piece_requests : FnScope ["images", "places", "stamp", "pieces", "numbers", "requests", "number", "disk", "row"] ["images", "places", "stamp", "pieces", "numbers"] (defScope s_piece_requests) := ⟨rfl, rfl, rfl, by decide +kernel, rfl, by decide +kernel, by decide +kernel⟩
theorem ok_piece_requests (T : Txt w K mg a) : FnOk P w K mg base CX0 3 a.f_piece_requests a.d_piece_requests ["images", "places", "stamp", "pieces", "numbers"] (sp_piece_requests K a) := by
  refine T.F_piece_requests.ok sc_piece_requests (fun vs H Q E h => ?len) (fun cdv A outer s H vs Q E hr h => ?body)
  case len =>
    exact sp_piece_requests_len h
  case body =>
    obtain ⟨I, P, st, R, N, ims, pls, e, s', F, ns, rfl, hI, hl, hP, hpl, hT, hs, hR, hrow, hF, hN, hns, ln, k⟩ := h
    refine ⟨_, (pss_cons (ps_set (i := 5) sc_piece_requests.nd rfl (Or.inl rfl) (pe_lst pa_nil))
      (pss_cons (ps_for PassesOwn.never rfl (pi_list (pv 4)) (pg_name (i := 6) sc_piece_requests.nd rfl (Or.inl rfl))
      (pss_cons (ps_asg (pe_ix ix_tup (pv 1) (pv 6) (fun _ _ => rfl)) (pg_tup rfl (pgs_cons (pg_name (i := 7) sc_piece_requests.nd rfl (Or.inl rfl)) (pgs_cons (pg_name (i := 8) sc_piece_requests.nd rfl (Or.inl rfl)) pgs_nil))))
      (pss_one (ps_if (pt_val (pe_call (ok_is_present T) (hr.mono (by decide)) rfl T.g_is_present T.F_is_present.kp T.d_is_present .nil pass0 (pa_cons (pv 0) (pa_cons (pv 7) pa_nil))))
      (pss_one (ps_expr (pe_bm PySem.F.plainAttrs_list PySem.F.slot_list_append PySem.F.type_list_append mt_append (pv 5) (pa_cons (pe_tup (pa_cons pe_str (pa_cons (pv 7) (pa_cons (pv 8) (pa_cons (pe_call (ok_seal T) (hr.mono (by decide)) rfl T.g_seal T.F_seal.kp T.d_seal .nil passL (pa_cons (pe_const T.g_PIECE) (pa_cons (pv 7) (pa_cons (pv 8) (pa_cons (pv 2) (pa_cons (pe_ix ix_list (pv 3) (pv 6) (fun _ _ => rfl)) pa_nil)))))) pa_nil))))) pa_nil))))
      pss_nil))))
      (pss_one (ps_ret (pv 5))))), ?_⟩
    refine ⟨Nat.zero_le _, fun D nD => ?_⟩
    refine ⟨_, rfl, N, rfl, ⟨_, (Same.new nD).seq hN⟩, for_list (K := K) (a := N) (xs := (ns.map fun (i : Nat) => (i : Int)).map V.int) (fun i σ H' => ∃ (v1 v2 v3 : Option V) (L : List Rq), σ = [some (.ref I), some (.ref P), some (.ref st), some (.ref R), some (.ref N), some (.ref D), v1, v2, v3] ∧ Same H H' ∧ WRq H' D L ∧ L.map rqM = reqM ims pls e s' (snds F) (ns.take i) ∧ ∀ e ∈ L, H e.t = none ∧ H e.s = none)
      ⟨none, none, none, [], rfl, Same.new nD, ⟨upd_same, fun _ m => nomatch m⟩, rfl, fun _ m => nomatch m⟩ (fun i σ H' _ ⟨_, _, _, _, _, s2, _⟩ => s2.seq hN) ?_ ?_⟩
    · rintro i y σ H' hi ⟨v1, v2, v3, L, rfl, s2, WL, eL, nL⟩
      obtain ⟨c, hc, rfl⟩ := int_item hi
      obtain ⟨n, hn, rfl⟩ : ∃ n : Nat, ns[i]? = some n ∧ c = (n : Int) := by
        rw [List.getElem?_map] at hc
        cases q : ns[i]? with
        | none => rw [q] at hc; cases hc
        | some n => rw [q] at hc; exact ⟨n, rfl, (Option.some.inj hc).symm⟩
      have ln' := hns n (List.mem_of_getElem? hn)
      obtain ⟨as, hA, lA, hAt⟩ := (hP.same s2).old
      have hp : pls[n]? = some pls[n] := List.getElem?_eq_getElem ln'
      have ha : as[n]? = some as[n] := List.getElem?_eq_getElem (by omega)
      obtain ⟨⟨q0, q8⟩, ⟨r0, r4⟩⟩ := hpl pls[n] (List.getElem_mem _)
      refine ⟨_, rfl, _, rfl, P, _, _, _, rfl, rfl, hA, at_of (j := n) rfl (by rw [List.getElem?_map, ha]; rfl), as[n], _, rfl, hAt n _ _ ha hp, rfl, _, _, rfl, _, _, rfl, rfl, ?_⟩
      refine ⟨_, rfl, _, rfl, I, ims, pls[n].1.toNat, by rw [Int.toNat_of_nonneg q0]; rfl, s2.seq hI, hl, ?_⟩
      have gp : pls.getD n (0, 0) = pls[n] := getD_item hp
      have e1 : reqM ims pls e s' (snds F) (ns.take (i + 1)) = reqM ims pls e s' (snds F) (ns.take i) ++ oneM ims pls e s' (snds F) n := by
        unfold reqM
        rw [take_snoc hn, List.flatMap_append]
        simp
      cases hpr : presentM ims pls[n].1.toNat with
      | false =>
        refine ⟨false, rfl, iteF ?_⟩
        refine ⟨_, _, _, L, rfl, s2, WL, ?_, nL⟩
        rw [e1, eL]
        unfold oneM
        rw [gp, hpr]
        simp
      | true =>
        have hf : F[n]? = some F[n] := List.getElem?_eq_getElem (by omega)
        have mf := List.mem_of_getElem? hf
        have hR2 := hR.same s2
        refine ⟨true, rfl, iteT ?_⟩
        refine ⟨_, rfl, .inl ⟨rfl, _, SqL.of WL.1⟩, _, rfl, _, rfl, _, rfl, _, rfl, _, rfl, _, rfl, _, rfl, R, _, _, _, rfl, rfl, hR2.1, at_of (j := n) rfl (refs_get hf), 3, pls[n].1, pls[n].2, st, F[n].1, e, s', F[n].2, rfl, s2.tup hT, hR2.2 _ mf, by have := hrow _ mf; omega, fun b => absurd b ?_, fun _ S H3 s3 nS dS => ?_⟩
        · rintro (b | b | b)
          · exact b ⟨⟨by decide, by decide⟩, ⟨q0, q8⟩, ⟨r0, r4⟩⟩
          · exact b hs
          · have := hrow _ mf
            omega
        refine ⟨by show 4 ≤ sizeLine; decide, fun t nt => ?_⟩
        have WL3 := (WL.same s3).same (Same.new (o := .tup [.str "write", V.int pls[n].1, V.int pls[n].2, V.ref S]) nt)
        have dS2 := Same.new (o := .tup [.str "write", V.int pls[n].1, V.int pls[n].2, V.ref S]) nt _ _ dS
        have dt : upd H3 t (.tup [.str "write", V.int pls[n].1, V.int pls[n].2, V.ref S]) t = some (.tup [.str "write", .int pls[n].1, .int pls[n].2, .ref S]) := upd_same
        have s5 := (s2.trans s3).trans (Same.new (o := .tup [.str "write", V.int pls[n].1, V.int pls[n].2, V.ref S]) nt)
        have nS0 : H S = none := same_none s2 nS
        have nt0 : H t = none := same_none (s2.trans s3) nt
        have ntD : t ≠ D := (ne_of_none (WL.same s3).1 nt).symm
        have nSD : S ≠ D := (ne_of_none WL.1 nS).symm
        generalize upd H3 t (.tup [.str "write", V.int pls[n].1, V.int pls[n].2, V.ref S]) = H5 at WL3 dS2 dt s5 ⊢
        have lL : L.length ≤ 100 := by
          have := congrArg List.length eL
          rw [List.length_map] at this
          have h2 := req_len ims pls e s' (snds F) (ns.take i)
          rw [List.length_take] at h2
          omega
        refine ⟨D, _, _, rfl, rfl, WL3.1, small _ (by rw [List.length_map]; omega), ?_⟩
        have el : L.map rqV ++ [V.ref t] = (L ++ [(⟨t, S, pls[n].1, pls[n].2, sealM 3 pls[n].1 pls[n].2 e s' F[n].2⟩ : Rq)]).map rqV := by rw [List.map_append]; rfl
        rw [el]
        refine ⟨_, _, _, _, rfl, same_put s5 nD, WRq.put fun e' m => ?_, ?_, fun e' m => ?_⟩
        · rcases List.mem_append.mp m with m | m
          · exact WL3.2 e' m
          · have : e' = ⟨t, S, pls[n].1, pls[n].2, sealM 3 pls[n].1 pls[n].2 e s' F[n].2⟩ := by simpa using m
            subst this
            exact ⟨⟨dt, ntD⟩, dS2, nSD⟩
        · rw [List.map_append, e1, eL]
          unfold oneM
          rw [gp, hpr, snds_get hf]
          rfl
        · rcases List.mem_append.mp m with m | m
          · exact nL e' m
          · have : e' = ⟨t, S, pls[n].1, pls[n].2, sealM 3 pls[n].1 pls[n].2 e s' F[n].2⟩ := by simpa using m
            subst this
            exact ⟨nt0, nS0⟩
    rintro σ H' ⟨v1, v2, v3, L, rfl, s2, WL, eL, nL⟩
    rw [List.take_of_length_le (by simp)] at eL
    exact ⟨_, rfl, k D L H' s2 nD WL eL nL⟩
theorem sc_law_words : FnScope ["pot", "count", "k"] ["pot", "count"] (defScope s_law_words) := ⟨rfl, rfl, rfl, by decide +kernel, rfl, by decide +kernel, by decide +kernel⟩
theorem ok_law_words (T : Txt w K mg a) : FnOk P w K mg base CX0 3 a.f_law_words a.d_law_words ["pot", "count"] (sp_law_words K a) := by
  refine T.F_law_words.ok sc_law_words (fun vs H Q E h => ?len) (fun cdv A outer s H vs Q E hr h => ?body)
  case len =>
    exact sp_law_words_len h
  case body =>
    obtain ⟨p, l, n, rfl, hP, n0, n5, k⟩ := h
    refine ⟨_, (pss_one (ps_ret (pe_lc (own := [("k", 2)]) (g := (gName 2)) (by rfl) sc_law_words.nd (pi_range1 (by rfl) T.n_range (pa_cons (pv 1) pa_nil)) (blkOk_by (own := [("k", 2)]) (N := ["pot", "count", "k"]) (sc := defScope s_law_words) (by decide +kernel))
      (fun _ _ _ _ _ => (pg_name (i := 2) sc_law_words.nd rfl (Or.inl rfl))) (fun _ _ _ _ _ => pts_nil) (fun _ _ _ _ _ => (pe_call (ok_law_word T) (hr.mono (by decide)) rfl T.g_law_word T.F_law_word.kp T.d_law_word .nil pass0 (pa_cons (pv 0) pa_nil)))))), ?_⟩
    refine ⟨_, rfl, n, rfl, by omega, by omega, fun D new => lc_it walk_range (fun i H' => ∃ ws : List Int, But p H H' ∧ Pot H' p l ∧ H' D = some (.lst (ws.map V.int)) ∧ ws.length = i ∧ ∀ w ∈ ws, Wd w)
      ⟨[], (Same.new new).but, hP.new new, upd_same, rfl, fun _ m => nomatch m⟩ (fun _ _ _ _ => True.intro) ?_ ?_⟩
    · rintro i y H1 H2 hi ⟨ws, b1, P1, d1, hl, hw⟩ ⟨rfl, rfl⟩
      have off := hP.off new
      refine ⟨rfl, _, rfl, p, l, rfl, P1, fun v H3 wv P3 o3 => ?_⟩
      refine ⟨_, by rw [o3 _ off.1.symm]; exact d1, small _ (by simp; omega), ws ++ [v], ?_, P3.only Only.upd off.1 off.2, ?_, by simp [hl], ?_⟩
      · intro b o e nb
        rw [upd_ne (ne_of_none e new), o3 _ nb]
        exact b1 b o e nb
      · rw [upd_same, List.map_append]
        rfl
      · intro w m
        rcases List.mem_append.mp m with m | m
        · exact hw w m
        · have : w = v := by simpa using m
          rw [this]
          exact wv
    · rintro H' ⟨ws, b1, P1, d1, hl, hw⟩
      exact k D ws H' hl hw new d1 b1 P1
theorem sc_Store_init : FnScope ["self", "data", "parity", "rows", "members", "epoch", "disk"] ["self", "data", "parity", "rows", "members", "epoch"] (defScope s_Store_init) := ⟨rfl, rfl, rfl, by decide +kernel, rfl, by decide +kernel, by decide +kernel⟩
theorem ok_Store_init (T : Txt w K mg a) : FnOk P w K mg base CX0 3 a.f_Store_init a.d_Store_init ["self", "data", "parity", "rows", "members", "epoch"] (sp_Store_init K a) := by
  refine T.F_Store_init.ok sc_Store_init (fun vs H Q E h => ?len) (fun cdv A outer s H vs Q E hr h => ?body)
  case len =>
    exact sp_Store_init_len h
  case body =>
    obtain ⟨S, dx, M, d, p, r, e, ms, rfl, hS, hM, nd, h08, l8, r18, r100, k⟩ := h
    have hw := T.hw
    subst hw
    refine ⟨_, (pss_cons (ps_fld (pv 0) (pv 1) rfl)
      (pss_cons (ps_fld (pv 0) (pv 2) rfl)
      (pss_cons (ps_fld (pv 0) (pv 3) rfl)
      (pss_cons (ps_fld (pv 0) (pe_callTy call_list_of (by rfl) T.n_list (by decide +kernel) (pa_cons (pv 4) pa_nil)) rfl)
      (pss_cons (ps_fld (pv 0) (pv 5) rfl)
      (pss_cons (ps_fld (pv 0) (pe_lst pa_nil) rfl)
      (pss_cons (ps_fld (pv 0) pe_int rfl)
      (pss_cons (ps_fld (pv 0) (pe_dc (own := [("disk", 6)]) (g := (gName 6)) (by rfl) sc_Store_init.nd (pi_list (pv 4)) (blkOk_by (own := [("disk", 6)]) (N := ["self", "data", "parity", "rows", "members", "epoch", "disk"]) (sc := defScope s_Store_init) (by decide +kernel))
      (fun _ _ _ _ _ => (pg_name (i := 6) sc_Store_init.nd rfl (Or.inl rfl))) (fun _ _ _ _ _ => pts_nil) (fun _ _ _ _ _ => (pv 6)) (fun _ _ _ _ _ => (pe_make T.mk_Space (ok_Space_init T) (hr.mono (by decide)) rfl T.g_Space T.d_Space_init .nil pass0 (pa_cons (pv 3) (pa_cons (pe_const T.g_FIRST_ROW) pa_nil))))) rfl)
      (pss_cons (ps_fld (pv 0) pe_nnew rfl)
      (pss_one (ps_fld (pv 0) pe_nnew rfl))))))))))), ?_⟩
    refine ⟨_, rfl, _, rfl, S, _, dx, _, rfl, hS, T.cl_Store, T.na_Store_data, (by show 0 < 1000; decide), ?_⟩
    refine ⟨_, rfl, _, rfl, S, _, dx, _, rfl, upd_same, T.cl_Store, T.na_Store_parity, (by show 1 < 1000; decide), ?_⟩
    refine ⟨_, rfl, _, rfl, S, _, dx, _, rfl, upd_same, T.cl_Store, T.na_Store_rows, (by show 2 < 1000; decide), ?_⟩
    have f1 : upd (upd (upd H S (.ins a.c_Store dx (putF "data" (.int (d : Int)) []))) S (.ins a.c_Store dx (putF "parity" (.int (p : Int)) (putF "data" (.int (d : Int)) [])))) S (.ins a.c_Store dx (putF "rows" (.int (r : Int)) (putF "parity" (.int (p : Int)) (putF "data" (.int (d : Int)) [])))) S = some (.ins a.c_Store dx (putF "rows" (.int (r : Int)) (putF "parity" (.int (p : Int)) (putF "data" (.int (d : Int)) [])))) := upd_same
    have k1 : ∀ b, b ≠ S → upd (upd (upd H S (.ins a.c_Store dx (putF "data" (.int (d : Int)) []))) S (.ins a.c_Store dx (putF "parity" (.int (p : Int)) (putF "data" (.int (d : Int)) [])))) S (.ins a.c_Store dx (putF "rows" (.int (r : Int)) (putF "parity" (.int (p : Int)) (putF "data" (.int (d : Int)) [])))) b = H b := fun b n => by rw [upd_ne n, upd_ne n, upd_ne n]
    generalize upd (upd (upd H S (.ins a.c_Store dx (putF "data" (.int (d : Int)) []))) S (.ins a.c_Store dx (putF "parity" (.int (p : Int)) (putF "data" (.int (d : Int)) [])))) S (.ins a.c_Store dx (putF "rows" (.int (r : Int)) (putF "parity" (.int (p : Int)) (putF "data" (.int (d : Int)) [])))) = H1 at f1 k1 ⊢
    have MS : M ≠ S := ne_of hM hS (by intro z; cases z)
    refine ⟨_, rfl, M, _, rfl, .inl (SqL.of (by rw [k1 _ MS]; exact hM)), fun mL nL => ?_⟩
    have LS : mL ≠ S := (ne_of_none f1 nL).symm
    refine ⟨_, rfl, S, _, dx, _, rfl, by rw [upd_ne LS.symm]; exact f1, T.cl_Store, T.na_Store_members, (by show 3 < 1000; decide), ?_⟩
    refine ⟨_, rfl, _, rfl, S, _, dx, _, rfl, upd_same, T.cl_Store, T.na_Store_epoch, (by show 4 < 1000; decide), ?_⟩
    obtain ⟨H2, hH2⟩ : ∃ H2, H2 = upd (upd (upd H1 mL (.lst (ms.map V.int))) S (.ins a.c_Store dx (putF "members" (.ref mL) (putF "rows" (.int (r : Int)) (putF "parity" (.int (p : Int)) (putF "data" (.int (d : Int)) [])))))) S (.ins a.c_Store dx (putF "epoch" (.int e) (putF "members" (.ref mL) (putF "rows" (.int (r : Int)) (putF "parity" (.int (p : Int)) (putF "data" (.int (d : Int)) [])))))) := ⟨_, rfl⟩
    have f2 : H2 S = some (.ins a.c_Store dx (putF "epoch" (.int e) (putF "members" (.ref mL) (putF "rows" (.int (r : Int)) (putF "parity" (.int (p : Int)) (putF "data" (.int (d : Int)) [])))))) := by rw [hH2]; exact upd_same
    have m2 : H2 mL = some (.lst (ms.map V.int)) := by rw [hH2, upd_ne LS, upd_ne LS]; exact upd_same
    have nL0 : H mL = none := by rw [← k1 _ LS]; exact nL
    have k2 : ∀ b o, H b = some o → b ≠ S → H2 b = some o := fun b o e n => by
      rw [hH2, upd_ne n, upd_ne n, upd_ne (ne_of_none e nL0), k1 _ n]
      exact e
    rw [← hH2]
    clear hH2 k1 f1 nL
    -- _images = []
    refine ⟨Nat.zero_le _, fun Im nIm => ?_⟩
    have IS : Im ≠ S := (ne_of_none f2 nIm).symm
    refine ⟨_, rfl, S, _, dx, _, rfl, by rw [upd_ne IS.symm]; exact f2, T.cl_Store, T.na_Store_images, (by show 5 < 1000; decide), ?_⟩
    refine ⟨_, rfl, S, _, dx, _, rfl, upd_same, T.cl_Store, T.na_Store_made, (by show 6 < 1000; decide), ?_⟩
    obtain ⟨F7, hF7⟩ : ∃ F7, F7 = putF "_made" (.int (0 : Int)) (putF "_images" (.ref Im) (putF "epoch" (.int e) (putF "members" (.ref mL) (putF "rows" (.int (r : Int)) (putF "parity" (.int (p : Int)) (putF "data" (.int (d : Int)) [])))))) := ⟨_, rfl⟩
    obtain ⟨H3, hH3⟩ : ∃ H3, H3 = upd (upd (upd H2 Im (.lst [])) S (.ins a.c_Store dx (putF "_images" (.ref Im) (putF "epoch" (.int e) (putF "members" (.ref mL) (putF "rows" (.int (r : Int)) (putF "parity" (.int (p : Int)) (putF "data" (.int (d : Int)) [])))))))) S (.ins a.c_Store dx F7) := ⟨_, rfl⟩
    have f3 : H3 S = some (.ins a.c_Store dx F7) := by rw [hH3]; exact upd_same
    have k23 : ∀ b o, H2 b = some o → b ≠ S → H3 b = some o := fun b o e n => by
      rw [hH3, upd_ne n, upd_ne n, upd_ne (ne_of_none e nIm)]
      exact e
    have m3 := k23 _ _ m2 LS
    have k3 : ∀ b o, H b = some o → b ≠ S → H3 b = some o := fun b o e n => k23 b o (k2 b o e n) n
    rw [← hF7, ← hH3]
    clear hH3 k23 k2 f2 m2 nIm
    have M3 := k3 _ _ hM MS
    have msl : ms.length ≤ 8 := l8
    refine ⟨_, rfl, M, rfl, ⟨_, SqL.of M3⟩, fun D nD => dc_it (walk_list (K := K) (a := M) (xs := ms.map V.int)) (fun i H' => ∃ f : Int → Addr × Addr, Same H3 H' ∧ H' D = some (.dK ((ms.take i).map fun d => ((Sum.inl d : Key), V.ref (f d).1))) ∧ (∀ x ∈ ms.take i, SpD a H' (f x).1 (f x).2 18 r (fun _ => 0) ∧ H3 (f x).1 = none ∧ H3 (f x).2 = none ∧ (f x).2 ≠ D) ∧ ∀ x ∈ ms.take i, ∀ y ∈ ms.take i, (f x).1 = (f y).1 ∨ (f x).2 = (f y).2 → x = y) ⟨fun _ => (0, 0), Same.new nD, upd_same, fun _ m => (nomatch m), fun _ m => (nomatch m)⟩ (fun i H' _ q => by obtain ⟨_, s, _⟩ := q; exact SqL.of (s _ _ M3)) ?_ ?_⟩
    · rintro i y H4 H5 hi ⟨f, s4, d4, sp4, u4⟩ ⟨rfl, hy⟩
      obtain ⟨x, hx, rfl⟩ := int_item hy
      have mx := List.mem_of_getElem? hx
      have il := item_lt hx
      have xn : x ∉ ms.take i := fun z => by
        obtain ⟨j, hj⟩ := List.mem_iff_getElem?.mp z
        rw [List.getElem?_take] at hj
        split at hj
        · next lt =>
          rw [List.pairwise_iff_getElem] at nd
          have lj := item_lt hj
          have := nd j i lj il lt
          rw [show ms[j] = x from Option.some.inj ((List.getElem?_eq_getElem lj).symm.trans hj), show ms[i] = x from Option.some.inj ((List.getElem?_eq_getElem il).symm.trans hx)] at this
          omega
        · cases hj
      refine ⟨rfl, _, rfl, _, rfl, fun po qo npo nqo npq => ⟨po, qo, 18, r, rfl, upd_same, r18, fun do' H6 ndo sp6 fr6 => ⟨rfl, ?_⟩⟩⟩
      have s6 : ∀ b o, H5 b = some o → H6 b = some o := fun b o e => fr6 b o (by rw [upd_ne (ne_of_none e npo), upd_ne (ne_of_none e nqo)]; exact e) (ne_of_none e npo)
      have dp : do' ≠ po := fun z => by rw [z, upd_same] at ndo; cases ndo
      have nd5 : H5 do' = none := by
        by_cases z : do' = qo
        · rw [z]; exact nqo
        · rw [upd_ne dp, upd_ne z] at ndo
          exact ndo
      have poD : po ≠ D := (ne_of_none d4 npo).symm
      have doD : do' ≠ D := (ne_of_none d4 nd5).symm
      obtain ⟨fx, hfx⟩ : ∃ fx : Int → Addr × Addr, fx = fun z => if z = x then (po, do') else f z := ⟨_, rfl⟩
      have fxx : fx x = (po, do') := by rw [hfx]; exact if_pos rfl
      have fxo : ∀ z ∈ ms.take i, fx z = f z := fun z mz => by rw [hfx]; exact if_neg fun e => xn (by rw [← e]; exact mz)
      have emap : (ms.take i).map (fun d => ((Sum.inl d : Key), V.ref (f d).1)) = (ms.take i).map fun d => ((Sum.inl d : Key), V.ref (fx d).1) := List.map_congr_left fun z mz => by rw [fxo z mz]
      refine ⟨_, Sum.inl x, rfl, s6 _ _ d4, small _ (by rw [List.length_map, List.length_take]; omega), fx, ?_, ?_, ?_, ?_⟩
      · exact same_put (fun b o e => s6 _ _ (s4 _ _ e)) nD
      · rw [upd_same, take_snoc hx, List.map_append, emap, putK_new _ (val_no (f := fun d => (fx d).1) xn)]
        show some (HO.dK (_ ++ [((Sum.inl x : Key), V.ref po)])) = some (HO.dK (_ ++ [((Sum.inl x : Key), V.ref (fx x).1)]))
        rw [fxx]
      · intro z mz
        rw [take_snoc hx] at mz
        rcases List.mem_append.mp mz with mz | mz
        · obtain ⟨a1, a2, a3, a4⟩ := sp4 z mz
          rw [fxo z mz]
          refine ⟨a1.keep (fun o e => ?_) (fun o e => ?_), a2, a3, a4⟩
          · obtain ⟨_, _, _, e1, _⟩ := a1
            rw [upd_ne (ne_of e1 d4 (by intro z; cases z))]
            exact s6 _ _ e
          · rw [upd_ne a4]
            exact s6 _ _ e
        · rw [List.mem_singleton.mp mz, fxx]
          refine ⟨sp6.keep (fun o e => by rw [upd_ne poD]; exact e) (fun o e => by rw [upd_ne doD]; exact e), same_none s4 npo, same_none s4 nd5, doD⟩
      · have cross : ∀ z ∈ ms.take i, (f z).1 ≠ po ∧ (f z).2 ≠ do' := fun z mz => by
          obtain ⟨⟨_, _, _, e1, e2, _⟩, _⟩ := sp4 z mz
          exact ⟨ne_of_none e1 npo, ne_of_none e2 nd5⟩
        intro z mz w mw h
        rw [take_snoc hx] at mz mw
        rcases List.mem_append.mp mz with mz | mz
        · rcases List.mem_append.mp mw with mw | mw
          · rw [fxo z mz, fxo w mw] at h
            exact u4 z mz w mw h
          · rw [List.mem_singleton.mp mw, fxo z mz, fxx] at h
            exact absurd h fun q => q.elim (cross z mz).1 (cross z mz).2
        · rcases List.mem_append.mp mw with mw | mw
          · rw [List.mem_singleton.mp mz, fxo w mw, fxx] at h
            exact absurd h fun q => q.elim (fun e => (cross w mw).1 e.symm) fun e => (cross w mw).2 e.symm
          · rw [List.mem_singleton.mp mz, List.mem_singleton.mp mw]
    rintro H4 ⟨f, s4, d4, sp4, u4⟩
    rw [List.length_map, List.take_length] at d4 sp4 u4
    have f4 := s4 _ _ f3
    have DS : D ≠ S := (ne_of_none f3 nD).symm
    refine ⟨_, rfl, S, _, dx, _, rfl, f4, T.cl_Store, T.na_Store_spaces, (by rw [hF7]; show 7 < 1000; decide), ?_⟩
    intro bD nbD
    have bS : bD ≠ S := fun z => by rw [z, upd_same] at nbD; cases nbD
    have nb4 : H4 bD = none := by rw [upd_ne bS] at nbD; exact nbD
    refine ⟨_, rfl, S, _, dx, _, rfl, by rw [upd_ne bS.symm]; exact upd_same, T.cl_Store, T.na_Store_blocks, (by rw [hF7]; show 8 < 1000; decide), ?_⟩
    intro mD nmD
    have mS : mD ≠ S := fun z => by rw [z, upd_same] at nmD; cases nmD
    have mb : mD ≠ bD := fun z => by rw [z, upd_ne bS, upd_same] at nmD; cases nmD
    have nm4 : H4 mD = none := by rw [upd_ne mS, upd_ne mb, upd_ne mS] at nmD; exact nmD
    refine ⟨_, rfl, S, _, dx, _, rfl, by rw [upd_ne mS.symm]; exact upd_same, T.cl_Store, T.na_Store_memory, (by rw [hF7]; show 9 < 1000; decide), ?_⟩
    have m0 : SM := ⟨dx, mL, D, bD, mD, Im, f, d, p, r, 0, e, ms, [], ms⟩
    obtain ⟨m, hm⟩ : ∃ m : SM, m = ⟨dx, mL, D, bD, mD, Im, f, d, p, r, 0, e, ms, [], ms⟩ := ⟨_, rfl⟩
    have ef : putF "_memory" (.ref mD) (putF "_blocks" (.ref bD) (putF "_spaces" (.ref D) F7)) = sflds m := by rw [hF7, hm]; kernel_rfl
    have keep : ∀ x o, H4 x = some o → x ≠ S → upd (upd (upd (upd (upd H4 S (.ins a.c_Store dx (putF "_spaces" (.ref D) F7))) bD (L2.NO a.wd bD [])) S (.ins a.c_Store dx (putF "_blocks" (.ref bD) (putF "_spaces" (.ref D) F7)))) mD (L2.NO a.wd mD [])) S (.ins a.c_Store dx (putF "_memory" (.ref mD) (putF "_blocks" (.ref bD) (putF "_spaces" (.ref D) F7)))) x = some o := fun x o ex n => by
      rw [upd_ne n, upd_ne (ne_of_none ex nm4), upd_ne n, upd_ne (ne_of_none ex nb4), upd_ne n]
      exact ex
    have frH : ∀ b o, H b = some o → b ≠ S → H4 b = some o := fun b o ex n => s4 _ _ (k3 b o ex n)
    have freshH : ∀ b, H3 b = none → b ≠ S → H b = none := fun b n ne => by
      cases z : H b with
      | none => rfl
      | some o => rw [k3 b o z ne] at n; cases n
    refine k m _ ⟨?_, ?_, ?_, fun x mx => ?_, ?_, ?_, ?_, ?_, ?_, ?_, ?_, ?_, ?_, ?_, ?_, ?_, by rw [hm]⟩ (by rw [hm]) (by rw [hm]) (by rw [hm]) (by rw [hm]) (by rw [hm]) (by rw [hm]) (by rw [hm]) (fun b o ex n => keep b o (frH b o ex n) n) fun b r => ?_
    · rw [upd_same, ← ef, hm]
    · rw [hm]
      exact keep _ _ (s4 _ _ m3) LS
    · rw [hm]
      exact keep _ _ d4 DS
    · rw [hm] at mx ⊢
      obtain ⟨a1, a2, a3, a4⟩ := sp4 x mx
      have e0 : phiM ([] : List Blk) x = fun _ => 0 := by funext y; rfl
      show SpD a _ (f x).1 (f x).2 18 r (phiM ([] : List Blk) x)
      rw [e0]
      refine a1.keep (fun o e => keep _ _ e fun z => ?_) (fun o e => keep _ _ e fun z => ?_)
      · rw [z, f3] at a2; cases a2
      · rw [z, f3] at a3; cases a3
    · rw [hm]; exact u4
    · rw [hm]
      show upd _ S _ bD = _
      rw [upd_ne bS, upd_ne mb.symm, upd_ne bS, upd_same]
      rfl
    · rw [hm]
      show upd _ S _ mD = _
      rw [upd_ne mS, upd_same]
      rfl
    · rw [hm]; exact mb.symm
    · rw [hm]; exact fun _ m => (nomatch m)
    · rw [hm]; exact nd
    · rw [hm]; exact h08
    · rw [hm]; exact fun _ m => (nomatch m)
    · rw [hm]; exact List.nodup_nil
    · rw [hm]; exact fun _ m => (nomatch m)
    · rw [hm]; exact List.nodup_nil
    · rw [hm]; exact fun _ m => (nomatch m)
    · rw [hm] at r
      cases r with
      | s => exact .inl rfl
      | ml => exact .inr nL0
      | spd => exact .inr (freshH _ nD DS)
      | bd => exact .inr (freshH _ (same_none s4 nb4) bS)
      | md => exact .inr (freshH _ (same_none s4 nm4) mS)
      | s1 x mx =>
        by_cases z : (f x).1 = S
        · exact .inl z
        · exact .inr (freshH _ (sp4 x mx).2.1 z)
      | s2 x mx =>
        by_cases z : (f x).2 = S
        · exact .inl z
        · exact .inr (freshH _ (sp4 x mx).2.2.1 z)
      | t b mb => exact nomatch mb
      | pt b mb => exact nomatch mb
      | w b mb => exact nomatch mb
      | q b e mb me => exact nomatch mb
theorem sc_Store_put : FnScope ["self", "words", "avoid", "candidates", "disks", "places", "pointer", "disk", "free"] ["self", "words", "avoid"] (defScope s_Store_put) := ⟨rfl, rfl, rfl, by decide +kernel, rfl, by decide +kernel, by decide +kernel⟩
theorem ok_Store_put (T : Txt w K mg a) : FnOk P w K mg base (L2.CX P w) 3 a.f_Store_put a.d_Store_put ["self", "words", "avoid"] (sp_Store_put K a) := by
  refine T.F_Store_put.okX sc_Store_put (fun vs H Q E h => ?len) (fun cdv A outer s H vs Q E hr h => ?body)
  case len =>
    exact sp_Store_put_len h
  case body =>
    obtain ⟨S, W, A', m, ws, av, ims, rfl, h, hW, nWR, hA, hI, l100, l9, r100, l8, d1, w8, kE, kN, kQ⟩ := h
    have hw := T.hw
    subst hw
    refine ⟨_, (pss_cons (ps_if (pt_cmpR op_gt (pe_callB call_len_seq (by rfl) T.n_len PySem.boot_len (pa_cons (pv 1) pa_nil)) (pe_op op_mul (pe_const T.g_MAX_PAYLOAD) (pe_fld (pv 0) rfl)) (nomark _))
      (pss_one (ps_raise rfl (takes_of rfl rfl rfl rfl) (pmk_own PySem.F.excBase_ValueError T.x_InvalidArgument T.g_InvalidArgument T.k_InvalidArgument (raises_own T.b_InvalidArgument T.t_InvalidArgument) (by exact rfl))))
      pss_nil)
      (Evl.pss_cut (ps_setLc (i := 3) (own := [("disk", 7), ("free", 8)]) (g := (gTup K 2 (gCons (gName 7) (gCons (gName 8) gNil)))) (by rfl) sc_Store_put.nd rfl rfl (sw_true rfl rfl rfl (by decide +kernel)) (pi_list (pe_meth0 (pv 0) T.cl_Store T.m_Store_free_counts (ok_Store_free_counts T) (hr.mono (by decide)) T.d_Store_free_counts .nil pass0)) (blkOk_by (own := [("disk", 7), ("free", 8)]) (N := ["self", "words", "avoid", "candidates", "disks", "places", "pointer", "disk", "free"]) (sc := defScope s_Store_put) (by decide +kernel))
      (fun _ _ _ _ _ => (pg_tup rfl (pgs_cons (pg_name (i := 7) sc_Store_put.nd rfl (Or.inl rfl)) (pgs_cons (pg_name (i := 8) sc_Store_put.nd rfl (Or.inl rfl)) pgs_nil)))) (fun _ _ _ _ _ => (pts_one (pt_cmpR (by exact op_notIn_seq : OpR _ _ (rIn K true)) (pv 7) (pv 2) (by rfl)))) (fun _ _ _ _ _ => (pe_tup (pa_cons (pv 7) (pa_cons (pe_call (ok_is_present T) (hr.mono (by decide)) rfl T.g_is_present T.F_is_present.kp T.d_is_present .nil pass0 (pa_cons (by exact (pe_fld (pv 0) rfl) : PE _ _ (tFld K _ _)) (pa_cons (pv 7) pa_nil))) (pa_cons (pv 8) pa_nil))))))
      (Evl.pss_cut (ps_set (i := 4) sc_Store_put.nd rfl (Or.inl rfl) (pe_call (ok_choose_disks T) (hr.mono (by decide)) rfl T.g_choose_disks T.F_choose_disks.kp T.d_choose_disks .nil (passes_call (takes_of rfl rfl rfl rfl) (fun _ _ _ _ z => z)) (pa_cons (pv 3) (pa_cons (pe_op op_add (pe_fld (pv 0) rfl) (pe_fld (pv 0) rfl)) pa_nil))))
      (Evl.pss_cut (ps_set (i := 5) sc_Store_put.nd rfl (Or.inl rfl) (pe_callTy call_tuple_of (by rfl) T.n_tuple (by decide +kernel) (pa_cons (pe_lc (own := [("disk", 7)]) (g := (gName 7)) (by rfl) sc_Store_put.nd (pi_list (pv 4)) (blkOk_by (own := [("disk", 7)]) (N := ["self", "words", "avoid", "candidates", "disks", "places", "pointer", "disk", "free"]) (sc := defScope s_Store_put) (by decide +kernel))
      (fun _ _ _ _ _ => (pg_name (i := 7) sc_Store_put.nd rfl (Or.inl rfl))) (fun _ _ _ _ _ => pts_nil) (fun _ _ _ _ _ => (pe_tup (pa_cons (pv 7) (pa_cons (pe_meth0 (pe_dget (hu_of hr) (by exact (pe_fld (pv 0) rfl) : PE _ _ (tFld K _ _)) (pv 7) (fun _ _ => rfl)) T.cl_Space T.m_Space_take (ok_Space_take T) (hr.mono (by decide)) T.d_Space_take .nil passL) pa_nil))))) pa_nil)))
      (pss_cons (ps_set (i := 6) sc_Store_put.nd rfl (Or.inl rfl) (pe_tup (pa_cons (pe_fld (pv 0) rfl) (pa_cons (pe_fld (pv 0) rfl) (pa_cons (pe_callB call_len_seq (by rfl) T.n_len PySem.boot_len (pa_cons (pv 1) pa_nil)) (pa_cons (pv 5) pa_nil))))))
      (pss_cons (ps_fldaug (pv 0) pe_int ip_add)
      (pss_cons (ps_nput hr.units (pe_fld (pv 0) rfl) (pv 6) pe_bl rfl)
      (pss_cons (ps_nput hr.units (pe_fld (pv 0) rfl) (pv 6) (pe_callTy call_list_of (by rfl) T.n_list (by decide +kernel) (pa_cons (pv 1) pa_nil)) rfl)
      (pss_one (ps_ret (pv 6))))))))))), ?_⟩
    refine ⟨_, rfl, W, _, rfl, .inl hW, _, rfl, S, _, m.dx, _, _, rfl, h.hS, T.cl_Store, T.na_Store_data, sf_data m, _, _, rfl, rfl, .inl ⟨by decide, by decide⟩, _, _, rfl, rfl, _, rfl, ite2 (fun z => ?_) (fun z => ?_)⟩
    · refine kE ?_ _ (Same.refl _)
      have z := of_decide_eq_true z
      rw [List.length_map] at z
      omega
    have lw : ws.length ≤ 1000 * m.data := by
      have : ¬ (1000 : Int) * (m.data : Int) < ((ws.map V.int).length : Nat) := fun y => z (decide_eq_true y)
      rw [List.length_map] at this
      omega
    clear kE z
    replace kN := kN lw
    replace kQ := kQ lw
    -- candidates
    obtain ⟨cs, hcs⟩ : ∃ cs, cs = m.ms.filter fun d => decide (d ∉ av) := ⟨_, rfl⟩
    rw [← hcs] at kN kQ
    have csub : ∀ d ∈ cs, d ∈ m.ms ∧ d ∉ av := fun d md => by
      rw [hcs] at md
      exact ⟨(List.mem_filter.mp md).1, of_decide_eq_true (List.mem_filter.mp md).2⟩
    have cnd : cs.Nodup := by
      rw [hcs]
      exact (h.nd.imp fun h => Int.ne_of_lt h).sublist List.filter_sublist
    refine ⟨fun σ H' => ∃ (C : Addr) (L : List Cd), σ = [some (.ref S), some (.ref W), some (.ref A'), some (.ref C), none, none, none, none, none] ∧ Same H H' ∧ CdL K H' C L ∧ L.map (fun c => (c.d, c.f)) = cs.map fun d => (d, (m.rows : Int) - (18 : Nat) - (usedM m d : Nat)), ?_, ?_⟩
    · refine ⟨_, rfl, S, m.dx, _, rfl, h.hS, by kernel_rfl, S, m, rfl, h, l8, fun FC FL H1 s1 nFC dFC hFC eFC => ⟨FC, rfl, ⟨_, SqL.of dFC⟩, fun C nC => lc_list (K := K) (a := FC) (xs := FL.map fun e => V.ref e.1) (fun i H' => Same H1 H' ∧ ∃ L : List Cd, H' C = some (.lst (L.map cdV)) ∧ (∀ e ∈ L, H' e.t = some (.tup [.int e.d, .bl e.b, .int e.f])) ∧ L.map (fun c => (c.d, c.f)) = ((FL.take i).map (·.2)).filter fun q => decide (q.1 ∉ av)) ⟨Same.new nC, [], upd_same, fun _ m => (nomatch m), rfl⟩ (fun i H' _ q => q.1.seq (SqL.of dFC)) ?_ ?_⟩⟩
      · rintro i y H2 hy ⟨s2, L, dL, hL, eL⟩
        obtain ⟨e, he, rfl⟩ : ∃ e, FL[i]? = some e ∧ y = V.ref e.1 := by
          rw [List.getElem?_map] at hy
          cases z : FL[i]? with
          | none => rw [z] at hy; cases hy
          | some e => rw [z] at hy; exact ⟨e, rfl, (Option.some.inj hy).symm⟩
        have me := List.mem_of_getElem? he
        have md : e.2.1 ∈ m.ms := by
          have : e.2 ∈ FL.map (·.2) := List.mem_map.mpr ⟨e, me, rfl⟩
          rw [eFC] at this
          obtain ⟨d, hd, z⟩ := List.mem_map.mp this
          rw [← z]
          exact hd
        have s02 := s1.trans s2
        have lL : L.length ≤ 8 := by
          have l1 := congrArg List.length eL
          have l2 := congrArg List.length eFC
          have l3 := List.length_filter_le (fun q : Int × Int => decide (q.1 ∉ av)) ((FL.take i).map (·.2))
          rw [List.length_map] at l1 l3
          rw [List.length_map, List.length_map] at l2
          rw [List.length_take] at l3
          omega
        have hA2 : SqL K H2 A' (av.map V.int) ∨ SqT K H2 A' (av.map V.int) := hA.imp s02.seq s02.tup
        refine ⟨e.1, _, rfl, SqT.of (s2 _ _ (hFC e me)), rfl, _, _, rfl, _, _, rfl, rfl, ?_⟩
        refine ⟨rfl, _, rfl, _, rfl, A', _, rfl, hA2, rfl, flat_intsS _, _, rfl, ?_⟩
        rw [inV_intsS]
        have ft : ((FL.take (i + 1)).map (·.2)).filter (fun q => decide (q.1 ∉ av)) = ((FL.take i).map (·.2)).filter (fun q => decide (q.1 ∉ av)) ++ if e.2.1 ∉ av then [e.2] else [] := by
          rw [take_snoc he, List.map_append, List.filter_append]
          congr 1
          simp only [List.map_cons, List.map_nil, List.filter_cons, List.filter_nil, decide_eq_true_eq]
        by_cases c : e.2.1 ∈ av
        · rw [decide_eq_true c]
          refine iteF ⟨s2, L, dL, hL, ?_⟩
          rw [ft, if_neg (fun z => z c), List.append_nil]
          exact eL
        · rw [decide_eq_false c]
          have st2 := h.same s02
          refine iteT ⟨_, rfl, _, rfl, S, _, m.dx, _, _, rfl, st2.hS, T.cl_Store, T.na_Store_images, sf_images m, _, rfl, m.I, ims, e.2.1.toNat, by rw [Int.toNat_of_nonneg (h.m0 _ md).1]; rfl, s02.seq hI, l100, _, rfl, by show 3 ≤ sizeLine; decide, fun t nt => ?_⟩
          have sT := Same.new (o := .tup [V.int e.2.1, V.bl (presentM ims e.2.1.toNat), V.int e.2.2]) nt
          have dT : upd H2 t (.tup [V.int e.2.1, V.bl (presentM ims e.2.1.toNat), V.int e.2.2]) t = some (.tup [.int e.2.1, .bl (presentM ims e.2.1.toNat), .int e.2.2]) := upd_same
          generalize upd H2 t (.tup [V.int e.2.1, V.bl (presentM ims e.2.1.toNat), V.int e.2.2]) = H3 at sT dT ⊢
          have tC : t ≠ C := (ne_of_none dL nt).symm
          refine ⟨_, sT _ _ dL, small _ (by rw [List.length_map]; omega), same_put (s2.trans sT) nC, L ++ [⟨t, e.2.1, presentM ims e.2.1.toNat, e.2.2⟩], by rw [upd_same, List.map_append]; rfl, fun x mx => ?_, by rw [ft, if_pos c, List.map_append, eL]; rfl⟩
          rcases List.mem_append.mp mx with mx | mx
          · rw [upd_ne (ne_of (hL x mx) dL (by intro z; cases z))]
            exact sT _ _ (hL x mx)
          · rw [List.mem_singleton.mp mx, upd_ne tC]
            exact dT
      rintro H2 ⟨s2, L, dL, hL, eL⟩
      rw [List.length_map, List.take_length, eFC] at eL
      refine ⟨C, L, rfl, s1.trans s2, ⟨SqL.of dL, hL⟩, ?_⟩
      rw [eL, hcs, List.filter_map]
      rfl
    rintro σ H1 ⟨C, L, rfl, s1, hC, eL⟩
    have h1 := h.same s1
    -- disks
    have lL : L.length = cs.length := by
      have := congrArg List.length eL
      rwa [List.length_map, List.length_map] at this
    have cs8 : cs.length ≤ 8 := by
      rw [hcs]
      exact Nat.le_trans (List.length_filter_le _ _) l8
    have eD : L.map (·.d) = cs := by
      have := congrArg (List.map Prod.fst) eL
      rw [List.map_map, List.map_map] at this
      have e2 : cs.map (Prod.fst ∘ fun d => (d, (m.rows : Int) - (18 : Nat) - (usedM m d : Nat))) = cs := by
        conv => rhs; rw [← List.map_id cs]
        rfl
      rw [e2] at this
      exact this
    have eU : m.data + m.par ≤ cs.length → usableM L = L := fun cg => List.filter_eq_self.mpr fun c mc => decide_eq_true (by
      have c2 := (kQ cg).1
      have : (c.d, c.f) ∈ L.map (fun c => (c.d, c.f)) := List.mem_map.mpr ⟨c, mc, rfl⟩
      rw [eL] at this
      obtain ⟨d, md, z⟩ := List.mem_map.mp this
      have u := h.used d
      have z2 : (m.rows : Int) - (18 : Nat) - (usedM m d : Nat) = c.f := congrArg Prod.snd z
      omega)
    refine ⟨fun σ H' => ∃ (DK : Addr) (ns : List Int), σ = [some (.ref S), some (.ref W), some (.ref A'), some (.ref C), some (.ref DK), none, none, none, none] ∧ Same H H' ∧ ¬ StR S m DK ∧ H' DK = some (.lst (ns.map V.int)) ∧ ns.Pairwise (· < ·) ∧ ns.length = m.data + m.par ∧ (∀ d ∈ ns, d ∈ m.ms ∧ d ∉ av) ∧ m.data + m.par ≤ cs.length, ?_, ?_⟩
    · refine ⟨_, rfl, _, rfl, S, _, m.dx, _, _, rfl, h1.hS, T.cl_Store, T.na_Store_data, sf_data m, _, rfl, S, _, m.dx, _, _, rfl, h1.hS, T.cl_Store, T.na_Store_parity, sf_parity m, _, _, rfl, rfl, C, L, m.data + m.par, rfl, hC, by omega, by omega, by rw [eD]; exact cnd, fun b H' s' => kN (by omega) H' (s1.trans s'), fun cg b => absurd b (by rw [eU (by omega)]; omega), fun cg _ DK ns H2 s2 nDK dDK perm asc => ?_⟩
      rw [eU (by omega)] at perm
      obtain ⟨b1, b2, b3⟩ := best_facts (U := L) (w := m.data + m.par) (by rw [eD]; exact cnd) (by omega)
      have nn : ns.Nodup := perm.nodup_iff.mpr b2
      refine ⟨DK, ns, rfl, s1.trans s2, h1.fresh nDK, dDK, (asc.and nn).imp fun h => by omega, by rw [perm.length_eq, b1], fun d md => ?_, by omega⟩
      obtain ⟨e, me, z⟩ := b3 d (perm.mem_iff.mp md)
      refine csub d ?_
      rw [← eD, ← z]
      exact List.mem_map.mpr ⟨e, me, rfl⟩
    rintro σ H2 ⟨DK, ns, rfl, s2, dkR, dDK, asc, ln, hns, cg⟩
    obtain ⟨c2, c3, kQ⟩ := kQ cg
    clear eU eD lL cs8 hC eL h1 s1 csub cnd
    -- places
    have h2 := h.same s2
    refine ⟨fun σ H' => ∃ (PT : Addr) (PL : List (Addr × Int × Int)), σ = [some (.ref S), some (.ref W), some (.ref A'), some (.ref C), some (.ref DK), some (.ref PT), none, none, none] ∧ (∀ x o, H x = some o → ¬ StR S m x → H' x = some o) ∧ StorP a H' S m (psiT m.bl PL) ∧ H' PT = some (.tup (PL.map fun q => V.ref q.1)) ∧ (∀ e ∈ PL, H' e.1 = some (.tup [.int e.2.1, .int e.2.2]) ∧ H e.1 = none) ∧ PL.map (fun e => e.2.1) = ns ∧ (∀ e ∈ PL, (18 ≤ e.2.2 ∧ e.2.2 < m.rows) ∧ phiM m.bl e.2.1 e.2.2 = 0) ∧ H PT = none, ?_, ?_⟩
    · refine ⟨_, rfl, DK, rfl, ⟨_, SqL.of dDK⟩, fun R nR => lc_list (K := K) (a := DK) (xs := ns.map V.int) (fun j H' => ∃ PL : List (Addr × Int × Int), (∀ x o, H2 x = some o → ¬ StR S m x → H' x = some o) ∧ StorP a H' S m (psiT m.bl PL) ∧ H' R = some (.lst (PL.map fun q => V.ref q.1)) ∧ (∀ e ∈ PL, H' e.1 = some (.tup [.int e.2.1, .int e.2.2]) ∧ H2 e.1 = none) ∧ PL.map (fun e => e.2.1) = ns.take j ∧ ∀ e ∈ PL, (18 ≤ e.2.2 ∧ e.2.2 < m.rows) ∧ phiM m.bl e.2.1 e.2.2 = 0) ⟨[], fun x o e _ => Same.new nR _ _ e, ?_, upd_same, fun _ m => (nomatch m), rfl, fun _ m => (nomatch m)⟩ (fun j H' _ q => by obtain ⟨_, q, _⟩ := q; exact SqL.of (q _ _ dDK dkR)) ?_ ?_⟩
      · refine (h2.put (h2.fresh nR)).psi fun d _ => ?_
        funext r
        rfl
      · rintro j y H3 hy ⟨PL, fr, st, dR, hPL, ePL, rPL⟩
        obtain ⟨d, hd, rfl⟩ := int_item hy
        have mdn := List.mem_of_getElem? hd
        obtain ⟨md, nav⟩ := hns d mdn
        have lPL : PL.length = j := by
          have := congrArg List.length ePL
          have := item_lt hd
          rw [List.length_map, List.length_take] at *
          omega
        have dn : d ∉ ns.take j := fun z => by
          obtain ⟨j', hj'⟩ := List.mem_iff_getElem?.mp z
          rw [List.getElem?_take] at hj'
          split at hj'
          · next lt =>
            rw [List.pairwise_iff_getElem] at asc
            have l1 := item_lt hj'
            have l2 := item_lt hd
            have := asc j' j l1 l2 lt
            rw [show ns[j'] = d from Option.some.inj ((List.getElem?_eq_getElem l1).symm.trans hj'), show ns[j] = d from Option.some.inj ((List.getElem?_eq_getElem l2).symm.trans hd)] at this
            omega
          · cases hj'
        have eps : psiT m.bl PL d = phiM m.bl d := by
          funext r
          unfold psiT
          rw [if_neg fun z => ?_]
          obtain ⟨q, mq, z⟩ := List.any_eq_true.mp z
          have z := of_decide_eq_true z
          refine dn ?_
          rw [← ePL]
          exact List.mem_map.mpr ⟨q, mq, by rw [z]⟩
        obtain ⟨dx', low, M, e1, _⟩ := id (st.sp d md)
        refine ⟨rfl, _, rfl, _, rfl, S, _, m.dx, _, _, rfl, st.hS, T.cl_Store, T.na_Store_spaces, sf_spaces m, _, rfl, m.spd, _, rfl, st.spget md, (m.sp d).1, dx', _, rfl, e1, rfl, (m.sp d).1, (m.sp d).2, 18, m.rows, psiT m.bl PL d, rfl, st.sp d md, by omega, fun z => absurd z (by rw [eps]; exact h.room c2 d), fun r hr hz _ H4 sp4 fr4 => ⟨by show 2 ≤ sizeLine; decide, fun t nt => ?_⟩⟩
        rw [eps] at hz sp4
        have st4 := st.space md sp4 fr4
        have nRs : R ≠ (m.sp d).1 ∧ R ≠ (m.sp d).2 := by
          obtain ⟨_, _, _, g1, g2, _⟩ := h2.sp d md
          exact ⟨(ne_of_none g1 nR).symm, (ne_of_none g2 nR).symm⟩
        have dR4 := fr4 _ _ dR nRs.1 nRs.2
        have sT := Same.new (o := .tup [V.int d, V.int r]) nt
        have dT : upd H4 t (.tup [V.int d, V.int r]) t = some (.tup [.int d, .int r]) := upd_same
        have st5 := st4.same sT
        generalize upd H4 t (.tup [V.int d, V.int r]) = H5 at sT dT st5 ⊢
        have tR : t ≠ R := (ne_of_none dR4 nt).symm
        have nt2 : H2 t = none := by
          cases z : H2 t with
          | none => rfl
          | some o =>
            by_cases c : StR S m t
            · have := st4.there c
              obtain ⟨o', e⟩ := this
              rw [nt] at e
              cases e
            · have e := fr _ _ z c
              have e := fr4 _ _ e (fun y => c (by rw [y]; exact .s1 d md)) (fun y => c (by rw [y]; exact .s2 d md))
              rw [nt] at e
              cases e
        refine ⟨_, sT _ _ dR4, small _ (by rw [List.length_map]; have := item_lt hd; omega), PL ++ [(t, d, r)], fun x o ex n => ?_, ?_, ?_, fun e me => ?_, ?_, fun e me => ?_⟩
        · rw [upd_ne (ne_of_none ex nR)]
          exact sT _ _ (fr4 _ _ (fr x o ex n) (fun y => n (by rw [y]; exact .s1 d md)) fun y => n (by rw [y]; exact .s2 d md))
        · refine (st5.put (h2.fresh nR)).psi fun x mx => ?_
          funext y
          show (if x = d then upF (phiM m.bl d) r 1 else psiT m.bl PL x) y = psiT m.bl (PL ++ [(t, d, r)]) x y
          unfold psiT
          rw [List.any_append]
          by_cases c : x = d
          · subst c
            rw [if_pos rfl]
            have n0 : (PL.any fun q => decide (q.2 = (x, y))) = false := by
              rw [Bool.eq_false_iff]
              intro z
              obtain ⟨q, mq, z⟩ := List.any_eq_true.mp z
              have z := of_decide_eq_true z
              refine dn ?_
              rw [← ePL]
              exact List.mem_map.mpr ⟨q, mq, by rw [z]⟩
            rw [n0, Bool.false_or]
            unfold upF
            by_cases c2 : y = r
            · subst c2
              rw [if_pos rfl]
              simp
            · rw [if_neg c2, if_neg]
              intro z
              have z := of_decide_eq_true (by simpa using z : decide ((x, r) = (x, y)) = true)
              exact c2 (congrArg Prod.snd z).symm
          · rw [if_neg c]
            have n0 : ([(t, d, r)].any fun q => decide (q.2 = (x, y))) = false := by
              rw [Bool.eq_false_iff]
              intro z
              have z := of_decide_eq_true (by simpa using z : decide ((d, r) = (x, y)) = true)
              exact c (congrArg Prod.fst z).symm
            rw [n0, Bool.or_false]
        · rw [upd_same, List.map_append]
          rfl
        · rcases List.mem_append.mp me with me | me
          · obtain ⟨g1, g2⟩ := hPL e me
            refine ⟨?_, g2⟩
            rw [upd_ne (ne_of g1 dR (by intro z; cases z))]
            refine sT _ _ (fr4 _ _ g1 ?_ ?_)
            · exact ne_of g1 e1 (by intro z; cases z)
            · obtain ⟨_, _, _, _, g3, _⟩ := st.sp d md
              exact ne_of g1 g3 (by intro z; cases z)
          · rw [List.mem_singleton.mp me]
            exact ⟨by rw [upd_ne tR]; exact dT, nt2⟩
        · rw [List.map_append, ePL, take_snoc hd]
          rfl
        · rcases List.mem_append.mp me with me | me
          · exact rPL e me
          · rw [List.mem_singleton.mp me]
            exact ⟨hr, hz⟩
      rintro H3 ⟨PL, fr, st, dR, hPL, ePL, rPL⟩
      rw [List.length_map, List.take_length] at ePL
      refine ⟨R, _, rfl, .inl ⟨SqL.of dR, fun PT nPT => ?_⟩⟩
      have sP := Same.new (o := .tup (PL.map fun q => V.ref q.1)) nPT
      have nP2 : H PT = none := by
        cases z : H PT with
        | none => rfl
        | some o =>
          by_cases c : StR S m PT
          · obtain ⟨o', e⟩ := st.there c
            rw [nPT] at e
            cases e
          · have e := fr _ _ (s2 _ _ z) c
            rw [nPT] at e
            cases e
      exact ⟨PT, PL, rfl, fun x o ex n => sP _ _ (fr _ _ (s2 _ _ ex) n), st.same sP, upd_same, fun e me => ⟨sP _ _ (hPL e me).1, same_none s2 (hPL e me).2⟩, ePL, rPL, nP2⟩
    rintro σ H3 ⟨PT, PL, rfl, fr, st, dPT, hPL, ePL, rPL, nPT⟩
    clear h2 dkR dDK
    have hW3 : SqL K H3 W (ws.map V.int) := seq_keep hW fun o e => fr _ _ e nWR
    refine ⟨_, rfl, S, _, m.dx, _, _, rfl, st.hS, T.cl_Store, T.na_Store_epoch, sf_epoch m, _, rfl, S, _, m.dx, _, _, rfl, st.hS, T.cl_Store, T.na_Store_made, sf_made m, _, rfl, W, _, rfl, .inl hW3, _, rfl, by show 4 ≤ sizeLine; decide, fun T' nT => ?_⟩
    rw [List.length_map]
    have sT := Same.new (o := .tup [V.int m.ep, V.int (m.made : Int), V.int (ws.length : Nat), V.ref PT]) nT
    have dT : upd H3 T' (.tup [V.int m.ep, V.int (m.made : Int), V.int (ws.length : Nat), V.ref PT]) T' = some (.tup [.int m.ep, .int (m.made : Int), .int (ws.length : Int), .ref PT]) := upd_same
    have st4 := st.same sT
    have nT0 : H T' = none := by
      cases z : H T' with
      | none => rfl
      | some o =>
        by_cases c : StR S m T'
        · obtain ⟨o', e⟩ := st.there c
          rw [nT] at e
          cases e
        · have e := fr _ _ z c
          rw [nT] at e
          cases e
    have hW4 := sT.seq hW3
    have dPT4 := sT _ _ dPT
    have hPL4 : ∀ e ∈ PL, _ := fun e me => sT _ _ (hPL e me).1
    have fr4 : ∀ x o, H x = some o → ¬ StR S m x → upd H3 T' (.tup [V.int m.ep, V.int (m.made : Int), V.int (ws.length : Nat), V.ref PT]) x = some o := fun x o ex n => sT _ _ (fr x o ex n)
    have nTR := st.fresh nT
    generalize upd H3 T' (.tup [V.int m.ep, V.int (m.made : Int), V.int (ws.length : Nat), V.ref PT]) = H4 at sT dT st4 hW4 dPT4 hPL4 fr4 ⊢
    refine ⟨_, rfl, S, _, m.dx, _, _, rfl, st4.hS, T.cl_Store, T.na_Store_made, sf_made m, _, _, rfl, rfl, m.dx, _, st4.hS, (by show 10 < 1000; decide), ?_⟩
    obtain ⟨m', hm'⟩ : ∃ m' : SM, m' = { m with made := m.made + 1 } := ⟨_, rfl⟩
    have e5 : putF "_made" (.int ((m.made : Int) + 1)) (sflds m) = sflds m' := by
      rw [hm']
      exact sf_set_made m (m.made + 1)
    show tSeq _ _ _ _ (upd H4 S (.ins a.c_Store m.dx (putF "_made" (.int ((m.made : Int) + 1)) (sflds m))))
    rw [e5]
    have hS5 : upd H4 S (.ins a.c_Store m.dx (sflds m')) S = some (.ins a.c_Store m.dx (sflds m')) := upd_same
    have k5 : ∀ x o, H4 x = some o → x ≠ S → upd H4 S (.ins a.c_Store m.dx (sflds m')) x = some o := fun x o e n => by rw [upd_ne n]; exact e
    have bS : m.bD ≠ S := (ne_of st4.hS st4.hb (by intro z; cases z)).symm
    have mS : m.mD ≠ S := (ne_of st4.hS st4.hM (by intro z; cases z)).symm
    generalize upd H4 S (.ins a.c_Store m.dx (sflds m')) = H5 at hS5 k5 ⊢
    obtain ⟨b, hb⟩ : ∃ b : Blk, b = ⟨T', PT, 0, m.made, PL, ws, true⟩ := ⟨_, rfl⟩
    have tup5 : ∀ c ys, H4 c = some (.tup ys) → H5 c = some (.tup ys) := fun c ys e => k5 _ _ e (ne_of e st4.hS (by intro z; cases z))
    have nk4 : NK H4 (keyB m.ep b) (.ref T') := by
      rw [hb]
      exact .tup dT (.cons (.num _) (.cons (.num _) (.cons (.num _) (.cons (.tup dPT4 (nk_places hPL4)) .nil))))
    have nk5 := NK.at tup5 _ _ nk4
    have kd := keyB_depth m.ep b
    have newk : ∀ c ∈ m.bl, keyB m.ep c ≠ keyB m.ep b := fun c mc z => by
      have := keyB_inj z
      have h2 := st4.ser c mc
      rw [this, hb] at h2
      exact Nat.lt_irrefl _ h2
    have lb : (bxs m.ep m.bl).length ≤ 50 := by unfold bxs; rw [List.length_map]; exact c3
    have lm : (mxs m.ep m.bl).length ≤ 50 := by unfold mxs mx0; rw [List.length_map]; exact Nat.le_trans (List.length_filter_le _ _) c3
    have hb5 := k5 _ _ st4.hb bS
    refine ⟨_, rfl, S, _, m.dx, _, _, rfl, hS5, T.cl_Store, T.na_Store_blocks, by rw [sf_blocks m', hm'], _, rfl, m.bD, T', _, keyB m.ep b, rfl, hb5, st4.bkeys.at tup5, rfl, nk5, kd, fix_bl _, small _ (by omega), ?_⟩
    have tup6 : ∀ c ys, H5 c = some (.tup ys) → upd H5 m.bD (L2.NO a.wd m.bD (L2.putN (bxs m.ep m.bl) (keyB m.ep b) T' (.bl true))) c = some (.tup ys) := fun c ys e => by
      rw [upd_ne (ne_of e hb5 (by intro z; cases z))]
      exact e
    have nWS : W ≠ S := fun z => nWR (by rw [z]; exact .s)
    have nWb : W ≠ m.bD := fun z => nWR (by rw [z]; exact .bd)
    have hW6 : SqL K (upd H5 m.bD (L2.NO a.wd m.bD (L2.putN (bxs m.ep m.bl) (keyB m.ep b) T' (.bl true)))) W (ws.map V.int) := seq_off (seq_keep hW4 fun o e => k5 _ _ e nWS) nWb
    refine ⟨_, rfl, W, _, rfl, .inl hW6, fun W2 nW2 => ?_⟩
    obtain ⟨H6, hH6⟩ : ∃ H6, H6 = upd H5 m.bD (L2.NO a.wd m.bD (L2.putN (bxs m.ep m.bl) (keyB m.ep b) T' (.bl true))) := ⟨_, rfl⟩
    have k6 : ∀ x o, H5 x = some o → x ≠ m.bD → H6 x = some o := fun x o e n => by rw [hH6, upd_ne n]; exact e
    have b6 : H6 m.bD = some (L2.NO a.wd m.bD (L2.putN (bxs m.ep m.bl) (keyB m.ep b) T' (.bl true))) := by rw [hH6]; exact upd_same
    replace tup6 : ∀ c ys, H5 c = some (.tup ys) → H6 c = some (.tup ys) := fun c ys e => by rw [hH6]; exact tup6 c ys e
    have nW2' : H6 W2 = none := by rw [hH6]; exact nW2
    have s7 : Same H6 (upd H6 W2 (.lst (ws.map V.int))) := Same.new nW2'
    have d7 : upd H6 W2 (.lst (ws.map V.int)) W2 = some (.lst (ws.map V.int)) := upd_same
    show tFld _ _ _ _ (upd (upd H5 m.bD (L2.NO a.wd m.bD (L2.putN (bxs m.ep m.bl) (keyB m.ep b) T' (.bl true)))) W2 (.lst (ws.map V.int))) _
    rw [← hH6]
    obtain ⟨H7, hH7⟩ : ∃ H7, H7 = upd H6 W2 (.lst (ws.map V.int)) := ⟨_, rfl⟩
    rw [← hH7] at s7 d7 ⊢
    have mb : m.mD ≠ m.bD := st4.bm.symm
    have hS7 : H7 S = some (.ins a.c_Store m.dx (sflds m')) := s7 _ _ (k6 _ _ hS5 (fun z => bS z.symm))
    have hM7 := s7 _ _ (k6 _ _ (k5 _ _ st4.hM mS) mb)
    have tup7 : ∀ c ys, H4 c = some (.tup ys) → H7 c = some (.tup ys) := fun c ys e => s7 _ _ (tup6 _ _ (tup5 _ _ e))
    refine ⟨_, rfl, S, _, m.dx, _, _, rfl, hS7, T.cl_Store, T.na_Store_memory, by rw [sf_memory m', hm'], _, rfl, m.mD, T', _, keyB m.ep b, rfl, hM7, st4.mkeys.at tup7, rfl, NK.at tup7 _ _ nk4, kd, fix_ref _, small _ (by omega), ?_⟩
    have pb : L2.putN (bxs m.ep m.bl) (keyB m.ep b) T' (.bl true) = bxs m.ep m.bl ++ [(keyB m.ep b, T', V.bl true)] := putN_new (fun x mx => by
      obtain ⟨c, mc, rfl⟩ := List.mem_map.mp mx
      exact newk c mc) _ _
    have pm : L2.putN (mxs m.ep m.bl) (keyB m.ep b) T' (.ref W2) = mxs m.ep m.bl ++ [(keyB m.ep b, T', V.ref W2)] := putN_new (fun x mx => by
      obtain ⟨c, mc, rfl⟩ := List.mem_map.mp mx
      exact newk c (List.mem_filter.mp mc).1) _ _
    obtain ⟨HF, hHF⟩ : ∃ HF, HF = upd H7 m.mD (L2.NO a.wd m.mD (L2.putN (mxs m.ep m.bl) (keyB m.ep b) T' (.ref W2))) := ⟨_, rfl⟩
    have kF : ∀ x o, H4 x = some o → x ≠ S → x ≠ m.bD → x ≠ m.mD → HF x = some o := fun x o e n1 n2 n3 => by
      rw [hHF, upd_ne n3]
      exact s7 _ _ (k6 _ _ (k5 _ _ e n1) n2)
    have kX : ∀ x o, H4 x = some o → (∀ q fs, o ≠ .ins a.c_Store q fs) → (∀ f, o ≠ .ext f) → HF x = some o := fun x o e n1 n2 => kF x o e (ne_of e st4.hS (n1 _ _)) (ne_of e st4.hb (n2 _)) (ne_of e st4.hM (n2 _))
    have FS : HF S = some (.ins a.c_Store m.dx (sflds m')) := by rw [hHF, upd_ne mS.symm]; exact hS7
    have FB : HF m.bD = some (L2.NO a.wd m.bD (bxs m.ep m.bl ++ [(keyB m.ep b, T', V.bl true)])) := by
      rw [hHF, upd_ne mb.symm, ← pb]
      exact s7 _ _ b6
    have FM : HF m.mD = some (L2.NO a.wd m.mD (mxs m.ep m.bl ++ [(keyB m.ep b, T', V.ref W2)])) := by rw [hHF, upd_same, pm]
    have W2m : W2 ≠ m.mD := (ne_of_none (k6 _ _ (k5 _ _ st4.hM mS) mb) nW2').symm
    have FW : HF W2 = some (.lst (ws.map V.int)) := by rw [hHF, upd_ne W2m]; exact d7
    have nW20 : H W2 = none := by
      cases z : H W2 with
      | none => rfl
      | some o =>
        by_cases c : StR S m W2
        · obtain ⟨o', e⟩ := st4.there c
          by_cases c1 : W2 = S
          · rw [c1] at nW2'
            rw [k6 _ _ hS5 (fun z => bS z.symm)] at nW2'
            cases nW2'
          · by_cases c2 : W2 = m.bD
            · rw [c2, b6] at nW2'
              cases nW2'
            · rw [k6 _ _ (k5 _ _ e c1) c2] at nW2'
              cases nW2'
        · have e := fr4 _ _ z c
          have c1 : W2 ≠ S := fun y => c (by rw [y]; exact .s)
          have c2 : W2 ≠ m.bD := fun y => c (by rw [y]; exact .bd)
          rw [k6 _ _ (k5 _ _ e c1) c2] at nW2'
          cases nW2'
    have fin : Stor a HF S (m.put ⟨T', PT, W2, m.made, PL, ws, true⟩) := by
      have kb : keyB m.ep b = keyB m.ep ⟨T', PT, W2, m.made, PL, ws, true⟩ := by rw [hb]; rfl
      rw [kb] at FB FM
      refine ⟨?_, kX _ _ st4.hm (fun q fs z => nomatch z) (fun f z => nomatch z), kX _ _ st4.hs (fun q fs z => nomatch z) (fun f z => nomatch z), fun d md => ?_, st4.su, ?_, ?_, st4.bm, fun c mc => ?_, st4.nd, st4.m0, fun c mc => ?_, ?_, fun c mc => ?_, ?_, fun c mc => ?_, st4.op⟩
      · rw [FS, hm']
        rfl
      · have e := psi_add m.bl ⟨T', PT, W2, m.made, PL, ws, true⟩ rfl (fun q mq => (rPL q mq).2) d
        show SpD a HF (m.sp d).1 (m.sp d).2 18 m.rows (phiM (m.bl ++ [⟨T', PT, W2, m.made, PL, ws, true⟩]) d)
        rw [← e]
        obtain ⟨dx', low, M, e1, e2, r⟩ := st4.sp d md
        refine ⟨dx', low, M, kF _ _ e1 (ne_of e1 st4.hS fun z => ?_) (ne_of e1 st4.hb (by intro z; cases z)) (ne_of e1 st4.hM (by intro z; cases z)), kX _ _ e2 (fun q fs z => nomatch z) (fun f z => nomatch z), r⟩
        injection z with _ _ z
        exact absurd (congrArg List.length z) (by show ¬ 4 = 10; decide)
      · show HF m.bD = some (L2.NO a.wd m.bD (bxs m.ep (m.bl ++ [⟨T', PT, W2, m.made, PL, ws, true⟩])))
        unfold bxs at FB ⊢
        rw [List.map_append]
        exact FB
      · show HF m.mD = some (L2.NO a.wd m.mD (mxs m.ep (m.bl ++ [⟨T', PT, W2, m.made, PL, ws, true⟩])))
        unfold mxs mx0 at FM ⊢
        rw [List.filter_append, List.map_append]
        exact FM
      · rcases List.mem_append.mp mc with mc | mc
        · have h1 := st4.blk c mc
          exact ⟨kX _ _ h1.t (fun q fs z => nomatch z) (fun f z => nomatch z), kX _ _ h1.pt (fun q fs z => nomatch z) (fun f z => nomatch z), fun e me => kX _ _ (h1.q e me) (fun q fs z => nomatch z) (fun f z => nomatch z), fun z => kX _ _ (h1.w z) (fun q fs z => nomatch z) (fun f z => nomatch z)⟩
        · rw [List.mem_singleton.mp mc]
          exact ⟨kX _ _ dT (fun q fs z => nomatch z) (fun f z => nomatch z), kX _ _ dPT4 (fun q fs z => nomatch z) (fun f z => nomatch z), fun e me => kX _ _ (hPL4 e me) (fun q fs z => nomatch z) (fun f z => nomatch z), fun _ => FW⟩
      · rcases List.mem_append.mp mc with mc | mc
        · have := st4.ser c mc
          show c.s < m.made + 1
          omega
        · rw [List.mem_singleton.mp mc]
          exact Nat.lt_succ_self _
      · show ((m.bl ++ [(⟨T', PT, W2, m.made, PL, ws, true⟩ : Blk)]).map fun c => c.s).Nodup
        rw [List.map_append, List.nodup_append]
        refine ⟨st4.un, by simp, fun x mx y my z => ?_⟩
        obtain ⟨c, mc, e⟩ := List.mem_map.mp mx
        have := st4.ser c mc
        rw [List.mem_singleton.mp my] at z
        have z2 : x = m.made := z
        omega
      · rcases List.mem_append.mp mc with mc | mc
        · exact st4.row c mc
        · rw [List.mem_singleton.mp mc]
          exact fun e me => ⟨(hns _ (by rw [← ePL]; exact List.mem_map.mpr ⟨e, me, rfl⟩)).1, (rPL e me).1⟩
      · show ((m.bl ++ [(⟨T', PT, W2, m.made, PL, ws, true⟩ : Blk)]).flatMap fun (b : Blk) => b.L.map fun q => q.2).Nodup
        rw [List.flatMap_append, List.nodup_append]
        refine ⟨st4.dis, ?_, fun x mx y my z => ?_⟩
        · rw [List.flatMap_cons, List.flatMap_nil, List.append_nil]
          have p : (PL.map fun e => e.2.1).Pairwise (· < ·) := by rw [ePL]; exact asc
          unfold List.Nodup
          rw [List.pairwise_map] at p ⊢
          exact p.imp fun h z => by rw [z] at h; exact absurd h (Int.lt_irrefl _)
        · rw [List.flatMap_cons, List.flatMap_nil, List.append_nil] at my
          obtain ⟨c, mc, mx⟩ := List.mem_flatMap.mp mx
          obtain ⟨q, mq, e⟩ := List.mem_map.mp mx
          obtain ⟨q', mq', e'⟩ := List.mem_map.mp my
          have := phi_zero.mp (rPL q' mq').2
          refine this ⟨c, mc, q, mq, ?_⟩
          rw [e, z, ← e']
      · rcases List.mem_append.mp mc with mc | mc
        · exact st4.asc c mc
        · rw [List.mem_singleton.mp mc]
          show (PL.map fun e => e.2.1).Pairwise (· < ·)
          rw [ePL]
          exact asc
    have f2 : PL.length = m.data + m.par := by
      have := congrArg List.length ePL
      rw [List.length_map] at this
      exact this.trans ln
    have f3 : ∀ e ∈ PL, e.2.1 ∉ av := fun e me => by
      exact (hns _ (by rw [← ePL]; exact List.mem_map.mpr ⟨e, me, rfl⟩)).2
    have f4 : ∀ x o, H x = some o → ¬ StR S m x → HF x = some o := fun x o ex n => kF x o (fr4 x o ex n) (fun y => n (by rw [y]; exact .s)) (fun y => n (by rw [y]; exact .bd)) fun y => n (by rw [y]; exact .md)
    have f5 : ∀ x, StR S (m.put ⟨T', PT, W2, m.made, PL, ws, true⟩) x → StR S m x ∨ H x = none := fun x r => by
      cases r with
      | s => exact .inl .s
      | ml => exact .inl .ml
      | spd => exact .inl .spd
      | bd => exact .inl .bd
      | md => exact .inl .md
      | s1 d md => exact .inl (.s1 d md)
      | s2 d md => exact .inl (.s2 d md)
      | t c mc =>
        rcases List.mem_append.mp mc with mc | mc
        · exact .inl (.t c mc)
        · rw [List.mem_singleton.mp mc]; exact .inr nT0
      | pt c mc =>
        rcases List.mem_append.mp mc with mc | mc
        · exact .inl (.pt c mc)
        · rw [List.mem_singleton.mp mc]; exact .inr nPT
      | w c mc z =>
        rcases List.mem_append.mp mc with mc | mc
        · exact .inl (.w c mc z)
        · rw [List.mem_singleton.mp mc]; exact .inr nW20
      | q c e mc me =>
        rcases List.mem_append.mp mc with mc | mc
        · exact .inl (.q c e mc me)
        · rw [List.mem_singleton.mp mc] at me
          exact .inr (hPL e me).2
    subst hHF
    exact ⟨_, rfl, kQ ⟨T', PT, W2, m.made, PL, ws, true⟩ _ fin rfl rfl rfl f2 f3 f4 f5⟩
theorem sc_piece_at : FnScope ["known", "places", "number", "factors", "column", "factor", "word"] ["known", "places", "number"] (defScope s_piece_at) := ⟨rfl, rfl, rfl, by decide +kernel, rfl, by decide +kernel, by decide +kernel⟩
theorem ok_piece_at (T : Txt w K mg a) : FnOk P w K mg base CX0 4 a.f_piece_at a.d_piece_at ["known", "places", "number"] (sp_piece_at K a) := by
  refine T.F_piece_at.ok sc_piece_at (fun vs H Q E h => ?len) (fun cdv A outer s H vs Q E hr h => ?body)
  case len =>
    exact sp_piece_at_len h
  case body =>
    obtain ⟨R, P, F, ws, x, n, rfl, hR, hP, hap, hlen, hne, h8, hn, hrow, k⟩ := h
    refine ⟨_, (pss_cons (ps_set (i := 3) sc_piece_at.nd rfl (Or.inr rfl) (pe_call (ok_weights T) (hr.mono (by decide)) rfl T.g_weights T.F_weights.kp T.d_weights .nil pass0 (pa_cons (pv 1) (pa_cons (pv 2) pa_nil))))
      (pss_one (ps_ret (pe_lc (own := [("column", 4)]) (g := (gName 4)) (by rfl) sc_piece_at.nd (pi_zipS (by rfl) T.n_zip (pv 0)) (blkOk_by (own := [("column", 4)]) (N := ["known", "places", "number", "factors", "column", "factor", "word"]) (sc := defScope s_piece_at) (by decide +kernel))
      (fun _ _ _ _ _ => (pg_name (i := 4) sc_piece_at.nd rfl (Or.inl rfl))) (fun _ _ _ _ _ => pts_nil) (fun _ _ _ _ _ => (pe_op op_mod (pe_callB (by exact cr_sum rfl : CallR _ _ (rSum K)) (by rfl) T.n_sum (by decide +kernel) (pa_cons (pe_lc (own := [("factor", 5), ("word", 6)]) (g := (gTup K 2 (gCons (gName 5) (gCons (gName 6) gNil)))) (by rfl) sc_piece_at.nd (by exact pi_zipM (by rfl) T.n_zip (pa_cons (pv 3) (pa_cons (pv 4) pa_nil)) : PI _ _ _ (iZipM K _)) (blkOk_by (own := [("factor", 5), ("word", 6)]) (N := ["known", "places", "number", "factors", "column", "factor", "word"]) (by kernel_rfl))
      (fun _ _ _ _ _ => (pg_tup rfl (pgs_cons (pg_name (i := 5) sc_piece_at.nd rfl (Or.inl rfl)) (pgs_cons (pg_name (i := 6) sc_piece_at.nd rfl (Or.inl rfl)) pgs_nil)))) (fun _ _ _ _ _ => pts_nil) (fun _ _ _ _ _ => (pe_op op_mul (pv 5) (pv 6)))) pa_nil)) (pe_const T.g_PRIME))))))), ?_⟩
    refine ⟨_, rfl, _, rfl, P, ws, x, rfl, hP, hap, by omega, fun D1 H1 s1 n1 h1 => ?_⟩
    have R1 := hR.same s1
    have wl : (weightsM ws x).length = F.length := by rw [weightsM_length, hlen]
    have hr : (F.map (·.1)).map V.ref = refs F := by simp [refs]
    refine ⟨_, rfl, R, F.map (·.1), rfl, by rw [hr]; exact R1.1, by simpa using hne, by simpa using h8, fun l hl => ?_, ?_⟩
    · obtain ⟨e, me, rfl⟩ := List.mem_map.1 hl
      exact ⟨_, R1.2 e me⟩
    refine fun D new => lc_it (walk_cols hne hrow) (fun i H' => Same H1 H' ∧ H' D = some (.lst (((pieceM ws (snds F) x n).take i).map V.int))) ⟨Same.new new, upd_same⟩ (fun i H' _ q e m => q.1.seq (R1.2 e m)) ?_ ?_
    · rintro i y Ha Hb hi ⟨s2, hD⟩ ⟨T, rfl, hT, rfl⟩
      refine ⟨rfl, ?_⟩
      have s3 : Same Ha (upd Ha T (.tup (((snds F).map fun r => r.getD i 0).map V.int))) := Same.new hT
      have d1 := s3 _ _ (s2 _ _ h1)
      have cl : ((snds F).map fun r => r.getD i 0).length = F.length := by simp [snds]
      refine ⟨_, rfl, _, rfl, D1, T, _, _, rfl, SqL.of d1, SqT.of upd_same, fun G nG => lc_it (walk_zipM (n := F.length) (by rw [List.length_map]; exact wl) (by rw [List.length_map]; exact cl)) (fun j H' => Same (upd Ha T (.tup (((snds F).map fun r => r.getD i 0).map V.int))) H' ∧ H' G = some (.lst (((List.range j).map fun j => (weightsM ws x).getD j 0 * ((snds F).map fun r => r.getD i 0).getD j 0).map V.int)))
        ⟨Same.new nG, upd_same⟩ (fun i H' _ q => ⟨q.1.seq (SqL.of d1), q.1.tup (SqT.of upd_same)⟩) ?_ ?_⟩
      · rintro j y Hc Hd hj ⟨s4, hG⟩ ⟨t, u, v, rfl, ht, rfl, hu, hv⟩
        obtain ⟨c, hc, rfl⟩ := int_item hu
        obtain ⟨d, hd, rfl⟩ := int_item hv
        have s5 : Same Hc (upd Hc t (.tup [V.int c, V.int d])) := Same.new ht
        refine ⟨t, _, rfl, SqT.of upd_same, rfl, _, _, rfl, _, _, rfl, rfl, ?_⟩
        have wc : 0 ≤ c ∧ c < 65521 := by
          have e1 := weightsM_get (x := x) (ws := ws) (i := j) (by omega)
          rw [hc] at e1
          rw [Option.some.inj e1]
          exact wgt_word _ _ _
        refine ⟨rfl, _, rfl, _, rfl, _, _, rfl, rfl, .inl ⟨by omega, by omega⟩, _, s5 _ _ hG, small _ (by simp; omega), fun b o e => ?_, ?_⟩
        · rw [upd_ne (ne_of_none e nG)]
          exact s5 _ _ (s4 b o e)
        · rw [upd_same, List.range_succ, List.map_append, List.map_append]
          have e1 : (weightsM ws x).getD j 0 = c := getD_item hc
          have e2 : ((snds F).map fun r => r.getD i 0).getD j 0 = d := getD_item hd
          show some (HO.lst (_ ++ [V.int (c * d)])) = some (HO.lst (_ ++ [V.int ((weightsM ws x).getD j 0 * ((snds F).map fun r => r.getD i 0).getD j 0)]))
          rw [e1, e2]
      · rintro H3 ⟨s4, hG⟩
        refine ⟨G, _, rfl, SqL.of hG, _, _, rfl, rfl, (by show (0 : Int) < 65521; decide), ?_⟩
        have e : ((List.range F.length).map fun j => (weightsM ws x).getD j 0 * ((snds F).map fun r => r.getD i 0).getD j 0).sum % 65521 = valM ws ((snds F).map fun r => r.getD i 0) x := by
          unfold valM dotR
          rw [wl]
        have g : (pieceM ws (snds F) x n)[i]? = some (valM ws ((snds F).map fun r => r.getD i 0) x) := by simp [pieceM, hi]
        refine ⟨_, s4 _ _ (s3 _ _ hD), small _ (by simp [pieceM]; omega), fun b o e' => ?_, ?_⟩
        · rw [upd_ne (ne_of_none e' new)]
          exact s4 _ _ (s3 _ _ (s2 b o e'))
        · rw [upd_same, take_snoc g, List.map_append]
          show some (HO.lst (_ ++ [V.int (((List.range F.length).map fun j => (weightsM ws x).getD j 0 * ((snds F).map fun r => r.getD i 0).getD j 0).sum % 65521)])) = _
          rw [e]
          rfl
    · rintro H' ⟨s2, hD⟩
      have e : (pieceM ws (snds F) x n).take n = pieceM ws (snds F) x n := List.take_of_length_le (by simp [pieceM])
      rw [e] at hD
      exact k D H' (s1.trans s2) (Classical.byContradiction fun q => by cases q' : H D with | none => exact q q' | some o => exact absurd (s1 _ _ q') (by rw [new]; exact fun z => nomatch z)) hD
theorem sc_good_piece : FnScope ["images", "place", "stamp", "size", "disk", "row", "found"] ["images", "place", "stamp", "size"] (defScope s_good_piece) := ⟨rfl, rfl, rfl, by decide +kernel, rfl, by decide +kernel, by decide +kernel⟩
theorem ok_good_piece (T : Txt w K mg a) : FnOk P w K mg base CX0 4 a.f_good_piece a.d_good_piece ["images", "place", "stamp", "size"] (sp_good_piece K a) := by
  refine T.F_good_piece.ok sc_good_piece (fun vs H Q E h => ?len) (fun cdv A outer s H vs Q E hr h => ?body)
  case len =>
    exact sp_good_piece_len h
  case body =>
    obtain ⟨X, I, Pa, Sa, st, d, r, e, s, n, o, rfl, hI, ls, lr, hP, hS, hg, k0, k1⟩ := h
    refine ⟨_, (pss_cons (ps_asg (pv 1) (pg_tup rfl (pgs_cons (pg_name (i := 4) sc_good_piece.nd rfl (Or.inl rfl)) (pgs_cons (pg_name (i := 5) sc_good_piece.nd rfl (Or.inl rfl)) pgs_nil))))
      (pss_cons (ps_set (i := 6) sc_good_piece.nd rfl (Or.inl rfl) (pe_call (ok_unseal T) (hr.mono (by decide)) rfl T.g_unseal T.F_unseal.kp T.d_unseal .nil pass0 (pa_cons (pe_call (ok_sector_at T) (hr.mono (by decide)) rfl T.g_sector_at T.F_sector_at.kp T.d_sector_at .nil pass0 (pa_cons (pv 0) (pa_cons (pv 4) (pa_cons (pv 5) pa_nil)))) (pa_cons (pe_const T.g_PIECE) (pa_cons (pv 4) (pa_cons (pv 5) pa_nil))))))
      (pss_cons (ps_if (PW.pt (pw_or (pt_cmpR op_isN (pv 6) pe_non (nomark _)) (pw_or (pt_cmpR (op_neD hr.units) (pe_ix ix_tup (pv 6) pe_int (fun _ _ => rfl)) (pv 2) (nomark _)) (pw_or1 (pt_cmpR op_ne (pe_callB call_len_seq (by rfl) T.n_len PySem.boot_len (pa_cons (pe_ix ix_tup (pv 6) pe_int (fun _ _ => rfl)) pa_nil)) (pv 3) (nomark _))))))
      (pss_one (ps_ret pe_non))
      pss_nil)
      (pss_one (ps_ret (pe_ix ix_tup (pv 6) pe_int (fun _ _ => rfl))))))), ?_⟩
    have bad : (∀ sc, secS st d r = some sc → ¬ (Good sc.2 3 (d : Int) (r : Int) ∧ stampM sc.2 = (e, s) ∧ (payM sc.2).length = n)) → ∀ H', Same H H' → Q .non H' := fun hn => k0 (by
      cases o with
      | none => rfl
      | some ws =>
        obtain ⟨sc, z, g1, g2, g3, _⟩ := hg
        exact absurd ⟨g1, g2, g3⟩ (hn sc z))
    refine ⟨_, rfl, Pa, _, rfl, hP, rfl, _, _, rfl, _, _, rfl, rfl, ?_⟩
    refine ⟨_, rfl, _, rfl, _, rfl, X, I, st, d, r, rfl, hI, ls, lr, _, rfl, _, rfl, secV st d r, 3, d, r, rfl, ?_⟩
    rcases hss : secS st d r with _ | sc
    · refine .inl ⟨by unfold secV; rw [hss]; rfl, fun H1 s1 => ⟨_, rfl, rfl, _, rfl, ?_⟩⟩
      rw [decide_eq_true rfl]
      exact iteT (iteT (bad (fun sc z => by rw [hss] at z; cases z) _ s1))
    obtain ⟨dk, e1, e2⟩ := sec_some hss
    have hR := hI.hR d dk _ sc e1 e2
    refine .inr ⟨sc.1, sc.2, by unfold secV; rw [hss]; rfl, SqL.of hR.1, by omega, fun ng H1 s1 => ⟨_, rfl, rfl, _, rfl, ?_⟩, fun g T' S' D' H1 s1 nT nD dT dS dD => ⟨_, rfl, rfl, _, rfl, ?_⟩⟩
    · rw [decide_eq_true rfl]
      exact iteT (iteT (bad (fun sc' z h => by rw [hss] at z; cases z; exact ng h.1) _ s1))
    rw [decide_eq_false (show ¬ V.ref T' = V.non from fun z => nomatch z)]
    have z1 : SqT K H1 S' (([sc.2.getD 3 0, sc.2.getD 4 0 * 65521 + sc.2.getD 5 0] : List Int).map V.int) := SqT.of dS
    have z2 : SqT K H1 Sa (([e, s] : List Int).map V.int) := s1.tup hS
    refine iteF ⟨_, rfl, T', _, _, _, rfl, rfl, SqT.of dT, at_of (j := 0) rfl rfl, _, rfl, _, _, dp_tints z1, dp_tints z2, shaped_tints _, shaped_tints _, _, rfl, ?_⟩
    rw [eqv_tints]
    by_cases c : stampM sc.2 = (e, s)
    · have c' : sc.2.getD 3 0 = e ∧ sc.2.getD 4 0 * 65521 + sc.2.getD 5 0 = s := ⟨congrArg Prod.fst c, congrArg Prod.snd c⟩
      rw [decide_eq_true (by rw [c'.1, c'.2])]
      refine iteF ⟨_, rfl, T', _, _, _, rfl, rfl, SqT.of dT, at_of (j := 1) rfl rfl, D', _, rfl, .inl (SqL.of dD), _, rfl, rfl, _, rfl, ?_⟩
      rw [List.length_map]
      by_cases c2 : (payM sc.2).length = n
      · rw [decide_eq_true (show V.int ((payM sc.2).length : Nat) = V.int (n : Int) by rw [c2])]
        refine iteF ⟨_, rfl, T', _, _, _, rfl, rfl, SqT.of dT, at_of (j := 1) rfl rfl, ?_⟩
        cases o with
        | none => exact absurd ⟨g, c, c2⟩ (hg sc hss)
        | some ws =>
          obtain ⟨sc', y, _, _, _, y2⟩ := hg
          rw [hss] at y
          cases y
          rw [y2] at dD
          exact k1 ws rfl D' H1 s1 nD dD
      · rw [decide_eq_false (show ¬ V.int ((payM sc.2).length : Nat) = V.int (n : Int) from fun z => c2 (by have := V.int.inj z; omega))]
        exact iteT (bad (fun sc' z h => by rw [hss] at z; cases z; exact c2 h.2.2) _ s1)
    · rw [decide_eq_false (show ¬ [sc.2.getD 3 0, sc.2.getD 4 0 * 65521 + sc.2.getD 5 0] = [e, s] from fun z => c (by
        injection z with w1 w2
        injection w2 with w2 _
        show (sc.2.getD 3 0, sc.2.getD 4 0 * 65521 + sc.2.getD 5 0) = _
        rw [w1, w2]))]
      exact iteT (iteT (bad (fun sc' z h => by rw [hss] at z; cases z; exact c h.2.1) _ s1))
theorem sc_encode : FnScope ["pieces", "parity", "data", "places", "number"] ["pieces", "parity"] (defScope s_encode) := ⟨rfl, rfl, rfl, by decide +kernel, rfl, by decide +kernel, by decide +kernel⟩
theorem ok_encode (T : Txt w K mg a) : FnOk P w K mg base (L2.CX P w) 5 a.f_encode a.d_encode ["pieces", "parity"] (sp_encode K a) := by
  refine T.F_encode.okX sc_encode (fun vs H Q E h => ?len) (fun cdv A outer s H vs Q E hr h => ?body)
  case len =>
    exact sp_encode_len h
  case body =>
    obtain ⟨R, F, par, rfl, hR, h20, h500, p0, p5, kE, kQ⟩ := h
    refine ⟨_, (pss_cons (ps_set (i := 2) sc_encode.nd rfl (Or.inl rfl) (pe_callB call_len_seq (by rfl) T.n_len PySem.boot_len (pa_cons (pv 0) pa_nil)))
      (pss_cons (ps_if (pt_cmpR op_eq (pv 2) pe_int (nomark _))
      (pss_one (ps_raise rfl (takes_of rfl rfl rfl rfl) (pmk_own PySem.F.excBase_ValueError T.x_InvalidArgument T.g_InvalidArgument T.k_InvalidArgument (raises_own T.b_InvalidArgument T.t_InvalidArgument) (by exact rfl))))
      pss_nil)
      (pss_cons (ps_if (pt_cmpR op_lt (pv 1) pe_int (nomark _))
      (pss_one (ps_raise rfl (takes_of rfl rfl rfl rfl) (pmk_own PySem.F.excBase_ValueError T.x_InvalidArgument T.g_InvalidArgument T.k_InvalidArgument (raises_own T.b_InvalidArgument T.t_InvalidArgument) (by exact rfl))))
      pss_nil)
      (pss_cons (ps_if (pt_cmpR op_gt (pe_op op_add (pv 2) (pv 1)) (pe_const T.g_MAX_PIECES) (nomark _))
      (pss_one (ps_raise rfl (takes_of rfl rfl rfl rfl) (pmk_own PySem.F.excBase_ValueError T.x_InvalidArgument T.g_InvalidArgument T.k_InvalidArgument (raises_own T.b_InvalidArgument T.t_InvalidArgument) (by exact rfl))))
      pss_nil)
      (pss_cons (ps_expr (pe_call ((ok_check_lengths T)).ofN (hr.mono (by decide)) rfl T.g_check_lengths T.F_check_lengths.kp T.d_check_lengths .nil (passes_call (takes_of rfl rfl rfl rfl) (fun _ _ _ _ z => z)) (pa_cons (pv 0) pa_nil)))
      (pss_cons (ps_set (i := 3) sc_encode.nd rfl (Or.inr rfl) (pe_listRg (by rfl) (by rfl) T.n_list (prg_1 (by rfl) T.n_range (pv 2))))
      (pss_one (ps_ret (pe_lc (own := [("number", 4)]) (g := (gName 4)) (by rfl) sc_encode.nd (pi_range2 (by rfl) T.n_range (pa_cons (pv 2) (pa_cons (pe_op op_add (pv 2) (pv 1)) pa_nil))) (blkOk_by (own := [("number", 4)]) (N := ["pieces", "parity", "data", "places", "number"]) (sc := defScope s_encode) (by decide +kernel))
      (fun _ _ _ _ _ => (pg_name (i := 4) sc_encode.nd rfl (Or.inl rfl))) (fun _ _ _ _ _ => pts_nil) (fun _ _ _ _ _ => (pe_call (ok_piece_at T) (hr.mono (by decide)) rfl T.g_piece_at T.F_piece_at.kp T.d_piece_at .nil pass0 (pa_cons (pv 0) (pa_cons (pv 3) (pa_cons (pv 4) pa_nil)))))))))))))), ?_⟩
    refine ⟨_, rfl, R, _, rfl, .inl hR.1, ?_⟩
    rw [refs_len]
    refine ⟨_, rfl, rfl, _, rfl, ?_⟩
    refine ite2 (fun q => kE (.inl (by have := V.int.inj (of_decide_eq_true q); exact List.length_eq_zero_iff.mp (by rw [snds_len]; omega))) _ (Same.refl _)) (fun q0 => ?_)
    have f0 : 0 < F.length := Nat.pos_of_ne_zero fun z => q0 (decide_eq_true (by rw [z]; rfl))
    refine ⟨_, rfl, _, _, rfl, rfl, _, rfl, ?_⟩
    refine ite2 (fun q => kE (.inr (.inl (of_decide_eq_true q))) _ (Same.refl _)) (fun q1 => ?_)
    have p1 : 0 ≤ par := Int.not_lt.mp fun z => q1 (decide_eq_true z)
    refine ⟨_, rfl, _, rfl, _, _, rfl, rfl, _, _, rfl, rfl, _, rfl, ?_⟩
    refine ite2 (fun q => kE (.inr (.inr (.inl (by rw [snds_len]; have := of_decide_eq_true q; omega)))) _ (Same.refl _)) (fun q2 => ?_)
    have p2 : (F.length : Int) + par ≤ 8 := Int.not_lt.mp fun z => q2 (decide_eq_true z)
    refine ⟨_, rfl, R, F, rfl, hR, fun b => kE (.inr (.inr (.inr b))), fun nb H1 s1 => ?_⟩
    have ne : F ≠ [] := fun z => by rw [z] at f0; exact absurd f0 (by decide)
    have nbad : ¬ BadEnc (snds F) par := fun b => by
      rcases b with b | b | b | b
      · exact ne (List.map_eq_nil_iff.mp b)
      · omega
      · rw [snds_len] at b; omega
      · exact nb b
    have rows : ∀ e ∈ F, e.2.length = ((snds F).getD 0 []).length := fun e m => Classical.byContradiction fun z => nb ⟨e.2, List.mem_map.mpr ⟨e, m, rfl⟩, z⟩
    obtain ⟨pn, rfl⟩ : ∃ n : Nat, par = (n : Int) := ⟨par.toNat, by omega⟩
    refine ⟨_, rfl, _, rfl, RgOk.of_le (by omega) (by omega) (by omega) (by omega), fun P nP => ?_⟩
    have eP : rgV 0 (F.length : Int) = (upto F.length).map V.int := by simp [rgV, upto]
    rw [eP]
    have sP := Same.new (o := .lst ((upto F.length).map V.int)) nP
    have s2 := s1.trans sP
    refine ⟨_, rfl, _, rfl, _, rfl, _, _, rfl, rfl, _, _, rfl, ⟨by omega, by omega, by omega, by omega⟩, fun D nD => ?_⟩
    have en : ((F.length : Int) + (pn : Int) - (F.length : Int)).toNat = pn := by omega
    rw [en]
    have RP := hR.same s2
    refine lc_it walk_range (fun i H' => ∃ G : List (Addr × List Int), Same (upd H1 P (.lst ((upto F.length).map V.int))) H' ∧ LA H' D G ∧ snds G = (List.range i).map (fun k => pieceM (upto F.length) (snds F) ((F.length + k : Nat) : Int) ((snds F).getD 0 []).length))
      ⟨[], Same.new nD, ⟨upd_same, fun _ m => nomatch m⟩, rfl⟩ (fun _ _ _ _ => True.intro) ?_ ?_
    · rintro i y H3 H4 hi ⟨G, s3, LG, eG⟩ ⟨rfl, rfl⟩
      refine ⟨rfl, _, rfl, _, rfl, _, rfl, R, P, F, upto F.length, ((F.length + i : Nat) : Int), ((snds F).getD 0 []).length, rfl, RP.same s3, s3 _ _ upd_same, upto_apart (by omega), upto_len _, ne, by omega, h500, rows, fun D2 H5 s4 n2 h2 => ?_⟩
      have L5 := LG.same s4
      have nD2 : D2 ≠ D := (ne_of_none LG.1 n2).symm
      have gl : G.length = i := by rw [← snds_len, eG]; simp
      refine ⟨_, L5.1, small _ (by rw [refs_len]; omega), ?_⟩
      have e : refs G ++ [V.ref D2] = refs (G ++ [(D2, pieceM (upto F.length) (snds F) ((F.length + i : Nat) : Int) ((snds F).getD 0 []).length)]) := by unfold refs; rw [List.map_append]; rfl
      rw [e]
      refine ⟨_, fun b o e' => ?_, LA.put fun e' me => ?_, ?_⟩
      · rw [upd_ne (ne_of_none e' nD)]
        exact s4 _ _ (s3 b o e')
      · rcases List.mem_append.mp me with me | me
        · exact L5.2 e' me
        · have : e' = (D2, pieceM (upto F.length) (snds F) ((F.length + i : Nat) : Int) ((snds F).getD 0 []).length) := by simpa using me
          subst this
          exact ⟨h2, nD2⟩
      · rw [snds, List.map_append, List.range_succ, List.map_append]
        show snds G ++ _ = _
        rw [eG]
        rfl
    · rintro H3 ⟨G, s3, LG, eG⟩
      refine kQ nbad D G H3 (s2.trans s3) ?_ LG (by rw [Int.toNat_natCast]; exact eG)
      exact Classical.byContradiction fun q => by
        cases q' : H D with
        | none => exact q q'
        | some o => exact absurd (s2 _ _ q') (by rw [nD]; exact fun z => nomatch z)
theorem sc_recover : FnScope ["pieces", "data", "places", "known", "whole", "number", "piece", "place"] ["pieces", "data"] (defScope s_recover) := ⟨rfl, rfl, rfl, by decide +kernel, rfl, by decide +kernel, by decide +kernel⟩
theorem ok_recover (T : Txt w K mg a) : FnOk P w K mg base (L2N.CX P w) 5 a.f_recover a.d_recover ["pieces", "data"] (sp_recover K a) := by
  refine T.F_recover.okN sc_recover (fun vs H Q E h => ?len) (fun cdv A outer s H vs Q E hr h => ?body)
  case len =>
    exact sp_recover_len h
  case body =>
    obtain ⟨R, F, data, rfl, hR, h50, h500, kB, kF, kQ⟩ := h
    have hml : (refsO F).length = F.length := List.length_map _
    refine ⟨_, (pss_cons (ps_set (i := 2) sc_recover.nd rfl (Or.inl rfl) (pe_slice sl_list (pe_call (ok_present_numbers T) (hr.mono (by decide)) rfl T.g_present_numbers T.F_present_numbers.kp T.d_present_numbers .nil (L2N.passes_call (L2N.takes_of rfl rfl rfl rfl) (fun _ _ _ _ z => z)) (pa_cons (pv 0) (pa_cons (pv 1) pa_nil))) po_none (po_some (pv 1))))
      (pss_cons (ps_setLc (i := 3) (own := [("place", 7)]) (g := (gName 7)) (by rfl) sc_recover.nd rfl rfl (sw_true rfl rfl rfl (by decide +kernel)) (pi_list (pv 2)) (blkOk_by (own := [("place", 7)]) (N := ["pieces", "data", "places", "known", "whole", "number", "piece", "place"]) (sc := defScope s_recover) (by decide +kernel))
      (fun _ _ _ _ _ => (pg_name (i := 7) sc_recover.nd rfl (Or.inl rfl))) (fun _ _ _ _ _ => pts_nil) (fun _ _ _ _ _ => (pe_ix (by exact ix_list : IxR _ (rIxL K)) (pv 0) (pv 7) (fun _ _ => rfl))))
      (pss_cons (ps_set (i := 4) sc_recover.nd rfl (Or.inl rfl) (pe_lst pa_nil))
      (pss_cons (ps_for (passes_of rfl) rfl (pi_enum (by rfl) T.n_enumerate (pa_cons (pv 0) pa_nil)) (pg_tup rfl (pgs_cons (pg_name (i := 5) sc_recover.nd rfl (Or.inl rfl)) (pgs_cons (pg_name (i := 6) sc_recover.nd rfl (Or.inl rfl)) pgs_nil)))
      (pss_one (ps_expr (pe_bm PySem.F.plainAttrs_list PySem.F.slot_list_append PySem.F.type_list_append mt_append (pv 4) (pa_cons (pe_ifExp (pt_cmpR op_isN (pv 6) pe_non (nomark _)) (pe_call (ok_piece_at T) (hr.mono (by decide)) rfl T.g_piece_at T.F_piece_at.kp T.d_piece_at .nil pass0 (pa_cons (pv 3) (pa_cons (pv 2) (pa_cons (pv 5) pa_nil)))) (pe_callTy call_list_of (by rfl) T.n_list (by decide +kernel) (pa_cons (pv 6) pa_nil))) pa_nil)))))
      (pss_one (ps_ret (pv 4))))))), ?_⟩
    -- places = present_numbers(pieces, data)[:data]
    refine ⟨_, rfl, _, rfl, R, F, data, rfl, hR, h50, kB, kF, fun nB nF D1 H1 s1 n1 d1 => ?_⟩
    obtain ⟨a1, a2, a3, a4⟩ : F.length ≤ 8 ∧ 1 ≤ data ∧ data ≤ F.length ∧ ¬ BadLen (snds (rowsP F)) := by
      refine ⟨Classical.byContradiction fun q => nB (.inl (by omega)), Classical.byContradiction fun q => nB (.inr (.inl (by omega))), Classical.byContradiction fun q => nB (.inr (.inr (.inl (by omega)))), fun q => nB (.inr (.inr (.inr q)))⟩
    obtain ⟨d, rfl⟩ : ∃ n : Nat, data = (n : Int) := ⟨data.toNat, by omega⟩
    have dp : d ≤ (presM F).length := Classical.byContradiction fun q => nF (by unfold Few; omega)
    refine ⟨_, rfl, _, rfl, D1, _, rfl, SqL.of d1, fun Pl nPl => ?_⟩
    have ec : cutV ((intsN (presM F)).map V.int) none (some (d : Int)) = (intsN ((presM F).take d)).map V.int := by
      rw [cut_take]
      unfold intsN
      rw [List.map_take, List.map_take]
    rw [ec]
    have s2 := s1.trans (Same.new (o := .lst ((intsN ((presM F).take d)).map V.int)) nPl)
    have dPl : upd H1 Pl (.lst ((intsN ((presM F).take d)).map V.int)) Pl = some (.lst ((intsN ((presM F).take d)).map V.int)) := upd_same
    generalize upd H1 Pl (.lst ((intsN ((presM F).take d)).map V.int)) = H2 at s2 dPl ⊢
    have tl : ((presM F).take d).length = d := by rw [List.length_take]; omega
    have il : (intsN ((presM F).take d)).length = d := by unfold intsN; rw [List.length_map, tl]
    have hR2 := hR.same s2
    -- known = [pieces[place] for place in places]
    refine ⟨_, rfl, Pl, rfl, ⟨_, SqL.of dPl⟩, fun Kn nK => lc_list (K := K) (a := Pl) (xs := (intsN ((presM F).take d)).map V.int) (fun i H' => Same H2 H' ∧ H' Kn = some (.lst (refs ((((presM F).take d).map (rowAt F)).take i)))) ⟨Same.new nK, upd_same⟩ (fun i H' _ q => q.1.seq (SqL.of dPl)) ?_ ?_⟩
    · rintro i y H3 hi ⟨s3, hC⟩
      obtain ⟨c, hc, rfl⟩ := int_item hi
      obtain ⟨m, hm, rfl⟩ : ∃ m : Nat, ((presM F).take d)[i]? = some m ∧ c = (m : Int) := by
        unfold intsN at hc
        rw [List.getElem?_map] at hc
        cases q : ((presM F).take d)[i]? with
        | none => rw [q] at hc; cases hc
        | some m => rw [q] at hc; exact ⟨m, rfl, (Option.some.inj hc).symm⟩
      have hg := (presM_lt (List.mem_of_mem_take (List.mem_of_getElem? hm))).2
      have g : (((presM F).take d).map (rowAt F))[i]? = some (rowAt F m) := by rw [List.getElem?_map, hm]; rfl
      refine ⟨rfl, _, rfl, _, rfl, R, _, _, _, rfl, rfl, s3.seq hR2.1, at_of (j := m) rfl (refsO_get hg), _, hC, small _ (by simp [refs]; omega), same_put s3 nK, ?_⟩
      rw [upd_same, take_snoc g]
      unfold refs
      rw [List.map_append]
      rfl
    rintro H3 ⟨s3, hC⟩
    rw [List.take_of_length_le (by simp [intsN])] at hC
    have s4 := s2.trans s3
    have hR3 := hR2.same s3
    have dP3 := s3 _ _ dPl
    have len : ∀ i ∈ presM F, (rowAt F i).2.length = ((snds (rowsP F)).getD 0 []).length := fun i m => Classical.byContradiction fun q => a4 ⟨_, List.mem_map.mpr ⟨_, List.mem_map.mpr ⟨i, m, rfl⟩, rfl⟩, q⟩
    have RLC : RL K H3 Kn (((presM F).take d).map (rowAt F)) := ⟨SqL.of hC, fun e me => by
      obtain ⟨i, mi, rfl⟩ := List.mem_map.mp me
      exact hR3.rows i (List.mem_of_mem_take mi)⟩
    generalize hn : ((snds (rowsP F)).getD 0 []).length = n at h500 kQ len ⊢
    -- whole = []
    refine ⟨Nat.zero_le _, fun Wh nWh => ?_⟩
    have nWh0 : H Wh = none := same_none s4 nWh
    -- for number, piece in enumerate(pieces)
    refine ⟨_, rfl, R, _, rfl, (Same.new nWh).seq hR3.1, for_it walk_enum (fun i σ H' => ∃ (v5 v6 : Option V) (G : List (Addr × List Int)), σ = [some (.ref R), some (.int (d : Int)), some (.ref Pl), some (.ref Kn), some (.ref Wh), v5, v6, none] ∧ Same H3 H' ∧ LA H' Wh G ∧ (G.map (·.1)).Nodup ∧ (∀ e ∈ G, H e.1 = none) ∧ snds G = (recM F d n).take i)
      ⟨none, none, [], rfl, Same.new nWh, ⟨upd_same, fun _ m => nomatch m⟩, List.nodup_nil, fun _ m => (nomatch m), rfl⟩ (fun i σ H' _ ⟨_, _, _, _, s', _⟩ => s'.seq hR3.1) ?_ ?_⟩
    · rintro i y σ H4 H5 hi ⟨v5, v6, G, rfl, s5, LG, nd, hG, eG⟩ ⟨t, u, v, rfl, ht, rfl, hu, hv⟩
      cases hu
      obtain ⟨o, ho, rfl⟩ := refsO_item hv
      have st := Same.new (o := .tup [V.int (i : Nat), refO o]) ht
      have LG1 := LG.same st
      have s6 := s5.trans st
      have dt : upd H4 t (.tup [V.int (i : Nat), refO o]) t = some (.tup [V.int (i : Nat), refO o]) := upd_same
      generalize upd H4 t (.tup [V.int (i : Nat), refO o]) = H6 at LG1 s6 dt ⊢
      have li : i < F.length := item_lt ho
      have lG : G.length = i := by rw [← snds_len, eG, List.length_take]; simp [recM]; omega
      have put : ∀ (D : Addr) (row : List Int) (H7 : Hp), Same H6 H7 → H6 D = none → H7 D = some (.lst (row.map V.int)) → (recM F d n)[i]? = some row →
          ∃ (v5 v6 : Option V) (G' : List (Addr × List Int)), [some (V.ref R), some (.int (d : Int)), some (.ref Pl), some (.ref Kn), some (.ref Wh), some (.int (i : Nat)), some (refO o), none] = [some (.ref R), some (.int (d : Int)), some (.ref Pl), some (.ref Kn), some (.ref Wh), v5, v6, none] ∧ Same H3 (upd H7 Wh (.lst (refs G ++ [V.ref D]))) ∧ LA (upd H7 Wh (.lst (refs G ++ [V.ref D]))) Wh G' ∧ (G'.map (·.1)).Nodup ∧ (∀ e ∈ G', H e.1 = none) ∧ snds G' = (recM F d n).take (i + 1) := by
        intro D row H7 s7 nD dD hrow
        have LG7 := LG1.same s7
        have nDW : D ≠ Wh := (ne_of_none LG1.1 nD).symm
        have er : refs G ++ [V.ref D] = refs (G ++ [(D, row)]) := by unfold refs; rw [List.map_append]; rfl
        rw [er]
        refine ⟨_, _, G ++ [(D, row)], rfl, same_put (s6.trans s7) nWh, LA.put fun e' me => ?_, ?_, fun e' me => ?_, ?_⟩
        · rcases List.mem_append.mp me with me | me
          · exact LG7.2 e' me
          · have : e' = (D, row) := by simpa using me
            subst this
            exact ⟨dD, nDW⟩
        · rw [List.map_append, List.nodup_append]
          refine ⟨nd, by simp, fun a ha b hb => ?_⟩
          obtain ⟨e, me, rfl⟩ := List.mem_map.1 ha
          have : b = D := by simpa using hb
          rw [this]
          exact ne_of_none (LG1.2 e me).1 nD
        · rcases List.mem_append.mp me with me | me
          · exact hG e' me
          · have : e' = (D, row) := by simpa using me
            subst this
            exact same_none (s4.trans s6) nD
        · rw [take_snoc hrow, ← eG]
          show (G ++ [(D, row)]).map (·.2) = _
          rw [List.map_append]
          rfl
      have gi := getD_item (d := none) ho
      refine ⟨t, _, rfl, SqT.of dt, rfl, _, _, rfl, _, _, rfl, rfl, ?_⟩
      refine ⟨_, rfl, .inl ⟨rfl, _, SqL.of LG1.1⟩, ?_⟩
      cases o with
      | none =>
        refine ⟨_, rfl, rfl, _, rfl, iteT ?_⟩
        have pw := (presM_pair F).sublist (List.take_sublist d _)
        refine ⟨_, rfl, _, rfl, _, rfl, Kn, Pl, _, intsN ((presM F).take d), ((i : Nat) : Int), n, rfl, RLC.same s6, s6 _ _ dP3, intsN_apart pw (fun j m => by have := (presM_lt (List.mem_of_mem_take m)).1; omega), by rw [il, List.length_map, tl], ?_, by rw [List.length_map, tl]; omega, h500, fun e me => ?_, fun D H7 s7 nD dD => ?_⟩
        · intro q
          have := congrArg List.length q
          rw [List.length_map, tl] at this
          simp at this
          omega
        · obtain ⟨j, mj, rfl⟩ := List.mem_map.mp me
          exact len j (List.mem_of_mem_take mj)
        · refine ⟨Wh, _, _, rfl, rfl, (LG1.same s7).1, small _ (by rw [refs_len]; omega), put D _ H7 s7 nD dD ?_⟩
          unfold recM
          rw [List.getElem?_map, List.getElem?_range li]
          show some (match F.getD i none with | some e => e.2 | none => _) = _
          rw [gi]
      | some e =>
        refine ⟨_, rfl, rfl, _, rfl, iteF ?_⟩
        refine ⟨_, rfl, e.1, _, rfl, .inl ((hR3.same s6).2 e (List.mem_of_getElem? ho)), fun D nD => ?_⟩
        have s7 := Same.new (o := .lst (e.2.map V.int)) nD
        refine ⟨Wh, _, _, rfl, rfl, (LG1.same s7).1, small _ (by rw [refs_len]; omega), put D _ _ s7 nD upd_same ?_⟩
        unfold recM
        rw [List.getElem?_map, List.getElem?_range li]
        show some (match F.getD i none with | some e => e.2 | none => _) = _
        rw [gi]
    rintro σ H4 ⟨v5, v6, G, rfl, s5, LG, nd, hG, eG⟩
    refine ⟨_, rfl, kQ nB nF Wh G H4 (s4.trans s5) nWh0 LG nd hG ?_⟩
    rw [eG, List.take_of_length_le (by simp [recM])]
    rfl
theorem sc_agree : FnScope ["pieces", "numbers", "data", "places", "known", "number", "place"] ["pieces", "numbers", "data"] (defScope s_agree) := ⟨rfl, rfl, rfl, by decide +kernel, rfl, by decide +kernel, by decide +kernel⟩
theorem ok_agree (T : Txt w K mg a) : FnOk P w K mg base CX0 5 a.f_agree a.d_agree ["pieces", "numbers", "data"] (sp_agree K a) := by
  refine T.F_agree.ok sc_agree (fun vs H Q E h => ?len) (fun cdv A outer s H vs Q E hr h => ?body)
  case len =>
    exact sp_agree_len h
  case body =>
    obtain ⟨R, N, F, is, d, n, rfl, hR, hN, hp, hin, h8, d1, dl, hrow, h500, kT, kF⟩ := h
    refine ⟨_, (pss_cons (ps_set (i := 3) sc_agree.nd rfl (Or.inl rfl) (pe_slice sl_list (pv 1) po_none (po_some (pv 2))))
      (pss_cons (ps_setLc (i := 4) (own := [("place", 6)]) (g := (gName 6)) (by rfl) sc_agree.nd rfl rfl (sw_true rfl rfl rfl (by decide +kernel)) (pi_list (pv 3)) (blkOk_by (own := [("place", 6)]) (N := ["pieces", "numbers", "data", "places", "known", "number", "place"]) (sc := defScope s_agree) (by decide +kernel))
      (fun _ _ _ _ _ => (pg_name (i := 6) sc_agree.nd rfl (Or.inl rfl))) (fun _ _ _ _ _ => pts_nil) (fun _ _ _ _ _ => (pe_ix (by exact ix_list : IxR _ (rIxL K)) (pv 0) (pv 6) (fun _ _ => rfl))))
      (pss_cons (ps_for PassesOwn.never rfl (pi_list (pe_slice sl_list (pv 1) (po_some (pv 2)) po_none)) (pg_name (i := 5) sc_agree.nd rfl (Or.inl rfl))
      (pss_one (ps_if (pt_cmpR (op_neD hr.units) (pe_call (ok_piece_at T) (hr.mono (by decide)) rfl T.g_piece_at T.F_piece_at.kp T.d_piece_at .nil pass0 (pa_cons (pv 4) (pa_cons (pv 3) (pa_cons (pv 5) pa_nil)))) (pe_ix ix_list (pv 0) (pv 5) (fun _ _ => rfl)) (nomark _))
      (pss_one (ps_ret pe_bl))
      pss_nil)))
      (pss_one (ps_ret pe_bl))))), ?_⟩
    refine ⟨_, rfl, _, rfl, _, rfl, N, _, rfl, hN, fun Pl nPl => ?_⟩
    have ec : cutV ((intsN is).map V.int) none (some (d : Int)) = (intsN (is.take d)).map V.int := by
      rw [cut_take]
      unfold intsN
      rw [List.map_take, List.map_take]
    have ed : cutV ((intsN is).map V.int) (some (d : Int)) none = (intsN (is.drop d)).map V.int := by
      rw [cut_drop]
      unfold intsN
      rw [List.map_drop, List.map_drop]
    rw [ec]
    have s2 := Same.new (o := .lst ((intsN (is.take d)).map V.int)) nPl
    have dPl : upd H Pl (.lst ((intsN (is.take d)).map V.int)) Pl = some (.lst ((intsN (is.take d)).map V.int)) := upd_same
    generalize upd H Pl (.lst ((intsN (is.take d)).map V.int)) = H2 at s2 dPl ⊢
    have tl : (is.take d).length = d := by rw [List.length_take]; omega
    have il : (intsN (is.take d)).length = d := by unfold intsN; rw [List.length_map, tl]
    have hR2 := hR.same s2
    have lis : is.length ≤ 8 := by
      have h1 := presM_len F
      have nd : is.Nodup := hp.imp fun h => Nat.ne_of_lt h
      have := List.Nodup.length_le_of_subset nd (fun x m => hin x m)
      omega
    -- known = [pieces[place] for place in places]
    refine ⟨_, rfl, Pl, rfl, ⟨_, SqL.of dPl⟩, fun Kn nK => lc_list (K := K) (a := Pl) (xs := (intsN (is.take d)).map V.int) (fun i H' => Same H2 H' ∧ H' Kn = some (.lst (refs (((is.take d).map (rowAt F)).take i)))) ⟨Same.new nK, upd_same⟩ (fun i H' _ q => q.1.seq (SqL.of dPl)) ?_ ?_⟩
    · rintro i y H3 hi ⟨s3, hC⟩
      obtain ⟨c, hc, rfl⟩ := int_item hi
      obtain ⟨m, hm, rfl⟩ : ∃ m : Nat, (is.take d)[i]? = some m ∧ c = (m : Int) := by
        unfold intsN at hc
        rw [List.getElem?_map] at hc
        cases q : (is.take d)[i]? with
        | none => rw [q] at hc; cases hc
        | some m => rw [q] at hc; exact ⟨m, rfl, (Option.some.inj hc).symm⟩
      have hg := (presM_lt (hin _ (List.mem_of_mem_take (List.mem_of_getElem? hm)))).2
      have g : ((is.take d).map (rowAt F))[i]? = some (rowAt F m) := by rw [List.getElem?_map, hm]; rfl
      refine ⟨rfl, _, rfl, _, rfl, R, _, _, _, rfl, rfl, s3.seq hR2.1, at_of (j := m) rfl (refsO_get hg), _, hC, small _ (by simp [refs]; omega), same_put s3 nK, ?_⟩
      rw [upd_same, take_snoc g]
      unfold refs
      rw [List.map_append]
      rfl
    rintro H3 ⟨s3, hC⟩
    rw [List.take_of_length_le (by simp [intsN])] at hC
    have s4 := s2.trans s3
    have hR3 := hR2.same s3
    have dP3 := s3 _ _ dPl
    have RLC : RL K H3 Kn ((is.take d).map (rowAt F)) := ⟨SqL.of hC, fun e me => by
      obtain ⟨i, mi, rfl⟩ := List.mem_map.mp me
      exact hR3.rows i (hin _ (List.mem_of_mem_take mi))⟩
    -- for number in numbers[data:]
    refine ⟨_, rfl, _, rfl, _, rfl, N, _, rfl, s4.seq hN, fun Dr nDr => ?_⟩
    rw [ed]
    have s5 := Same.new (o := .lst ((intsN (is.drop d)).map V.int)) nDr
    have dDr : upd H3 Dr (.lst ((intsN (is.drop d)).map V.int)) Dr = some (.lst ((intsN (is.drop d)).map V.int)) := upd_same
    generalize upd H3 Dr (.lst ((intsN (is.drop d)).map V.int)) = H5 at s5 dDr ⊢
    refine ⟨Dr, rfl, ⟨_, SqL.of dDr⟩, for_list (K := K) (a := Dr) (xs := (intsN (is.drop d)).map V.int) (fun i σ H' => ∃ v5 : Option V, σ = [some (.ref R), some (.ref N), some (.int (d : Int)), some (.ref Pl), some (.ref Kn), v5, none] ∧ Same H5 H' ∧ ∀ (j m : Nat), j < i → (is.drop d)[j]? = some m → pieceM (intsN (is.take d)) (snds ((is.take d).map (rowAt F))) ((m : Nat) : Int) n = (rowAt F m).2)
      ⟨none, rfl, Same.refl _, fun j m hj => absurd hj (by omega)⟩ (fun i σ H' _ ⟨_, _, s', _⟩ => s'.seq (SqL.of dDr)) ?_ ?_⟩
    · rintro i y σ H6 hi ⟨v5, rfl, s6, hq⟩
      obtain ⟨c, hc, rfl⟩ := int_item hi
      obtain ⟨m, hm, rfl⟩ : ∃ m : Nat, (is.drop d)[i]? = some m ∧ c = (m : Int) := by
        unfold intsN at hc
        rw [List.getElem?_map] at hc
        cases q : (is.drop d)[i]? with
        | none => rw [q] at hc; cases hc
        | some m => rw [q] at hc; exact ⟨m, rfl, (Option.some.inj hc).symm⟩
      have mm := List.mem_of_mem_drop (List.mem_of_getElem? hm)
      have hg := presM_lt (hin _ mm)
      have s56 := s5.trans s6
      refine ⟨_, rfl, _, rfl, _, rfl, Kn, Pl, _, intsN (is.take d), ((m : Nat) : Int), n, rfl, RLC.same s56, s56 _ _ dP3, intsN_apart (hp.sublist (List.take_sublist d _)) (fun j q => by have := (presM_lt (hin _ (List.mem_of_mem_take q))).1; omega), by rw [il, List.length_map, tl], ?_, by rw [List.length_map, tl]; omega, h500, fun e me => ?_, fun D H7 s7 nD dD => ?_⟩
      · intro q
        have := congrArg List.length q
        rw [List.length_map, tl] at this
        simp at this
        omega
      · obtain ⟨j, mj, rfl⟩ := List.mem_map.mp me
        exact hrow j (List.mem_of_mem_take mj)
      have hR7 := hR3.same (s56.trans s7)
      refine ⟨_, rfl, _, rfl, R, _, _, _, rfl, rfl, hR7.1, at_of (j := m) rfl (refsO_get hg.2), _, _, dp_ints (SqL.of dD), dp_ints (hR7.rows m (hin _ mm)), shaped_ints _, shaped_ints _, _, rfl, ?_⟩
      rw [eqv_ints]
      refine ite2 (fun z => ?_) (fun z => ?_)
      · refine kF (fun g => ?_) _ (s4.trans (s56.trans s7))
        rw [decide_eq_true (g m (List.mem_of_getElem? hm))] at z
        cases z
      · have e : pieceM (intsN (is.take d)) (snds ((is.take d).map (rowAt F))) ((m : Nat) : Int) n = (rowAt F m).2 := Classical.byContradiction fun q => z (by rw [decide_eq_false q]; rfl)
        refine ⟨_, rfl, s6.trans s7, fun j m' hj hm' => ?_⟩
        by_cases q : j = i
        · subst q
          rw [hm] at hm'
          rw [← Option.some.inj hm']
          exact e
        · exact hq j m' (by omega) hm'
    rintro σ H6 ⟨v5, rfl, s6, hq⟩
    refine kT (fun m mm => ?_) _ (s4.trans (s5.trans s6))
    obtain ⟨j, hj⟩ := List.mem_iff_getElem?.mp mm
    exact hq j m (by have := item_lt hj; simp [intsN] at this ⊢; omega) hj
theorem sc_wrong_pieces : FnScope ["pieces", "data", "present", "most", "many", "culprits", "number"] ["pieces", "data"] (defScope s_wrong_pieces) := ⟨rfl, rfl, rfl, by decide +kernel, rfl, by decide +kernel, by decide +kernel⟩
theorem ok_wrong_pieces (T : Txt w K mg a) : FnOk P w K mg base (L2N.CX P w) 6 a.f_wrong_pieces a.d_wrong_pieces ["pieces", "data"] (sp_wrong_pieces K a) := by
  refine T.F_wrong_pieces.okN sc_wrong_pieces (fun vs H Q E h => ?len) (fun cdv A outer s H vs Q E hr h => ?body)
  case len =>
    exact sp_wrong_pieces_len h
  case body =>
    obtain ⟨R, F, d, n, rfl, hR, hF, h500, d1, dF, kE, kQ⟩ := h
    have h8 := hF.1
    refine ⟨_, (pss_cons (ps_set (i := 2) sc_wrong_pieces.nd rfl (Or.inl rfl) (pe_call (ok_present_numbers T) (hr.mono (by decide)) rfl T.g_present_numbers T.F_present_numbers.kp T.d_present_numbers .nil (L2N.passes_call (L2N.takes_of rfl rfl rfl rfl) (fun _ _ _ _ z => z)) (pa_cons (pv 0) (pa_cons (pv 1) pa_nil))))
      (pss_cons (ps_set (i := 3) sc_wrong_pieces.nd rfl (Or.inl rfl) (pe_op op_fdiv (pe_op op_sub (pe_callB call_len_seq (by rfl) T.n_len PySem.boot_len (pa_cons (pv 2) pa_nil)) (pv 1)) pe_int))
      (pss_cons (ps_for (passes_of rfl) rfl (pi_range1 (by rfl) T.n_range (pa_cons (pe_op op_add (pv 3) pe_int) pa_nil)) (pg_name (i := 4) sc_wrong_pieces.nd rfl (Or.inl rfl))
      (pss_one (ps_for (passes_of rfl) rfl (by exact pi_combo (by rfl) T.n_combinations (pa_cons (pv 2) (pa_cons (pv 4) pa_nil)) : PI _ _ _ (iCmb K _)) (pg_name (i := 5) sc_wrong_pieces.nd rfl (Or.inr rfl))
      (pss_one (ps_if (pt_val (pe_call (ok_agree T) (hr.mono (by decide)) rfl T.g_agree T.F_agree.kp T.d_agree .nil pass0 (pa_cons (pv 0) (pa_cons (pe_lc (own := [("number", 6)]) (g := (gName 6)) (by rfl) sc_wrong_pieces.nd (pi_list (pv 2)) (blkOk_by (own := [("number", 6)]) (N := ["pieces", "data", "present", "most", "many", "culprits", "number"]) (sc := defScope s_wrong_pieces) (by decide +kernel))
      (fun _ _ _ _ _ => (pg_name (i := 6) sc_wrong_pieces.nd rfl (Or.inl rfl))) (fun _ _ _ _ _ => (pts_one (pt_cmpR (by exact op_notIn_seq : OpR _ _ (rIn K true)) (pv 6) (pv 5) (by rfl)))) (fun _ _ _ _ _ => (pv 6))) (pa_cons (pv 1) pa_nil)))))
      (pss_one (ps_ret (pe_callTy call_list_of (by rfl) T.n_list (by decide +kernel) (pa_cons (pv 5) pa_nil))))
      pss_nil)))))
      (pss_one (L2N.ps_raise rfl (L2N.takes_of rfl rfl rfl rfl) (L2N.pmk_own PySem.F.excBase_ValueError T.x_NotEnoughPieces T.g_NotEnoughPieces T.k_NotEnoughPieces (raises_own T.b_NotEnoughPieces T.t_NotEnoughPieces) (by exact rfl))))))), ?_⟩
    have nB : ¬ BadP F (d : Int) := good_rows h8 (by omega) (by omega) (rowsW_len hF)
    refine ⟨_, rfl, _, rfl, R, F, (d : Int), rfl, hR, by omega, fun b => absurd b nB, fun _ few H1 s1 => kE (fun S c => ?_) _ s1, fun _ nFew D H1 s1 nD dD => ?_⟩
    · have := c.2.1
      unfold Few at few
      omega
    have dpl : d ≤ (presM F).length := Classical.byContradiction fun q => nFew (by unfold Few; omega)
    have pl := presM_len F
    have xl : ((intsN (presM F)).map V.int).length = (presM F).length := by rw [List.length_map, intsN_len]
    obtain ⟨mo, emo⟩ : ∃ mo : Nat, mo = ((presM F).length - d) / 2 := ⟨_, rfl⟩
    have eq : (((presM F).length : Int) - (d : Int)) / 2 = (mo : Int) := by omega
    refine ⟨_, rfl, D, _, rfl, .inl (SqL.of dD), _, rfl, _, _, rfl, rfl, _, _, rfl, rfl, ⟨by decide, by decide⟩, ?_⟩
    rw [xl]
    dsimp only
    rw [eq]
    refine ⟨_, rfl, _, _, rfl, rfl, _, rfl, by omega, by omega, ?_⟩
    rw [show ((mo : Int) + 1).toNat = mo + 1 by omega]
    refine for_range (lo := 0) (n := mo + 1) (fun i σ H' => ∃ (v4 v5 v6 : Option V), σ = [some (.ref R), some (.int (d : Int)), some (.ref D), some (.int (mo : Int)), v4, v5, v6] ∧ Same H1 H' ∧ ∀ S, Cul F d n S → i ≤ S.length) ⟨none, none, none, rfl, Same.refl _, fun _ _ => Nat.zero_le _⟩ ?_ ?_
    · rintro i σ H2 hi ⟨v4, v5, v6, rfl, s2, hno⟩
      have hi2 : 2 * i + d ≤ (presM F).length := by omega
      refine ⟨_, rfl, _, rfl, D, i, _, (by rw [Int.zero_add]), s2.seq (SqL.of dD), by omega, by omega, by omega, ?_⟩
      rw [xl]
      refine for_it walk_combo (fun j σ H' => ∃ (v5 v6 : Option V), σ = [some (.ref R), some (.int (d : Int)), some (.ref D), some (.int (mo : Int)), some (.int (0 + (i : Nat))), v5, v6] ∧ Same H1 H' ∧ ∀ (j' : Nat) (c : List Nat), j' < j → (CB.cmb 0 (presM F).length i)[j']? = some c → ¬ Cul F d n (c.map fun j => (presM F).getD (j - 0) 0)) ⟨v5, v6, rfl, s2, fun j' c h => absurd h (by omega)⟩ (fun _ _ _ _ _ => True.intro) ?_ ?_
      · rintro j y σ H3 H4 hj ⟨v5, v6, rfl, s3, hq⟩ ⟨T', c, rfl, nT, rfl, hc⟩
        have hcm := List.mem_of_getElem? hc
        obtain ⟨cl, cb⟩ := cmb_len _ _ _ _ hcm
        have hsub := cmb_sub (presM F) 0 i c hcm
        rw [pick_ints (fun k m => by have := cb k m; omega)]
        generalize hS : (c.map fun j => (presM F).getD (j - 0) 0) = S at hsub ⊢
        have lS : S.length = i := by rw [← hS, List.length_map]; exact cl
        have sT := Same.new (o := .tup ((intsN S).map V.int)) nT
        have dT : upd H3 T' (.tup ((intsN S).map V.int)) T' = some (.tup ((intsN S).map V.int)) := upd_same
        generalize upd H3 T' (.tup ((intsN S).map V.int)) = H5 at sT dT ⊢
        have s15 := s3.trans sT
        have k1 := less_len S (presM_nodup F)
        refine ⟨_, rfl, _, rfl, D, rfl, ⟨_, s15.seq (SqL.of dD)⟩, fun Lc nLc => lc_list (K := K) (a := D) (xs := (intsN (presM F)).map V.int) (fun i' H' => Same H5 H' ∧ H' Lc = some (.lst ((intsN (lessM ((presM F).take i') S)).map V.int))) ⟨Same.new nLc, upd_same⟩ (fun i' H' _ q => (s15.trans q.1).seq (SqL.of dD)) ?_ ?_⟩
        · rintro i' y H6 hy ⟨s6, hL⟩
          obtain ⟨m, hm, rfl⟩ := intsN_item hy
          have hi' := item_lt hm
          have le : (lessM ((presM F).take i') S).length ≤ i' := Nat.le_trans (List.length_filter_le _ _) (by rw [List.length_take]; omega)
          refine ⟨rfl, _, rfl, _, rfl, T', _, rfl, .inr (SqT.of (s6 _ _ dT)), rfl, flat_intsN S, _, rfl, ?_⟩
          rw [inV_less]
          rw [less_take hm]
          by_cases q : m ∈ S
          · have e1 : (if m ∉ S then [m] else []) = ([] : List Nat) := if_neg fun z => z q
            rw [e1, decide_eq_false (fun z => z q : ¬ (m ∉ S)), List.append_nil]
            exact iteF ⟨s6, hL⟩
          · have e1 : (if m ∉ S then [m] else []) = [m] := if_pos q
            rw [e1, decide_eq_true q]
            refine iteT ⟨_, rfl, _, hL, small _ (by rw [List.length_map, intsN_len]; omega), same_put s6 nLc, ?_⟩
            rw [upd_same]
            unfold intsN
            rw [List.map_append, List.map_append]
            rfl
        rintro H6 ⟨s6, hL⟩
        rw [List.take_of_length_le (by rw [xl]; exact Nat.le_refl _)] at hL
        have s16 := s15.trans s6
        refine ⟨_, rfl, R, Lc, F, lessM (presM F) S, d, n, rfl, (hR.same s1).same s16, SqL.of hL, less_pair (presM_pair F), fun i m => (less_mem.mp m).1, h8, d1, by omega, fun i m => (hF.2 i (less_mem.mp m).1).1, h500, fun ag H7 s7 => ?_, fun ag H7 s7 => ?_⟩
        · refine ⟨_, rfl, iteT ⟨_, rfl, T', _, rfl, .inr (SqT.of (s7 _ _ (s6 _ _ dT))), fun l nl => kQ S l _ ⟨⟨hsub, by omega, ag⟩, fun S' c' => by rw [lS]; exact hno S' c'⟩ ((s1.trans (s16.trans s7)).trans (Same.new nl)) ?_ upd_same⟩⟩
          cases q : H l with
          | none => rfl
          | some o => rw [(s1.trans (s16.trans s7)) _ _ q] at nl; cases nl
        · refine ⟨_, rfl, iteF ⟨_, _, rfl, s16.trans s7, fun j' c' hj' hc' => ?_⟩⟩
          by_cases q : j' = j
          · subst q
            rw [hc] at hc'
            rw [← Option.some.inj hc', hS]
            exact fun c => ag c.2.2
          · exact hq j' c' (by omega) hc'
      rintro σ H3 ⟨v5, v6, rfl, s3, hq⟩
      refine ⟨_, _, _, rfl, s3, fun S hS => ?_⟩
      have h1 := hno S hS
      refine Nat.lt_of_le_of_ne h1 fun z => ?_
      obtain ⟨c, hc, e⟩ := sub_cmb hS.1 0
      rw [← z] at hc
      obtain ⟨j', hj'⟩ := List.mem_iff_getElem?.mp hc
      refine hq j' c (item_lt hj') hj' ?_
      rw [e]
      exact hS
    rintro σ H2 ⟨v4, v5, v6, rfl, s2, hno⟩
    refine kE (fun S c => ?_) _ (s1.trans s2)
    have h1 := hno S c
    have h2 := c.2.1
    omega
theorem sc_write_stripe : FnScope ["images", "places", "stamp", "words", "data", "pieces"] ["images", "places", "stamp", "words", "data"] (defScope s_write_stripe) := ⟨rfl, rfl, rfl, by decide +kernel, rfl, by decide +kernel, by decide +kernel⟩
theorem ok_write_stripe (T : Txt w K mg a) : FnOk P w K mg base (L2.CX P w) 6 a.f_write_stripe a.d_write_stripe ["images", "places", "stamp", "words", "data"] (sp_write_stripe K a) := by
  refine T.F_write_stripe.okX sc_write_stripe (fun vs H Q E h => ?len) (fun cdv A outer s H vs Q E hr h => ?body)
  case len =>
    exact sp_write_stripe_len h
  case body =>
    obtain ⟨I, P, st, W, ims, pls, e, s', ws, d, rfl, hI, hl, hP, hpl, hT, hs, hW, d1, dc, c8, hlen, kE, kQ⟩ := h
    refine ⟨_, (pss_cons (ps_if (pt_cmpR op_gt (pe_callB call_len_seq (by rfl) T.n_len PySem.boot_len (pa_cons (pv 3) pa_nil)) (pe_op op_mul (pe_const T.g_MAX_PAYLOAD) (pv 4)) (nomark _))
      (pss_one (ps_raise rfl (takes_of rfl rfl rfl rfl) (pmk_own PySem.F.excBase_ValueError T.x_InvalidArgument T.g_InvalidArgument T.k_InvalidArgument (raises_own T.b_InvalidArgument T.t_InvalidArgument) (by exact rfl))))
      pss_nil)
      (pss_cons (ps_set (i := 5) sc_write_stripe.nd rfl (Or.inl rfl) (pe_call (ok_data_pieces T) (hr.mono (by decide)) rfl T.g_data_pieces T.F_data_pieces.kp T.d_data_pieces .nil pass0 (pa_cons (pv 3) (pa_cons (pv 4) pa_nil))))
      (pss_cons (ps_expr (pe_bm PySem.F.plainAttrs_list PySem.F.slot_list_extend PySem.F.type_list_extend mt_extend (pv 5) (pa_cons (pe_call (ok_encode T) (hr.mono (by decide)) rfl T.g_encode T.F_encode.kp T.d_encode .nil (passes_call (takes_of rfl rfl rfl rfl) (fun _ _ _ _ z => z)) (pa_cons (pv 5) (pa_cons (pe_op op_sub (pe_callB call_len_seq (by rfl) T.n_len PySem.boot_len (pa_cons (pv 1) pa_nil)) (pv 4)) pa_nil))) pa_nil)))
      (pss_one (ps_ret (pe_call (ok_piece_requests T) (hr.mono (by decide)) rfl T.g_piece_requests T.F_piece_requests.kp T.d_piece_requests .nil pass0 (pa_cons (pv 0) (pa_cons (pv 1) (pa_cons (pv 2) (pa_cons (pv 5) (pa_cons (pe_listRg (by rfl) (by rfl) T.n_list (prg_1 (by rfl) T.n_range (pe_callB call_len_seq (by rfl) T.n_len PySem.boot_len (pa_cons (pv 1) pa_nil)))) pa_nil))))))))))), ?_⟩
    refine ⟨_, rfl, W, _, rfl, .inl hW, _, rfl, _, _, rfl, rfl, .inl ⟨by decide, by decide⟩, _, _, rfl, rfl, _, rfl, ite2 (fun b => kE (by have := of_decide_eq_true b; rw [List.length_map] at this; omega) _ (Same.refl _)) (fun b => ?_)⟩
    have h4 : ws.length ≤ 400 := by
      rcases hlen with h | ⟨h, _⟩
      · exact h
      · exact absurd (decide_eq_true (by rw [List.length_map]; omega)) b
    refine ⟨_, rfl, _, rfl, W, ws, d, rfl, hW, h4, d1, by omega, fun R F H1 s1 nR LF eF => ?_⟩
    have lF : F.length = d := by rw [← snds_len, eF, cuts_len]
    have f0 : ((snds F).getD 0 []).length = sizeM ws.length d := cuts_row d1 _ (by
      rw [eF, List.getD_eq_getElem?_getD, List.getElem?_eq_getElem (by rw [cuts_len]; omega)]
      exact List.getElem_mem _)
    have rF : ∀ e ∈ F, e.2.length = sizeM ws.length d := fun e m => cuts_row d1 _ (by rw [← eF]; exact List.mem_map.mpr ⟨e, m, rfl⟩)
    have szl := size_lt ws.length d d1
    have nbad : ¬ BadEnc (snds F) ((pls.length : Int) - (d : Int)) := by
      rintro (q | q | q | ⟨r, m, q⟩)
      · have := congrArg List.length q
        rw [snds_len, lF] at this
        simp at this
        omega
      · omega
      · rw [snds_len, lF] at q; omega
      · obtain ⟨e, me, rfl⟩ := List.mem_map.mp m
        exact q (by rw [f0]; exact rF e me)
    have hI1 := s1.seq hI
    have hP1 := hP.same s1
    have hT1 := s1.tup hT
    obtain ⟨as, hA, lA, _⟩ := hP1.old
    refine ⟨_, rfl, .inl ⟨rfl, _, SqL.of LF.1⟩, _, rfl, _, rfl, P, _, rfl, .inr hA, _, rfl, _, _, rfl, rfl, R, F, (pls.length : Int) - (d : Int), by rw [List.length_map, lA]; rfl, LF.rl, by omega, by omega, by omega, by omega, fun b => absurd b nbad, fun _ D G H2 s2 nD LG eG => ?_⟩
    rw [f0, lF, show ((pls.length : Int) - (d : Int)).toNat = pls.length - d by omega] at eG
    have LF2 := LF.same s2
    have lG : G.length = pls.length - d := by rw [← snds_len, eG]; simp
    refine ⟨R, D, _, _, rfl, rfl, LF2.1, LG.1, Nat.le_of_lt (small _ (by rw [refs_len, refs_len]; omega)), ?_⟩
    have er : refs F ++ refs G = refs (F ++ G) := by unfold refs; rw [List.map_append]
    rw [er]
    have LX : LA (upd H2 R (.lst (refs (F ++ G)))) R (F ++ G) := LA.put fun e' me => by
      rcases List.mem_append.mp me with me | me
      · exact LF2.2 e' me
      · refine ⟨(LG.2 e' me).1, fun z => ?_⟩
        have h1 := (LG.2 e' me).1
        rw [z, LF2.1] at h1
        cases F with
        | nil => simp at lF; omega
        | cons f F =>
          have h2 := HO.lst.inj (Option.some.inj h1)
          cases hw : e'.2 with
          | nil => rw [hw] at h2; cases h2
          | cons c r => rw [hw] at h2; simp only [refs, List.map_cons] at h2; injection h2 with h3 _; cases h3
    have sX : Same H (upd H2 R (.lst (refs (F ++ G)))) := same_put (s1.trans s2) nR
    generalize upd H2 R (.lst (refs (F ++ G))) = H3 at LX sX ⊢
    have eX : snds (F ++ G) = stripeM ws d pls.length := by
      unfold stripeM
      rw [snds, List.map_append]
      show snds F ++ snds G = _
      rw [eG, eF]
    have lX : (F ++ G).length = pls.length := by rw [List.length_append, lF, lG]; omega
    obtain ⟨bs, hB, lB, _⟩ := (hP.same sX).old
    refine ⟨_, rfl, _, rfl, _, rfl, _, rfl, _, rfl, P, _, rfl, .inr hB, ?_⟩
    rw [List.length_map, lB]
    refine ⟨_, rfl, RgOk.of_le (by omega) (by omega) (by omega) (by omega), fun N nN => ?_⟩
    have eP : rgV 0 (pls.length : Int) = ((List.range pls.length).map fun (i : Nat) => (i : Int)).map V.int := by simp [rgV]
    rw [eP]
    have sN := Same.new (o := .lst (((List.range pls.length).map fun (i : Nat) => (i : Int)).map V.int)) nN
    have sY := sX.trans sN
    refine ⟨I, P, st, R, N, ims, pls, e, s', F ++ G, List.range pls.length, rfl, sY.seq hI, hl, hP.same sY, hpl, sY.tup hT, hs, (LX.same sN).rl, fun r m => ?_, lX, SqL.of upd_same, fun n m => List.mem_range.mp m, by rw [List.length_range]; omega, fun D2 L H4 s4 n4 W4 e4 nL => ?_⟩
    · have := stripe_row (c := pls.length) d1 r.2 (by rw [← eX]; exact List.mem_map.mpr ⟨r, m, rfl⟩)
      omega
    rw [eX] at e4
    exact kQ h4 D2 L H4 (sY.trans s4) (same_none sY n4) W4 e4 fun e m => ⟨same_none sY (nL e m).1, same_none sY (nL e m).2⟩
theorem sc_read_stripe : FnScope ["images", "places", "stamp", "length", "data", "size", "pieces", "good", "place", "piece", "word"] ["images", "places", "stamp", "length", "data"] (defScope s_read_stripe) := ⟨rfl, rfl, rfl, by decide +kernel, rfl, by decide +kernel, by decide +kernel⟩
theorem ok_read_stripe (T : Txt w K mg a) : FnOk P w K mg base (L2.CX P w) 6 a.f_read_stripe a.d_read_stripe ["images", "places", "stamp", "length", "data"] (sp_read_stripe K a) := by
  refine T.F_read_stripe.okX sc_read_stripe (fun vs H Q E h => ?len) (fun cdv A outer s H vs Q E hr h => ?body)
  case len =>
    exact sp_read_stripe_len h
  case body =>
    obtain ⟨X, I, P, Sa, st, pls, e, s, W, d, gs, rfl, hI, ls, lr, hP, hpl, hS, d1, d2, l6, lW, wW, hg, k0, k1⟩ := h
    refine ⟨_, (pss_cons (ps_set (i := 5) sc_read_stripe.nd rfl (Or.inl rfl) (pe_call (ok_piece_size T) (hr.mono (by decide)) rfl T.g_piece_size T.F_piece_size.kp T.d_piece_size .nil pass0 (pa_cons (pv 3) (pa_cons (pv 4) pa_nil))))
      (pss_cons (ps_set (i := 6) sc_read_stripe.nd rfl (Or.inl rfl) (pe_lst pa_nil))
      (pss_cons (ps_set (i := 7) sc_read_stripe.nd rfl (Or.inl rfl) pe_int)
      (Evl.pss_cut (ps_for (passes_of rfl) rfl (pi_tup (pv 1)) (pg_name (i := 8) sc_read_stripe.nd rfl (Or.inl rfl))
      (pss_cons (ps_if (pt_cmpR op_eq (pv 7) (pv 4) (nomark _))
      (pss_one ps_break)
      pss_nil)
      (pss_cons (ps_set (i := 9) sc_read_stripe.nd rfl (Or.inl rfl) (pe_call (ok_good_piece T) (hr.mono (by decide)) rfl T.g_good_piece T.F_good_piece.kp T.d_good_piece .nil pass0 (pa_cons (pv 0) (pa_cons (pv 8) (pa_cons (pv 2) (pa_cons (pv 5) pa_nil))))))
      (pss_cons (ps_expr (pe_bm PySem.F.plainAttrs_list PySem.F.slot_list_append PySem.F.type_list_append mt_append (pv 6) (pa_cons (pv 9) pa_nil)))
      (pss_one (ps_if (pt_cmpR op_notN (pv 9) pe_non (nomark _))
      (pss_one (ps_aug (i := 7) sc_read_stripe.nd rfl (Or.inl rfl) pe_int ip_add))
      pss_nil))))))
      (pss_cons (ps_if (pt_cmpR op_lt (pv 7) (pv 4) (nomark _))
      (pss_one (ps_raise rfl (takes_of rfl rfl rfl rfl) (pmk_own PySem.F.excBase_ValueError T.x_Damaged T.g_Damaged T.k_Damaged (raises_own T.b_Damaged T.t_Damaged) (by exact rfl))))
      pss_nil)
      (pss_one (ps_ret (pe_slice sl_list (pe_lc2 (own := [("piece", 9), ("word", 10)]) (vs1 := [10]) (g := (gName 9)) (g1 := (gName 10)) (by rfl) sc_read_stripe.nd (pi_list (pe_slice sl_list (pe_call ((ok_recover T)).ofN (hr.mono (by decide)) rfl T.g_recover T.F_recover.kp T.d_recover .nil (passes_call (takes_of rfl rfl rfl rfl) (fun _ _ _ _ z => z)) (pa_cons (pv 6) (pa_cons (pv 4) pa_nil))) po_none (po_some (pv 4))))
      (blkOk_by (own := [("piece", 9), ("word", 10)]) (N := ["images", "places", "stamp", "length", "data", "size", "pieces", "good", "place", "piece", "word"]) (sc := defScope s_read_stripe) (by decide +kernel)) (by decide) (fun _ _ _ _ _ => (pg_name (i := 9) sc_read_stripe.nd rfl (Or.inl rfl))) (fun _ _ _ _ _ => pts_nil) (fun _ _ _ _ _ => (by exact (pi_list (pv 9)) : PI _ _ _ (iList K _))) (fun _ _ _ _ _ => (pg_name (i := 10) sc_read_stripe.nd rfl (Or.inl rfl))) (fun _ _ _ _ _ => pts_nil) (fun _ _ _ _ _ => (pv 10))) po_none (po_some (pv 3)))))))))), ?_⟩
    refine ⟨_, rfl, _, rfl, W.length, d, rfl, d1, by omega, ?_⟩
    refine ⟨Nat.zero_le _, fun R nR => ?_⟩
    have sR := Same.new (o := .lst []) nR
    have dR : upd H R (.lst []) R = some (.lst (refsO [])) := upd_same
    generalize upd H R (.lst []) = H0 at sR dR ⊢
    obtain ⟨Lp, hLp, ep, hp⟩ := id hP
    have lLp : Lp.length = pls.length := by rw [← ep, List.length_map]
    refine ⟨fun σ H' => ∃ (v8 v9 : Option V) (F : List ORow), σ = [some (.ref I), some (.ref P), some (.ref Sa), some (.int (W.length : Nat)), some (.int (d : Int)), some (.int (sizeM W.length d : Nat)), some (.ref R), some (.int ((presM F).length : Nat)), v8, v9, none] ∧ Same H H' ∧ H' R = some (.lst (refsO F)) ∧ (∀ e, some e ∈ F → H' e.1 = some (.lst (e.2.map V.int))) ∧ F.length ≤ pls.length ∧
      (∀ (i : Nat) (e : Addr × List Int), F[i]? = some (some e) → e.2 = (stripeM W d pls.length).getD i []) ∧ (presM F).length = ((gs.take F.length).filter id).length ∧ (F.length = pls.length ∨ (presM F).length = d), ?_, ?_⟩
    · refine ⟨_, rfl, P, rfl, ⟨_, sR.tup hLp⟩, for_tup (K := K) (a := P) (xs := Lp.map fun e => V.ref e.1) (fun i σ H' => ∃ (v8 v9 : Option V) (F : List ORow), σ = [some (.ref I), some (.ref P), some (.ref Sa), some (.int (W.length : Nat)), some (.int (d : Int)), some (.int (sizeM W.length d : Nat)), some (.ref R), some (.int ((presM F).length : Nat)), v8, v9, none] ∧ Same H H' ∧ H' R = some (.lst (refsO F)) ∧ (∀ e, some e ∈ F → H' e.1 = some (.lst (e.2.map V.int)) ∧ e.1 ≠ R) ∧ F.length = i ∧
        (∀ (i : Nat) (e : Addr × List Int), F[i]? = some (some e) → e.2 = (stripeM W d pls.length).getD i []) ∧ (presM F).length = ((gs.take F.length).filter id).length) ⟨none, none, [], rfl, sR, dR, fun _ m => (nomatch m), rfl, fun i e z => by simp at z, by simp [presM]⟩ ?_ ?_ ?_⟩
      · rintro i σ H' _ ⟨v8, v9, F, rfl, s1, _⟩
        exact s1.tup hLp
      · rintro i y σ H2 hy ⟨v8, v9, F, rfl, s2, dR2, hF, lF, eF, cF⟩
        obtain ⟨q, hq, rfl⟩ : ∃ q, Lp[i]? = some q ∧ y = V.ref q.1 := by
          rw [List.getElem?_map] at hy
          cases z : Lp[i]? with
          | none => rw [z] at hy; cases hy
          | some q => rw [z] at hy; exact ⟨q, rfl, (Option.some.inj hy).symm⟩
        have il := item_lt hq
        have mq := List.mem_of_getElem? hq
        have gp : pls[i]? = some q.2 := by rw [← ep, List.getElem?_map, hq]; rfl
        obtain ⟨⟨q0, q8⟩, r0, r8⟩ := hpl q.2 (List.mem_of_getElem? gp)
        obtain ⟨g, gg⟩ : ∃ g, gs[i]? = some g := ⟨_, List.getElem?_eq_getElem (by rw [hg.1]; omega)⟩
        have gi := hg.2 i q.2 g gp gg
        have sq : SqT K H2 q.1 [.int ((q.2.1.toNat : Nat) : Int), .int ((q.2.2.toNat : Nat) : Int)] := by
          have := s2.tup (hp q mq)
          rw [show ((q.2.1.toNat : Nat) : Int) = q.2.1 by omega, show ((q.2.2.toNat : Nat) : Int) = q.2.2 by omega]
          exact this
        have ct : ∀ o : ORow, o.isSome = g → (presM (F ++ [o])).length = ((gs.take (F ++ [o]).length).filter id).length := fun o ho => by
          rw [presM_snoc, List.length_append, cF, List.length_append, List.length_singleton, lF, take_snoc gg, List.filter_append, List.length_append, ho]
          cases g <;> rfl
        refine ⟨_, rfl, _, rfl, rfl, _, rfl, ?_⟩
        by_cases c : (presM F).length = d
        · rw [decide_eq_true (show V.int ((presM F).length : Nat) = V.int (d : Int) by rw [c])]
          exact iteT ⟨_, _, F, rfl, s2, dR2, fun e m => (hF e m).1, by omega, eF, cF, .inr c⟩
        rw [decide_eq_false (show ¬ V.int ((presM F).length : Nat) = V.int (d : Int) from fun z => c (by have := V.int.inj z; omega))]
        refine iteF ⟨_, rfl, _, rfl, _, rfl, _, rfl, X, I, q.1, Sa, st, q.2.1.toNat, q.2.2.toNat, e, s, sizeM W.length d, _, rfl, hI.same s2, ls, lr, sq, s2.tup hS, gi, fun ho H3 s3 => ?_, fun ws ho D H3 s3 nD dD => ?_⟩
        · have hgf : g = false := by
            cases g with
            | false => rfl
            | true => rw [if_pos rfl] at ho; cases ho
          have dR3 := s3 _ _ dR2
          refine ⟨_, rfl, .inl ⟨rfl, _, SqL.of dR3⟩, _, rfl, R, _, _, rfl, rfl, dR3, small _ (by rw [List.length_map]; omega), ?_⟩
          refine ⟨_, rfl, rfl, _, rfl, ?_⟩
          rw [decide_eq_true rfl]
          have cn := ct none (by rw [hgf]; rfl)
          have en : (presM (F ++ [none])).length = (presM F).length := by rw [presM_snoc]; simp
          refine iteF ⟨some (.ref q.1), some .non, F ++ [none], by rw [en]; rfl, same_put (s2.trans s3) nR, by rw [upd_same, show refsO (F ++ [none]) = refsO F ++ [V.non] from List.map_append], fun x m => ?_, by rw [List.length_append, lF]; rfl, fun j x hx => ?_, cn⟩
          · rcases List.mem_append.mp m with m | m
            · obtain ⟨a1, a2⟩ := hF x m
              exact ⟨by rw [upd_ne a2]; exact s3 _ _ a1, a2⟩
            · cases List.mem_singleton.mp m
          · by_cases hj : j < F.length
            · rw [List.getElem?_append_left hj] at hx
              exact eF j x hx
            · rw [List.getElem?_append_right (by omega)] at hx
              rcases z : j - F.length with _ | m
              · rw [z] at hx; cases hx
              · rw [z] at hx; cases hx
        · have hgt : g = true ∧ ws = (stripeM W d pls.length).getD i [] := by
            cases g with
            | false => rw [if_neg (by simp)] at ho; cases ho
            | true => rw [if_pos rfl] at ho; exact ⟨rfl, (Option.some.inj ho).symm⟩
          have dR3 := s3 _ _ dR2
          have DR : D ≠ R := (ne_of_none dR2 nD).symm
          refine ⟨_, rfl, .inl ⟨rfl, _, SqL.of dR3⟩, _, rfl, R, _, _, rfl, rfl, dR3, small _ (by rw [List.length_map]; omega), ?_⟩
          refine ⟨_, rfl, rfl, _, rfl, ?_⟩
          rw [decide_eq_false (show ¬ V.ref D = V.non from fun z => nomatch z)]
          have cn := ct (some (D, ws)) (by rw [hgt.1]; rfl)
          have en : (presM (F ++ [some (D, ws)])).length = (presM F).length + 1 := by rw [presM_snoc]; simp
          refine iteT ⟨_, rfl, _, _, rfl, rfl, some (.ref q.1), some (.ref D), F ++ [some (D, ws)], by rw [en]; rfl, same_put (s2.trans s3) nR, by rw [upd_same, show refsO (F ++ [some (D, ws)]) = refsO F ++ [V.ref D] from List.map_append], fun x m => ?_, by rw [List.length_append, lF]; rfl, fun j x hx => ?_, cn⟩
          · rcases List.mem_append.mp m with m | m
            · obtain ⟨a1, a2⟩ := hF x m
              exact ⟨by rw [upd_ne a2]; exact s3 _ _ a1, a2⟩
            · cases List.mem_singleton.mp m
              exact ⟨by rw [upd_ne DR]; exact dD, DR⟩
          · by_cases hj : j < F.length
            · rw [List.getElem?_append_left hj] at hx
              exact eF j x hx
            · rw [List.getElem?_append_right (by omega)] at hx
              rcases z : j - F.length with _ | m
              · rw [z] at hx
                cases hx
                rw [show j = i by omega]
                exact hgt.2
              · rw [z] at hx; cases hx
      rintro σ H2 ⟨v8, v9, F, rfl, s2, dR2, hF, lF, eF, cF⟩
      rw [List.length_map] at lF
      exact ⟨_, _, F, rfl, s2, dR2, fun e m => (hF e m).1, by omega, eF, cF, .inl (by omega)⟩
    rintro σ H1 ⟨v8, v9, F, rfl, s1, dR1, hF, lF, eF, cF, fin⟩
    have rowlen : ∀ e, some e ∈ F → e.2.length = sizeM W.length d := fun e m => by
      obtain ⟨i, hi⟩ := List.mem_iff_getElem?.mp m
      have il := item_lt hi
      obtain ⟨r, hr⟩ : ∃ r, (stripeM W d pls.length)[i]? = some r := ⟨_, List.getElem?_eq_getElem (by rw [stripe_len d2]; omega)⟩
      rw [eF i e hi, getD_item hr]
      exact stripe_row d1 _ (List.mem_of_getElem? hr)
    have szl := size_lt W.length d d1
    have gl : gs.length = pls.length := hg.1
    refine ⟨_, rfl, _, rfl, _, _, rfl, rfl, _, rfl, ite2 (fun c => ?_) (fun c => ?_)⟩
    · have c := of_decide_eq_true c
      refine k0 ?_ H1 s1
      rcases fin with z | z
      · rw [z, ← gl, List.take_length] at cF
        omega
      · omega
    have c : d ≤ (presM F).length := by
      have : ¬ ((presM F).length : Int) < (d : Int) := fun z => c (decide_eq_true z)
      omega
    have many : d ≤ (gs.filter id).length := by
      have e1 : (gs.filter id).length = ((gs.take F.length).filter id).length + ((gs.drop F.length).filter id).length := by rw [← List.length_append, ← List.filter_append, List.take_append_drop]
      omega
    have pF := presM_len F
    have nB : ¬ BadP F (d : Int) := good_rows (by omega) (by omega) (by omega) rowlen
    refine ⟨_, rfl, _, rfl, R, F, (d : Int), rfl, ⟨SqL.of dR1, fun x m => SqL.of (hF x m)⟩, by omega, first_len fun x m => by rw [rowlen x m]; omega, fun b => absurd b nB, fun _ b => absurd b (by unfold Few; omega), fun _ _ D1 G H2 s2 n2 LG nd fr eG => ?_⟩
    refine ⟨_, rfl, _, rfl, D1, _, rfl, SqL.of LG.1, fun q nq => ?_⟩
    have ct : cutV (refs G) none (some (d : Int)) = refs (G.take d) := by rw [cut_take]; unfold refs; rw [List.map_take]
    rw [ct]
    have sq := Same.new (o := .lst (refs (G.take d))) nq
    have dq : upd H2 q (.lst (refs (G.take d))) q = some (.lst (refs (G.take d))) := upd_same
    generalize upd H2 q (.lst (refs (G.take d))) = H3 at sq dq ⊢
    have hGd : ∀ x ∈ G.take d, H3 x.1 = some (.lst (x.2.map V.int)) := fun x m => sq _ _ (LG.2 x (List.mem_of_mem_take m)).1
    have hn : (presM F).length ≠ 0 := by omega
    obtain ⟨u, hu⟩ : ∃ u, u ∈ presM F := List.exists_mem_of_length_pos (by omega)
    have fl : ((snds (rowsP F)).getD 0 []).length = sizeM W.length d := first_eq rowlen (presM_lt hu).2
    rw [fl, Int.toNat_natCast, rec_stripe d1 (by omega) lF (by omega) d2 c wW eF] at eG
    have eC : snds (G.take d) = cutsM W d := by
      show (G.take d).map (·.2) = _
      rw [List.map_take]
      show (snds G).take d = _
      rw [eG]
      exact range_stripe (by omega)
    refine ⟨q, rfl, ⟨_, SqL.of dq⟩, fun D2 nD2 => lc2_flat nD2 dq hGd ?_ (fun H4 s4 d4 => ?_) (fun _ => rfl) (fun _ => rfl) (fun _ _ => rfl) (fun _ _ => rfl)⟩
    · rw [eC]
      have : (cutsM W d).flatten.length ≤ 6 * 100 := by
        unfold cutsM
        rw [flat_cuts, List.length_take, fill_len W d d1]
        have : sizeM W.length d * d ≤ 100 * 6 := Nat.mul_le_mul (by omega) (by omega)
        omega
      omega
    refine ⟨_, rfl, _, rfl, D2, _, rfl, SqL.of d4, fun q2 nq2 => ?_⟩
    have e5 : cutV ((snds (G.take d)).flatten.map V.int) none (some ((W.length : Nat) : Int)) = W.map V.int := by
      rw [cut_take, ← List.map_take, eC, cuts_flat W d d1]
    rw [e5]
    exact k1 many q2 _ ((((s1.trans s2).trans sq).trans s4).trans (Same.new nq2)) upd_same
theorem sc_repair_stripe : FnScope ["images", "places", "stamp", "length", "data", "size", "pieces", "wrong", "right", "broken", "place", "number", "piece"] ["images", "places", "stamp", "length", "data"] (defScope s_repair_stripe) := ⟨rfl, rfl, rfl, by decide +kernel, rfl, by decide +kernel, by decide +kernel⟩
theorem ok_repair_stripe (T : Txt w K mg a) : FnOk P w K mg base (L2.CX P w) 7 a.f_repair_stripe a.d_repair_stripe ["images", "places", "stamp", "length", "data"] (sp_repair_stripe K a) := by
  refine T.F_repair_stripe.okX sc_repair_stripe (fun vs H Q E h => ?len) (fun cdv A outer s H vs Q E hr h => ?body)
  case len =>
    exact sp_repair_stripe_len h
  case body =>
    obtain ⟨X, I, P, Sa, st, pls, e, s, W, d, os, C, rfl, hI, ls, lr, hP, hpl, hS, hst, d1, d2, l6, lW, wW, hos, ndC, hoff, hcase, kE, kQ⟩ := h
    refine ⟨_, (pss_cons (ps_set (i := 5) sc_repair_stripe.nd rfl (Or.inr rfl) (pe_call (ok_piece_size T) (hr.mono (by decide)) rfl T.g_piece_size T.F_piece_size.kp T.d_piece_size .nil pass0 (pa_cons (pv 3) (pa_cons (pv 4) pa_nil))))
      (pss_cons (ps_setLc (i := 6) (own := [("place", 10)]) (g := (gName 10)) (by rfl) sc_repair_stripe.nd rfl rfl (sw_true rfl rfl rfl (by decide +kernel)) (pi_tup (pv 1)) (blkOk_by (own := [("place", 10)]) (N := ["images", "places", "stamp", "length", "data", "size", "pieces", "wrong", "right", "broken", "place", "number", "piece"]) (sc := defScope s_repair_stripe) (by decide +kernel))
      (fun _ _ _ _ _ => (pg_name (i := 10) sc_repair_stripe.nd rfl (Or.inl rfl))) (fun _ _ _ _ _ => pts_nil) (fun _ _ _ _ _ => (pe_call (ok_good_piece T) (hr.mono (by decide)) rfl T.g_good_piece T.F_good_piece.kp T.d_good_piece .nil pass0 (pa_cons (pv 0) (pa_cons (pv 10) (pa_cons (pv 2) (pa_cons (pv 5) pa_nil)))))))
      (pss_cons (L2H.ps_try_onlyX rfl rfl ⟨rfl, by decide, .inl T.g_NotEnoughPieces⟩ (L2H.passesAt_of rfl) (takes_of rfl rfl rfl rfl)
      (fun W pn xe tk tk2 _ => (pss_one (ps_set (i := 7) sc_repair_stripe.nd rfl (Or.inr rfl) (pe_callS (ok_wrong_pieces T) (hr.mono (by decide)) rfl T.g_wrong_pieces T.F_wrong_pieces.kp T.d_wrong_pieces (fun σ => L2N.passAt tk σ) (pa_cons (pv 6) (pa_cons (pv 4) pa_nil))))))
      (fun a oe cls d pn hz hf tko hot => (pss_one (L2H.ps_raiseHN hot tko (L2H.own5 PySem.F.excBase_ValueError T.x_Damaged T.g_Damaged T.k_Damaged (raises_own T.b_Damaged T.t_Damaged) (by exact rfl))))))
      (pss_cons (ps_setLc (i := 8) (own := [("number", 11), ("piece", 12)]) (g := (gTup K 2 (gCons (gName 11) (gCons (gName 12) gNil)))) (by rfl) sc_repair_stripe.nd rfl rfl (sw_true rfl rfl rfl (by decide +kernel)) (pi_enum (by rfl) T.n_enumerate (pa_cons (pv 6) pa_nil)) (blkOk_by (own := [("number", 11), ("piece", 12)]) (N := ["images", "places", "stamp", "length", "data", "size", "pieces", "wrong", "right", "broken", "place", "number", "piece"]) (sc := defScope s_repair_stripe) (by decide +kernel))
      (fun _ _ _ _ _ => (pg_tup rfl (pgs_cons (pg_name (i := 11) sc_repair_stripe.nd rfl (Or.inl rfl)) (pgs_cons (pg_name (i := 12) sc_repair_stripe.nd rfl (Or.inl rfl)) pgs_nil)))) (fun _ _ _ _ _ => pts_nil) (fun _ _ _ _ _ => (pe_ifExp (pt_cmpR (by exact op_in_seq : OpR _ _ (rIn K false)) (pv 11) (pv 7) (by rfl)) pe_non (pv 12))))
      (pss_cons (ps_setLc (i := 9) (own := [("number", 11), ("piece", 12)]) (g := (gTup K 2 (gCons (gName 11) (gCons (gName 12) gNil)))) (by rfl) sc_repair_stripe.nd rfl rfl (sw_true rfl rfl rfl (by decide +kernel)) (pi_enum (by rfl) T.n_enumerate (pa_cons (pv 8) pa_nil)) (blkOk_by (own := [("number", 11), ("piece", 12)]) (N := ["images", "places", "stamp", "length", "data", "size", "pieces", "wrong", "right", "broken", "place", "number", "piece"]) (sc := defScope s_repair_stripe) (by decide +kernel))
      (fun _ _ _ _ _ => (pg_tup rfl (pgs_cons (pg_name (i := 11) sc_repair_stripe.nd rfl (Or.inl rfl)) (pgs_cons (pg_name (i := 12) sc_repair_stripe.nd rfl (Or.inl rfl)) pgs_nil)))) (fun _ _ _ _ _ => (pts_one (pt_cmpR op_isN (pv 12) pe_non (nomark _)))) (fun _ _ _ _ _ => (pv 11)))
      (pss_one (ps_ret (pe_call (ok_piece_requests T) (hr.mono (by decide)) rfl T.g_piece_requests T.F_piece_requests.kp T.d_piece_requests .nil pass0 (pa_cons (pv 0) (pa_cons (pv 1) (pa_cons (pv 2) (pa_cons (pe_call ((ok_recover T)).ofN (hr.mono (by decide)) rfl T.g_recover T.F_recover.kp T.d_recover .nil (passes_call (takes_of rfl rfl rfl rfl) (fun _ _ _ _ z => z)) (pa_cons (pv 8) (pa_cons (pv 4) pa_nil))) (pa_cons (pv 9) pa_nil))))))))))))), ?_⟩
    refine ⟨_, rfl, _, rfl, W.length, d, rfl, d1, by omega, ?_⟩
    obtain ⟨Lp, hLp, ep, hp⟩ := id hP
    have lLp : Lp.length = pls.length := by rw [← ep, List.length_map]
    obtain ⟨n, hn⟩ : ∃ n, n = sizeM W.length d := ⟨_, rfl⟩
    have szl := size_lt W.length d d1
    rw [← hn] at hos ⊢
    have osw := os_words hos
    have los := hos.1
    refine ⟨_, rfl, P, rfl, ⟨_, hLp⟩, fun R nR => lc_tup (K := K) (a := P) (xs := Lp.map fun e => V.ref e.1) (fun i H' => Same H H' ∧ ∃ F : List ORow, H' R = some (.lst (refsO F)) ∧ F.length = i ∧ sndO F = os.take i ∧ ∀ e, some e ∈ F → H' e.1 = some (.lst (e.2.map V.int)) ∧ e.1 ≠ R) ⟨Same.new nR, [], upd_same, rfl, rfl, fun _ m => nomatch m⟩ (fun i H' _ q => q.1.tup hLp) ?_ ?_⟩
    · rintro i y H2 hy ⟨s2, F, dR2, lF, eF, hF⟩
      obtain ⟨q, hq, rfl⟩ : ∃ q, Lp[i]? = some q ∧ y = V.ref q.1 := by
        rw [List.getElem?_map] at hy
        cases z : Lp[i]? with
        | none => rw [z] at hy; cases hy
        | some q => rw [z] at hy; exact ⟨q, rfl, (Option.some.inj hy).symm⟩
      have il := item_lt hq
      have mq := List.mem_of_getElem? hq
      have gp : pls[i]? = some q.2 := by rw [← ep, List.getElem?_map, hq]; rfl
      obtain ⟨⟨q0, q8⟩, r0, r8⟩ := hpl q.2 (List.mem_of_getElem? gp)
      obtain ⟨o, ho⟩ : ∃ o, os[i]? = some o := ⟨_, List.getElem?_eq_getElem (by omega)⟩
      have gi := hos.2 i q.2 o gp ho
      have sq : SqT K H2 q.1 [.int ((q.2.1.toNat : Nat) : Int), .int ((q.2.2.toNat : Nat) : Int)] := by
        have := s2.tup (hp q mq)
        rw [show ((q.2.1.toNat : Nat) : Int) = q.2.1 by omega, show ((q.2.2.toNat : Nat) : Int) = q.2.2 by omega]
        exact this
      have fin : ∀ (x : ORow) (H3 : Hp), Same H2 H3 → x.map Prod.snd = o → (∀ e, x = some e → H3 e.1 = some (.lst (e.2.map V.int)) ∧ e.1 ≠ R) → ∃ acc, H3 R = some (.lst acc) ∧ acc.length < sizeLine ∧ Same H (upd H3 R (.lst (acc ++ [refO x]))) ∧ ∃ F : List ORow, upd H3 R (.lst (acc ++ [refO x])) R = some (.lst (refsO F)) ∧ F.length = i + 1 ∧ sndO F = os.take (i + 1) ∧ ∀ e, some e ∈ F → upd H3 R (.lst (acc ++ [refO x])) e.1 = some (.lst (e.2.map V.int)) ∧ e.1 ≠ R := fun x H3 s3 ex hx => by
        refine ⟨_, s3 _ _ dR2, small _ (by rw [List.length_map]; omega), same_put (s2.trans s3) nR, F ++ [x], by rw [upd_same, show refsO (F ++ [x]) = refsO F ++ [refO x] from List.map_append], by rw [List.length_append, lF]; rfl, by rw [take_snoc ho, ← eF, ← ex, show sndO (F ++ [x]) = sndO F ++ [x.map Prod.snd] from List.map_append], fun e m => ?_⟩
        rcases List.mem_append.mp m with m | m
        · obtain ⟨a1, a2⟩ := hF e m
          exact ⟨by rw [upd_ne a2]; exact s3 _ _ a1, a2⟩
        · obtain ⟨a1, a2⟩ := hx e (List.mem_singleton.mp m).symm
          exact ⟨by rw [upd_ne a2]; exact a1, a2⟩
      refine ⟨rfl, _, rfl, _, rfl, _, rfl, _, rfl, X, I, q.1, Sa, st, q.2.1.toNat, q.2.2.toNat, e, s, n, o, rfl, hI.same s2, ls, lr, sq, s2.tup hS, gi, fun ho H3 s3 => ?_, fun ws ho D H3 s3 nD dD => ?_⟩
      · exact fin none H3 s3 ho.symm fun e z => nomatch z
      · exact fin (some (D, ws)) H3 s3 ho.symm fun e z => by
          cases z
          exact ⟨dD, (ne_of_none dR2 nD).symm⟩
    rintro H1 ⟨s1, F, dR1, lF, eF, hF⟩
    rw [List.length_map] at lF eF
    rw [List.take_of_length_le (by omega)] at eF
    have epr : presM F = presO os := by rw [presM_snd, eF]
    have hRO : RO K H1 R F := ⟨SqL.of dR1, fun e m => SqL.of (hF e m).1⟩
    have fos : ∀ (i : Nat) (e : Addr × List Int), F[i]? = some (some e) → os[i]? = some (some e.2) := fun i e h => by rw [← eF, sndO_get h]; rfl
    have hRW : RowsW F n := ⟨by omega, fun i m => by
      obtain ⟨a1, a2⟩ := osw i _ (fos i _ (presM_lt m).2)
      exact ⟨a1, a2⟩⟩
    have rowS : ∀ k, k < F.length → ((stripeM W d pls.length).getD k []).length = n ∧ ∀ w ∈ (stripeM W d pls.length).getD k [], Wd w := fun k hk => by
      obtain ⟨r, hr⟩ : ∃ r, (stripeM W d pls.length)[k]? = some r := ⟨_, List.getElem?_eq_getElem (by rw [stripe_len d2]; omega)⟩
      rw [getD_item hr, hn]
      exact ⟨stripe_row d1 _ (List.mem_of_getElem? hr), stripe_words wW _ (List.mem_of_getElem? hr)⟩
    have pol : ∀ t, t < n → ∃ f, Pol d f ∧ ∀ k : Nat, k < F.length → z (((stripeM W d pls.length).getD k []).getD t 0) = f (z (k : Int)) := fun t ht => by
      obtain ⟨f, h1, h2⟩ := stripe_pol (W := W) (c := pls.length) (show d ≤ 8 by omega) (by rw [← hn]; exact ht)
      exact ⟨f, h1, fun k hk => h2 k (by omega)⟩
    have hr : ∀ i ∈ presM F, i ∉ C → (rowAt F i).2 = (stripeM W d pls.length).getD i [] := fun i m ni => hoff.1 i _ (fos i _ (presM_lt m).2) ni
    have hr2 : ∀ (i : Nat) (e : Addr × List Int), F[i]? = some (some e) → i ∉ C → e.2 = (stripeM W d pls.length).getD i [] := fun i e h ni => hoff.1 i _ (fos i e h) ni
    have hne : ∀ i ∈ C, (rowAt F i).2 ≠ (stripeM W d pls.length).getD i [] := fun i m => by
      obtain ⟨ws, h1, h2⟩ := hoff.2 i m
      rw [← eF, List.getElem?_map] at h1
      cases q : F[i]? with
      | none => rw [q] at h1; cases h1
      | some o =>
        rw [q] at h1
        cases o with
        | none => cases h1
        | some e =>
          rw [rowAt_of q]
          have : e.2 = ws := Option.some.inj (Option.some.inj h1)
          rw [this]
          exact h2
    have inC : ∀ i ∈ C, i ∈ presM F := fun i m => by
      obtain ⟨ws, h1, h2⟩ := hoff.2 i m
      rw [← eF, List.getElem?_map] at h1
      cases q : F[i]? with
      | none => rw [q] at h1; cases h1
      | some o =>
        rw [q] at h1
        cases o with
        | none => cases h1
        | some e => exact presM_iff.mpr ⟨e, q⟩
    have pF := presM_len F
    -- try
    refine ⟨_, rfl, _, rfl, R, F, d, n, rfl, hRO, hRW, by omega, d1, by omega, fun no H2 s2 => ?_, fun S D H2 hLe s2 nD dD => ?_⟩
    · refine ⟨true, T.u_NotEnoughPieces_NotEnoughPieces, fun _ ad hb => ?_, fun z => Bool.noConfusion z⟩
      refine kE ?_ _ (s1.trans s2)
      rcases hcase with c | c
      · exact c
      · exact absurd (changed_cul2 hRW pol ndC (by rw [epr]; exact c) hr) (no _)
    have hL2 := hLe.1.2.1
    have many : 2 * C.length + d ≤ (presO os).length := by
      rcases hcase with c | c
      · rw [epr] at hL2
        omega
      · exact c
    have eS := changed_least2 hRW pol rowS ndC (by rw [epr]; exact many) hr hne hLe
    have memS : ∀ i, i ∈ S ↔ i ∈ C := fun i => by
      rw [eS, List.mem_filter, decide_eq_true_eq]
      exact ⟨fun q => q.2, fun q => ⟨inC i q, q⟩⟩
    clear hcase kE
    -- right
    obtain ⟨RM, hRM⟩ : ∃ RM : List ORow, RM = (List.range F.length).map fun i => if i ∈ C then none else F.getD i none := ⟨_, rfl⟩
    have lRM : RM.length = F.length := by rw [hRM, List.length_map, List.length_range]
    have gRM : ∀ (i : Nat) (o : ORow), F[i]? = some o → RM[i]? = some (if i ∈ C then none else o) := fun i o h => by
      rw [hRM, List.getElem?_map, List.getElem?_range (item_lt h)]
      exact congrArg some (by show (if i ∈ C then none else F.getD i none) = _; rw [getD_item h])
    have s02 := s1.trans s2
    have hRO2 := hRO.same s2
    refine ⟨_, rfl, R, _, rfl, hRO2.1, fun D2 nD2 => lc_it walk_enum (fun i H' => Same H2 H' ∧ H' D2 = some (.lst (refsO (RM.take i)))) ⟨Same.new nD2, upd_same⟩ (fun i H' _ q => q.1.seq hRO2.1) ?_ ?_⟩
    · rintro i y H3 H4 hi ⟨s3, d3⟩ ⟨t, u, v, rfl, ht, rfl, hu, hv⟩
      cases hu
      obtain ⟨o, ho, rfl⟩ := refsO_item hv
      have s4 : Same H3 (upd H3 t (.tup [V.int (i : Nat), refO o])) := Same.new ht
      refine ⟨t, _, rfl, SqT.of upd_same, rfl, _, _, rfl, _, _, rfl, rfl, ?_⟩
      have d4 := s4 _ _ d3
      have s5 := s3.trans s4
      generalize upd H3 t (.tup [V.int (i : Nat), refO o]) = H5 at s4 d4 s5 ⊢
      have go := gRM i o ho
      have fin : ∀ x : ORow, RM[i]? = some x → ∃ acc, H5 D2 = some (.lst acc) ∧ acc.length < sizeLine ∧ Same H2 (upd H5 D2 (.lst (acc ++ [refO x]))) ∧ upd H5 D2 (.lst (acc ++ [refO x])) D2 = some (.lst (refsO (RM.take (i + 1)))) := fun x hx =>
        ⟨_, d4, small _ (by rw [List.length_map, List.length_take]; omega), same_put s5 nD2, by rw [upd_same, take_snoc hx, show refsO (RM.take i ++ [x]) = refsO (RM.take i) ++ [refO x] from List.map_append]⟩
      refine ⟨rfl, _, rfl, _, rfl, D, _, rfl, .inl (SqL.of (s5 _ _ dD)), rfl, flat_intsN _, _, rfl, ?_⟩
      rw [inV_in]
      by_cases c : i ∈ C
      · rw [decide_eq_true ((memS i).mpr c)]
        rw [if_pos c] at go
        exact iteT (fin none go)
      · rw [decide_eq_false (fun z => c ((memS i).mp z))]
        rw [if_neg c] at go
        exact iteF ⟨_, rfl, fin o go⟩
    rintro H3 ⟨s3, d3⟩
    rw [List.length_map, ← lRM, List.take_length] at d3
    have s03 := s02.trans s3
    have hRO3 := hRO2.same s3
    have mRM : ∀ (i : Nat) (e : Addr × List Int), RM[i]? = some (some e) → F[i]? = some (some e) ∧ i ∉ C := fun i e h => by
      have hi : F[i]? = some (F[i]'(by rw [← lRM]; exact item_lt h)) := List.getElem?_eq_getElem _
      have := gRM i _ hi
      rw [h] at this
      have this := Option.some.inj this
      by_cases c : i ∈ C
      · rw [if_pos c] at this; cases this
      · rw [if_neg c] at this
        rw [hi, ← this]
        exact ⟨rfl, c⟩
    have hROR : RO K H3 D2 RM := ⟨SqL.of d3, fun e m => by
      obtain ⟨i, hi⟩ := List.mem_iff_getElem?.mp m
      exact hRO3.2 e (List.mem_of_getElem? (mRM i e hi).1)⟩
    -- broken
    have bm : ∀ i, i < RM.length → ((os.getD i none).isNone = true ∨ i ∈ C ↔ RM.getD i none = none) := fun i hi => by
      have hF' : F[i]? = some (F[i]'(by rw [← lRM]; exact hi)) := List.getElem?_eq_getElem _
      rw [getD_item (gRM i _ hF'), ← eF, getD_item (sndO_get hF')]
      by_cases c : i ∈ C
      · simp [c]
      · rw [if_neg c]
        cases F[i]'(by rw [← lRM]; exact hi) <;> simp [c]
    obtain ⟨BN, hBN⟩ : ∃ BN : Nat → List Nat, BN = fun i => (List.range i).filter fun j => (RM.getD j none).isNone := ⟨_, rfl⟩
    have lBN : ∀ i, (BN i).length ≤ i := fun i => by rw [hBN]; exact Nat.le_trans (List.length_filter_le _ _) (by rw [List.length_range]; exact Nat.le_refl _)
    have sBN : ∀ i, BN (i + 1) = BN i ++ if (RM.getD i none).isNone then [i] else [] := fun i => by
      rw [hBN]
      show List.filter _ _ = _
      rw [List.range_succ, List.filter_append]
      congr 1
      simp only [List.filter_cons, List.filter_nil]
    refine ⟨_, rfl, D2, _, rfl, hROR.1, fun D3 nD3 => lc_it walk_enum (fun i H' => Same H3 H' ∧ H' D3 = some (.lst ((intsN (BN i)).map V.int))) ⟨Same.new nD3, by rw [hBN]; exact upd_same⟩ (fun i H' _ q => q.1.seq hROR.1) ?_ ?_⟩
    · rintro i y H4 H5 hi ⟨s4, d4⟩ ⟨t, u, v, rfl, ht, rfl, hu, hv⟩
      cases hu
      obtain ⟨o, ho, rfl⟩ := refsO_item hv
      rw [List.length_map] at hi
      have s5 : Same H4 (upd H4 t (.tup [V.int (i : Nat), refO o])) := Same.new ht
      refine ⟨t, _, rfl, SqT.of upd_same, rfl, _, _, rfl, _, _, rfl, rfl, ?_⟩
      have d5 := s5 _ _ d4
      have s6 := s4.trans s5
      generalize upd H4 t (.tup [V.int (i : Nat), refO o]) = H6 at s5 d5 s6 ⊢
      have gi := getD_item (d := none) ho
      have li := lBN i
      refine ⟨rfl, _, rfl, rfl, _, rfl, ?_⟩
      cases o with
      | none =>
        rw [decide_eq_true (show refO none = V.non from rfl)]
        refine iteT ⟨_, rfl, _, d5, small _ (by rw [List.length_map, intsN_len]; omega), same_put s6 nD3, ?_⟩
        rw [sBN i, gi, upd_same]
        unfold intsN
        rw [List.map_append, List.map_append]
        rfl
      | some e =>
        rw [decide_eq_false (show ¬ refO (some e) = V.non from fun z => nomatch z)]
        refine iteF ⟨s6, ?_⟩
        rw [sBN i, gi]
        show _ = some (HO.lst ((intsN (_ ++ [])).map V.int))
        rw [List.append_nil]
        exact d5
    rintro H4 ⟨s4, d4⟩
    rw [List.length_map] at d4
    have eB : BN RM.length = brkM os C := by
      rw [hBN]
      unfold brkM
      rw [lRM, show F.length = os.length by omega]
      refine List.filter_congr fun i m => ?_
      have hi : i < RM.length := by have := List.mem_range.mp m; omega
      have b := bm i hi
      show (RM.getD i none).isNone = (decide (i ∈ C) || (os.getD i none).isNone)
      cases q : RM.getD i none with
      | none =>
        rcases b.mpr q with z | z
        · rw [z, Bool.or_true]
          rfl
        · rw [decide_eq_true z]
          rfl
      | some e =>
        have : ¬ ((os.getD i none).isNone = true ∨ i ∈ C) := fun z => by
          have := b.mp z
          rw [q] at this
          cases this
        rw [decide_eq_false fun z => this (.inr z), Bool.eq_false_iff.mpr fun z => this (.inl z)]
        rfl
    rw [eB] at d4
    have s04 := s03.trans s4
    have hROR4 := hROR.same s4
    have rowlen : ∀ e, some e ∈ RM → e.2.length = n := fun e m => by
      obtain ⟨i, hi⟩ := List.mem_iff_getElem?.mp m
      exact (osw i _ (fos i e (mRM i e hi).1)).1
    have dRM : d ≤ (presM RM).length := by
      have k1 := less_len C (presM_nodup F)
      have k2 : (lessM (presM F) C).length ≤ (presM RM).length := List.Nodup.length_le_of_subset ((less_pair (presM_pair F)).imp fun h => Nat.ne_of_lt h) fun x m => by
        obtain ⟨m1, m2⟩ := less_mem.mp m
        have := gRM x _ (presM_lt m1).2
        rw [if_neg m2] at this
        exact presM_iff.mpr ⟨_, this⟩
      rw [epr] at k1 k2
      omega
    have nB : ¬ BadP RM (d : Int) := good_rows (by omega) (by omega) (by omega) rowlen
    obtain ⟨u, hu⟩ : ∃ u, u ∈ presM RM := List.exists_mem_of_length_pos (by omega)
    have fl : ((snds (rowsP RM)).getD 0 []).length = n := first_eq rowlen (presM_lt hu).2
    refine ⟨_, rfl, _, rfl, _, rfl, _, rfl, _, rfl, D2, RM, (d : Int), rfl, hROR4, by omega, first_len fun x m => by rw [rowlen x m]; omega, fun b => absurd b nB, fun _ b => absurd b (by unfold Few; omega), fun _ _ D4 G H5 s5 n5 LG nd fr eG => ?_⟩
    rw [fl, Int.toNat_natCast, hn, rec_stripe d1 (by omega) (show RM.length ≤ pls.length by omega) (by omega) d2 dRM wW (fun i e h => hr2 i e (mRM i e h).1 (mRM i e h).2)] at eG
    have eG2 : snds G = stripeM W d pls.length := by
      rw [eG]
      refine List.ext_getElem (by rw [List.length_map, List.length_range, stripe_len d2]; omega) fun i h1 h2 => ?_
      rw [List.getElem_map, List.getElem_range]
      exact getD_item (List.getElem?_eq_getElem h2)
    have lG : G.length = pls.length := by rw [← snds_len, eG2, stripe_len d2]
    have s05 := s04.trans s5
    have hI5 := hI.same s05
    refine ⟨_, rfl, I, P, Sa, D4, D3, adrs st, pls, e, s, G, brkM os C, rfl, by rw [adrs_refI]; exact SqL.of hI5.hI, by unfold adrs; rw [List.length_map]; exact ls, hP.same s05, hpl, s05.tup hS, hst, LG.rl, fun r m => ?_, lG, SqL.of (s5 _ _ d4), fun x m => ?_, ?_, fun Dq L H6 s6 nDq WL eL nL => kQ many Dq L H6 (s05.trans s6) (same_none s05 nDq) WL (by rw [eL, eG2]) fun e m => ⟨same_none s05 (nL e m).1, same_none s05 (nL e m).2⟩⟩
    · have := stripe_row (ws := W) (c := pls.length) d1 r.2 (by rw [← eG2]; exact List.mem_map.mpr ⟨r, m, rfl⟩)
      omega
    · have := List.mem_range.mp (List.mem_filter.mp m).1
      omega
    · unfold brkM
      refine Nat.le_trans (List.length_filter_le _ _) ?_
      rw [List.length_range]
      omega
theorem sc_Store_get : FnScope ["self", "pointer", "epoch", "serial", "length", "places"] ["self", "pointer"] (defScope s_Store_get) := ⟨rfl, rfl, rfl, by decide +kernel, rfl, by decide +kernel, by decide +kernel⟩
theorem ok_Store_get (T : Txt w K mg a) : FnOk P w K mg base CX0 7 a.f_Store_get a.d_Store_get ["self", "pointer"] (sp_Store_get K a) := by
  refine T.F_Store_get.ok sc_Store_get (fun vs H Q E h => ?len) (fun cdv A outer s H vs Q E hr h => ?body)
  case len =>
    exact sp_Store_get_len h
  case body =>
    obtain ⟨S, m, b, X, st, os, rfl, h, mb, zb, r1000, d1, hI, ls, lr, ok, en, k⟩ := h
    have hw := T.hw
    subst hw
    refine ⟨_, (pss_cons (ps_if (pt_cmp (pc_nin hr.units (pv 1) (pe_fld (pv 0) rfl)))
      (pss_one (ps_ret (pe_callTy call_list_of (by rfl) T.n_list (by decide +kernel) (pa_cons (pe_nget hr.units (pe_fld (pv 0) rfl) (pv 1) (fun _ _ => rfl)) pa_nil))))
      pss_nil)
      (pss_cons (ps_asg (pv 1) (pg_tup rfl (pgs_cons (pg_name (i := 2) sc_Store_get.nd rfl (Or.inl rfl)) (pgs_cons (pg_name (i := 3) sc_Store_get.nd rfl (Or.inl rfl)) (pgs_cons (pg_name (i := 4) sc_Store_get.nd rfl (Or.inl rfl)) (pgs_cons (pg_name (i := 5) sc_Store_get.nd rfl (Or.inl rfl)) pgs_nil))))))
      (pss_one (ps_ret (pe_call (ok_read_stripe T) (hr.mono (by decide)) rfl T.g_read_stripe T.F_read_stripe.kp T.d_read_stripe .nil passL (pa_cons (pe_fld (pv 0) rfl) (pa_cons (pv 5) (pa_cons (pe_tup (pa_cons (pv 2) (pa_cons (pv 3) pa_nil))) (pa_cons (pv 4) (pa_cons (pe_fld (pv 0) rfl) pa_nil)))))))))), ?_⟩
    have hb := h.blk b mb
    refine ⟨_, rfl, _, rfl, S, _, m.dx, _, _, rfl, h.hS, T.cl_Store, T.na_Store_memory, sf_memory m, m.mD, b.T, _, keyB m.ep b, rfl, .inl h.hM, h.mkeys, rfl, hb.nk, keyB_depth _ _, _, rfl, ?_⟩
    rw [h.nomem mb zb]
    refine iteF ?_
    refine ⟨_, rfl, b.T, _, rfl, SqT.of hb.t, rfl, _, _, rfl, _, _, rfl, _, _, rfl, _, _, rfl, rfl, ?_⟩
    refine ⟨_, rfl, S, _, m.dx, _, _, rfl, h.hS, T.cl_Store, T.na_Store_images, sf_images m, _, rfl, _, rfl, _, rfl, by show 2 ≤ sizeLine; decide, fun sa nsa => ?_⟩
    have s1 := Same.new (o := .tup [V.int m.ep, V.int (b.s : Int)]) nsa
    have ds : upd H sa (.tup [V.int m.ep, V.int (b.s : Int)]) sa = some (.tup [V.int m.ep, V.int (b.s : Int)]) := upd_same
    generalize upd H sa (.tup [V.int m.ep, V.int (b.s : Int)]) = H1 at s1 ds ⊢
    have h1 := h.same s1
    have okd := ok.d
    have okl := ok.l
    refine ⟨_, rfl, _, rfl, S, _, m.dx, _, _, rfl, h1.hS, T.cl_Store, T.na_Store_data, sf_data m, X, m.I, b.PT, sa, st, b.L.map (·.2), m.ep, b.s, b.ws, m.data, gsO os, rfl, hI.same s1, ls, lr, (h1.blk b mb).pts, h.plok mb (by omega), SqT.of ds, d1, by rw [List.length_map]; exact okd, by rw [List.length_map]; exact okl, ok.w, ok.ww, ok.pc, fun z => ?_, fun _ D H2 s2 dD => k D H2 (s1.trans s2) dD⟩
    rw [gs_pres] at z
    omega
theorem sc_Space_give : FnScope ["self", "row", "state"] ["self", "row"] (defScope s_Space_give) := ⟨rfl, rfl, rfl, by decide +kernel, rfl, by decide +kernel, by decide +kernel⟩
theorem ok_Space_give (T : Txt w K mg a) : FnOk P w K mg base (L2.CX P w) 8 a.f_Space_give a.d_Space_give ["self", "row"] (sp_Space_give K a) := by
  refine T.F_Space_give.okX sc_Space_give (fun vs H Q E h => ?len) (fun cdv A outer s H vs Q E hr h => ?body)
  case len =>
    exact sp_Space_give_len h
  case body =>
    obtain ⟨p, d, first, rows, φ, r, rfl, hs, hr1, kE, kQ⟩ := h
    obtain ⟨dx, low, M, h1, h2, ok, l1, l2, l3⟩ := id hs
    have npd : p ≠ d := ne_of h1 h2 (by intro z; cases z)
    refine ⟨_, (pss_cons (ps_set (i := 2) sc_Space_give.nd rfl (Or.inl rfl) (pe_dget1 (hu_of hr) (pe_fld (pv 0) rfl) (pv 1) ⟨rfl, rfl, rfl, rfl⟩))
      (pss_cons (ps_if (PW.pt (pw_or (pt_cmpR op_isN (pv 2) pe_non (nomark _)) (pw_or1 (pt_cmpR op_eq (pv 2) (pe_const T.g_WAITING) (nomark _)))))
      (pss_one (ps_raise rfl (takes_of rfl rfl rfl rfl) (pmk_own PySem.F.excBase_ValueError T.x_InvalidArgument T.g_InvalidArgument T.k_InvalidArgument (raises_own T.b_InvalidArgument T.t_InvalidArgument) (by exact rfl))))
      pss_nil)
      (pss_one (ps_if (pt_cmpR op_eq (pv 2) (pe_const T.g_OLD) (nomark _))
      (pss_one (ps_dput (hu_of hr) (pe_fld (pv 0) rfl) (pv 1) (pe_const T.g_WAITING) rfl))
      (pss_cons (ps_ddel (pe_fld (pv 0) rfl) (pv 1))
      (pss_one (ps_fld (pv 0) (pe_callB (call_min2 rfl) (by rfl) T.n_min (by decide +kernel) (pa_cons (pe_fld (pv 0) rfl) (pa_cons (pv 1) pa_nil))) rfl))))))), ?_⟩
    refine ⟨_, rfl, p, _, dx, _, _, rfl, h1, T.cl_Space, T.na_Space_states, flds_states _ _ _ _, d, rfl, .inl ⟨_, .inl h2⟩, _, rfl, _, DGet.k (k := Sum.inl r) h2, ?_⟩
    rw [ok.val]
    by_cases e0 : φ r = 0
    · rw [if_pos e0]
      refine ⟨_, rfl, rfl, _, rfl, iteT (kE (.inl e0) _ (Same.refl _))⟩
    rw [if_neg e0]
    refine ⟨_, rfl, rfl, _, rfl, iteF ?_⟩
    refine ⟨_, rfl, rfl, _, rfl, ite2 (fun b => kE (.inr (V.int.inj (show V.int (φ r) = V.int 3 from of_decide_eq_true b))) _ (Same.refl _)) (fun b => ?_)⟩
    have e3 : φ r ≠ 3 := fun z => b (decide_eq_true (show V.int (φ r) = V.int 3 by rw [z]))
    have nz : ¬ (φ r = 0 ∨ φ r = 3) := fun z => z.elim e0 e3
    have rg := ok.range e0
    have vs : (valV (kvM M) (Sum.inl r)).isSome = true := by rw [ok.val, if_neg e0]; rfl
    have lM : M.length ≤ rows := by rw [ok.len]; exact Nat.le_trans (pick_le _ _ _ _) (Nat.sub_le _ _)
    refine ⟨_, rfl, rfl, _, rfl, ite2 (fun b2 => ?_) (fun b2 => ?_)⟩
    · have e2 : φ r = 2 := V.int.inj (show V.int (φ r) = V.int 2 from of_decide_eq_true b2)
      refine ⟨_, rfl, p, _, dx, _, _, rfl, h1, T.cl_Space, T.na_Space_states, flds_states _ _ _ _, _, rfl, d, _, rfl, DPut.k (k := Sum.inl r) h2 (small _ (by simp [kvM]; omega)), ?_⟩
      rw [kv_set vs]
      refine kQ nz _ ⟨dx, low, setM M r 3, by rw [upd_ne npd]; exact h1, upd_same, ?_, l1, fun q q1 q2 => ?_, l3⟩ fun b o eb n1 n2 => by rw [upd_ne n2]; exact eb
      · rw [if_pos e2]
        exact ok.set e0 ⟨by decide, by decide⟩
      · rw [if_pos e2]
        unfold upF
        split
        · decide
        · exact l2 q q1 q2
    · have e2 : φ r ≠ 2 := fun z => b2 (decide_eq_true (show V.int (φ r) = V.int 2 by rw [z]))
      rw [if_neg e2] at kQ
      refine ⟨_, rfl, p, _, dx, _, _, rfl, h1, T.cl_Space, T.na_Space_states, flds_states _ _ _ _, _, rfl, d, _, Sum.inl r, rfl, h2, rfl, vs, ?_⟩
      rw [kv_del]
      have h1' : upd H d (.dK (kvM (delM M r))) p = some (.ins a.c_Space dx (flds rows first d low)) := by rw [upd_ne npd]; exact h1
      refine ⟨_, rfl, p, _, dx, _, _, rfl, h1', T.cl_Space, T.na_Space_lowest, flds_lowest _ _ _ _, _, rfl, low, r, rfl, ?_⟩
      refine ⟨_, rfl, p, _, dx, _, rfl, h1', T.cl_Space, T.na_Space_lowest, (by show 4 < 1000; decide), ?_⟩
      have lw : (if r < low then r else low) ≤ r ∧ (if r < low then r else low) ≤ low ∧ (first : Int) ≤ (if r < low then r else low) := by
        have := rg.1
        split <;> omega
      generalize (if r < low then r else low) = low' at lw ⊢
      refine kQ nz _ ⟨dx, low', delM M r, ?_, ?_, ok.del r, lw.2.2, fun q q1 q2 => ?_, by omega⟩ fun b o eb n1 n2 => ?_
      · rw [upd_same]
        exact congrArg (fun l => some (HO.ins a.c_Space dx l)) (flds_low (rows : Int) (first : Int) d low low')
      · rw [upd_ne npd.symm, upd_same]
      · unfold upF
        rw [if_neg (by omega)]
        exact l2 q q1 (by omega)
      · rw [upd_ne n1, upd_ne n2]
        exact eb
theorem sc_Store_repairs : FnScope ["self", "live", "requests", "repaired", "pointer", "epoch", "serial", "length", "places"] ["self", "live"] (defScope s_Store_repairs) := ⟨rfl, rfl, rfl, by decide +kernel, rfl, by decide +kernel, by decide +kernel⟩
theorem ok_Store_repairs (T : Txt w K mg a) : FnOk P w K mg base (L2.CX P w) 8 a.f_Store_repairs a.d_Store_repairs ["self", "live"] (sp_Store_repairs K a) := by
  refine T.F_Store_repairs.okX sc_Store_repairs (fun vs H Q E h => ?len) (fun cdv A outer s H vs Q E hr h => ?body)
  case len =>
    exact sp_Store_repairs_len h
  case body =>
    obtain ⟨S, LV, m, ls, X, st, os, rfl, h, hL, hls, l100, l50, r1000, d1, ep, mk, hI, lst, lr, ok, kE, kQ⟩ := h
    have hw := T.hw
    subst hw
    refine ⟨_, (pss_cons (ps_set (i := 2) sc_Store_repairs.nd rfl (Or.inl rfl) (pe_lst pa_nil))
      (pss_cons (ps_setNc (i := 3) (mine := [("pointer", 4)]) (g := (gName 4)) hr.units (by rfl) sc_Store_repairs.nd rfl rfl (sw_dict rfl rfl rfl (by decide +kernel)) (pi_list (pv 1)) (blkOk_by (own := [("pointer", 4)]) (N := ["self", "live", "requests", "repaired", "pointer", "epoch", "serial", "length", "places"]) (sc := defScope s_Store_repairs) (by decide +kernel))
      (fun _ _ _ _ _ => (pg_name (i := 4) sc_Store_repairs.nd rfl (Or.inl rfl))) (fun _ _ _ _ _ => (pts_one (pt_cmp (by exact (pc_nnotin hr.units (pv 4) (by exact (pe_fld (pv 0) rfl) : PE _ _ (tFld K _ _))) : PC _ _ _ _ (tNNotIn a.wd _ _))))) (fun _ _ _ _ _ => (pv 4)) (fun _ _ _ _ _ => pe_bl))
      (pss_cons (ps_lock (ps_for (passes_of rfl) rfl (by exact pi_nkeys (pv 3) : PI _ _ _ (iNKeys _ _)) (pg_name (i := 4) sc_Store_repairs.nd rfl (Or.inl rfl))
      (pss_cons (ps_asg (pv 4) (pg_tup rfl (pgs_cons (pg_name (i := 5) sc_Store_repairs.nd rfl (Or.inl rfl)) (pgs_cons (pg_name (i := 6) sc_Store_repairs.nd rfl (Or.inl rfl)) (pgs_cons (pg_name (i := 7) sc_Store_repairs.nd rfl (Or.inl rfl)) (pgs_cons (pg_name (i := 8) sc_Store_repairs.nd rfl (Or.inl rfl)) pgs_nil))))))
      (pss_one (ps_expr (pe_bm PySem.F.plainAttrs_list PySem.F.slot_list_extend PySem.F.type_list_extend mt_extend (pv 2) (pa_cons (pe_call (ok_repair_stripe T) (hr.mono (by decide)) rfl T.g_repair_stripe T.F_repair_stripe.kp T.d_repair_stripe .nil (passes_call (takes_of rfl rfl rfl rfl) (fun _ _ _ _ z => z)) (pa_cons (pe_fld (pv 0) rfl) (pa_cons (pv 8) (pa_cons (pe_tup (pa_cons (pv 5) (pa_cons (pv 6) pa_nil))) (pa_cons (pv 7) (pa_cons (pe_fld (pv 0) rfl) pa_nil)))))) pa_nil)))))))
      (pss_one (ps_ret (pv 2)))))), ?_⟩
    refine ⟨Nat.zero_le _, fun R nR => ?_⟩
    have s1 := Same.new (o := .lst []) nR
    have dR : upd H R (.lst []) R = some (.lst []) := upd_same
    generalize upd H R (.lst []) = H1 at s1 dR ⊢
    have h1 := h.same s1
    have hL1 := s1.seq hL
    refine ⟨_, rfl, LV, rfl, ⟨_, hL1⟩, fun Kp nK => nc_it (walk_list (K := K) (a := LV) (xs := ls.map fun b => V.ref b.T)) (fun i H' => Same H1 H' ∧ ∃ rs : List Blk, H' Kp = some (L2.NO a.wd Kp (bxs m.ep rs)) ∧ rs.length ≤ i ∧ (rs.map (·.s)).Nodup ∧ ∀ b, b ∈ rs ↔ b ∈ ls.take i ∧ b.mem = false) ⟨Same.new nK, [], upd_same, Nat.le_refl _, List.nodup_nil, fun b => by simp⟩ (fun i H' _ q => q.1.seq hL1) ?_ ?_⟩
    · rintro i y H2 H3 hi ⟨s2, rs, d2, l2, n2, q2⟩ ⟨rfl, hy⟩
      obtain ⟨b, hb, rfl⟩ : ∃ b, ls[i]? = some b ∧ y = V.ref b.T := by
        rw [List.getElem?_map] at hy
        cases z : ls[i]? with
        | none => rw [z] at hy; cases hy
        | some b => rw [z] at hy; exact ⟨b, rfl, (Option.some.inj hy).symm⟩
      have mb := hls b (List.mem_of_getElem? hb)
      have il := item_lt hb
      have h2 := h1.same s2
      have nk := (h2.blk b mb).nk
      have rsm : ∀ c ∈ rs, c ∈ m.bl := fun c mc => hls c (List.mem_of_mem_take ((q2 c).mp mc).1)
      have kr : L2.NKeys H3 (bxs m.ep rs) := fun x mx => by
        obtain ⟨c, mc, rfl⟩ := List.mem_map.mp mx
        exact ⟨(h2.blk c (rsm c mc)).nk, keyB_depth _ _⟩
      refine ⟨rfl, _, rfl, _, rfl, S, _, m.dx, _, _, rfl, h2.hS, T.cl_Store, T.na_Store_memory, sf_memory m, m.mD, b.T, _, keyB m.ep b, rfl, .inl h2.hM, h2.mkeys, rfl, nk, keyB_depth _ _, _, rfl, ?_⟩
      cases zb : b.mem with
      | true =>
        rw [h2.mem mb zb]
        refine iteF ⟨s2, rs, d2, by omega, n2, fun c => ?_⟩
        rw [q2, take_snoc hb, List.mem_append, List.mem_singleton]
        constructor
        · exact fun z => ⟨.inl z.1, z.2⟩
        · rintro ⟨z | z, w⟩
          · exact ⟨z, w⟩
          · rw [z, zb] at w; cases w
      | false =>
        rw [h2.nomem mb zb]
        refine iteT ⟨_, rfl, b.T, bxs m.ep rs, keyB m.ep b, rfl, d2, kr, nk, keyB_depth _ _, fix_bl _, small _ (by unfold bxs; rw [List.length_map]; omega), same_put s2 nK, ?_⟩
        by_cases c : b ∈ rs
        · refine ⟨rs, by rw [upd_same, bxs_again c]; rfl, by omega, n2, fun x => ?_⟩
          rw [q2, take_snoc hb, List.mem_append, List.mem_singleton]
          constructor
          · exact fun z => ⟨.inl z.1, z.2⟩
          · rintro ⟨z | z, w⟩
            · exact ⟨z, w⟩
            · rw [z]; exact (q2 b).mp c
        · have ns : b.s ∉ rs.map (·.s) := fun z => by
            obtain ⟨x, mx, e⟩ := List.mem_map.mp z
            exact c (by rw [← h.ser_one (rsm x mx) mb e]; exact mx)
          refine ⟨rs ++ [b], by rw [upd_same, bxs_put ns]; rfl, by rw [List.length_append]; exact Nat.succ_le_succ l2, ?_, fun x => ?_⟩
          · rw [List.map_append, List.nodup_append]
            exact ⟨n2, by simp, fun x mx y my z => ns (by have e := List.mem_singleton.mp my; rw [z, e] at mx; exact mx)⟩
          · rw [List.mem_append, List.mem_singleton, q2, take_snoc hb, List.mem_append, List.mem_singleton]
            constructor
            · rintro (z | z)
              · exact ⟨.inl z.1, z.2⟩
              · rw [z]; exact ⟨.inr rfl, zb⟩
            · rintro ⟨z | z, w⟩
              · exact .inl ⟨z, w⟩
              · exact .inr z
    rintro H2 ⟨s2, rs, dK2, lrs, nrs, q2⟩
    rw [List.length_map] at lrs
    rw [List.length_map, List.take_length] at q2
    have rsm : ∀ c ∈ rs, c ∈ m.bl := fun c mc => hls c ((q2 c).mp mc).1
    have rs50 : rs.length ≤ 50 := by
      have := List.Nodup.length_le_of_subset nrs (l₂ := m.bl.map (·.s)) fun x mx => by
        obtain ⟨c, mc, rfl⟩ := List.mem_map.mp mx
        exact List.mem_map.mpr ⟨c, rsm c mc, rfl⟩
      rw [List.length_map, List.length_map] at this
      omega
    have dR2 := s2 _ _ dR
    have RK : R ≠ Kp := ne_of_none dR nK
    have nK0 := same_none s1 nK
    have s02 := s1.trans s2
    refine ⟨Kp, _, dK2, True.intro, fun od => ?_⟩
    obtain ⟨HL, hHL⟩ : ∃ HL, HL = upd H2 Kp (.frz od (L2.NO a.wd Kp (bxs m.ep rs))) := ⟨_, rfl⟩
    rw [← hHL]
    have fL : HL Kp = some (.frz od (L2.NO a.wd Kp (bxs m.ep rs))) := by rw [hHL]; exact upd_same
    have sL : Same H HL := fun x o e => by rw [hHL, upd_ne (ne_of_none e nK0)]; exact s02 _ _ e
    have dRL : HL R = some (.lst []) := by rw [hHL, upd_ne RK]; exact dR2
    have lb : (bxs m.ep rs).length = rs.length := by unfold bxs; rw [List.length_map]
    refine ⟨_, rfl, Kp, od, bxs m.ep rs, rfl, fL, for_it (walk_nkeys (w := a.wd) (d := Kp) (o := od) (xs := bxs m.ep rs)) (fun i σ H' => ∃ (v4 v5 v6 v7 v8 : Option V) (Lq : List Rq), σ = [some (.ref S), some (.ref LV), some (.ref R), some (.ref Kp), v4, v5, v6, v7, v8] ∧ Same H H' ∧ H' Kp = some (.frz od (L2.NO a.wd Kp (bxs m.ep rs))) ∧ H' R = some (.lst (Lq.map rqV)) ∧ Lq.length ≤ 6 * i ∧ Lq.map rqM = (rs.take i).flatMap (repB st m os) ∧ (∀ e ∈ Lq, RqN H H' R e ∧ e.t ≠ Kp ∧ e.s ≠ Kp) ∧ ∀ b ∈ rs.take i, m.data ≤ (presO (os b)).length) ⟨none, none, none, none, none, [], rfl, sL, fL, dRL, Nat.zero_le _, rfl, fun _ m => (nomatch m), fun _ m => (nomatch m)⟩ (fun i σ H' _ ⟨_, _, _, _, _, _, _, _, q, _⟩ => q) ?_ ?_⟩
    · rintro i y σ H3 H4 hi ⟨v4, v5, v6, v7, v8, Lq, rfl, s3, dK3, dR3, l3, eq3, new3, all3⟩ ⟨rfl, e, he, rfl⟩
      obtain ⟨b, hb, rfl⟩ : ∃ b, rs[i]? = some b ∧ e = (keyB m.ep b, b.T, V.bl true) := by
        unfold bxs at he
        rw [List.getElem?_map] at he
        cases z : rs[i]? with
        | none => rw [z] at he; cases he
        | some b => rw [z] at he; exact ⟨b, rfl, (Option.some.inj he).symm⟩
      have mr := List.mem_of_getElem? hb
      have il := item_lt hb
      obtain ⟨ml, zb⟩ := (q2 b).mp mr
      have mb := hls b ml
      have h3 := h.same s3
      have hb3 := h3.blk b mb
      have okb := ok b ml zb
      refine ⟨_, rfl, b.T, _, rfl, SqT.of hb3.t, rfl, _, _, rfl, _, _, rfl, _, _, rfl, _, _, rfl, rfl, ?_⟩
      refine ⟨_, rfl, .inl ⟨rfl, _, SqL.of dR3⟩, _, rfl, S, _, m.dx, _, _, rfl, h3.hS, T.cl_Store, T.na_Store_images, sf_images m, _, rfl, _, rfl, _, rfl, by show 2 ≤ sizeLine; decide, fun sa nsa => ?_⟩
      have s4 := Same.new (o := .tup [V.int m.ep, V.int (b.s : Int)]) nsa
      have dsa : upd H4 sa (.tup [V.int m.ep, V.int (b.s : Int)]) sa = some (.tup [V.int m.ep, V.int (b.s : Int)]) := upd_same
      generalize upd H4 sa (.tup [V.int m.ep, V.int (b.s : Int)]) = H5 at s4 dsa ⊢
      have s5 := s3.trans s4
      have h5 := h.same s5
      have okd := okb.d
      have okl := okb.l
      have hser := h.ser b mb
      refine ⟨_, rfl, _, rfl, S, _, m.dx, _, _, rfl, h5.hS, T.cl_Store, T.na_Store_data, sf_data m, X, m.I, b.PT, sa, st, b.L.map (·.2), m.ep, b.s, b.ws, m.data, os b, [], rfl, hI.same s5, lst, lr, (h5.blk b mb).pts, h.plok mb (by omega), SqT.of dsa, ⟨ep, by omega, by omega⟩, d1, by rw [List.length_map]; exact okd, by rw [List.length_map]; exact okl, okb.w, okb.ww, okb.at', List.nodup_nil, okb.off, ?_, fun z H6 s6 => kE ⟨b, ml, zb, z⟩ _ (s5.trans s6), fun z D L H6 s6 nD W6 e6 n6 => ?_⟩
      · show _ ∨ 0 + m.data ≤ _
        omega
      have z : m.data ≤ (presO (os b)).length := by
        have : 2 * 0 + m.data ≤ (presO (os b)).length := z
        omega
      have dR6 := s6 _ _ (s4 _ _ dR3)
      have lL : L.length ≤ 6 := by
        have h1 : L.length = _ := (List.length_map rqM).symm.trans (congrArg List.length e6)
        have h3 := Nat.le_trans (Nat.le_of_eq h1) (req_len (adrs st) (b.L.map (·.2)) m.ep b.s (stripeM b.ws m.data (b.L.map (·.2)).length) (brkM (os b) []))
        have h4 : (brkM (os b) []).length ≤ (os b).length := by
          unfold brkM
          exact Nat.le_trans (List.length_filter_le _ _) (by rw [List.length_range]; exact Nat.le_refl _)
        have h6 := okb.at'.1
        rw [List.length_map] at h6
        omega
      have dK6 := s6 _ _ (s4 _ _ dK3)
      have nR0 : H R = none := nR
      refine ⟨R, D, _, _, rfl, rfl, dR6, W6.1, Nat.le_of_lt (small _ (by simp only [List.length_map]; omega)), _, _, _, _, _, Lq ++ L, rfl, same_put (s5.trans s6) nR0, (upd_ne RK.symm).trans dK6, by rw [upd_same, List.map_append], by rw [List.length_append]; omega, ?_, fun e me => ?_, fun c mc => ?_⟩
      · rw [take_snoc hb, List.flatMap_append, List.map_append, eq3, e6]
        simp only [List.flatMap_cons, List.flatMap_nil, List.append_nil]
        rfl
      · rcases List.mem_append.mp me with me | me
        · obtain ⟨g1, g2, g3⟩ := new3 e me
          exact ⟨((g1.same s4).same s6).put, g2, g3⟩
        · have w := W6.2 e me
          have n1 := n6 e me
          have dR5 := s4 _ _ dR3
          have dK5 := s4 _ _ dK3
          exact ⟨RqN.put ⟨w.1.1, w.2.1, same_none s5 n1.1, same_none s5 n1.2, (ne_of_none dR5 n1.1).symm, (ne_of_none dR5 n1.2).symm⟩, (ne_of_none dK5 n1.1).symm, (ne_of_none dK5 n1.2).symm⟩
      · rw [take_snoc hb] at mc
        rcases List.mem_append.mp mc with mc | mc
        · exact all3 c mc
        · rw [List.mem_singleton.mp mc]; exact z
    rintro σ H3 ⟨v4, v5, v6, v7, v8, Lq, rfl, s3, dK3, dR3, l3, eq3, new3, all3⟩
    rw [lb, List.take_length] at eq3 all3
    rw [lb] at l3
    refine ⟨dK3, _, rfl, kQ (fun b mb zb => all3 b ((q2 b).mpr ⟨mb, zb⟩)) R Lq rs _ (fun x o e => (upd_ne (ne_of_none e nK0)).trans (s3 _ _ e)) nR ⟨(upd_ne RK).trans dR3, fun e me => ?_⟩ (fun e me => ⟨(new3 e me).1.nt, (new3 e me).1.ns⟩) q2 eq3 (by omega)⟩
    obtain ⟨g1, g2, g3⟩ := new3 e me
    exact ⟨⟨(upd_ne g2).trans g1.t, g1.tR⟩, (upd_ne g3).trans g1.s, g1.sR⟩
theorem sc_law_refused : FnScope ["store", "pointers", "e"] ["store", "pointers"] (defScope s_law_refused) := ⟨rfl, rfl, rfl, by decide +kernel, rfl, by decide +kernel, by decide +kernel⟩
theorem ok_law_refused (T : Txt w K mg a) : FnOk P w K mg base CX0 9 a.f_law_refused a.d_law_refused ["store", "pointers"] (sp_law_refused K a) := by
  refine T.F_law_refused.ok sc_law_refused (fun vs H Q E h => ?len) (fun cdv A outer s H vs Q E hr h => ?body)
  case len =>
    exact sp_law_refused_len h
  case body =>
    obtain ⟨S, LV, m, ls, X, st, os, rfl, h, hL, hls, l100, l50, r1000, d1, ep, mk, hI, lst, lr, ok, bad, k⟩ := h
    refine ⟨_, (pss_cons (ps_try_as (i := 2) rfl rfl sc_law_refused.nd rfl rfl ⟨rfl, by decide, .inl T.g_PoolError⟩ takes0
      (fun W pn xe tk _ => (pss_one (ps_expr (pe_methT (pv 0) T.cl_Store T.m_Store_repairs (ok_Store_repairs T) (hr.mono (by decide)) T.d_Store_repairs (fun σ => passAt tk σ) (pa_cons (pv 1) pa_nil)))))
      (fun a oe cls d pn hz hf => (pss_one (ps_ret (pe_callB (call_isE' hz hf) (by rfl) T.n_isinstance (by decide +kernel) (pa_cons (pv 2) (pa_cons (pe_glob (v := .ref _) rfl T.g_Damaged rfl) pa_nil)))))))
      (pss_one (ps_ret pe_bl))), ?_⟩
    refine ⟨_, rfl, S, m.dx, _, rfl, h.hS, by kernel_rfl, _, rfl, S, LV, m, ls, X, st, os, rfl, h, hL, hls, l100, l50, r1000, d1, ep, mk, hI, lst, lr, ok, fun _ H1 s1 => ?_, fun z => ?_⟩
    · refine ⟨true, T.u_Damaged_PoolError, fun _ ad hb => ?_, fun z => Bool.noConfusion z⟩
      exact ⟨_, rfl, _, rfl, rfl, T.E_Damaged, _, _, true, rfl, fun _ z => z, T.i_Damaged_Damaged, k _ s1⟩
    · obtain ⟨b, mb, zb, lt⟩ := bad
      have := z b mb zb
      omega
theorem sc_Store_forget : FnScope ["self", "pointers", "pointer", "disk", "row"] ["self", "pointers"] (defScope s_Store_forget) := ⟨rfl, rfl, rfl, by decide +kernel, rfl, by decide +kernel, by decide +kernel⟩
theorem ok_Store_forget (T : Txt w K mg a) : FnOk P w K mg base CX0 9 a.f_Store_forget a.d_Store_forget ["self", "pointers"] (sp_Store_forget K a) := by
  refine T.F_Store_forget.ok sc_Store_forget (fun vs H Q E h => ?len) (fun cdv A outer s H vs Q E hr h => ?body)
  case len =>
    exact sp_Store_forget_len h
  case body =>
    obtain ⟨S, P, m, gs, ψ, rfl, h, hP, nP, sub, l50, r1000, h12, k⟩ := h
    have hw := T.hw
    subst hw
    refine ⟨_, (pss_one (ps_for PassesOwn.never rfl (pi_list (pv 1)) (pg_name (i := 2) sc_Store_forget.nd rfl (Or.inl rfl))
      (pss_cons (ps_for PassesOwn.never rfl (pi_tup (pe_ix ix_tup (pv 2) pe_int (fun _ _ => rfl))) (pg_tup rfl (pgs_cons (pg_name (i := 3) sc_Store_forget.nd rfl (Or.inl rfl)) (pgs_cons (pg_name (i := 4) sc_Store_forget.nd rfl (Or.inl rfl)) pgs_nil)))
      (pss_one (ps_expr (pe_meth (pe_dget (hu_of hr) (pe_fld (pv 0) rfl) (pv 3) (fun _ _ => rfl)) T.cl_Space T.m_Space_give (ok_Space_give T) (hr.mono (by decide)) T.d_Space_give .nil passL (pa_cons (pv 4) pa_nil)))))
      (pss_cons (ps_ndel hr.units (pe_fld (pv 0) rfl) (pv 2))
      (pss_one (ps_if (pt_cmp (pc_nin hr.units (pv 2) (pe_fld (pv 0) rfl)))
      (pss_one (ps_ndel hr.units (pe_fld (pv 0) rfl) (pv 2)))
      pss_nil)))))), ?_⟩
    have mg : ∀ b ∈ gs, b ∈ m.bl := fun b mb => sub.subset mb
    refine ⟨_, rfl, P, rfl, ⟨_, hP⟩, for_list (K := K) (a := P) (xs := gs.map fun b => V.ref b.T) (fun i σ H' => ∃ (v2 v3 v4 : Option V), σ = [some (.ref S), some (.ref P), v2, v3, v4] ∧ StorP a H' S (m.with (m.bl.filter fun b => decide (b.s ∉ (gs.take i).map (·.s)))) (giveF ψ (plcs (gs.take i))) ∧ ∀ x o, H x = some o → ¬ StR S m x → H' x = some o) ⟨none, none, none, rfl, ?_, fun _ _ e _ => e⟩ ?_ ?_ ?_⟩
    · have e : (m.bl.filter fun b => decide (b.s ∉ (gs.take 0).map (·.s))) = m.bl := List.filter_eq_self.mpr fun b _ => by simp
      rw [e]
      exact h.psi fun d _ => by rw [List.take_zero]; exact (give_nil ψ d).symm
    · rintro i σ H' _ ⟨_, _, _, _, _, fr⟩
      exact seq_keep hP fun o e => fr _ _ e nP
    · rintro i y σ H1 hy ⟨v2, v3, v4, rfl, h1, fr⟩
      obtain ⟨b, hb, rfl⟩ : ∃ b, gs[i]? = some b ∧ y = V.ref b.T := by
        rw [List.getElem?_map] at hy
        cases z : gs[i]? with
        | none => rw [z] at hy; cases hy
        | some b => rw [z] at hy; exact ⟨b, rfl, (Option.some.inj hy).symm⟩
      have mb := mg b (List.mem_of_getElem? hb)
      have ung : (gs.map (·.s)).Nodup := h.un.sublist (List.Sublist.map _ sub)
      have nb : b.s ∉ (gs.take i).map (·.s) := fun z => by
        obtain ⟨c, mc, e⟩ := List.mem_map.mp z
        obtain ⟨j, hj⟩ := List.mem_iff_getElem?.mp mc
        rw [List.getElem?_take] at hj
        split at hj
        · next lt =>
          unfold List.Nodup at ung
          rw [List.pairwise_iff_getElem] at ung
          have li := item_lt hb
          have lj := item_lt hj
          refine ung j i (by rw [List.length_map]; exact lj) (by rw [List.length_map]; exact li) lt ?_
          rw [List.getElem_map, List.getElem_map, show gs[j] = c from Option.some.inj ((List.getElem?_eq_getElem lj).symm.trans hj), show gs[i] = b from Option.some.inj ((List.getElem?_eq_getElem li).symm.trans hb)]
          exact e
        · cases hj
      obtain ⟨m1, hm1⟩ : ∃ m1, m1 = m.with (m.bl.filter fun b => decide (b.s ∉ (gs.take i).map (·.s))) := ⟨_, rfl⟩
      rw [← hm1] at h1
      have mb1 : b ∈ m1.bl := by rw [hm1]; exact List.mem_filter.mpr ⟨mb, decide_eq_true nb⟩
      have q1 : m1.dx = m.dx ∧ m1.ms = m.ms ∧ m1.sp = m.sp ∧ m1.bD = m.bD ∧ m1.mD = m.mD ∧ m1.rows = m.rows := by rw [hm1]; exact ⟨rfl, rfl, rfl, rfl, rfl, rfl⟩
      have nst : ∀ {x}, ¬ StR S m x → (∀ d ∈ m1.ms, x ≠ (m1.sp d).1 ∧ x ≠ (m1.sp d).2) ∧ x ≠ m1.bD ∧ x ≠ m1.mD := fun {x} n => by
        obtain ⟨_, e2, e3, e4, e5, _⟩ := q1
        rw [e2, e3, e4, e5]
        exact ⟨fun d md => ⟨fun z => n (by rw [z]; exact .s1 d md), fun z => n (by rw [z]; exact .s2 d md)⟩, fun z => n (by rw [z]; exact .bd), fun z => n (by rw [z]; exact .md)⟩
      have hb1 := h1.blk b mb1
      have mgb := List.mem_of_getElem? hb
      have epl : plcs (gs.take (i + 1)) = plcs (gs.take i) ++ b.L.map (·.2) := by rw [take_snoc hb, plcs_snoc]
      have nd1 : (plcs (gs.take i) ++ b.L.map (·.2)).Nodup := by
        rw [← epl]
        exact ((h.dis : (plcs m.bl).Nodup).sublist (plcs_sub sub)).sublist (plcs_sub (List.take_sublist _ _))
      refine ⟨_, rfl, b.T, _, _, _, rfl, rfl, SqT.of hb1.t, at_of (j := 3) rfl rfl, b.PT, rfl, ⟨_, SqT.of hb1.pt⟩, for_tup (K := K) (a := b.PT) (xs := b.L.map fun q => V.ref q.1) (fun j σ H' => ∃ (v3 v4 : Option V), σ = [some (.ref S), some (.ref P), some (.ref b.T), v3, v4] ∧ StorP a H' S m1 (giveF ψ (plcs (gs.take i) ++ (b.L.map (·.2)).take j)) ∧ ∀ x o, H x = some o → ¬ StR S m x → H' x = some o) ⟨v3, v4, rfl, by rw [List.take_zero, List.append_nil]; exact h1, fr⟩ (fun j σ H' _ ⟨_, _, _, st, _⟩ => SqT.of (st.blk b mb1).pt) ?_ ?_⟩
      · rintro j y σ H2 hy ⟨v3, v4, rfl, st, fr2⟩
        obtain ⟨e, he, rfl⟩ : ∃ e, b.L[j]? = some e ∧ y = V.ref e.1 := by
          rw [List.getElem?_map] at hy
          cases z : b.L[j]? with
          | none => rw [z] at hy; cases hy
          | some e => rw [z] at hy; exact ⟨e, rfl, (Option.some.inj hy).symm⟩
        have me := List.mem_of_getElem? he
        have he' : (b.L.map (·.2))[j]? = some e.2 := by rw [List.getElem?_map, he]; rfl
        have new := new_place nd1 he'
        obtain ⟨md, r18, rr⟩ := st.row b mb1 e me
        obtain ⟨dx', low, M, e1, _⟩ := id (st.sp _ md)
        have v1 : giveF ψ (plcs (gs.take i) ++ (b.L.map (·.2)).take j) e.2.1 e.2.2 = ψ e.2.1 e.2.2 := by
          unfold giveF
          rw [if_neg new]
        have h12' := h12 b mgb e me
        refine ⟨e.1, _, rfl, SqT.of ((st.blk b mb1).q e me), rfl, _, _, rfl, _, _, rfl, rfl, ?_⟩
        refine ⟨_, rfl, S, _, m1.dx, _, _, rfl, st.hS, T.cl_Store, T.na_Store_spaces, sf_spaces m1, _, rfl, m1.spd, _, rfl, st.spget md, (m1.sp e.2.1).1, dx', _, rfl, e1, rfl, _, rfl, (m1.sp e.2.1).1, (m1.sp e.2.1).2, 18, m1.rows, _, e.2.2, rfl, st.sp _ md, by rw [q1.2.2.2.2.2]; exact r1000, fun z => by rw [v1] at z; omega, fun _ H3 sp3 fr3 => ?_⟩
        have st3 := st.space md sp3 fr3
        refine ⟨_, _, rfl, st3.psi fun x mx => ?_, fun x o ex n => fr3 _ _ (fr2 x o ex n) ((nst n).1 _ md).1 ((nst n).1 _ md).2⟩
        rw [take_snoc he', ← List.append_assoc]
        exact give_snoc new x
      rintro σ H2 ⟨v3, v4, rfl, st, fr2⟩
      rw [List.length_map, List.take_of_length_le (l := b.L.map (·.2)) (by rw [List.length_map]; exact Nat.le_refl _), ← epl] at st
      have there : (L2.atN (bxs m1.ep m1.bl) (keyB m1.ep b)).isSome = true := atN_iff.mpr ⟨_, List.mem_map.mpr ⟨b, mb1, rfl⟩, rfl⟩
      have nk2 := (st.blk b mb1).nk
      have one : ∀ c ∈ m1.bl, c.s = b.s → c = b := fun c mc e => st.ser_one mc mb1 e
      refine ⟨_, rfl, S, _, m1.dx, _, _, rfl, st.hS, T.cl_Store, T.na_Store_blocks, sf_blocks m1, _, rfl, m1.bD, b.T, _, keyB m1.ep b, rfl, st.hb, st.bkeys, rfl, nk2, keyB_depth _ _, there, ?_⟩
      have ob : L2.outN (bxs m1.ep m1.bl) (keyB m1.ep b) = bxs m1.ep (m1.bl.filter fun c => decide (c.s ≠ b.s)) := out_bxs one
      obtain ⟨H3, hH3⟩ : ∃ H3, H3 = upd H2 m1.bD (L2.NO a.wd m1.bD (L2.outN (bxs m1.ep m1.bl) (keyB m1.ep b))) := ⟨_, rfl⟩
      have k3 : ∀ c o, H2 c = some o → c ≠ m1.bD → H3 c = some o := fun c o e n => by rw [hH3, upd_ne n]; exact e
      have b3 : H3 m1.bD = some (L2.NO a.wd m1.bD (bxs m1.ep (m1.bl.filter fun c => decide (c.s ≠ b.s)))) := by rw [hH3, upd_same, ob]
      have tup3 : ∀ c ys, H2 c = some (.tup ys) → H3 c = some (.tup ys) := fun c ys e => k3 _ _ e (ne_of e st.hb (by intro z; cases z))
      have hS3 : H3 S = some (.ins a.c_Store m1.dx (sflds m1)) := k3 _ _ st.hS (ne_of st.hS st.hb (by intro z; cases z))
      have hM3 : H3 m1.mD = some (L2.NO a.wd m1.mD (mxs m1.ep m1.bl)) := k3 _ _ st.hM st.bm.symm
      have mk3 := st.mkeys.at tup3
      have nk3 := NK.at tup3 _ _ nk2
      have ebl : m1.with (m1.bl.filter fun c => decide (c.s ≠ b.s)) = m.with (m.bl.filter fun c => decide (c.s ∉ (gs.take (i + 1)).map (·.s))) := by
        rw [hm1]
        show m.with (List.filter _ (List.filter _ m.bl)) = _
        rw [List.filter_filter]
        congr 1
        refine List.filter_congr fun c _ => ?_
        rw [take_snoc hb, List.map_append]
        by_cases c1 : c.s = b.s
        · simp [c1]
        · simp [c1]
      subst hH3
      refine ⟨_, rfl, _, rfl, S, _, m1.dx, _, _, rfl, hS3, T.cl_Store, T.na_Store_memory, sf_memory m1, m1.mD, b.T, _, keyB m1.ep b, rfl, .inl hM3, mk3, rfl, nk3, keyB_depth _ _, _, rfl, ?_⟩
      by_cases zm : b.mem = true
      · rw [st.mem mb1 zm]
        refine iteT ⟨_, rfl, S, _, m1.dx, _, _, rfl, hS3, T.cl_Store, T.na_Store_memory, sf_memory m1, _, rfl, m1.mD, b.T, _, keyB m1.ep b, rfl, hM3, mk3, rfl, nk3, keyB_depth _ _, by rw [st.mem mb1 zm]; rfl, ?_⟩
        have om : L2.outN (mxs m1.ep m1.bl) (keyB m1.ep b) = mxs m1.ep (m1.bl.filter fun c => decide (c.s ≠ b.s)) := out_mxs one
        refine ⟨_, _, _, rfl, ?_, fun x o ex n => ?_⟩
        · rw [← ebl]
          refine st.drop (b := b) ?_ ?_ fun x o e n1 n2 => ?_
          · exact (upd_ne st.bm).trans b3
          · refine upd_same.trans ?_
            rw [om]
            rfl
          · exact (upd_ne n2).trans (k3 _ _ e n1)
        · exact (upd_ne (nst n).2.2).trans (k3 _ _ (fr2 x o ex n) (nst n).2.1)
      · have zm : b.mem = false := by simpa using zm
        rw [st.nomem mb1 zm]
        refine iteF ⟨_, _, _, rfl, ?_, fun x o ex n => k3 _ _ (fr2 x o ex n) (nst n).2.1⟩
        rw [← ebl]
        exact st.drop (b := b) b3 (by rw [mxs_less one zm]; exact hM3) fun x o e n1 _ => k3 _ _ e n1
    rintro σ H1 ⟨v2, v3, v4, rfl, h1, fr⟩
    rw [List.length_map, List.take_length] at h1
    exact k H1 h1 fr
theorem sc_Store_commit : FnScope ["self", "live", "kept", "requests", "pointer", "words", "epoch", "serial", "_", "places", "disk"] ["self", "live"] (defScope s_Store_commit) := ⟨rfl, rfl, rfl, by decide +kernel, rfl, by decide +kernel, by decide +kernel⟩
theorem ok_Store_commit (T : Txt w K mg a) : FnOk P w K mg base CX0 10 a.f_Store_commit a.d_Store_commit ["self", "live"] (sp_Store_commit K a) := by
  refine T.F_Store_commit.ok sc_Store_commit (fun vs H Q E h => ?len) (fun cdv A outer s H vs Q E hr h => ?body)
  case len =>
    exact sp_Store_commit_len h
  case body =>
    obtain ⟨S, LV, m, ls, ims, rfl, h, hL, hls, l100, l50, r1000, hI, i100, d1, ep, mk, l8, hw8, k⟩ := h
    have hw := T.hw
    subst hw
    refine ⟨_, (pss_cons (ps_set (i := 2) sc_Store_commit.nd rfl (Or.inr rfl) (pe_nc (mine := [("pointer", 4)]) (g := (gName 4)) hr.units (by rfl) sc_Store_commit.nd (pi_list (pv 1)) (blkOk_by (own := [("pointer", 4)]) (N := ["self", "live", "kept", "requests", "pointer", "words", "epoch", "serial", "_", "places", "disk"]) (sc := defScope s_Store_commit) (by decide +kernel))
      (fun _ _ _ _ _ => (pg_name (i := 4) sc_Store_commit.nd rfl (Or.inl rfl))) (fun _ _ _ _ _ => pts_nil) (fun _ _ _ _ _ => (pv 4)) (fun _ _ _ _ _ => pe_bl)))
      (pss_cons (ps_set (i := 3) sc_Store_commit.nd rfl (Or.inl rfl) (pe_lst pa_nil))
      (pss_cons (ps_lock (ps_for PassesOwn.never rfl (by exact pi_nitems (pe_fld (pv 0) rfl) : PI _ _ _ (iNItems _ _)) (pg_tup rfl (pgs_cons (pg_name (i := 4) sc_Store_commit.nd rfl (Or.inl rfl)) (pgs_cons (pg_name (i := 5) sc_Store_commit.nd rfl (Or.inl rfl)) pgs_nil)))
      (pss_one (ps_if (pt_cmp (pc_nin hr.units (pv 4) (pv 2)))
      (pss_cons (ps_asg (pv 4) (pg_tup rfl (pgs_cons (pg_name (i := 6) sc_Store_commit.nd rfl (Or.inl rfl)) (pgs_cons (pg_name (i := 7) sc_Store_commit.nd rfl (Or.inl rfl)) (pgs_cons (pg_name (i := 8) sc_Store_commit.nd rfl (Or.inl rfl)) (pgs_cons (pg_name (i := 9) sc_Store_commit.nd rfl (Or.inl rfl)) pgs_nil))))))
      (pss_one (ps_expr (pe_bm PySem.F.plainAttrs_list PySem.F.slot_list_extend PySem.F.type_list_extend mt_extend (pv 3) (pa_cons (pe_call (ok_write_stripe T) (hr.mono (by decide)) rfl T.g_write_stripe T.F_write_stripe.kp T.d_write_stripe .nil passL (pa_cons (pe_fld (pv 0) rfl) (pa_cons (pv 9) (pa_cons (pe_tup (pa_cons (pv 6) (pa_cons (pv 7) pa_nil))) (pa_cons (pv 5) (pa_cons (pe_fld (pv 0) rfl) pa_nil)))))) pa_nil)))))
      pss_nil))))
      (Evl.pss_cut (ps_expr (pe_bm PySem.F.plainAttrs_list PySem.F.slot_list_append PySem.F.type_list_append mt_append (pv 3) (pa_cons (pe_tup (pa_cons pe_str pa_nil)) pa_nil)))
      (Evl.pss_cut (ps_expr (pe_meth (pv 0) T.cl_Store T.m_Store_forget (ok_Store_forget T) (hr.mono (by decide)) T.d_Store_forget .nil pass0 (pa_cons (pe_lock (pe_lc (own := [("pointer", 4)]) (g := (gName 4)) (by rfl) sc_Store_commit.nd (by exact pi_nkeys (pe_fld (pv 0) rfl) : PI _ _ _ (iNKeys _ _)) (blkOk_by (own := [("pointer", 4)]) (N := ["self", "live", "kept", "requests", "pointer", "words", "epoch", "serial", "_", "places", "disk"]) (sc := defScope s_Store_commit) (by decide +kernel))
      (fun _ _ _ _ _ => (pg_name (i := 4) sc_Store_commit.nd rfl (Or.inl rfl))) (fun _ _ _ _ _ => (pts_one (pt_cmp (by exact (pc_nnotin hr.units (pv 4) (pv 2)) : PC _ _ _ _ (tNNotIn a.wd _ _))))) (fun _ _ _ _ _ => (pv 4)))) pa_nil)))
      (Evl.pss_cut (ps_fld (pv 0) pe_nnew rfl)
      (pss_cons (ps_for PassesOwn.never rfl (pi_list (pe_fld (pv 0) rfl)) (pg_name (i := 10) sc_Store_commit.nd rfl (Or.inl rfl))
      (pss_one (ps_expr (pe_meth0 (pe_dget (hu_of hr) (pe_fld (pv 0) rfl) (pv 10) (fun _ _ => rfl)) T.cl_Space T.m_Space_settle (ok_Space_settle T) (hr.mono (by decide)) T.d_Space_settle .nil pass0))))
      (pss_one (ps_ret (pv 3)))))))))), ?_⟩
    refine ⟨_, rfl, LV, rfl, ⟨_, hL⟩, fun Kp nK => nc_it (walk_list (K := K) (a := LV) (xs := ls.map fun b => V.ref b.T)) (fun i H' => Same H H' ∧ ∃ kx : List L2.NE, H' Kp = some (L2.NO a.wd Kp kx) ∧ kx.length ≤ i ∧ L2.NKeys H' kx ∧ ∀ q, (L2.atN kx q).isSome = true ↔ ∃ b ∈ ls.take i, keyB m.ep b = q) ⟨Same.new nK, [], upd_same, Nat.le_refl _, fun _ m => (nomatch m), fun q => by simp [L2.atN]⟩ (fun i H' _ q => q.1.seq hL) ?_ ?_⟩
    · rintro i y H1 H2 hi ⟨s1, kx, d1, l1, k1, q1⟩ ⟨rfl, hy⟩
      obtain ⟨b, hb, rfl⟩ : ∃ b, ls[i]? = some b ∧ y = V.ref b.T := by
        rw [List.getElem?_map] at hy
        cases z : ls[i]? with
        | none => rw [z] at hy; cases hy
        | some b => rw [z] at hy; exact ⟨b, rfl, (Option.some.inj hy).symm⟩
      have mb := hls b (List.mem_of_getElem? hb)
      have nk := ((h.same s1).blk b mb).nk
      have il := item_lt hb
      refine ⟨rfl, _, rfl, b.T, kx, keyB m.ep b, rfl, d1, k1, nk, keyB_depth _ _, fix_bl _, small _ (by omega), same_put s1 nK, L2.putN kx (keyB m.ep b) b.T (.bl true), upd_same, by have := putN_len kx (keyB m.ep b) b.T (.bl true); omega, ?_, fun q => ?_⟩
      · refine (k1.put nk (keyB_depth _ _)).at fun c ys e => ?_
        rw [upd_ne (ne_of e d1 (by intro z; cases z))]
        exact e
      · rw [putN_iff, q1, take_snoc hb]
        constructor
        · rintro (z | ⟨c, mc, z⟩)
          · exact ⟨b, by simp, z.symm⟩
          · exact ⟨c, List.mem_append_left _ mc, z⟩
        · rintro ⟨c, mc, z⟩
          rcases List.mem_append.mp mc with mc | mc
          · exact .inr ⟨c, mc, z⟩
          · rw [List.mem_singleton.mp mc] at z
            exact .inl z.symm
    rintro H1 ⟨s1, kx, dK1, _, k1, q1⟩
    rw [List.length_map, List.take_length] at q1
    have inK : ∀ b ∈ m.bl, ((L2.atN kx (keyB m.ep b)).isSome = true ↔ b.s ∈ ls.map (·.s)) := fun b mb => by
      rw [q1]
      constructor
      · rintro ⟨c, mc, z⟩
        exact List.mem_map.mpr ⟨c, mc, keyB_inj z⟩
      · intro z
        obtain ⟨c, mc, e⟩ := List.mem_map.mp z
        exact ⟨c, mc, by rw [h.ser_one (hls c mc) mb e]⟩
    have h1 := h.same s1
    refine ⟨Nat.zero_le _, fun R nR => ?_⟩
    have h2 := h1.same (Same.new (o := .lst []) nR)
    have s2 := s1.trans (Same.new (o := .lst []) nR)
    have dR2 : upd H1 R (.lst []) R = some (.lst []) := upd_same
    have dK2 : upd H1 R (.lst []) Kp = some (L2.NO a.wd Kp kx) := Same.new nR _ _ dK1
    have k2 := k1.same (Same.new (o := .lst []) nR)
    have nR0 := same_none s1 nR
    have RK : R ≠ Kp := (ne_of_none dK1 nR).symm
    generalize upd H1 R (.lst []) = H2 at h2 s2 dR2 dK2 k2 ⊢
    clear h1 s1 dK1 k1 nR
    -- the stripes
    refine ⟨m.mD, _, h2.hM, True.intro, fun od => ?_⟩
    obtain ⟨HL, hHL⟩ : ∃ HL, HL = upd H2 m.mD (.frz od (L2.NO a.wd m.mD (mxs m.ep m.bl))) := ⟨_, rfl⟩
    have eL : ∀ x, x ≠ m.mD → HL x = H2 x := fun x n => by rw [hHL, upd_ne n]
    have fL : HL m.mD = some (.frz od (L2.NO a.wd m.mD (mxs m.ep m.bl))) := by rw [hHL]; exact upd_same
    have KD : Kp ≠ m.mD := by
      intro z
      have := s2 _ _ h.hM
      obtain ⟨_, e⟩ := h.there (StR.md (S := S) (m := m))
      rw [z, e] at nK
      cases nK
    have RD : R ≠ m.mD := ne_of dR2 h2.hM (by intro z; cases z)
    have SD : S ≠ m.mD := ne_of h2.hS h2.hM (by intro z; cases z)
    have up : ∀ {H' : Hp}, (∀ x o, HL x = some o → x ≠ R → H' x = some o) → ∀ x o, H x = some o → x ≠ m.mD → H' x = some o := fun fr x o e n => fr _ _ (by rw [eL x n]; exact s2 _ _ e) (ne_of_none e nR0)
    obtain ⟨mb, hmb⟩ : ∃ mb, mb = m.bl.filter fun b => b.mem := ⟨_, rfl⟩
    have lmb : (mxs m.ep m.bl).length = mb.length := by unfold mxs mx0; rw [List.length_map, hmb]
    have mb50 : mb.length ≤ 50 := by rw [hmb]; exact Nat.le_trans (List.length_filter_le _ _) l50
    subst hHL
    refine ⟨_, rfl, S, _, m.dx, _, _, rfl, (eL S SD).trans h2.hS, T.cl_Store, T.na_Store_memory, sf_memory m, m.mD, od, mxs m.ep m.bl, rfl, fL, for_it (walk_nitems (w := a.wd) (d := m.mD) (o := od) (xs := mxs m.ep m.bl)) (fun i σ H' => ∃ (v4 v5 v6 v7 v8 v9 : Option V) (Lq : List Rq), σ = [some (.ref S), some (.ref LV), some (.ref Kp), some (.ref R), v4, v5, v6, v7, v8, v9, none] ∧ (∀ x o, upd H2 m.mD (.frz od (L2.NO a.wd m.mD (mxs m.ep m.bl))) x = some o → x ≠ R → H' x = some o) ∧ H' R = some (.lst (Lq.map rqV)) ∧ Lq.length ≤ 8 * i ∧ Lq.map rqM = ((mb.take i).filter fun b => decide (b.s ∈ ls.map (·.s))).flatMap (comB ims m) ∧ ∀ e ∈ Lq, RqN H H' R e) ⟨none, none, none, none, none, none, [], rfl, fun _ _ e _ => e, (eL R RD).trans dR2, Nat.zero_le _, rfl, fun _ m => nomatch m⟩ (fun i σ H' _ ⟨_, _, _, _, _, _, _, _, fr, _⟩ => fr _ _ fL RD.symm) ?_ ?_⟩
    · rintro i y σ H3 H4 hi ⟨v4, v5, v6, v7, v8, v9, Lq, rfl, fr, dR3, lv, eq3, new3⟩ ⟨t, e, he, rfl, nt, rfl⟩
      obtain ⟨b, hb, rfl⟩ : ∃ b, mb[i]? = some b ∧ e = (keyB m.ep b, b.T, V.ref b.W) := by
        unfold mxs mx0 at he
        rw [← hmb, List.getElem?_map] at he
        cases z : mb[i]? with
        | none => rw [z] at he; cases he
        | some b => rw [z] at he; exact ⟨b, rfl, (Option.some.inj he).symm⟩
      have mbb : b ∈ m.bl ∧ b.mem = true := by
        have := List.mem_of_getElem? hb
        rw [hmb] at this
        exact ⟨(List.mem_filter.mp this).1, (List.mem_filter.mp this).2⟩
      have sT := Same.new (o := .tup [V.ref b.T, V.ref b.W]) nt
      have dt : upd H3 t (.tup [V.ref b.T, V.ref b.W]) t = some (.tup [V.ref b.T, V.ref b.W]) := upd_same
      have fr4 : ∀ x o, upd H2 m.mD (.frz od (L2.NO a.wd m.mD (mxs m.ep m.bl))) x = some o → x ≠ R → upd H3 t (.tup [V.ref b.T, V.ref b.W]) x = some o := fun x o e n => sT _ _ (fr x o e n)
      have dR4 := sT _ _ dR3
      have new4 : ∀ e ∈ Lq, RqN H (upd H3 t (.tup [V.ref b.T, V.ref b.W])) R e := fun e me => (new3 e me).same sT
      generalize upd H3 t (.tup [V.ref b.T, V.ref b.W]) = H4 at dt fr4 dR4 new4 ⊢
      have up4 := up fr4
      have tup4 : ∀ c ys, H c = some (.tup ys) → H4 c = some (.tup ys) := fun c ys e => up4 c _ e (ne_of e h.hM (by intro z; cases z))
      have lst4 : ∀ c ys, H c = some (.lst ys) → H4 c = some (.lst ys) := fun c ys e => up4 c _ e (ne_of e h.hM (by intro z; cases z))
      have tup2 : ∀ c ys, H2 c = some (.tup ys) → H4 c = some (.tup ys) := fun c ys e => fr4 c _ ((eL c (ne_of e h2.hM (by intro z; cases z))).trans e) (ne_of e dR2 (by intro z; cases z))
      have bk := h.blk b mbb.1
      have nk4 : NK H4 (keyB m.ep b) (.ref b.T) := NK.at tup4 _ _ bk.nk
      have dK4 : H4 Kp = some (L2.NO a.wd Kp kx) := fr4 _ _ ((eL Kp KD).trans dK2) RK.symm
      have hS4 : H4 S = some (.ins a.c_Store m.dx (sflds m)) := up4 _ _ h.hS (ne_of h.hS h.hM (by intro z; cases z))
      refine ⟨t, _, rfl, SqT.of dt, rfl, _, _, rfl, _, _, rfl, rfl, ?_⟩
      refine ⟨_, rfl, _, rfl, Kp, b.T, kx, keyB m.ep b, rfl, .inl dK4, k2.at tup2, rfl, nk4, keyB_depth _ _, _, rfl, ite2 (fun c => ?_) (fun c => ⟨_, _, _, _, _, _, Lq, rfl, fr4, dR4, by omega, ?_, new4⟩)⟩
      rotate_left
      · have ns : b.s ∉ ls.map (·.s) := fun z => c ((inK b mbb.1).mpr z)
        rw [take_snoc hb, List.filter_append, List.flatMap_append, eq3]
        have e1 : List.filter (fun b : Blk => decide (b.s ∈ ls.map (·.s))) [b] = [] := by rw [List.filter_cons, if_neg (by rw [decide_eq_false ns]; exact Bool.false_ne_true)]; rfl
        rw [e1]
        simp
      refine ⟨_, rfl, b.T, _, rfl, SqT.of (tup4 _ _ bk.t), rfl, _, _, rfl, _, _, rfl, _, _, rfl, _, _, rfl, rfl, ?_⟩
      refine ⟨_, rfl, .inl ⟨rfl, _, SqL.of dR4⟩, _, rfl, S, _, m.dx, _, _, rfl, hS4, T.cl_Store, T.na_Store_images, sf_images m, _, rfl, _, rfl, _, rfl, by show 2 ≤ sizeLine; decide, fun st nst => ?_⟩
      have s5 := Same.new (o := .tup [V.int m.ep, V.int (b.s : Int)]) nst
      have dst : upd H4 st (.tup [V.int m.ep, V.int (b.s : Int)]) st = some (.tup [V.int m.ep, V.int (b.s : Int)]) := upd_same
      generalize upd H4 st (.tup [V.int m.ep, V.int (b.s : Int)]) = H5 at s5 dst ⊢
      have wl := h.width mbb.1
      have hw8' := hw8 b mbb.1 mbb.2
      have hser := h.ser b mbb.1
      have hI5 : SqL K H5 m.I (ims.map refI) := by
        rcases hI with (g | ⟨o, g⟩) | g
        · exact .inl (.inl (s5 _ _ (lst4 _ _ g)))
        · exact .inl (.inr ⟨o, s5 _ _ (up4 _ _ g (ne_of g h.hM (by intro z; cases z)))⟩)
        · exact .inr g
      · refine ⟨_, rfl, _, rfl, S, _, m.dx, _, _, rfl, s5 _ _ hS4, T.cl_Store, T.na_Store_data, sf_data m, m.I, b.PT, st, b.W, ims, b.L.map (·.2), m.ep, b.s, b.ws, m.data, rfl, hI5, i100, ⟨b.L, SqT.of (s5 _ _ (tup4 _ _ bk.pt)), rfl, fun e me => SqT.of (s5 _ _ (tup4 _ _ (bk.q e me)))⟩, fun q mq => ?_, SqT.of dst, ⟨ep, by omega, by omega⟩, SqL.of (s5 _ _ (lst4 _ _ (bk.w mbb.2))), d1, by rw [List.length_map]; exact hw8'.2, by rw [List.length_map]; omega, .inl hw8'.1, fun z => by omega, fun _ D L H6 s6 nD W6 e6 nL6 => ?_⟩
        · obtain ⟨e, me, rfl⟩ := List.mem_map.mp mq
          obtain ⟨r1, r2⟩ := h.row b mbb.1 e me
          have r3 := h.m0 _ r1
          omega
        have lL : L.length ≤ 8 := by
          have h1 : L.length = _ := (List.length_map rqM).symm.trans (congrArg List.length e6)
          have h3 := Nat.le_trans (Nat.le_of_eq h1) (req_len ims (b.L.map (·.2)) m.ep b.s (stripeM b.ws m.data (b.L.map (·.2)).length) (List.range (b.L.map (·.2)).length))
          rw [List.length_range, List.length_map] at h3
          omega
        refine ⟨R, D, _, _, rfl, rfl, s6 _ _ (s5 _ _ dR4), W6.1, Nat.le_of_lt (small _ (by simp only [List.length_map]; omega)), _, _, _, _, _, _, Lq ++ L, rfl, fun x o e n => ?_, by rw [upd_same, List.map_append], by rw [List.length_append]; omega, ?_, fun e me => ?_⟩
        · rw [upd_ne n]
          exact s6 _ _ (s5 _ _ (fr4 x o e n))
        · have is : b.s ∈ ls.map (·.s) := (inK b mbb.1).mp c
          rw [take_snoc hb, List.filter_append, List.flatMap_append, List.map_append, eq3, e6]
          have e1 : List.filter (fun b : Blk => decide (b.s ∈ ls.map (·.s))) [b] = [b] := by rw [List.filter_cons, if_pos (decide_eq_true is)]; rfl
          rw [e1]
          have e2 : (b.L.map (·.2)).length = b.L.length := List.length_map _
          rw [e2, List.flatMap_cons, List.flatMap_nil, List.append_nil]
          rfl
        · rcases List.mem_append.mp me with me | me
          · exact (((new4 e me).same s5).same s6).put
          · have w := W6.2 e me
            have n1 := nL6 e me
            have lo : ∀ x, H5 x = none → H x = none := fun x n => by
              cases q : H x with
              | none => rfl
              | some o =>
                by_cases c : x = m.mD
                · have := s5 _ _ (fr4 _ _ fL RD.symm)
                  rw [c, this] at n
                  cases n
                · rw [s5 _ _ (up4 x o q c)] at n
                  cases n
            have dR5 := s5 _ _ dR4
            exact RqN.put ⟨w.1.1, w.2.1, lo _ n1.1, lo _ n1.2, (ne_of_none dR5 n1.1).symm, (ne_of_none dR5 n1.2).symm⟩
    rintro σ H3 ⟨v4, v5, v6, v7, v8, v9, Lq, rfl, fr, dR3, lv, eq3, new3⟩
    rw [lmb, List.take_length] at eq3
    refine ⟨fr _ _ fL RD.symm, ?_⟩
    have fr7 : ∀ x o, H2 x = some o → x ≠ R → upd H3 m.mD (L2.NO a.wd m.mD (mxs m.ep m.bl)) x = some o := fun x o e n => by
      by_cases c : x = m.mD
      · rw [c, upd_same]
        rw [c, h2.hM] at e
        exact e
      · rw [upd_ne c]
        exact fr _ _ ((eL x c).trans e) n
    have dR7 : upd H3 m.mD (L2.NO a.wd m.mD (mxs m.ep m.bl)) R = some (.lst (Lq.map rqV)) := by rw [upd_ne RD]; exact dR3
    have new7 : ∀ e ∈ Lq, RqN H (upd H3 m.mD (L2.NO a.wd m.mD (mxs m.ep m.bl))) R e := fun e me => (new3 e me).off h.hM
    have lv : Lq.length ≤ 400 := by rw [lmb] at lv; omega
    have h7 : Stor a (upd H3 m.mD (L2.NO a.wd m.mD (mxs m.ep m.bl))) S m := h.keep fun b o e r => fr7 _ _ (s2 _ _ e) (ne_of_none e nR0)
    have f7 : ∀ x o, H x = some o → upd H3 m.mD (L2.NO a.wd m.mD (mxs m.ep m.bl)) x = some o := fun x o e => fr7 _ _ (s2 _ _ e) (ne_of_none e nR0)
    have dK7 := fr7 _ _ dK2 RK.symm
    have k7 : L2.NKeys (upd H3 m.mD (L2.NO a.wd m.mD (mxs m.ep m.bl))) kx := k2.at fun c ys e => fr7 _ _ e (ne_of e dR2 (by intro z; cases z))
    clear fr eL fL dR3 up fr7 dR2 dK2 k2 h2 s2
    -- flush
    refine ⟨fun σ H' => σ = [some (.ref S), some (.ref LV), some (.ref Kp), some (.ref R), v4, v5, v6, v7, v8, v9, none] ∧ (∀ x o, H x = some o → H' x = some o) ∧ Stor a H' S m ∧ H' Kp = some (L2.NO a.wd Kp kx) ∧ L2.NKeys H' kx ∧ ∃ F, WFl H' R F Lq ∧ H F = none, ?_, ?_⟩
    · refine ⟨_, rfl, .inl ⟨rfl, _, SqL.of dR7⟩, by show 1 ≤ sizeLine; decide, fun t nt => ⟨R, _, _, rfl, rfl, Same.new nt _ _ dR7, small _ (by rw [List.length_map]; omega), ?_⟩⟩
      have s8 := Same.new (o := .tup [V.str "flush"]) nt
      refine ⟨rfl, fun x o e => (upd_ne (ne_of_none e nR0)).trans (s8 _ _ (f7 _ _ e)), (h7.same s8).put (h.fresh nR0), (upd_ne RK.symm).trans (s8 _ _ dK7), (k7.same s8).at fun c ys e => (upd_ne (ne_of e (s8 _ _ dR7) (by intro z; cases z))).trans e, t, ⟨upd_same, (upd_ne (ne_of_none dR7 nt).symm).trans upd_same, fun e me => ?_, fun e me => ?_, fun e me => ⟨(new7 e me).tR, (new7 e me).sR⟩⟩, same_none f7 nt⟩
      · exact (upd_ne (new7 e me).tR).trans (s8 _ _ (new7 e me).t)
      · exact (upd_ne (new7 e me).sR).trans (s8 _ _ (new7 e me).s)
    rintro σ H4 ⟨rfl, f4, h4, dK4, k4, F, wf4, nF⟩
    have nw : ∀ e ∈ Lq, H e.t = none ∧ H e.s = none := fun e me => ⟨(new7 e me).nt, (new7 e me).ns⟩
    clear h7 f7 dK7 k7 dR7 lv new7 new3
    obtain ⟨p, hp⟩ : ∃ p : Blk → Bool, p = fun b => decide (b.s ∈ ls.map (·.s)) := ⟨_, rfl⟩
    -- forget
    refine ⟨fun σ H' => ∃ v4 : Option V, σ = [some (.ref S), some (.ref LV), some (.ref Kp), some (.ref R), v4, v5, v6, v7, v8, v9, none] ∧ StorP a H' S (m.with (m.bl.filter p)) (giveF (phiM m.bl) (plcs (m.bl.filter fun b => !p b))) ∧ (∀ x o, H4 x = some o → ¬ StR S m x → H' x = some o), ?_, ?_⟩
    · refine ⟨_, rfl, S, m.dx, _, rfl, h4.hS, by kernel_rfl, m.bD, _, h4.hb, True.intro, fun od => ?_⟩
      obtain ⟨HL, hHL⟩ : ∃ HL, HL = upd H4 m.bD (.frz od (L2.NO a.wd m.bD (bxs m.ep m.bl))) := ⟨_, rfl⟩
      have eL : ∀ b, b ≠ m.bD → HL b = H4 b := fun b n => by rw [hHL, upd_ne n]
      have fL : HL m.bD = some (.frz od (L2.NO a.wd m.bD (bxs m.ep m.bl))) := by rw [hHL]; exact upd_same
      have SD : S ≠ m.bD := ne_of h4.hS h4.hb (by intro z; cases z)
      have KD : Kp ≠ m.bD := by
        intro z
        obtain ⟨_, e⟩ := h.there (StR.bd (S := S) (m := m))
        rw [z, e] at nK
        cases nK
      have dKL : HL Kp = some (L2.NO a.wd Kp kx) := (eL _ KD).trans dK4
      have tupL : ∀ c ys, H4 c = some (.tup ys) → HL c = some (.tup ys) := fun c ys e => (eL _ (ne_of e h4.hb (by intro z; cases z))).trans e
      subst hHL
      refine ⟨_, rfl, S, _, m.dx, _, _, rfl, (eL _ SD).trans h4.hS, T.cl_Store, T.na_Store_blocks, sf_blocks m, m.bD, od, bxs m.ep m.bl, rfl, fL, fun P nP => lc_it (walk_nkeys (w := a.wd) (d := m.bD) (o := od) (xs := bxs m.ep m.bl)) (fun i H' => Same (upd H4 m.bD (.frz od (L2.NO a.wd m.bD (bxs m.ep m.bl)))) H' ∧ H' P = some (.lst (((m.bl.take i).filter fun b => !p b).map fun b => V.ref b.T))) ⟨Same.new nP, upd_same⟩ (fun i H' _ q => q.1 _ _ fL) ?_ ?_⟩
      · rintro i y H5 H6 hi ⟨s5, d5⟩ ⟨rfl, e, he, rfl⟩
        obtain ⟨b, hb, rfl⟩ : ∃ b, m.bl[i]? = some b ∧ e = (keyB m.ep b, b.T, V.bl true) := by
          unfold bxs at he
          rw [List.getElem?_map] at he
          cases z : m.bl[i]? with
          | none => rw [z] at he; cases he
          | some b => rw [z] at he; exact ⟨b, rfl, (Option.some.inj he).symm⟩
        have mbb := List.mem_of_getElem? hb
        have il := item_lt hb
        have nk : NK H6 (keyB m.ep b) (.ref b.T) := NK.at (fun c ys e => s5 _ _ (tupL c ys e)) _ _ (h4.blk b mbb).nk
        refine ⟨rfl, _, rfl, _, rfl, Kp, b.T, kx, keyB m.ep b, rfl, .inl (s5 _ _ dKL), k4.at fun c ys e => s5 _ _ (tupL c ys e), rfl, nk, keyB_depth _ _, _, rfl, ?_⟩
        have lt : ((m.bl.take i).filter fun b => !p b).length ≤ i := Nat.le_trans (List.length_filter_le _ _) (by rw [List.length_take]; omega)
        have e0 := inK b mbb
        by_cases c : b.s ∈ ls.map (·.s)
        · rw [e0.mpr c]
          refine iteF ⟨s5, ?_⟩
          rw [take_snoc hb, List.filter_append]
          have e1 : List.filter (fun b : Blk => !p b) [b] = [] := by rw [List.filter_cons, if_neg (by rw [hp]; simpa using c)]; rfl
          rw [e1, List.append_nil]
          exact d5
        · have z : (L2.atN kx (keyB m.ep b)).isSome = false := Bool.eq_false_iff.mpr fun z => c (e0.mp z)
          rw [z]
          refine iteT ⟨_, rfl, _, d5, small _ (by rw [List.length_map]; omega), same_put s5 nP, ?_⟩
          rw [take_snoc hb, List.filter_append, upd_same]
          have e1 : List.filter (fun b : Blk => !p b) [b] = [b] := by rw [List.filter_cons, if_pos (by rw [hp]; simpa using c)]; rfl
          rw [e1, List.map_append]
          rfl
      rintro H5 ⟨s5, d5⟩
      have lx : (bxs m.ep m.bl).length = m.bl.length := List.length_map _
      rw [lx, List.take_length] at d5
      have PD : P ≠ m.bD := (ne_of_none fL nP).symm
      have nP4 : H4 P = none := (eL _ PD).symm.trans nP
      refine ⟨s5 _ _ fL, ?_⟩
      have s6 : Same H4 (upd H5 m.bD (L2.NO a.wd m.bD (bxs m.ep m.bl))) := fun b o e => by
        by_cases c : b = m.bD
        · rw [c, upd_same]
          rw [c, h4.hb] at e
          exact e
        · rw [upd_ne c]
          exact s5 _ _ ((eL _ c).trans e)
      have d6 : upd H5 m.bD (L2.NO a.wd m.bD (bxs m.ep m.bl)) P = some (.lst ((m.bl.filter fun b => !p b).map fun b => V.ref b.T)) := by rw [upd_ne PD]; exact d5
      refine ⟨S, P, m, m.bl.filter fun b => !p b, phiM m.bl, rfl, h4.same s6, SqL.of d6, h4.fresh nP4, List.filter_sublist, l50, r1000, fun b mbb q mq => ?_, fun H7 st fr7 => ⟨_, rfl, ?_, fun x o e n => fr7 x o (s6 _ _ e) n⟩⟩
      · rw [h.phi (List.mem_filter.mp mbb).1 mq]
        unfold codeM
        split <;> simp
      have eq : (m.bl.filter fun b => decide (b.s ∉ (m.bl.filter fun b => !p b).map (·.s))) = m.bl.filter p := List.filter_congr fun b mbb => by
        have : b.s ∈ (m.bl.filter fun b => !p b).map (·.s) ↔ p b = false := by
          rw [List.mem_map]
          constructor
          · rintro ⟨c, mc, e⟩
            have e2 := h.ser_one (List.mem_filter.mp mc).1 mbb e
            rw [← e2]
            simpa using (List.mem_filter.mp mc).2
          · exact fun z => ⟨b, List.mem_filter.mpr ⟨mbb, by rw [z]; rfl⟩, rfl⟩
        by_cases c : p b = true
        · have n1 : b.s ∉ (m.bl.filter fun b => !p b).map (·.s) := fun z => by rw [this.mp z] at c; cases c
          rw [c, decide_eq_true n1]
        · have c : p b = false := by simpa using c
          have n1 : ¬ b.s ∉ (m.bl.filter fun b => !p b).map (·.s) := fun z => z (this.mpr c)
          rw [c, decide_eq_false n1]
      rw [← eq]
      exact st
    rintro σ H5 ⟨v4, rfl, h5, f5⟩
    clear h4 dK4 k4
    obtain ⟨ψ, hψ⟩ : ∃ ψ, ψ = giveF (phiM m.bl) (plcs (m.bl.filter fun b => !p b)) := ⟨_, rfl⟩
    rw [← hψ] at h5
    have none5 : ∀ x, H5 x = none → StR S m x ∨ H4 x = none := fun x n => Classical.byContradiction fun z => by
      cases e : H4 x with
      | none => exact z (.inr e)
      | some o => rw [f5 x o e fun r => z (.inl r)] at n; cases n
    -- nothing in memory
    refine ⟨fun σ H' => ∃ N : Addr, σ = [some (.ref S), some (.ref LV), some (.ref Kp), some (.ref R), v4, v5, v6, v7, v8, v9, none] ∧ StorP a H' S ((m.with (m.bl.filter p)).clear N) ψ ∧ (∀ x o, H4 x = some o → ¬ StR S m x → H' x = some o) ∧ (StR S m N ∨ H4 N = none) ∧ ∀ x, H' x = none → StR S m x ∨ H4 x = none, ?_, ?_⟩
    · refine fun N nN => ?_
      have NS : N ≠ S := (ne_of_none h5.hS nN).symm
      have e5 : putF "_memory" (.ref N) (sflds (m.with (m.bl.filter p))) = sflds { (m.with (m.bl.filter p)) with mD := N } := sf_set_memory _ N
      refine ⟨_, rfl, S, _, m.dx, _, rfl, (upd_ne NS.symm).trans h5.hS, T.cl_Store, T.na_Store_memory, (by show 10 < 1000; decide), ?_⟩
      have k6 : ∀ (u1 u2 : HO) x o, H5 x = some o → x ≠ S → upd (upd H5 N u1) S u2 x = some o := fun u1 u2 x o e n => by
        rw [upd_ne n, upd_ne (ne_of_none e nN)]
        exact e
      have f6 : ∀ (u1 u2 : HO) x o, H4 x = some o → ¬ StR S m x → upd (upd H5 N u1) S u2 x = some o := fun u1 u2 x o e n => k6 u1 u2 x o (f5 x o e n) fun z => n (by rw [z]; exact .s)
      refine ⟨N, rfl, ?_, f6 _ _, none5 N nN, fun x nx => ?_⟩
      · refine h5.forgotten nN ?_ ((upd_ne NS).trans upd_same) (k6 _ _)
        refine upd_same.trans ?_
        rw [← e5]
        rfl
      · refine Classical.byContradiction fun z => ?_
        cases e : H4 x with
        | none => exact z (.inr e)
        | some o => rw [f6 _ _ x o e fun r => z (.inl r)] at nx; cases nx
    clear f5 h5 none5
    rintro σ H6 ⟨N, rfl, h6, f6, upN, none6⟩
    obtain ⟨m3, hm3⟩ : ∃ m3, m3 = (m.with (m.bl.filter p)).clear N := ⟨_, rfl⟩
    rw [← hm3] at h6
    have up3 : ∀ x, StR S m3 x → StR S m x ∨ H4 x = none := fun x r => by
      rw [hm3] at r
      cases r with
      | s => exact .inl .s
      | ml => exact .inl .ml
      | spd => exact .inl .spd
      | bd => exact .inl .bd
      | md => exact upN
      | s1 d md => exact .inl (.s1 d md)
      | s2 d md => exact .inl (.s2 d md)
      | t b mb =>
        obtain ⟨c, mc, rfl⟩ := List.mem_map.mp mb
        exact .inl (.t c (List.mem_filter.mp mc).1)
      | pt b mb =>
        obtain ⟨c, mc, rfl⟩ := List.mem_map.mp mb
        exact .inl (.pt c (List.mem_filter.mp mc).1)
      | w b mb z =>
        obtain ⟨c, mc, rfl⟩ := List.mem_map.mp mb
        cases z
      | q b e mb me =>
        obtain ⟨c, mc, rfl⟩ := List.mem_map.mp mb
        exact .inl (.q c e (List.mem_filter.mp mc).1 me)
    have ms3 : m3.ms = m.ms := by rw [hm3]; rfl
    have r3 : m3.rows = m.rows := by rw [hm3]; rfl
    have nodup : m.ms.Nodup := h.nd.imp fun h => Int.ne_of_lt h
    -- settle
    refine ⟨_, rfl, S, _, m3.dx, _, _, rfl, h6.hS, T.cl_Store, T.na_Store_members, sf_members m3, m3.mL, rfl, ⟨_, SqL.of h6.hm⟩, for_list (K := K) (a := m3.mL) (xs := m3.ms.map V.int) (fun i σ H' => ∃ (v10 : Option V) (sp : Int → Addr × Addr), σ = [some (.ref S), some (.ref LV), some (.ref Kp), some (.ref R), v4, v5, v6, v7, v8, v9, v10] ∧ StorP a H' S { m3 with sp := sp } (fun d => if d ∈ m.ms.take i then settF (ψ d) else ψ d) ∧ (∀ x o, H4 x = some o → ¬ StR S m x → H' x = some o) ∧ ∀ x, StR S { m3 with sp := sp } x → StR S m x ∨ H4 x = none) ⟨none, m3.sp, rfl, h6.psi fun d _ => by rw [List.take_zero, if_neg (by simp)], f6, up3⟩ (fun i σ H' _ ⟨_, _, _, st, _⟩ => SqL.of st.hm) ?_ ?_⟩
    · rintro i y σ H7 hy ⟨v10, sp, rfl, st, f7, up7⟩
      obtain ⟨d, hd, rfl⟩ := int_item hy
      have md := List.mem_of_getElem? hd
      rw [ms3] at hd
      have nd : d ∉ m.ms.take i := by
        have := new_place (A := []) (B := m.ms) nodup hd
        rwa [List.nil_append] at this
      obtain ⟨mx, hmx⟩ : ∃ mx : SM, mx = { m3 with sp := sp } := ⟨_, rfl⟩
      have mdx : d ∈ mx.ms := by rw [hmx]; exact md
      rw [← hmx] at st up7
      obtain ⟨dx', low, M, e1, _⟩ := id (st.sp d mdx)
      refine ⟨_, rfl, S, _, mx.dx, _, _, rfl, st.hS, T.cl_Store, T.na_Store_spaces, sf_spaces mx, _, rfl, mx.spd, _, rfl, st.spget mdx, (mx.sp d).1, dx', _, rfl, e1, rfl, (mx.sp d).1, (mx.sp d).2, 18, mx.rows, _, rfl, st.sp d mdx, by rw [hmx]; show m3.rows ≤ 1000; rw [r3]; exact r1000, fun e H8 ne sp8 fr8 => ?_⟩
      have st8 := st.resp mdx ne sp8 fr8
      have none7 : StR S m e ∨ H4 e = none := Classical.byContradiction fun z => by
        cases q : H4 e with
        | none => exact z (.inr q)
        | some o => rw [f7 e o q fun r => z (.inl r)] at ne; cases ne
      have ers : { m3 with sp := (mx.resp d e).sp } = mx.resp d e := by rw [hmx]; rfl
      refine ⟨_, (mx.resp d e).sp, rfl, ?_, fun x o ex n => ?_, fun x r => ?_⟩
      · rw [ers]
        refine st8.psi fun x mx' => ?_
        show (if x = d then settF (if d ∈ m.ms.take i then settF (ψ d) else ψ d) else if x ∈ m.ms.take i then settF (ψ x) else ψ x) = if x ∈ m.ms.take (i + 1) then settF (ψ x) else ψ x
        rw [take_snoc hd]
        by_cases c : x = d
        · subst c
          rw [if_pos rfl, if_neg nd, if_pos (by simp)]
        · rw [if_neg c]
          have : x ∈ m.ms.take i ++ [d] ↔ x ∈ m.ms.take i := by
            rw [List.mem_append, List.mem_singleton]
            exact ⟨fun z => z.elim id fun z => absurd z c, .inl⟩
          simp only [this]
      · have off : ∀ y, StR S mx y → x ≠ y := fun y ry z => by
          rw [← z] at ry
          rcases up7 x ry with u | u
          · exact n u
          · rw [u] at ex; cases ex
        exact fr8 _ _ (f7 x o ex n) (off _ (.s1 d mdx)) (off _ (.s2 d mdx))
      · rw [ers] at r
        cases r with
        | s => exact up7 _ .s
        | ml => exact up7 _ (.ml (m := mx))
        | spd => exact up7 _ (.spd (m := mx))
        | bd => exact up7 _ (.bd (m := mx))
        | md => exact up7 _ (.md (m := mx))
        | s1 y my =>
          have := up7 _ (.s1 (m := mx) y my)
          show StR S m (if y = d then ((mx.sp d).1, e) else mx.sp y).1 ∨ H4 (if y = d then ((mx.sp d).1, e) else mx.sp y).1 = none
          by_cases c : y = d
          · rw [if_pos c]
            rw [c] at this
            exact this
          · rw [if_neg c]
            exact this
        | s2 y my =>
          have := up7 _ (.s2 (m := mx) y my)
          show StR S m (if y = d then ((mx.sp d).1, e) else mx.sp y).2 ∨ H4 (if y = d then ((mx.sp d).1, e) else mx.sp y).2 = none
          by_cases c : y = d
          · rw [if_pos c]
            exact none7
          · rw [if_neg c]
            exact this
        | t b mb => exact up7 _ (.t (m := mx) b mb)
        | pt b mb => exact up7 _ (.pt (m := mx) b mb)
        | w b mb z => exact up7 _ (.w (m := mx) b mb z)
        | q b e mb me => exact up7 _ (.q (m := mx) b e mb me)
    rintro σ H7 ⟨v10, sp, rfl, st, f7, up7⟩
    replace st := st.psi (ψ' := fun d => if d ∈ m.ms then settF (ψ d) else ψ d) fun d _ => by rw [List.length_map, ms3, List.take_length]
    have out : ∀ x, x = R ∨ x = F ∨ (∃ e ∈ Lq, x = e.t ∨ x = e.s) → H x = none ∧ ∃ o, H4 x = some o := fun x hx => by
      rcases hx with rfl | rfl | ⟨e, me, rfl | rfl⟩
      · exact ⟨nR0, _, wf4.d⟩
      · exact ⟨nF, _, wf4.f⟩
      · exact ⟨(nw e me).1, _, wf4.t e me⟩
      · exact ⟨(nw e me).2, _, wf4.s e me⟩
    have kp : ∀ x o, x = R ∨ x = F ∨ (∃ e ∈ Lq, x = e.t ∨ x = e.s) → H4 x = some o → H7 x = some o := fun x o hx e => f7 x o e (h.fresh (out x hx).1)
    refine ⟨_, rfl, k R F Lq { m3 with sp := sp } H7 (st.psi fun d md => ?_) ⟨by rw [hm3]; rfl, by rw [hm3]; rfl, by rw [hm3]; rfl, by rw [hm3]; rfl, by rw [hm3]; rfl, by rw [hm3]; rfl⟩ ms3 (by rw [hm3, hp]; rfl) (fun x o e n => f7 x o (f4 _ _ e) n) (fun x r => (up7 x r).imp id fun n => same_none f4 n)
      ⟨kp _ _ (.inl rfl) wf4.d, kp _ _ (.inr (.inl rfl)) wf4.f, fun e me => kp _ _ (.inr (.inr ⟨e, me, .inl rfl⟩)) (wf4.t e me), fun e me => kp _ _ (.inr (.inr ⟨e, me, .inr rfl⟩)) (wf4.s e me), wf4.n⟩ (by rw [eq3, hmb]; rfl) fun x hx => ⟨(out x hx).1, fun r => ?_⟩⟩
    rotate_left
    · obtain ⟨n, o, e⟩ := out x hx
      rcases up7 x r with u | u
      · exact h.fresh n u
      · rw [u] at e; cases e
    have md : d ∈ m3.ms := md
    rw [ms3] at md
    rw [if_pos md, hψ, settle_phi h p d]
    show _ = phiM m3.bl d
    rw [hm3]
    rfl
theorem sc_law : FnScope ["script", "pot", "count", "width", "data", "store", "images", "blocks", "k", "words", "pointers", "fresh", "hurt", "disk", "blank", "row", "requests", "lost", "block", "request"] ["script"] (defScope s_law) := ⟨rfl, rfl, rfl, by decide +kernel, rfl, by decide +kernel, by decide +kernel⟩
theorem ok_law (T : Txt w K mg a) : FnOk P w K mg base CX0 11 a.f_law a.d_law ["script"] (sp_law K a) := by
  refine T.F_law.ok sc_law (fun vs H Q E h => ?len) (fun cdv A outer s H vs Q E hr h => ?body)
  case len =>
    exact sp_law_len h
  case body =>
    obtain ⟨s, ns, rfl, hS, short, k⟩ := h
    have hw := T.hw
    subst hw
    refine ⟨_, (pss_cons (ps_set (i := 1) sc_law.nd rfl (Or.inl rfl) (pe_call (ok_law_pot T) (hr.mono (by decide)) rfl T.g_law_pot T.F_law_pot.kp T.d_law_pot .nil pass0 (pa_cons (pv 0) pa_nil)))
      (pss_cons (ps_set (i := 2) sc_law.nd rfl (Or.inl rfl) (pe_op op_add pe_int (pe_call (ok_law_next T) (hr.mono (by decide)) rfl T.g_law_next T.F_law_next.kp T.d_law_next .nil pass0 (pa_cons (pv 1) (pa_cons pe_int pa_nil)))))
      (pss_cons (ps_set (i := 3) sc_law.nd rfl (Or.inl rfl) (pe_op op_add pe_int (pe_call (ok_law_next T) (hr.mono (by decide)) rfl T.g_law_next T.F_law_next.kp T.d_law_next .nil pass0 (pa_cons (pv 1) (pa_cons (pv 2) pa_nil)))))
      (pss_cons (ps_set (i := 4) sc_law.nd rfl (Or.inl rfl) (pe_op op_add pe_int (pe_call (ok_law_next T) (hr.mono (by decide)) rfl T.g_law_next T.F_law_next.kp T.d_law_next .nil pass0 (pa_cons (pv 1) (pa_cons (pv 3) pa_nil)))))
      (Evl.pss_cut (ps_set (i := 5) sc_law.nd rfl (Or.inr rfl) (pe_makeK0 T.mk_Store (ok_Store_init T) (hr.mono (by decide)) rfl T.g_Store T.d_Store_init pass0 (pk_cons (pv 4) (pk_cons (pe_op op_sub (pv 3) (pv 4)) (pk_cons pe_int (pk_cons (pe_lc (own := [("k", 8)]) (g := (gName 8)) (by rfl) sc_law.nd (pi_range1 (by rfl) T.n_range (pa_cons (pv 2) pa_nil)) (blkOk_by (own := [("k", 8)]) (N := ["script", "pot", "count", "width", "data", "store", "images", "blocks", "k", "words", "pointers", "fresh", "hurt", "disk", "blank", "row", "requests", "lost", "block", "request"]) (sc := defScope s_law) (by decide +kernel))
      (fun _ _ _ _ _ => (pg_name (i := 8) sc_law.nd rfl (Or.inl rfl))) (fun _ _ _ _ _ => pts_nil) (fun _ _ _ _ _ => (pv 8))) (pk_cons pe_int pk_nil)))))))
      (Evl.pss_cut (ps_setLc (i := 6) (own := [("k", 8)]) (g := (gName 8)) (by rfl) sc_law.nd rfl rfl (sw_true rfl rfl rfl (by decide +kernel)) (pi_range1 (by rfl) T.n_range (pa_cons (pv 2) pa_nil)) (blkOk_by (own := [("k", 8)]) (N := ["script", "pot", "count", "width", "data", "store", "images", "blocks", "k", "words", "pointers", "fresh", "hurt", "disk", "blank", "row", "requests", "lost", "block", "request"]) (sc := defScope s_law) (by decide +kernel))
      (fun _ _ _ _ _ => (pg_name (i := 8) sc_law.nd rfl (Or.inl rfl))) (fun _ _ _ _ _ => pts_nil) (fun _ _ _ _ _ => (pe_op op_rep (pe_lst (pa_cons pe_non pa_nil)) pe_int)))
      (pss_cons (ps_expr (pe_meth (pv 5) T.cl_Store T.m_Store_look (ok_Store_look T) (hr.mono (by decide)) T.d_Store_look .nil pass0 (pa_cons (pv 6) pa_nil)))
      (Evl.pss_cut (ps_set (i := 7) sc_law.nd rfl (Or.inl rfl) (pe_lst pa_nil))
      (Evl.pss_cut (ps_for PassesOwn.never rfl (pi_range1 (by rfl) T.n_range (pa_cons (pe_call (ok_law_next T) (hr.mono (by decide)) rfl T.g_law_next T.F_law_next.kp T.d_law_next .nil pass0 (pa_cons (pv 1) (pa_cons pe_int pa_nil))) pa_nil)) (pg_name (i := 8) sc_law.nd rfl (Or.inl rfl))
      (pss_cons (ps_set (i := 9) sc_law.nd rfl (Or.inl rfl) (pe_call (ok_law_words T) (hr.mono (by decide)) rfl T.g_law_words T.F_law_words.kp T.d_law_words .nil pass0 (pa_cons (pv 1) (pa_cons (pe_call (ok_law_next T) (hr.mono (by decide)) rfl T.g_law_next T.F_law_next.kp T.d_law_next .nil pass0 (pa_cons (pv 1) (pa_cons pe_int pa_nil))) pa_nil))))
      (pss_one (ps_expr (pe_bm PySem.F.plainAttrs_list PySem.F.slot_list_append PySem.F.type_list_append mt_append (pv 7) (pa_cons (pe_tup (pa_cons (pe_meth (pv 5) T.cl_Store T.m_Store_put (ok_Store_put T) (hr.mono (by decide)) T.d_Store_put (.cons (show RelV (V.ref a.e_Store_put) (Value.ref a.e_Store_put) from rfl) .nil) passL (pa_cons (pv 9) pa_nil)) (pa_cons (pv 9) pa_nil))) pa_nil))))))
      (Evl.pss_cut (ps_setLc (i := 10) (own := [("block", 18)]) (g := (gName 18)) (by rfl) sc_law.nd rfl rfl (sw_true rfl rfl rfl (by decide +kernel)) (pi_list (pv 7)) (blkOk_by (own := [("block", 18)]) (N := ["script", "pot", "count", "width", "data", "store", "images", "blocks", "k", "words", "pointers", "fresh", "hurt", "disk", "blank", "row", "requests", "lost", "block", "request"]) (sc := defScope s_law) (by decide +kernel))
      (fun _ _ _ _ _ => (pg_name (i := 18) sc_law.nd rfl (Or.inl rfl))) (fun _ _ _ _ _ => pts_nil) (fun _ _ _ _ _ => (pe_ix (by exact ix_tup : IxR _ (rIxT K)) (pv 18) pe_int (fun _ _ => rfl))))
      (Evl.pss_cut (ps_expr (pe_call (ok_law_carry T) (hr.mono (by decide)) rfl T.g_law_carry T.F_law_carry.kp T.d_law_carry .nil pass0 (pa_cons (pv 6) (pa_cons (pe_meth (pv 5) T.cl_Store T.m_Store_commit (ok_Store_commit T) (hr.mono (by decide)) T.d_Store_commit .nil pass0 (pa_cons (pv 10) pa_nil)) pa_nil))))
      (Evl.pss_cut (ps_setLc (i := 11) (own := [("k", 8)]) (g := (gName 8)) (by rfl) sc_law.nd rfl rfl (sw_true rfl rfl rfl (by decide +kernel)) (pi_range1 (by rfl) T.n_range (pa_cons (pe_call (ok_law_next T) (hr.mono (by decide)) rfl T.g_law_next T.F_law_next.kp T.d_law_next .nil pass0 (pa_cons (pv 1) (pa_cons pe_int pa_nil))) pa_nil)) (blkOk_by (own := [("k", 8)]) (N := ["script", "pot", "count", "width", "data", "store", "images", "blocks", "k", "words", "pointers", "fresh", "hurt", "disk", "blank", "row", "requests", "lost", "block", "request"]) (sc := defScope s_law) (by decide +kernel))
      (fun _ _ _ _ _ => (pg_name (i := 8) sc_law.nd rfl (Or.inl rfl))) (fun _ _ _ _ _ => pts_nil) (fun _ _ _ _ _ => (pe_meth (pv 5) T.cl_Store T.m_Store_put (ok_Store_put T) (hr.mono (by decide)) T.d_Store_put (.cons (show RelV (V.ref a.e_Store_put) (Value.ref a.e_Store_put) from rfl) .nil) passL (pa_cons (pe_lst (pa_cons (pv 8) pa_nil)) pa_nil))))
      (Evl.pss_cut (ps_set (i := 12) sc_law.nd rfl (Or.inr rfl) (pe_lst pa_nil))
      (Evl.pss_cut (ps_for PassesOwn.never rfl (pi_range1 (by rfl) T.n_range (pa_cons (pe_op op_sub (pv 3) (pv 4)) pa_nil)) (pg_name (i := 8) sc_law.nd rfl (Or.inl rfl))
      (pss_cons (ps_set (i := 13) sc_law.nd rfl (Or.inl rfl) (pe_call (ok_law_next T) (hr.mono (by decide)) rfl T.g_law_next T.F_law_next.kp T.d_law_next .nil pass0 (pa_cons (pv 1) (pa_cons (pv 2) pa_nil))))
      (pss_one (ps_if (pt_cmpR op_notIn_seq (pv 13) (pv 12) (by rfl))
      (pss_cons (ps_expr (pe_bm PySem.F.plainAttrs_list PySem.F.slot_list_append PySem.F.type_list_append mt_append (pv 12) (pa_cons (pv 13) pa_nil)))
      (pss_cons (ps_set (i := 14) sc_law.nd rfl (Or.inl rfl) (pe_cmpR op_eq (pe_call (ok_law_next T) (hr.mono (by decide)) rfl T.g_law_next T.F_law_next.kp T.d_law_next .nil pass0 (pa_cons (pv 1) (pa_cons pe_int pa_nil))) pe_int (nomark _)))
      (pss_one (ps_for PassesOwn.never rfl (pi_range2 (by rfl) T.n_range (pa_cons pe_int (pa_cons pe_int pa_nil))) (pg_name (i := 15) sc_law.nd rfl (Or.inl rfl))
      (pss_one (ps_if (pt_truth (pv 14) (by intro _; rfl))
      (pss_one (ps_asg pe_non (pg_sub (pe_ix ix_list (pv 6) (pv 13) (fun _ _ => rfl)) (pv 15) set_list)))
      (pss_one (ps_if (PW.pt (pw_and (pt_cmpR op_notN (pe_ix ix_list (pe_ix ix_list (pv 6) (pv 13) (fun _ _ => rfl)) (pv 15) (fun _ _ => rfl)) pe_non (nomark _)) (pw_and1 (pt_cmpR op_eq (pe_call (ok_law_next T) (hr.mono (by decide)) rfl T.g_law_next T.F_law_next.kp T.d_law_next .nil pass0 (pa_cons (pv 1) (pa_cons pe_int pa_nil))) pe_int (nomark _)))))
      (pss_one (ps_expr (pe_call (ok_law_spoil T) (hr.mono (by decide)) rfl T.g_law_spoil T.F_law_spoil.kp T.d_law_spoil .nil pass0 (pa_cons (pv 1) (pa_cons (pe_ix ix_list (pv 6) (pv 13) (fun _ _ => rfl)) (pa_cons (pv 15) pa_nil))))))
      pss_nil))))))))
      pss_nil))))
      (Evl.pss_cut (ps_set (i := 16) sc_law.nd rfl (Or.inl rfl) (pe_meth (pv 5) T.cl_Store T.m_Store_repairs (ok_Store_repairs T) (hr.mono (by decide)) T.d_Store_repairs .nil passL (pa_cons (pe_op op_cat (pe_op op_cat (pv 10) (pv 11)) (pe_slice sl_list (pv 10) po_none (po_some pe_int))) pa_nil)))
      (Evl.pss_cut (ps_if (PW.pt (pw_or (pt_not (pt_val (pe_callB call_isi (by rfl) T.n_isinstance (by decide +kernel) (pa_cons (pv 16) (pa_cons (pe_bltn (v := .ty "list") (by rfl) T.n_list (by decide +kernel) rfl) pa_nil))))) (pw_or1 (pt_not (pt_val (pe_callB (cr_all rfl) (by rfl) T.n_all (by decide +kernel) (pa_cons (pe_lc (own := [("request", 19)]) (g := (gName 19)) (by rfl) sc_law.nd (pi_list (pv 16)) (blkOk_by (own := [("request", 19)]) (N := ["script", "pot", "count", "width", "data", "store", "images", "blocks", "k", "words", "pointers", "fresh", "hurt", "disk", "blank", "row", "requests", "lost", "block", "request"]) (sc := defScope s_law) (by decide +kernel))
      (fun _ _ _ _ _ => (pg_name (i := 19) sc_law.nd rfl (Or.inl rfl))) (fun _ _ _ _ _ => pts_nil) (fun _ _ _ _ _ => (pe_and (pe_cmpR op_eq (pe_ix (by exact ix_tup : IxR _ (rIxT K)) (pv 19) pe_int (fun _ _ => rfl)) pe_str (nomark _)) (pe_one (pe_cmpR (by exact op_in_seq : OpR _ _ (rIn K false)) (pe_ix (by exact ix_tup : IxR _ (rIxT K)) (pv 19) pe_int (fun _ _ => rfl)) (pv 12) (by rfl)))))) pa_nil)))))))
      (pss_one (ps_ret pe_bl))
      pss_nil)
      (Evl.pss_cut (ps_expr (pe_call (ok_law_carry T) (hr.mono (by decide)) rfl T.g_law_carry T.F_law_carry.kp T.d_law_carry .nil pass0 (pa_cons (pv 6) (pa_cons (pv 16) pa_nil))))
      (Evl.pss_cut (ps_if (pt_cmpR (op_neD hr.units) (pe_meth (pv 5) T.cl_Store T.m_Store_repairs (ok_Store_repairs T) (hr.mono (by decide)) T.d_Store_repairs .nil passL (pa_cons (pe_op op_cat (pv 10) (pv 11)) pa_nil)) (pe_lst pa_nil) (nomark _))
      (pss_one (ps_ret pe_bl))
      pss_nil)
      (Evl.pss_cut (ps_setLc (i := 17) (own := [("k", 8)]) (g := (gName 8)) (by rfl) sc_law.nd rfl rfl (sw_true rfl rfl rfl (by decide +kernel)) (pi_range1 (by rfl) T.n_range (pa_cons (pv 2) pa_nil)) (blkOk_by (own := [("k", 8)]) (N := ["script", "pot", "count", "width", "data", "store", "images", "blocks", "k", "words", "pointers", "fresh", "hurt", "disk", "blank", "row", "requests", "lost", "block", "request"]) (sc := defScope s_law) (by decide +kernel))
      (fun _ _ _ _ _ => (pg_name (i := 8) sc_law.nd rfl (Or.inl rfl))) (fun _ _ _ _ _ => pts_nil) (fun _ _ _ _ _ => (pv 8)))
      (Evl.pss_cut (ps_for PassesOwn.never rfl (pi_range1 (by rfl) T.n_range (pa_cons (pe_op op_sub (pv 2) (pe_op op_sub (pv 3) (pv 4))) pa_nil)) (pg_name (i := 8) sc_law.nd rfl (Or.inl rfl))
      (pss_one (ps_expr (pe_bm PySem.F.plainAttrs_list PySem.F.slot_list_pop PySem.F.type_list_pop mt_popAt (pv 17) (pa_cons (pe_call (ok_law_next T) (hr.mono (by decide)) rfl T.g_law_next T.F_law_next.kp T.d_law_next .nil pass0 (pa_cons (pv 1) (pa_cons (pe_callB call_len_seq (by rfl) T.n_len PySem.boot_len (pa_cons (pv 17) pa_nil)) pa_nil))) pa_nil)))))
      (Evl.pss_cut (ps_for PassesOwn.never rfl (pi_list (pv 17)) (pg_name (i := 13) sc_law.nd rfl (Or.inl rfl))
      (pss_one (ps_asg pe_non (pg_sub (pv 6) (pv 13) set_list))))
      (Evl.pss_cut (ps_for PassesOwn.never rfl (pi_list (pv 7)) (pg_name (i := 18) sc_law.nd rfl (Or.inl rfl))
      (pss_one (ps_if (pt_cmpR (op_neD hr.units) (pe_meth (pv 5) T.cl_Store T.m_Store_get (ok_Store_get T) (hr.mono (by decide)) T.d_Store_get .nil pass0 (pa_cons (pe_ix ix_tup (pv 18) pe_int (fun _ _ => rfl)) pa_nil)) (pe_ix ix_tup (pv 18) pe_int (fun _ _ => rfl)) (nomark _))
      (pss_one (ps_ret pe_bl))
      pss_nil)))
      (Evl.pss_cut (ps_for PassesOwn.never rfl (pi_range1 (by rfl) T.n_range (pa_cons (pv 2) pa_nil)) (pg_name (i := 13) sc_law.nd rfl (Or.inl rfl))
      (pss_one (ps_asg pe_non (pg_sub (pv 6) (pv 13) set_list))))
      (pss_one (ps_ret (pe_or (pe_cmpR op_eq (pe_callB call_len_seq (by rfl) T.n_len PySem.boot_len (pa_cons (pv 7) pa_nil)) pe_int (nomark _)) (pe_one (pe_call (ok_law_refused T) (hr.mono (by decide)) rfl T.g_law_refused T.F_law_refused.kp T.d_law_refused .nil pass0 (pa_cons (pv 5) (pa_cons (pv 10) pa_nil)))))))))))))))))))))))))))))), ?_⟩
    refine ⟨_, rfl, s, ns, rfl, hS, by omega, fun p l H1 hp hl s1 P1 => ?_⟩
    -- count, width, data
    refine ⟨_, rfl, p, l, 6, rfl, P1, by decide, by decide, fun cv H2 c0 c1 P2 o2 => ⟨_, _, rfl, rfl, ?_⟩⟩
    obtain ⟨cn, ec⟩ : ∃ n : Nat, 1 + cv = (n : Int) := ⟨(1 + cv).toNat, by omega⟩
    dsimp only
    rw [ec]
    refine ⟨_, rfl, _, rfl, p, l, (cn : Int), rfl, P2, by omega, by omega, fun wv H3 w0 w1 P3 o3 => ⟨_, _, rfl, rfl, ?_⟩⟩
    obtain ⟨w, ew⟩ : ∃ n : Nat, 1 + wv = (n : Int) := ⟨(1 + wv).toNat, by omega⟩
    dsimp only
    rw [ew]
    refine ⟨_, rfl, _, rfl, p, l, (w : Int), rfl, P3, by omega, by omega, fun dv H4 d0 d1 P4 o4 => ⟨_, _, rfl, rfl, ?_⟩⟩
    obtain ⟨d, ed⟩ : ∃ n : Nat, 1 + dv = (n : Int) := ⟨(1 + dv).toNat, by omega⟩
    dsimp only
    rw [ed]
    have d1' : 1 ≤ d := by omega
    have dw : d ≤ w := by omega
    have wc : w ≤ cn := by omega
    have c6 : cn ≤ 6 := by omega
    clear c0 c1 ec w0 w1 ew d0 d1 ed o2 o3 o4 P1 P2 P3
    -- store
    refine ⟨fun σ H' => ∃ (S : Addr) (m : SM), σ = [some (.ref s), some (.ref p), some (.int (cn : Int)), some (.int (w : Int)), some (.int (d : Int)), some (.ref S), none, none, none, none, none, none, none, none, none, none, none, none, none, none] ∧ Stor a H' S m ∧ (m.data = d ∧ m.par = w - d ∧ m.rows = 64 ∧ m.made = 0 ∧ m.ep = 1 ∧ m.ms = upto cn ∧ m.bl = []) ∧ Same H4 H' ∧ (∀ b, StR S m b → H4 b = none), ?_, ?_⟩
    · refine ⟨_, rfl, _, rfl, _, rfl, _, _, rfl, rfl, _, rfl, _, rfl, by omega, by omega, fun ML nML => ?_⟩
      rw [Int.toNat_natCast]
      refine lc_it walk_range (n := cn) (fun i H' => Same H4 H' ∧ H' ML = some (.lst ((upto i).map V.int))) ⟨Same.new nML, upd_same⟩ (fun _ _ _ _ => True.intro) ?_ ?_
      · rintro i y H5 H6 hi ⟨s5, dM⟩ ⟨rfl, rfl⟩
        refine ⟨rfl, _, rfl, _, dM, small _ (by rw [List.length_map, upto_len]; omega), same_put s5 nML, ?_⟩
        rw [upd_same, upto_snoc, List.map_append]
        show some (HO.lst (List.map V.int (upto i) ++ [V.int (0 + (i : Int))])) = _
        rw [Int.zero_add]
        rfl
      rintro H5 ⟨s5, dML⟩
      refine ⟨rfl, rfl, fun S dx nS ndx nSd => ?_⟩
      refine ⟨S, dx, ML, d, w - d, 64, 1, upto cn, by rw [show ((w - d : Nat) : Int) = (w : Int) - (d : Int) by omega]; rfl, upd_same, by rw [upd_ne (ne_of_none dML nS), upd_ne (ne_of_none dML ndx)]; exact dML, upto_asc cn, fun x mx => by have := upto_mem.mp mx; omega, by rw [upto_len]; omega, by decide, by decide, fun m H9 st q1 q2 q3 q4 q5 q6 q7 fr9 sr9 => ⟨rfl, ?_⟩⟩
      refine ⟨S, m, rfl, st, ⟨q1, q2, q3, q4, q5, q6, q7⟩, s5.trans fun b o e => fr9 b o (by rw [upd_ne (ne_of_none e nS), upd_ne (ne_of_none e ndx)]; exact e) (ne_of_none e nS), fun b r => same_none s5 ?_⟩
      rcases sr9 b r with z | z
      · rw [z]; exact nS
      · by_cases c : b = S
        · rw [c, upd_same] at z; cases z
        · rw [upd_ne c] at z
          by_cases c2 : b = dx
          · rw [c2, upd_same] at z; cases z
          · rw [upd_ne c2] at z
            exact z
    rintro σ H5 ⟨S, m0, rfl, st5, e0, s5, sr5⟩
    have P5 := P4.same s5
    -- images
    refine ⟨fun σ H' => ∃ (I : Addr) (as : List Addr), σ = [some (.ref s), some (.ref p), some (.int (cn : Int)), some (.int (w : Int)), some (.int (d : Int)), some (.ref S), some (.ref I), none, none, none, none, none, none, none, none, none, none, none, none, none] ∧ Same H5 H' ∧ H' I = some (.lst (as.map V.ref)) ∧ as.length = cn ∧ as.Nodup ∧ (∀ A ∈ as, H' A = some (.lst (blk64.map rowV)) ∧ A ≠ I ∧ H5 A = none) ∧ H5 I = none, ?_, ?_⟩
    · refine ⟨_, rfl, _, rfl, by omega, by omega, fun I nI => ?_⟩
      rw [Int.toNat_natCast]
      refine lc_it walk_range (n := cn) (fun i H' => ∃ as : List Addr, Same H5 H' ∧ H' I = some (.lst (as.map V.ref)) ∧ as.length = i ∧ as.Nodup ∧ ∀ A ∈ as, H' A = some (.lst (blk64.map rowV)) ∧ A ≠ I ∧ H5 A = none) ⟨[], Same.new nI, upd_same, rfl, List.nodup_nil, fun _ m => nomatch m⟩ (fun _ _ _ _ => True.intro) ?_ ?_
      · rintro i y H3 H6 hi ⟨as, s3, d3, la, nd, ha⟩ ⟨rfl, rfl⟩
        refine ⟨rfl, by show 1 ≤ sizeLine; decide, fun q nq => ?_⟩
        have sq := Same.new (o := .lst [V.non]) nq
        refine ⟨q, 64, _, rfl, rfl, upd_same, by decide, by decide, by decide, fun A nA => ?_⟩
        have e4 : (List.replicate (64 : Int).toNat [V.non]).flatten = blk64.map rowV := rfl
        rw [e4]
        have s4 := sq.trans (Same.new (o := .lst (blk64.map rowV)) nA)
        have dA : upd (upd H6 q (.lst [V.non])) A (.lst (blk64.map rowV)) A = some (.lst (blk64.map rowV)) := upd_same
        have nA3 := same_none sq nA
        generalize upd (upd H6 q (.lst [V.non])) A (.lst (blk64.map rowV)) = H7 at s4 dA ⊢
        have d5 := s4 _ _ d3
        have AI : A ≠ I := (ne_of_none d3 nA3).symm
        refine ⟨_, d5, small _ (by rw [List.length_map]; omega), as ++ [A], same_put (s3.trans s4) nI, by rw [upd_same, List.map_append]; rfl, by rw [List.length_append, la]; rfl, ?_, ?_⟩
        · rw [List.nodup_append]
          refine ⟨nd, by simp, fun x m z m' e => ?_⟩
          rw [List.mem_singleton.mp m'] at e
          exact ne_of_none (ha x m).1 nA3 e
        · intro x m
          rcases List.mem_append.mp m with m | m
          · have := ha x m
            exact ⟨by rw [upd_ne this.2.1]; exact s4 _ _ this.1, this.2⟩
          · rw [List.mem_singleton.mp m]
            exact ⟨by rw [upd_ne AI]; exact dA, AI, same_none s3 nA3⟩
      rintro H11 ⟨as, s11, d11, la, nd, ha⟩
      exact ⟨I, as, rfl, s11, d11, la, nd, ha, nI⟩
    rintro σ H6 ⟨I, as, rfl, s6, dI6, la, nda, ha6, nI⟩
    -- look
    have P6 := P5.same s6
    refine ⟨_, rfl, S, m0.dx, _, rfl, (st5.same s6).hS, by kernel_rfl, _, rfl, S, I, m0, rfl, st5.same s6, fun H7 st7 fr7 => ?_⟩
    have n4 : ∀ x, H5 x = none → H4 x = none := fun x n => same_none s5 n
    have offS : ∀ x o, H4 x = some o → ¬ StR S m0 x := fun x o e r => by rw [sr5 x r] at e; cases e
    have SI : I ≠ S := fun z => st5.fresh nI (by rw [z]; exact .s)
    obtain ⟨i4, a4, sd4, hp4⟩ := P4.list
    obtain ⟨z0, z1, z2, z3, z4, hl4, z5⟩ := id P4
    have k7 : ∀ x o, H6 x = some o → x ≠ S → H7 x = some o := fr7
    have P7 : Pot H7 p l := by
      obtain ⟨ns', i', acc, seed, h1, h2, h3⟩ := P6
      exact ⟨ns', i', acc, seed, k7 _ _ h1 fun z => offS _ _ hp4 (by rw [z]; exact .s), k7 _ _ h2 fun z => offS _ _ hl4 (by rw [z]; exact .s), h3⟩
    obtain ⟨m1, hm1⟩ : ∃ m1 : SM, m1 = { m0 with I := I } := ⟨_, rfl⟩
    rw [← hm1] at st7
    have e1 : (m1.data = d ∧ m1.par = w - d ∧ m1.rows = 64 ∧ m1.made = 0 ∧ m1.ep = 1 ∧ m1.ms = upto cn ∧ m1.bl = []) ∧ m1.I = I := by rw [hm1]; exact ⟨e0, rfl⟩
    have sr1 : ∀ b, StR S m1 b → StR S m0 b := fun b r => by rw [hm1] at r; exact str_I r
    have pI5 := P5.off nI
    have aS : ∀ A ∈ as, A ≠ S := fun A mA z => st5.fresh (ha6 A mA).2.2 (by rw [z]; exact .s)
    have W7 : W29 a H7 S p l m1 (blanks as) := by
      refine ⟨st7, P7, ?_, fun r => offS _ _ hp4 (sr1 _ r), ?_⟩
      · rw [e1.2]
        refine blanks_im (k7 _ _ dI6 SI) ?_ nda fun A mA => ⟨k7 _ _ (ha6 A mA).1 (aS A mA), (ha6 A mA).2.1, ?_⟩
        · rintro (z | r)
          · exact pI5.1 z.symm
          · exact st5.fresh nI (sr1 _ r)
        · rintro (z | r)
          · exact (P5.off (ha6 A mA).2.2).1 z.symm
          · exact st5.fresh (ha6 A mA).2.2 (sr1 _ r)
      · rintro ((z | r) | z | ⟨i, dk, g, z⟩)
        · exact P4.ne z
        · exact offS _ _ hl4 (sr1 _ r)
        · rw [e1.2] at z
          exact pI5.2 z
        · obtain ⟨A, hA, rfl⟩ := blanks_at g
          exact (P5.off (ha6 A (List.mem_of_getElem? hA)).2.2).2 z
    have M7 : M29 m1 d w cn := ⟨e1.1.1, e1.1.2.1, e1.1.2.2.1, e1.1.2.2.2.2.1, e1.1.2.2.2.2.2.1, by rw [e1.1.2.2.2.1, e1.1.2.2.2.2.2.2]; rfl, fun b mb => by rw [e1.1.2.2.2.2.2.2] at mb; cases mb⟩
    have K7 := e1.1.2.2.2.2.2.2
    have I7 := e1.2
    clear k7 aS sr1 e1 hm1 fr7 st7 pI5 z5 hl4 hp4 SI offS n4 P6 ha6 nda dI6 s6 nI P5 sr5 s5 e0 st5 m0 P7
    -- blocks
    refine ⟨fun σ H' => ∃ BK, σ = [some (.ref s), some (.ref p), some (.int (cn : Int)), some (.int (w : Int)), some (.int (d : Int)), some (.ref S), some (.ref I), some (.ref BK), none, none, none, none, none, none, none, none, none, none, none, none] ∧ W29 a H' S p l m1 (blanks as) ∧ Bk (Mu S p m1 (blanks as)) H' BK [] ∧ l ≠ BK, ?_, ?_⟩
    · refine ⟨Nat.zero_le _, fun BK nB => ⟨BK, rfl, W7.same (Same.new nB), ⟨⟨upd_same, W7.off nB⟩, fun _ m => (nomatch m), fun _ m => (nomatch m), fun _ m => (nomatch m)⟩, (W7.P.off nB).2⟩⟩
    rintro σ H8 ⟨BK, rfl, W8, B8, lB⟩
    refine ⟨fun σ H' => ∃ (v8 v9 : Option V) (m : SM) (bs : List Ln), σ = [some (.ref s), some (.ref p), some (.int (cn : Int)), some (.int (w : Int)), some (.int (d : Int)), some (.ref S), some (.ref I), some (.ref BK), v8, v9, none, none, none, none, none, none, none, none, none, none] ∧ W29 a H' S p l m (blanks as) ∧ Bk (Mu S p m (blanks as)) H' BK bs ∧ M29 m d w cn ∧ m.I = I ∧ m.bl = bs.map (·.b) ∧ (∀ b ∈ m.bl, b.mem = true) ∧ bs.length ≤ 8, ?_, ?_⟩
    · refine ⟨_, rfl, p, l, 9, rfl, W8.P, by decide, by decide, fun nv H9 n0 n1 P9 o9 => ⟨_, rfl, by omega, by omega, ?_⟩⟩
      obtain ⟨W9, kp9⟩ := W8.draw P9 o9.but
      have B9 := B8.kp kp9
      have t8 : nv.toNat ≤ 8 := by omega
      generalize nv.toNat = turns at t8 ⊢
      clear n0 n1 P9 o9 kp9 W8 B8 W7
      refine for_range (lo := 0) (n := turns) (fun i σ H' => ∃ (v8 v9 : Option V) (m : SM) (bs : List Ln), σ = [some (.ref s), some (.ref p), some (.int (cn : Int)), some (.int (w : Int)), some (.int (d : Int)), some (.ref S), some (.ref I), some (.ref BK), v8, v9, none, none, none, none, none, none, none, none, none, none] ∧ W29 a H' S p l m (blanks as) ∧ Bk (Mu S p m (blanks as)) H' BK bs ∧ M29 m d w cn ∧ m.I = I ∧ m.bl = bs.map (·.b) ∧ (∀ b ∈ m.bl, b.mem = true) ∧ bs.length = i) ⟨none, none, m1, [], rfl, W9, B9, M7, I7, K7, fun b mb => (by rw [K7] at mb; cases mb), rfl⟩ ?_ ?_
      · clear W9 B9 M7 I7 K7 m1
        rintro i σ H2 hi ⟨v8, v9, m, bs, rfl, W, B, M, hI, hbl, hmem, lbs⟩
        refine ⟨_, rfl, _, rfl, p, l, 31, rfl, W.P, by decide, by decide, fun nw H3 n0 n1 P3 o3 => ⟨p, l, nw, rfl, P3, n0, by omega, fun Wk ws H4' lw ww nW dW b4 P4' => ?_⟩⟩
        obtain ⟨W3, kp3⟩ := W.draw P3 o3.but
        have offW := W3.off nW
        obtain ⟨W4, kp4⟩ := W3.draw P4' b4
        have B4 := (B.kp kp3).kp kp4
        have WB : Wk ≠ BK := (ne_of_none (B.kp kp3).d.1 nW).symm
        have lw30 : ws.length ≤ 30 := by omega
        have lbl : m.bl.length = i := by rw [hbl, List.length_map, lbs]
        have wd : m.data + m.par = w := by rw [M.data, M.par]; omega
        have lms : m.ms.length = cn := by rw [M.ms, upto_len]
        have fm : (m.ms.filter fun d => decide (d ∉ ([] : List Int))) = m.ms := List.filter_eq_self.mpr fun _ _ => by simp
        clear n0 n1 P3 o3 b4 P4' W W3 kp3 kp4 nW lw B
        refine ⟨_, rfl, .inl ⟨rfl, _, SqL.of B4.d.1⟩, _, rfl, S, m.dx, _, rfl, W4.s.hS, by kernel_rfl, _, rfl, S, Wk, _, m, ws, [], adrs (blanks as), rfl, W4.s, SqL.of dW, fun z => offW (.inl (.inr z)), .inr (.inr T.e_Store_put), by rw [adrs_refI]; exact SqL.of W4.im.hI, by unfold adrs blanks; rw [List.length_map, List.length_map]; omega, by omega, by rw [M.rows]; decide, by omega, by rw [M.data]; exact d1', by omega, fun z => absurd z (by rw [M.data]; omega), fun _ z => absurd z (by rw [fm, lms]; omega), fun _ _ => ⟨by rw [M.rows]; omega, by omega, fun b H5 st5 mb es ew eL ea fr5 up5 => ?_⟩⟩
        obtain ⟨W5, kp5⟩ := W4.store st5 rfl fr5 up5
        have B5 := B4.kp kp5
        have dW5 := kp5 _ _ dW offW
        refine ⟨_, rfl, by show 2 ≤ sizeLine; decide, fun t nt => ?_⟩
        have s6 := Same.new (o := .tup [V.ref b.T, V.ref Wk]) nt
        have W6 := W5.same s6
        have B6 := B5.kp (Kp.same s6)
        have dW6 := s6 _ _ dW5.1
        have dt : upd H5 t (.tup [V.ref b.T, V.ref Wk]) t = some (.tup [.ref b.T, .ref Wk]) := upd_same
        have offt := W5.off nt
        generalize upd H5 t (.tup [V.ref b.T, V.ref Wk]) = H6 at W6 B6 dW6 dt ⊢
        refine ⟨BK, _, _, rfl, rfl, B6.d.1, small _ (by rw [List.length_map]; omega), ?_⟩
        have B7 := B6.more (e := ⟨t, b, Wk⟩) ⟨dt, offt⟩ ⟨by rw [ew]; exact dW6, dW5.2⟩ WB
        have W7' := W6.upd (q := BK) (o := .lst ((bs.map fun e => V.ref e.t) ++ [.ref t])) B6.d.2 lB.symm fun i dk r sc g1 g2 => by
          obtain ⟨A, _, rfl⟩ := blanks_at g1
          exact absurd g2 blk64_none
        refine ⟨_, _, m.put b, bs ++ [⟨t, b, Wk⟩], rfl, W7', B7, M.put (by rw [eL, wd]) (by rw [ew]; exact lw30) (by rw [ew]; exact ww), hI, ?_, fun c mc => ?_, by rw [List.length_append, lbs]; rfl⟩
        · show m.bl ++ [b] = _
          rw [hbl, List.map_append]
          rfl
        · rcases List.mem_append.mp mc with mc | mc
          · exact hmem c mc
          · rw [List.mem_singleton.mp mc]; exact mb
      rintro σ H10 ⟨v8, v9, m, bs, rfl, W, B, M, hI, hbl, hmem, lbs⟩
      exact ⟨v8, v9, m, bs, rfl, W, B, M, hI, hbl, hmem, by omega⟩
    clear W7 W8 B8 M7 I7 K7 m1
    rintro σ H9 ⟨v8, v9, m, bs, rfl, W9, B9, M, hI, hbl, hmem, l8⟩
    -- pointers
    refine ⟨fun σ H' => ∃ LP, σ = [some (.ref s), some (.ref p), some (.int (cn : Int)), some (.int (w : Int)), some (.int (d : Int)), some (.ref S), some (.ref I), some (.ref BK), v8, v9, some (.ref LP), none, none, none, none, none, none, none, none, none] ∧ W29 a H' S p l m (blanks as) ∧ Bk (Mu S p m (blanks as)) H' BK bs ∧ H' LP = some (.lst (m.bl.map fun b => V.ref b.T)) ∧ ¬ Mu S p m (blanks as) LP, ?_, ?_⟩
    · refine ⟨_, rfl, BK, rfl, ⟨_, SqL.of B9.d.1⟩, fun LP nLP => lc_list (K := K) (a := BK) (xs := bs.map fun e => V.ref e.t) (fun i H' => Same H9 H' ∧ H' LP = some (.lst ((m.bl.take i).map fun b => V.ref b.T))) ⟨Same.new nLP, upd_same⟩ (fun i H' _ q => SqL.of (q.1 _ _ B9.d.1)) ?_ ?_⟩
      · rintro i y H2 hy ⟨s2, dL⟩
        obtain ⟨e, he, rfl⟩ := ln_item hy
        have il := item_lt he
        have hb : m.bl[i]? = some e.b := by rw [hbl, List.getElem?_map, he]; rfl
        refine ⟨rfl, _, rfl, e.t, _, 0, .ref e.b.T, rfl, rfl, SqT.of (s2 _ _ (B9.t e (List.mem_of_getElem? he)).1), at_of (j := 0) rfl rfl, _, dL, small _ (by rw [List.length_map, List.length_take]; omega), same_put s2 nLP, ?_⟩
        rw [upd_same, take_snoc hb, List.map_append]
        rfl
      rintro H2 ⟨s2, dL⟩
      have e : bs.length = m.bl.length := by rw [hbl, List.length_map]
      rw [List.length_map, e, List.take_length] at dL
      exact ⟨LP, rfl, W9.same s2, B9.kp (Kp.same s2), dL, W9.off nLP⟩
    rintro σ H10 ⟨LP, rfl, W10, B10, dLP, oLP⟩
    -- commit, carry
    have lblm : m.bl.length = bs.length := by rw [hbl, List.length_map]
    have ecom : comM (adrs (blanks as)) m m.bl = m.bl.flatMap (comB (adrs (blanks as)) m) := by
      unfold comM
      rw [List.filter_eq_self.mpr hmem, List.filter_eq_self.mpr fun b mb => decide_eq_true (List.mem_map.mpr ⟨b, mb, rfl⟩)]
    have G0 : Gm (blanks as) cn := Gm.blanks la
    refine ⟨fun σ H' => ∃ (m' : SM) (st1 : Sts), σ = [some (.ref s), some (.ref p), some (.int (cn : Int)), some (.int (w : Int)), some (.int (d : Int)), some (.ref S), some (.ref I), some (.ref BK), v8, v9, some (.ref LP), none, none, none, none, none, none, none, none, none] ∧ W29 a H' S p l m' st1 ∧ Bk (Mu S p m' st1) H' BK bs ∧ (H' LP = some (.lst (m.bl.map fun b => V.ref b.T)) ∧ ¬ Mu S p m' st1 LP) ∧ M29 m' d w cn ∧ m'.I = I ∧ m'.bl = m.bl.map clearB ∧ AllR st1 m' m'.bl ∧ OnlyR st1 m'.bl ∧ Gm st1 cn ∧ (∀ x, x < cn → Pres st1 x), ?_, ?_⟩
    · refine ⟨_, rfl, _, rfl, S, m.dx, _, rfl, W10.s.hS, by kernel_rfl, _, rfl, S, LP, m, m.bl, adrs (blanks as), rfl, W10.s, SqL.of dLP, fun _ mb => mb, by omega, by omega, by rw [M.rows]; decide, by rw [adrs_refI]; exact SqL.of W10.im.hI, by unfold adrs blanks; rw [List.length_map, List.length_map]; omega, by rw [M.data]; exact d1', by rw [M.ep]; decide, by rw [M.made]; omega, by rw [M.ms, upto_len]; omega, fun b mb _ => ⟨by have := (M.bl b mb).2.1; omega, by rw [M.data, (M.bl b mb).1]; exact dw⟩, fun D F L m' H11 st11 cm ems ebl fr11 up11 wf eL new => ?_⟩
      obtain ⟨W11, kp11⟩ := W10.store st11 cm.I fr11 up11
      have ebl' : m'.bl = m.bl.map clearB := by
        rw [ebl, List.filter_eq_self.mpr fun b mb => decide_eq_true (List.mem_map.mpr ⟨b, mb, rfl⟩)]
        rfl
      have M' : M29 m' d w cn := ⟨by rw [cm.data, M.data], by rw [cm.par, M.par], by rw [cm.rows, M.rows], by rw [cm.ep, M.ep], by rw [ems, M.ms], by rw [cm.made, M.made, ebl', List.length_map], fun b mb => by
        rw [ebl'] at mb
        obtain ⟨c, mc, rfl⟩ := List.mem_map.mp mb
        exact M.bl c mc⟩
      rw [ecom] at eL
      have pc : ∀ e ∈ L, PcReq m m.bl (rqM e) := fun e me => com_pc (by rw [← eL]; exact List.mem_map.mpr ⟨e, me, rfl⟩)
      have self : ∀ b ∈ m.bl, ∃ c ∈ m.bl, c.s = b.s ∧ c.L = b.L ∧ c.ws = b.ws := fun b mb => ⟨b, mb, rfl, rfl, rfl⟩
      have rng : ∀ e ∈ L, (0 ≤ e.d ∧ e.d < (cn : Int)) ∧ (18 ≤ e.r ∧ e.r < 64) ∧ e.ws.length ≤ 38 := fun e me => pc_range W10.s M d1' self (pc e me)
      have lL : L.length ≤ 400 := by
        have h1 : L.length = _ := (List.length_map rqM).symm.trans (congrArg List.length eL)
        have h2 : ∀ bl : List Blk, (∀ b ∈ bl, b.L.length ≤ 6) → (bl.flatMap (comB (adrs (blanks as)) m)).length ≤ 6 * bl.length := fun bl => by
          induction bl with
          | nil => intro _; exact Nat.zero_le _
          | cons b bl ih =>
            intro h
            have h3 := ih fun c mc => h c (List.mem_cons_of_mem _ mc)
            have h4 := req_len (adrs (blanks as)) (b.L.map (·.2)) m.ep b.s (stripeM b.ws m.data b.L.length) (List.range b.L.length)
            have h5 := h b (by simp)
            rw [List.length_range] at h4
            have h6 : (comB (adrs (blanks as)) m b).length ≤ b.L.length := h4
            rw [List.flatMap_cons, List.length_append, List.length_cons]
            omega
        have h7 := h2 m.bl fun b mb => by rw [(M.bl b mb).1]; omega
        omega
      have offN : ∀ x, x = D ∨ x = F ∨ (∃ e ∈ L, x = e.t ∨ x = e.s) → ¬ Mu S p m' (blanks as) x := fun x hx => W10.new cm.I (new x hx).1 (new x hx).2
      refine ⟨XX S m' p, m'.I, D, blanks as, L, [F], 64, by rw [cm.I, hI]; rfl, W11.im, by rw [G0.len]; omega, by decide, G0.rows, wf.d, fun e me => ⟨wf.t e me, wf.s e me⟩, fun f mf => by rw [List.mem_singleton.mp mf]; exact wf.f, by show L.length + 1 ≤ 1000; omega, offN _ (.inl rfl), fun e me => ⟨offN _ (.inr (.inr ⟨e, me, .inr rfl⟩)), by have := (rng e me).2.2; omega, (rng e me).1.1, by rw [G0.len]; exact (rng e me).1.2, by have := (rng e me).2.1.1; omega, by have := (rng e me).2.1.2; omega⟩, fun H12 im12 fr12 nn12 => ?_⟩
      obtain ⟨W12, kp12⟩ := W11.carried im12 fr12
      have prs : ∀ x, x < cn → Pres (blanks as) x := fun x hx => blanks_pres (by omega)
      have hp' : ∀ e ∈ L, Pres (blanks as) e.d.toNat ∧ e.r.toNat < 64 := fun e me => by
        obtain ⟨h1, h2, _⟩ := rng e me
        exact ⟨prs _ (by omega), by omega⟩
      have kpa := kp11.trans kp12
      refine ⟨m', carryM (blanks as) L, rfl, W12, B10.kp kpa, kpa _ _ dLP oLP, M', by rw [cm.I, hI], ebl', fun b' mb' j q hq => ?_, fun x r sc hsc => ?_, G0.carry L, fun x hx => (carry_pres _ _ _).mpr (prs x hx)⟩
      · rw [ebl'] at mb'
        obtain ⟨b, mb, rfl⟩ := List.mem_map.mp mb'
        have hq : b.L[j]? = some q := hq
        refine rt_cm (m := m) (b := b) cm.data cm.ep rfl rfl rfl ?_
        rcases carry_pc W10.s self (fun b mb c mc e => W10.s.ser_one mb mc e) G0.rows pc hp' mb hq with z | ⟨z, _⟩
        · exact z
        · have rq := W10.s.row b mb q (List.mem_of_getElem? hq)
          have r0 := rq.1
          rw [M.ms] at r0
          have r0 := upto_mem.mp r0
          have := com_mem (ims := adrs (blanks as)) (m := m) mb hq ((adrs_pres _ _).mpr (prs _ (by omega)))
          rw [← eL] at this
          obtain ⟨e, me, ee⟩ := List.mem_map.mp this
          exact absurd ⟨congrArg Prod.fst ee, congrArg (fun x => x.2.1) ee⟩ (z e me)
      · rcases carry_get G0.rows x r L hp' with ⟨e, me, e1, e2, e3⟩ | ⟨_, e3⟩
        · obtain ⟨b, mb, j, q, hq, eu⟩ := pc e me
          have d1 : e.d = q.2.1 := congrArg Prod.fst eu
          have d2 : e.r = q.2.2 := congrArg (fun x => x.2.1) eu
          obtain ⟨h1, h2, _⟩ := rng e me
          exact ⟨clearB b, by rw [ebl']; exact List.mem_map.mpr ⟨b, mb, rfl⟩, j, q, hq, by omega, by omega⟩
        · rw [e3, blanks_sec] at hsc
          cases hsc
    obtain ⟨bl0, hbl0⟩ : ∃ bl0, bl0 = m.bl := ⟨_, rfl⟩
    rw [← hbl0] at hbl
    rintro σ H12 ⟨m', st1, rfl, W12, B12, ⟨dLP12, oLP12⟩, M12, hI12, hbl12, A1, O1, G1, Pr1⟩
    obtain ⟨cb, hcb⟩ : ∃ cb, cb = bl0.map clearB := ⟨_, rfl⟩
    rw [← hbl0] at hbl12 dLP12
    rw [← hcb] at hbl12
    have eT : (bl0.map fun b => V.ref b.T) = cb.map fun b => V.ref b.T := by rw [hcb, List.map_map]; rfl
    rw [eT] at dLP12
    have zcb : ∀ b ∈ cb, b.mem = false := fun b mb => by
      rw [hcb] at mb
      obtain ⟨c, _, rfl⟩ := List.mem_map.mp mb
      rfl
    have lcb : cb.length ≤ 8 := by rw [hcb, List.length_map, hbl, List.length_map]; exact l8
    have bscb : bs.map (fun e => clearB e.b) = cb := by rw [hcb, hbl, List.map_map]; rfl
    clear eT W10 B10 dLP oLP M hmem lblm ecom G0 W9 B9 hI H10 hbl0 hbl m
    -- fresh
    rw [hbl12] at A1 O1
    have M12c := M12
    refine ⟨fun σ H' => ∃ (FL : Addr) (m2 : SM) (fb : List Blk), σ = [some (.ref s), some (.ref p), some (.int (cn : Int)), some (.int (w : Int)), some (.int (d : Int)), some (.ref S), some (.ref I), some (.ref BK), v8, v9, some (.ref LP), some (.ref FL), none, none, none, none, none, none, none, none] ∧ F29 a H' S p l BK LP FL m2 st1 bs cb fb ∧ M29 m2 d w cn ∧ m2.I = I ∧ m2.bl = cb ++ fb ∧ (∀ b ∈ fb, b.mem = true) ∧ fb.length ≤ 2 ∧ AllR st1 m2 cb, ?_, ?_⟩
    · refine ⟨_, rfl, p, l, 3, rfl, W12.P, by decide, by decide, fun nv H13 n0 n1 P13 o13 => ⟨_, rfl, by omega, by omega, fun FL nFL => ?_⟩⟩
      obtain ⟨W13, kp13⟩ := W12.draw P13 o13.but
      have B13 := B12.kp kp13
      have L13 := kp13 _ _ dLP12 oLP12
      have s14 := Same.new (o := .lst []) nFL
      have W14 := W13.same s14
      have sec14 := W13.secs nFL
      have lF := (W13.P.off nFL).2
      have oF := W13.off nFL
      have t2 : nv.toNat ≤ 2 := by omega
      generalize nv.toNat = turns at t2 ⊢
      refine lc_it walk_range (n := turns) (fun i H' => ∃ (m2 : SM) (fb : List Blk), W29 a H' S p l m2 st1 ∧ Bk (Mu S p m2 st1) H' BK bs ∧ (H' LP = some (.lst (cb.map fun b => V.ref b.T)) ∧ ¬ Mu S p m2 st1 LP) ∧ (H' FL = some (.lst (fb.map fun b => V.ref b.T)) ∧ ¬ Mu S p m2 st1 FL) ∧ M29 m2 d w cn ∧ m2.I = I ∧ m2.bl = cb ++ fb ∧ (∀ b ∈ fb, b.mem = true) ∧ fb.length = i ∧ AllR st1 m2 cb) ⟨m', [], W14, B13.kp (Kp.same s14), ⟨s14 _ _ L13.1, L13.2⟩, ⟨upd_same, oF⟩, M12, hI12, by rw [hbl12, List.append_nil], fun _ m => (nomatch m), rfl, A1⟩ (fun _ _ _ _ => True.intro) ?_ ?_
      · rintro i y H3' H6' hi ⟨m2, fb, W, B, ⟨dL, oL⟩, ⟨dF, oF'⟩, M, hI, hbl2, hmem, lfb, A2⟩ ⟨rfl, rfl⟩
        have lbl2 : m2.bl.length ≤ 10 := by rw [hbl2, List.length_append]; omega
        have wd : m2.data + m2.par = w := by rw [M.data, M.par]; omega
        have lms : m2.ms.length = cn := by rw [M.ms, upto_len]
        have fm : (m2.ms.filter fun d => decide (d ∉ ([] : List Int))) = m2.ms := List.filter_eq_self.mpr fun _ _ => by simp
        refine ⟨rfl, _, rfl, S, m2.dx, _, rfl, W.s.hS, by kernel_rfl, _, rfl, by show 1 ≤ sizeLine; decide, fun Wq nWq => ?_⟩
        have s7 := Same.new (o := .lst [V.int (0 + (i : Int))]) nWq
        have dW : upd H6' Wq (.lst [V.int (0 + (i : Int))]) Wq = some (.lst (([0 + (i : Int)] : List Int).map V.int)) := upd_same
        have W7 := W.same s7
        have offW := W.off nWq
        refine ⟨S, Wq, _, m2, [0 + (i : Int)], [], adrs st1, rfl, W7.s, SqL.of dW, fun z => offW (.inl (.inr z)), .inr (.inr T.e_Store_put), by rw [adrs_refI]; exact SqL.of W7.im.hI, by unfold adrs; rw [List.length_map, G1.len]; omega, by show 1 ≤ 9000; decide, by rw [M.rows]; decide, by omega, by rw [M.data]; exact d1', by omega, fun z => absurd z (by rw [M.data]; show ¬ 1000 * d < 1; omega), fun _ z => absurd z (by rw [fm, lms]; omega), fun _ _ => ⟨by rw [M.rows]; omega, by omega, fun b H8' st5 mb es ew eL ea fr5 up5 => ?_⟩⟩
        obtain ⟨W8', kp8⟩ := W7.store st5 rfl fr5 up5
        have kp9 := (Kp.same s7).trans kp8
        have dF8 := kp9 _ _ dF oF'
        have dL8 := kp9 _ _ dL oL
        refine ⟨_, dF8.1, small _ (by rw [List.length_map]; omega), m2.put b, fb ++ [b], W8'.upd dF8.2 lF.symm sec14, B13.put (B.kp kp9) nFL, ⟨(upd_ne (ne_of_none L13.1 nFL)).trans dL8.1, dL8.2⟩, ⟨by rw [upd_same, List.map_append]; rfl, dF8.2⟩, M.put (by rw [eL, wd]) (by rw [ew]; show 1 ≤ 30; decide) (fun x mx => ?_), hI, ?_, fun c mc => ?_, by rw [List.length_append, lfb]; rfl, A2⟩
        · rw [ew] at mx
          rw [List.mem_singleton.mp mx]
          exact ⟨by omega, by omega⟩
        · show m2.bl ++ [b] = _
          rw [hbl2, List.append_assoc]
        · rcases List.mem_append.mp mc with mc | mc
          · exact hmem c mc
          · rw [List.mem_singleton.mp mc]; exact mb
      rintro H14 ⟨m2, fb, W, B, L, F, M, hI, hbl2, hmem, lfb, A2⟩
      exact ⟨FL, m2, fb, rfl, ⟨W, B, L, F⟩, M, hI, hbl2, hmem, by omega, A2⟩
    rintro σ H14 ⟨FL, m2, fb, rfl, F14, M2, hI2, hbl2, fmem, lfb, A2⟩
    clear A1 M12c M12 hI12 hbl12 W12 B12 dLP12 oLP12 H12 m'
    -- hurt
    refine ⟨fun σ H' => ∃ HU : Addr, σ = [some (.ref s), some (.ref p), some (.int (cn : Int)), some (.int (w : Int)), some (.int (d : Int)), some (.ref S), some (.ref I), some (.ref BK), v8, v9, some (.ref LP), some (.ref FL), some (.ref HU), none, none, none, none, none, none, none] ∧ H14 HU = none ∧ H' = upd H14 HU (.lst []), ?_, ?_⟩
    · exact ⟨Nat.zero_le _, fun HU nHU => ⟨HU, rfl, nHU, rfl⟩⟩
    rintro σ H15 ⟨HU, rfl, nHU, rfl⟩
    have F15 := F14.same (Same.new (o := .lst []) nHU)
    have oHU := F14.W.off nHU
    have lHU := (F14.W.P.off nHU).2
    have sHU := F14.W.secs nHU
    have dHU : upd H14 HU (.lst []) HU = some (.lst (([] : List Int).map V.int)) := upd_same
    generalize upd H14 HU (.lst []) = H15 at F15 dHU ⊢
    have lbl2 : m2.bl.length ≤ 10 := by rw [hbl2, List.length_append]; omega
    have mcb : ∀ b ∈ cb, b ∈ m2.bl := fun b mb => by rw [hbl2]; exact List.mem_append_left _ mb
    have mk2 : m2.made ≤ 100000 := by rw [M2.made]; omega
    refine ⟨fun σ H' => ∃ (v8 v13 v14 v15 : Option V) (st2 : Sts) (hs : List Int), σ = [some (.ref s), some (.ref p), some (.int (cn : Int)), some (.int (w : Int)), some (.int (d : Int)), some (.ref S), some (.ref I), some (.ref BK), v8, v9, some (.ref LP), some (.ref FL), some (.ref HU), v13, v14, v15, none, none, none, none] ∧ F29 a H' S p l BK LP FL m2 st2 bs cb fb ∧ (H' HU = some (.lst (hs.map V.int)) ∧ ¬ Mu S p m2 st2 HU) ∧ hs.length ≤ w - d ∧ Gm st2 cn ∧ (∀ x, x < cn → Pres st2 x) ∧ Ht st1 st2 hs, ?_, ?_⟩
    · refine ⟨_, rfl, _, rfl, _, _, rfl, rfl, _, rfl, by omega, by omega, ?_⟩
      have et : ((w : Int) - (d : Int)).toNat = w - d := by omega
      rw [et]
      refine for_range (lo := 0) (n := w - d) (fun i σ H' => ∃ (v8 v13 v14 v15 : Option V) (st2 : Sts) (hs : List Int), σ = [some (.ref s), some (.ref p), some (.int (cn : Int)), some (.int (w : Int)), some (.int (d : Int)), some (.ref S), some (.ref I), some (.ref BK), v8, v9, some (.ref LP), some (.ref FL), some (.ref HU), v13, v14, v15, none, none, none, none] ∧ F29 a H' S p l BK LP FL m2 st2 bs cb fb ∧ (H' HU = some (.lst (hs.map V.int)) ∧ ¬ Mu S p m2 st2 HU) ∧ hs.length ≤ i ∧ Gm st2 cn ∧ (∀ x, x < cn → Pres st2 x) ∧ Ht st1 st2 hs ∧ (∀ (i : Nat) (dk : DkO) (r : Nat) (sc : Addr × List Int), st2[i]? = some (some dk) → dk.rows[r]? = some (some sc) → HU ≠ sc.1)) ⟨_, none, none, none, st1, [], rfl, F15, ⟨dHU, oHU⟩, Nat.le_refl _, G1, Pr1, ⟨fun x r => .inl rfl, fun x r _ => rfl⟩, sHU⟩ ?_ ?_
      · clear F15 dHU
        rintro i σ H16 hi ⟨v8, v13, v14, v15, st2, hs, rfl, F16, ⟨dHU, oH2⟩, lhs, G2, Pr2, T2, sec2⟩
        refine ⟨_, rfl, _, rfl, p, l, (cn : Int), rfl, F16.W.P, by omega, by omega, fun xv H17 x0 x1 P17 o17 => ?_⟩
        obtain ⟨x, rfl⟩ : ∃ n : Nat, xv = (n : Int) := ⟨xv.toNat, by omega⟩
        have xc : x < cn := by omega
        have F17 := F16.draw P17 o17.but
        have dHU17 := o17.but _ _ dHU fun z => oH2 (.inl (.inl z))
        refine ⟨_, rfl, _, rfl, HU, _, rfl, .inl (SqL.of dHU17), rfl, flat_intsS _, _, rfl, ?_⟩
        rw [inV_intsS]
        by_cases cx : (x : Int) ∈ hs
        · rw [decide_eq_true cx]
          exact iteF ⟨_, _, _, _, st2, hs, rfl, F17, ⟨dHU17, oH2⟩, by omega, G2, Pr2, T2, sec2⟩
        rw [decide_eq_false cx]
        refine iteT ?_
        refine ⟨_, rfl, .inl ⟨rfl, _, SqL.of dHU17⟩, _, rfl, HU, _, _, rfl, rfl, dHU17, small _ (by rw [List.length_map]; omega), ?_⟩
        have e18 : hs.map V.int ++ [V.int (x : Int)] = (hs ++ [(x : Int)]).map V.int := by rw [List.map_append]; rfl
        rw [e18]
        have F18 := F14.put F17 (o := .lst ((hs ++ [(x : Int)]).map V.int)) nHU oH2 lHU.symm sec2
        have dHU18 : upd H17 HU (.lst ((hs ++ [(x : Int)]).map V.int)) HU = some (.lst ((hs ++ [(x : Int)]).map V.int)) := upd_same
        generalize upd H17 HU (.lst ((hs ++ [(x : Int)]).map V.int)) = H18 at F18 dHU18 ⊢
        refine ⟨_, rfl, p, l, 3, rfl, F18.W.P, by decide, by decide, fun bv H19 b0 b1 P19 o19 => ⟨rfl, ?_⟩⟩
        have F19 := F18.draw P19 o19.but
        have dHU19 := o19.but _ _ dHU18 fun z => oH2 (.inl (.inl z))
        generalize decide (V.int bv = V.int 2) = bb
        clear F16 F17 F18 dHU dHU17 dHU18 P17 P19 o17 o19 b0 b1 H16 H17 H18 x0 x1
        have mx : (x : Int) ∈ hs ++ [(x : Int)] := by simp
        refine ⟨18, 64, rfl, ⟨by decide, by decide, by decide, by decide⟩, ?_⟩
        rw [show ((64 : Int) - 18).toNat = 46 from rfl]
        refine for_range (lo := 18) (n := 46) (fun t σ H' => ∃ (v15 : Option V) (st : Sts), σ = [some (.ref s), some (.ref p), some (.int (cn : Int)), some (.int (w : Int)), some (.int (d : Int)), some (.ref S), some (.ref I), some (.ref BK), some (.int (0 + (i : Int))), v9, some (.ref LP), some (.ref FL), some (.ref HU), some (.int (x : Int)), some (.bl bb), v15, none, none, none, none] ∧ F29 a H' S p l BK LP FL m2 st bs cb fb ∧ (H' HU = some (.lst ((hs ++ [(x : Int)]).map V.int)) ∧ ¬ Mu S p m2 st HU) ∧ Gm st cn ∧ (∀ x, x < cn → Pres st x) ∧ Ht st1 st (hs ++ [(x : Int)]) ∧ (∀ r, 18 + t ≤ r → secS st x r = secS st1 x r) ∧ (∀ (i : Nat) (dk : DkO) (r : Nat) (sc : Addr × List Int), st[i]? = some (some dk) → dk.rows[r]? = some (some sc) → HU ≠ sc.1)) ⟨_, st2, rfl, F19, ⟨dHU19, oH2⟩, G2, Pr2, T2.more _, fun r _ => T2.eq x r cx, sec2⟩ ?_ ?_
        · clear F19 dHU19 G2 Pr2 T2 sec2 oH2 v15
          rintro t σ H20 ht ⟨v15, st, rfl, F, ⟨dH, oH⟩, G, Pr, Th, rest, sec⟩
          obtain ⟨r, er⟩ : ∃ r : Nat, (18 : Int) + (t : Int) = (r : Int) := ⟨18 + t, by omega⟩
          rw [er]
          have r64 : r < 64 := by omega
          obtain ⟨dk, gd⟩ := Pr x xc
          have im := F.W.im
          rw [hI2] at im
          have hD := im.hD x dk gd
          have hr64 := G.rows x dk gd
          obtain ⟨o, ho⟩ : ∃ o, dk.rows[r]? = some o := ⟨_, List.getElem?_eq_getElem (by omega)⟩
          have eso : secS st x r = o := by
            unfold secS
            rw [gd]
            show (dk.rows[r]?).join = o
            rw [ho]
            rfl
          have est := rest r (by omega)
          have fin : ∀ (st' : Sts) (H' : Hp) (o' : Option (Addr × List Int)), st' = putS st x r o' → F29 a H' S p l BK LP FL m2 st' bs cb fb → (H' HU = some (.lst ((hs ++ [(x : Int)]).map V.int)) ∧ ¬ Mu S p m2 st' HU) → Dm (secS st1 x r) o' → (∀ sc', o' = some sc' → HU ≠ sc'.1) → ∃ (v15 : Option V) (st : Sts), [some (V.ref s), some (V.ref p), some (V.int (cn : Int)), some (V.int (w : Int)), some (V.int (d : Int)), some (V.ref S), some (V.ref I), some (V.ref BK), some (V.int (0 + (i : Int))), v9, some (V.ref LP), some (V.ref FL), some (V.ref HU), some (V.int (x : Int)), some (V.bl bb), some (V.int (r : Int)), none, none, none, none] = [some (V.ref s), some (V.ref p), some (V.int (cn : Int)), some (V.int (w : Int)), some (V.int (d : Int)), some (V.ref S), some (V.ref I), some (V.ref BK), some (V.int (0 + (i : Int))), v9, some (V.ref LP), some (V.ref FL), some (V.ref HU), some (V.int (x : Int)), some (V.bl bb), v15, none, none, none, none] ∧ F29 a H' S p l BK LP FL m2 st bs cb fb ∧ (H' HU = some (.lst ((hs ++ [(x : Int)]).map V.int)) ∧ ¬ Mu S p m2 st HU) ∧ Gm st cn ∧ (∀ x, x < cn → Pres st x) ∧ Ht st1 st (hs ++ [(x : Int)]) ∧ (∀ r, 18 + (t + 1) ≤ r → secS st x r = secS st1 x r) ∧ (∀ (i : Nat) (dk : DkO) (r : Nat) (sc : Addr × List Int), st[i]? = some (some dk) → dk.rows[r]? = some (some sc) → HU ≠ sc.1) := fun st' H' o' est' F' dH' dm nw => by
            subst est'
            refine ⟨_, _, rfl, F', dH', G.put _ _ _, fun y hy => pres_put (Pr y hy), Th.put mx gd (by omega) dm, fun r' hr' => ?_, fun i' dk' r' sc' g1 g2 => ?_⟩
            · rw [putS_sec_ne (.inr (by omega))]
              exact rest r' (by omega)
            · obtain ⟨dk0, g0, _, e2⟩ := putS_some g1
              rw [e2] at g2
              split at g2
              · next c =>
                rcases item_set g2 with ⟨_, e3, _⟩ | ⟨_, g3⟩
                · exact nw sc' e3.symm
                · exact sec i' dk0 r' sc' g0 g3
              · exact sec i' dk0 r' sc' g0 g2
          have same : ∀ H', F29 a H' S p l BK LP FL m2 st bs cb fb → (H' HU = some (.lst ((hs ++ [(x : Int)]).map V.int)) ∧ ¬ Mu S p m2 st HU) → ∃ (v15 : Option V) (st : Sts), [some (V.ref s), some (V.ref p), some (V.int (cn : Int)), some (V.int (w : Int)), some (V.int (d : Int)), some (V.ref S), some (V.ref I), some (V.ref BK), some (V.int (0 + (i : Int))), v9, some (V.ref LP), some (V.ref FL), some (V.ref HU), some (V.int (x : Int)), some (V.bl bb), some (V.int (r : Int)), none, none, none, none] = [some (V.ref s), some (V.ref p), some (V.int (cn : Int)), some (V.int (w : Int)), some (V.int (d : Int)), some (V.ref S), some (V.ref I), some (V.ref BK), some (V.int (0 + (i : Int))), v9, some (V.ref LP), some (V.ref FL), some (V.ref HU), some (V.int (x : Int)), some (V.bl bb), v15, none, none, none, none] ∧ F29 a H' S p l BK LP FL m2 st bs cb fb ∧ (H' HU = some (.lst ((hs ++ [(x : Int)]).map V.int)) ∧ ¬ Mu S p m2 st HU) ∧ Gm st cn ∧ (∀ x, x < cn → Pres st x) ∧ Ht st1 st (hs ++ [(x : Int)]) ∧ (∀ r, 18 + (t + 1) ≤ r → secS st x r = secS st1 x r) ∧ (∀ (i : Nat) (dk : DkO) (r : Nat) (sc : Addr × List Int), st[i]? = some (some dk) → dk.rows[r]? = some (some sc) → HU ≠ sc.1) := fun H' F' dH' =>
            ⟨_, st, rfl, F', dH', G, Pr, Th, fun r' hr' => rest r' (by omega), sec⟩
          refine ⟨_, rfl, bb, rfl, ?_⟩
          cases bb with
          | true =>
            refine iteT ?_
            refine ⟨_, rfl, _, rfl, I, _, _, _, rfl, rfl, SqL.of im.hI, at_of (j := x) rfl (dk_get gd), _, rfl, dk.A, _, _, r, rfl, rfl, hD.1, by rw [List.length_map]; exact ixN_nat (by omega), ?_⟩
            rw [show (dk.rows.map rowV).set r V.non = (dk.rows.set r none).map rowV from map_set_row dk.rows r none]
            obtain ⟨Wr, kr⟩ := F.W.row (r := r) gd
            exact fin _ _ none rfl (F.kp Wr kr) (kr _ _ dH oH) (dm_none _) fun _ z => nomatch z
          | false =>
            refine iteF ?_
            refine ⟨_, rfl, _, rfl, I, _, _, _, rfl, rfl, SqL.of im.hI, at_of (j := x) rfl (dk_get gd), _, rfl, dk.A, _, _, _, rfl, rfl, SqL.of hD.1, at_of (j := r) rfl (row_get ho), rfl, _, rfl, ?_⟩
            cases o with
            | none =>
              rw [decide_eq_true (show rowV none = V.non from rfl)]
              exact iteF (iteF (same _ F ⟨dH, oH⟩))
            | some sc =>
              rw [decide_eq_false (show ¬ rowV (some sc) = V.non from fun z => nomatch z)]
              refine iteT ⟨_, rfl, p, l, 2, rfl, F.W.P, by decide, by decide, fun kd H21 k0 k1 P21 o21 => ⟨rfl, _, rfl, ite2 (fun _ => ?_) fun _ => ?_⟩⟩
              · have F21 := F.draw P21 o21.but
                have dH21 := o21.but _ _ dH fun z => oH (.inl (.inl z))
                have im21 := F21.W.im
                rw [hI2] at im21
                have es1 : secS st1 x r = some sc := by rw [← est, eso]
                obtain ⟨f1, f2, f3⟩ := sec_facts F21.W.s M2 d1' dw mk2 mcb A2 O1 es1
                refine ⟨_, rfl, _, rfl, _, rfl, I, _, _, _, rfl, rfl, SqL.of im21.hI, at_of (j := x) rfl (dk_get gd), _, rfl, XX S m2 p, p, l, I, st, dk, x, r, sc, rfl, P21, .inl rfl, fun q n z => F21.W.off n (.inl z), im21, fun z => F21.W.lm (.inr (.inr z)), gd, ho, by omega, f1, f2, f3, fun o' H22 P22 im22 fr22 nn22 cond => ?_⟩
                obtain ⟨W22, k22⟩ := F21.W.img P22 (by rw [hI2]; exact im22) (fun q u e n1 _ n3 => fr22 q u e n1 fun z => n3 ⟨x, dk, gd, z⟩) fun q z => .inl (putS_dkS.mp z)
                refine fin _ _ o' rfl (F21.kp W22 k22) (k22 _ _ dH21 oH) ?_ fun sc' z => ?_
                · cases o' with
                  | none => exact dm_none _
                  | some sc' =>
                    obtain ⟨_, i', v', g1, g2, g3, g4⟩ := cond sc' rfl
                    exact .inr (.inr ⟨sc, i', v', sc'.1, es1, g1, g2, g3, by rw [← g4]⟩)
                · exact ne_of_none dH21 (cond sc' z).1
              · exact same _ (F.draw P21 o21.but) ⟨o21.but _ _ dH fun z => oH (.inl (.inl z)), oH⟩
        rintro σ H20 ⟨v15, st, rfl, F, dH, G, Pr, Th, _, sec⟩
        exact ⟨_, _, _, v15, st, hs ++ [(x : Int)], rfl, F, dH, by rw [List.length_append]; exact Nat.succ_le_succ lhs, G, Pr, Th, sec⟩
      rintro σ H16 ⟨v8, v13, v14, v15, st2, hs, rfl, F16, dHU, lhs, G2, Pr2, T2, _⟩
      exact ⟨v8, v13, v14, v15, st2, hs, rfl, F16, dHU, lhs, G2, Pr2, T2⟩
    clear F15 dHU oHU lHU sHU nHU F14 G1 Pr1
    rintro σ H16 ⟨v8, v13, v14, v15, st2, hs, rfl, F16, ⟨dHU, oHU⟩, lhs, G2, Pr2, T2⟩
    -- repairs
    have rows2 : m2.rows ≤ 1000 := by rw [M2.rows]; decide
    have ep2 : 0 ≤ m2.ep ∧ m2.ep < 65521 := by rw [M2.ep]; decide
    have d2 : 1 ≤ m2.data := by rw [M2.data]; exact d1'
    have bfacts : ∀ b ∈ cb, m2.data ≤ b.L.length ∧ b.L.length ≤ 6 ∧ b.ws.length ≤ 100 ∧ (∀ x ∈ b.ws, Wd x) ∧ b.L.length = w := fun b mb => by
      obtain ⟨g1, g2, g3⟩ := M2.bl b (mcb b mb)
      exact ⟨by rw [M2.data, g1]; exact dw, by omega, by omega, g3, g1⟩
    have disk : ∀ {H' : Hp}, Stor a H' S m2 → ∀ b ∈ cb, ∀ (j : Nat) q, b.L[j]? = some q → ((q.2.1.toNat : Nat) : Int) = q.2.1 ∧ q.2.1.toNat < cn ∧ ((q.2.2.toNat : Nat) : Int) = q.2.2 ∧ q.2.2.toNat < 64 := fun h b mb j q hq => by
      obtain ⟨r1, r2⟩ := h.row b (mcb b mb) q (List.mem_of_getElem? hq)
      rw [M2.ms] at r1
      rw [M2.rows] at r2
      have := upto_mem.mp r1
      omega
    obtain ⟨os2, hos2⟩ : ∃ os2 : Blk → List (Option (List Int)), os2 = fun b => osB (gS st1 st2 b) m2 b := ⟨_, rfl⟩
    have ok2 : ∀ b ∈ cb, BOk st2 m2 b (os2 b) := fun b mb => by
      obtain ⟨g1, g2, g3, g4, _⟩ := bfacts b mb
      rw [hos2]
      refine osB_ok F16.W.s (mcb b mb) rows2 ep2 mk2 d2 g1 g2 g3 g4 (fun j q hq z => ?_) fun j q hq z => ?_
      · rw [gS_at hq] at z
        obtain ⟨D, hD⟩ := A2 b mb j q hq
        exact ⟨D, by rw [of_decide_eq_true z]; exact hD⟩
      · rw [gS_at hq] at z
        exact dm_gp (T2.dm _ _) (of_decide_eq_false z) (rt_whole F16.W.s (mcb b mb) rows2 ep2 mk2 d2 g1 g3 g4 hq (A2 b mb j q hq))
    have hurtD : ∀ b ∈ cb, ∀ (j : Nat) q, b.L[j]? = some q → gS st1 st2 b j = false → q.2.1 ∈ hs := fun b mb j q hq z => by
      obtain ⟨e1, _⟩ := disk F16.W.s b mb j q hq
      rw [gS_at hq] at z
      refine Classical.byContradiction fun n => of_decide_eq_false z (T2.eq _ _ (by rw [e1]; exact n))
    have many2 : ∀ b ∈ cb, m2.data ≤ (presO (os2 b)).length := fun b mb => by
      have := osB_many (m := m2) (F16.W.s.asc b (mcb b mb)) (hurtD b mb)
      rw [hos2]
      rw [(bfacts b mb).2.2.2.2] at this
      rw [M2.data]
      show d ≤ (presO (osB (gS st1 st2 b) m2 b)).length
      omega
    have lsm : ∀ b, b ∈ cb ++ fb ++ cb.take 1 → b ∈ m2.bl := fun b mb => by
      rw [hbl2]
      rcases List.mem_append.mp mb with mb | mb
      · exact mb
      · exact List.mem_append_left _ (List.mem_of_mem_take mb)
    have lsc : ∀ b, b ∈ cb ++ fb ++ cb.take 1 → b.mem = false → b ∈ cb := fun b mb zb => by
      rcases List.mem_append.mp mb with mb | mb
      · rcases List.mem_append.mp mb with mb | mb
        · exact mb
        · rw [fmem b mb] at zb; cases zb
      · exact List.mem_of_mem_take mb
    refine ⟨fun σ H' => ∃ (D : Addr) (L : List Rq) (rs : List Blk), σ = [some (.ref s), some (.ref p), some (.int (cn : Int)), some (.int (w : Int)), some (.int (d : Int)), some (.ref S), some (.ref I), some (.ref BK), v8, v9, some (.ref LP), some (.ref FL), some (.ref HU), v13, v14, v15, some (.ref D), none, none, none] ∧ F29 a H' S p l BK LP FL m2 st2 bs cb fb ∧ H' HU = some (.lst (hs.map V.int)) ∧ (H' D = some (.lst (L.map rqV)) ∧ ¬ Mu S p m2 st2 D) ∧ (∀ e ∈ L, H' e.t = some (.tup [.str "write", .int e.d, .int e.r, .ref e.s]) ∧ H' e.s = some (.lst (e.ws.map V.int)) ∧ ¬ Mu S p m2 st2 e.s) ∧ (∀ b, b ∈ rs ↔ b ∈ cb) ∧ L.map rqM = rs.flatMap (repB st2 m2 os2) ∧ L.length ≤ 400, ?_, ?_⟩
    · refine ⟨_, rfl, S, m2.dx, _, rfl, F16.W.s.hS, by kernel_rfl, _, rfl, _, rfl, LP, FL, _, _, rfl, rfl, F16.L.1, F16.F.1, Nat.le_of_lt (small _ (by rw [List.length_map, List.length_map]; omega)), fun q3 n3 => ?_⟩
      have s17 := Same.new (o := .lst ((cb.map fun b => V.ref b.T) ++ fb.map fun b => V.ref b.T)) n3
      have d17 : upd H16 q3 (.lst ((cb.map fun b => V.ref b.T) ++ fb.map fun b => V.ref b.T)) q3 = some (.lst ((cb.map fun b => V.ref b.T) ++ fb.map fun b => V.ref b.T)) := upd_same
      generalize upd H16 q3 (.lst ((cb.map fun b => V.ref b.T) ++ fb.map fun b => V.ref b.T)) = H17 at s17 d17 ⊢
      refine ⟨_, rfl, _, rfl, LP, _, rfl, SqL.of (s17 _ _ F16.L.1), fun q4 n4 => ?_⟩
      rw [show cutV (cb.map fun b => V.ref b.T) none (some 1) = (cb.take 1).map fun b => V.ref b.T from by rw [show (1 : Int) = ((1 : Nat) : Int) from rfl, cut_take, List.map_take]]
      have s18 := Same.new (o := .lst ((cb.take 1).map fun b => V.ref b.T)) n4
      have d18 : upd H17 q4 (.lst ((cb.take 1).map fun b => V.ref b.T)) q4 = some (.lst ((cb.take 1).map fun b => V.ref b.T)) := upd_same
      generalize upd H17 q4 (.lst ((cb.take 1).map fun b => V.ref b.T)) = H18 at s18 d18 ⊢
      refine ⟨q3, q4, _, _, rfl, rfl, s18 _ _ d17, d18, Nat.le_of_lt (small _ (by simp only [List.length_append, List.length_map, List.length_take]; omega)), fun q5 n5 => ?_⟩
      rw [show ((cb.map fun b => V.ref b.T) ++ fb.map fun b => V.ref b.T) ++ ((cb.take 1).map fun b => V.ref b.T) = (cb ++ fb ++ cb.take 1).map fun b => V.ref b.T from by rw [List.map_append, List.map_append]]
      have s19 := Same.new (o := .lst ((cb ++ fb ++ cb.take 1).map fun b => V.ref b.T)) n5
      have d19 : upd H18 q5 (.lst ((cb ++ fb ++ cb.take 1).map fun b => V.ref b.T)) q5 = some (.lst ((cb ++ fb ++ cb.take 1).map fun b => V.ref b.T)) := upd_same
      generalize upd H18 q5 (.lst ((cb ++ fb ++ cb.take 1).map fun b => V.ref b.T)) = H19 at s19 d19 ⊢
      have s20 := (s17.trans s18).trans s19
      have F19 := F16.same s20
      refine ⟨S, q5, m2, cb ++ fb ++ cb.take 1, XX S m2 p, st2, os2, rfl, F19.W.s, SqL.of d19, lsm, by simp only [List.length_append, List.length_take]; omega, by omega, rows2, d2, ep2, mk2, F19.W.im, by rw [G2.len]; omega, G2.rows100, fun b mb zb => ok2 b (lsc b mb zb), fun ⟨b, mb, zb, lt⟩ => absurd lt (by have := many2 b (lsc b mb zb); omega), fun _ D L rs H20 s21 nD wr new rsq eL lL => ?_⟩
      have F20 := F19.same s21
      refine ⟨D, L, rs, rfl, F20, s21 _ _ (s20 _ _ dHU), ⟨wr.1, F19.W.off nD⟩, fun e me => ⟨(wr.2 e me).1.1, (wr.2 e me).2.1, F19.W.off (new e me).2⟩, fun b => ?_, eL, lL⟩
      rw [rsq]
      exact ⟨fun z => lsc b z.1 z.2, fun z => ⟨List.mem_append_left _ (List.mem_append_left _ z), zcb b z⟩⟩
    clear F16 dHU H16
    rintro σ H16 ⟨D, L, rs, rfl, F16, dHU, ⟨dD, oD⟩, hL, hrs, eL, lL⟩
    have pcL : ∀ e ∈ L, ∃ b ∈ cb, ∃ (j : Nat) (q : Addr × Int × Int), b.L[j]? = some q ∧ rqM e = (q.2.1, q.2.2, sealM 3 q.2.1 q.2.2 m2.ep b.s (rowB m2 b j)) ∧ gS st1 st2 b j = false := fun e me => by
      obtain ⟨b, mb, j, q, hq, e1, e2⟩ := rep_pc (st := st2) (m := m2) (bl := rs) (os := os2) (fun b _ => by rw [hos2]; exact osB_len _ _ _) (u := rqM e) (by rw [← eL]; exact List.mem_map.mpr ⟨e, me, rfl⟩)
      refine ⟨b, (hrs b).mp mb, j, q, hq, e1, ?_⟩
      rw [hos2] at e2
      have e2 : j ∈ brkM (osP (gS st1 st2 b) (stripeM b.ws m2.data b.L.length) b.L.length) [] := e2
      rw [osP_brk] at e2
      simpa using (List.mem_filter.mp e2).2
    -- are they writes
    refine ⟨fun σ H' => σ = [some (.ref s), some (.ref p), some (.int (cn : Int)), some (.int (w : Int)), some (.int (d : Int)), some (.ref S), some (.ref I), some (.ref BK), v8, v9, some (.ref LP), some (.ref FL), some (.ref HU), v13, v14, v15, some (.ref D), none, none, none] ∧ Same H16 H', ?_, ?_⟩
    · refine ⟨_, rfl, _, _, _, _, true, rfl, .ty "list", .base (.lst dD), kit_ty (by decide +kernel), true, rfl, iteF ?_⟩
      refine ⟨_, rfl, D, rfl, ⟨_, SqL.of dD⟩, fun A nA => lc_list (K := K) (a := D) (xs := L.map rqV) (fun i H' => Same H16 H' ∧ H' A = some (.lst ((List.replicate i true).map V.bl))) ⟨Same.new nA, upd_same⟩ (fun i H' _ q => SqL.of (q.1 _ _ dD)) ?_ ?_⟩
      · rintro i y H2 hy ⟨s2, dA⟩
        obtain ⟨e, he, rfl⟩ : ∃ e, L[i]? = some e ∧ y = rqV e := by
          rw [List.getElem?_map] at hy
          cases z : L[i]? with
          | none => rw [z] at hy; cases hy
          | some e => rw [z] at hy; exact ⟨e, rfl, (Option.some.inj hy).symm⟩
        have me := List.mem_of_getElem? he
        have il := item_lt he
        have dt := s2 _ _ (hL e me).1
        refine ⟨rfl, _, rfl, e.t, _, 0, .str "write", rfl, rfl, SqT.of dt, at_of (j := 0) rfl rfl, rfl, _, rfl, ?_⟩
        rw [decide_eq_true rfl]
        refine iteT ⟨_, rfl, e.t, _, 1, .int e.d, rfl, rfl, SqT.of dt, at_of (j := 1) rfl rfl, _, rfl, HU, _, rfl, .inl (SqL.of (s2 _ _ dHU)), rfl, flat_intsS _, ?_⟩
        rw [inV_intsS]
        obtain ⟨b, mb, j, q, hq, e1, e2⟩ := pcL e me
        have e3 : e.d = q.2.1 := congrArg Prod.fst e1
        rw [e3, decide_eq_true (hurtD b mb j q hq e2)]
        refine ⟨_, dA, small _ (by rw [List.length_map, List.length_replicate]; omega), same_put s2 nA, ?_⟩
        rw [upd_same, List.replicate_succ', List.map_append]
        rfl
      rintro H2 ⟨s2, dA⟩
      have all_rep : ∀ n : Nat, (List.replicate n true).all id = true := fun n => by
        induction n with
        | zero => rfl
        | succ n ih => rw [List.replicate_succ, List.all_cons, ih]; rfl
      exact ⟨A, _, rfl, SqL.of dA, true, by rw [all_rep], iteF ⟨rfl, s2⟩⟩
    rintro σ H17 ⟨rfl, s17⟩
    have F17 := F16.same s17
    have dD17 := s17 _ _ dD
    have hL17 : ∀ e ∈ L, H17 e.t = some (.tup [.str "write", .int e.d, .int e.r, .ref e.s]) ∧ H17 e.s = some (.lst (e.ws.map V.int)) := fun e me => ⟨s17 _ _ (hL e me).1, s17 _ _ (hL e me).2.1⟩
    have oL : ∀ e ∈ L, ¬ Mu S p m2 st2 e.s := fun e me => (hL e me).2.2
    clear hL dD F16 s17 dHU
    -- carry
    have selfc : ∀ b ∈ cb, ∃ c ∈ m2.bl, c.s = b.s ∧ c.L = b.L ∧ c.ws = b.ws := fun b mb => ⟨b, mcb b mb, rfl, rfl, rfl⟩
    have pcR : ∀ e ∈ L, PcReq m2 cb (rqM e) := fun e me => by
      obtain ⟨b, mb, j, q, hq, e1, _⟩ := pcL e me
      exact ⟨b, mb, j, q, hq, e1⟩
    have rngL : ∀ e ∈ L, (0 ≤ e.d ∧ e.d < (cn : Int)) ∧ (18 ≤ e.r ∧ e.r < 64) ∧ e.ws.length ≤ 38 := fun e me => pc_range F17.W.s M2 d1' selfc (pcR e me)
    refine ⟨fun σ H' => ∃ st3, σ = [some (.ref s), some (.ref p), some (.int (cn : Int)), some (.int (w : Int)), some (.int (d : Int)), some (.ref S), some (.ref I), some (.ref BK), v8, v9, some (.ref LP), some (.ref FL), some (.ref HU), v13, v14, v15, some (.ref D), none, none, none] ∧ F29 a H' S p l BK LP FL m2 st3 bs cb fb ∧ Gm st3 cn ∧ (∀ x, x < cn → Pres st3 x) ∧ AllR st3 m2 cb, ?_, ?_⟩
    · refine ⟨_, rfl, _, rfl, XX S m2 p, m2.I, D, st2, L, [], 64, by rw [hI2]; rfl, F17.W.im, by rw [G2.len]; omega, by decide, G2.rows, by rw [List.map_nil, List.append_nil]; exact dD17, hL17, fun _ m => (nomatch m), by show L.length + 0 ≤ 1000; omega, oD, fun e me => ⟨oL e me, by have := (rngL e me).2.2; omega, (rngL e me).1.1, by rw [G2.len]; exact (rngL e me).1.2, by have := (rngL e me).2.1.1; omega, by have := (rngL e me).2.1.2; omega⟩, fun H18 im18 fr18 nn18 => ?_⟩
      obtain ⟨W18, k18⟩ := F17.W.carried im18 fr18
      have hp' : ∀ e ∈ L, Pres st2 e.d.toNat ∧ e.r.toNat < 64 := fun e me => by
        obtain ⟨h1, h2, _⟩ := rngL e me
        exact ⟨Pr2 _ (by omega), by omega⟩
      refine ⟨carryM st2 L, rfl, F17.kp W18 k18, G2.carry L, fun x hx => (carry_pres _ _ _).mpr (Pr2 x hx), fun b mb j q hq => ?_⟩
      rcases carry_pc F17.W.s selfc (fun b mb c mc e => F17.W.s.ser_one (mcb b mb) (mcb c mc) e) G2.rows pcR hp' mb hq with z | ⟨z, e⟩
      · exact z
      · cases zg : gS st1 st2 b j with
        | true =>
          rw [gS_at hq] at zg
          obtain ⟨D', hD'⟩ := A2 b mb j q hq
          exact ⟨D', by rw [e, of_decide_eq_true zg]; exact hD'⟩
        | false =>
          obtain ⟨e1, e2, _⟩ := disk F17.W.s b mb j q hq
          have hj : j ∈ brkM (os2 b) [] := by
            rw [hos2]
            show j ∈ brkM (osP (gS st1 st2 b) (stripeM b.ws m2.data b.L.length) b.L.length) []
            rw [osP_brk]
            exact List.mem_filter.mpr ⟨List.mem_range.mpr (item_lt hq), by rw [zg]; rfl⟩
          have := rep_mem (st := st2) (m := m2) (os := os2) ((hrs b).mpr mb) hq ((adrs_pres _ _).mpr (Pr2 _ e2)) hj
          rw [← eL] at this
          obtain ⟨u, mu, eu⟩ := List.mem_map.mp this
          exact absurd ⟨congrArg Prod.fst eu, congrArg (fun x => x.2.1) eu⟩ (z u mu)
    clear F17 dD17 hL17 oL rngL pcR pcL hrs eL lL oD oHU many2 ok2 hurtD hos2 os2 T2 Pr2 G2 A2 O1
    rintro σ H18 ⟨st3, rfl, F18, G3, Pr3, A3⟩
    -- nothing is left to repair
    have lsm' : ∀ b, b ∈ cb ++ fb → b ∈ m2.bl := fun b mb => by rw [hbl2]; exact mb
    have lsc' : ∀ b, b ∈ cb ++ fb → b.mem = false → b ∈ cb := fun b mb zb => lsc b (List.mem_append_left _ mb) zb
    refine ⟨fun σ H' => σ = [some (.ref s), some (.ref p), some (.int (cn : Int)), some (.int (w : Int)), some (.int (d : Int)), some (.ref S), some (.ref I), some (.ref BK), v8, v9, some (.ref LP), some (.ref FL), some (.ref HU), v13, v14, v15, some (.ref D), none, none, none] ∧ Same H18 H', ?_, ?_⟩
    · refine ⟨_, rfl, S, m2.dx, _, rfl, F18.W.s.hS, by kernel_rfl, _, rfl, _, rfl, LP, FL, _, _, rfl, rfl, F18.L.1, F18.F.1, Nat.le_of_lt (small _ (by rw [List.length_map, List.length_map]; omega)), fun q3 n3 => ?_⟩
      rw [show (cb.map fun b => V.ref b.T) ++ (fb.map fun b => V.ref b.T) = (cb ++ fb).map fun b => V.ref b.T from by rw [List.map_append]]
      have s19 := Same.new (o := .lst ((cb ++ fb).map fun b => V.ref b.T)) n3
      have d19 : upd H18 q3 (.lst ((cb ++ fb).map fun b => V.ref b.T)) q3 = some (.lst ((cb ++ fb).map fun b => V.ref b.T)) := upd_same
      generalize upd H18 q3 (.lst ((cb ++ fb).map fun b => V.ref b.T)) = H19 at s19 d19 ⊢
      have F19 := F18.same s19
      have many3 : ∀ b ∈ cb, m2.data ≤ (presO (osB (fun _ => true) m2 b)).length := fun b mb => by rw [(osB_all m2 b).1]; exact (bfacts b mb).1
      refine ⟨S, q3, m2, cb ++ fb, XX S m2 p, st3, fun b => osB (fun _ => true) m2 b, rfl, F19.W.s, SqL.of d19, lsm', by simp only [List.length_append]; omega, by omega, rows2, d2, ep2, mk2, F19.W.im, by rw [G3.len]; omega, G3.rows100, fun b mb zb => ?_, fun ⟨b, mb, zb, lt⟩ => absurd lt (by have := many3 b (lsc' b mb zb); show ¬ (presO (osB (fun _ => true) m2 b)).length < m2.data; omega), fun _ D' L' rs' H20 s20 nD' wr new rsq eL' _ => ?_⟩
      · obtain ⟨g1, g2, g3, g4, _⟩ := bfacts b (lsc' b mb zb)
        exact osB_ok F19.W.s (lsm' b mb) rows2 ep2 mk2 d2 g1 g2 g3 g4 (fun j q hq _ => A3 b (lsc' b mb zb) j q hq) fun j q hq z => Bool.noConfusion z
      · have eN : rs'.flatMap (repB st3 m2 fun b => osB (fun _ => true) m2 b) = [] := by
          rw [List.flatMap_eq_nil_iff]
          intro b _
          unfold repB
          rw [(osB_all m2 b).2]
          rfl
        rw [eN] at eL'
        have eN' : L' = [] := List.map_eq_nil_iff.mp eL'
        subst eN'
        refine ⟨Nat.zero_le _, fun E' nE => ?_⟩
        have sE := Same.new (o := .lst []) nE
        refine ⟨_, _, dp_ints (xs := []) (SqL.of (sE _ _ wr.1)), dp_ints (xs := []) (SqL.of upd_same), shaped_ints _, shaped_ints _, _, rfl, ?_⟩
        rw [eqv_ints, decide_eq_true rfl]
        exact iteF ⟨rfl, (s19.trans s20).trans sE⟩
    rintro σ H19 ⟨rfl, s19⟩
    have F19 := F18.same s19
    clear F18 s19
    -- lost
    refine ⟨fun σ H' => ∃ LO : Addr, σ = [some (.ref s), some (.ref p), some (.int (cn : Int)), some (.int (w : Int)), some (.int (d : Int)), some (.ref S), some (.ref I), some (.ref BK), v8, v9, some (.ref LP), some (.ref FL), some (.ref HU), v13, v14, v15, some (.ref D), some (.ref LO), none, none] ∧ H19 LO = none ∧ Same H19 H' ∧ H' LO = some (.lst ((upto cn).map V.int)), ?_, ?_⟩
    · refine ⟨_, rfl, _, rfl, by omega, by omega, fun LO nLO => ?_⟩
      rw [Int.toNat_natCast]
      refine lc_it walk_range (n := cn) (fun i H' => Same H19 H' ∧ H' LO = some (.lst ((upto i).map V.int))) ⟨Same.new nLO, upd_same⟩ (fun _ _ _ _ => True.intro) ?_ ?_
      · rintro i y H5' H6' hi ⟨s5', dM⟩ ⟨rfl, rfl⟩
        refine ⟨rfl, _, rfl, _, dM, small _ (by rw [List.length_map, upto_len]; omega), same_put s5' nLO, ?_⟩
        rw [upd_same, upto_snoc, List.map_append]
        show some (HO.lst (List.map V.int (upto i) ++ [V.int (0 + (i : Int))])) = _
        rw [Int.zero_add]
        rfl
      rintro H5' ⟨s5', dLO⟩
      exact ⟨LO, rfl, nLO, s5', dLO⟩
    rintro σ H20 ⟨LO, rfl, nLO, s20, dLO⟩
    have F20 := F19.same s20
    have oLO := F19.W.off nLO
    have lLO := (F19.W.P.off nLO).2
    have sLO := F19.W.secs nLO
    refine ⟨fun σ H' => ∃ (v8 : Option V) (xs : List Int), σ = [some (.ref s), some (.ref p), some (.int (cn : Int)), some (.int (w : Int)), some (.int (d : Int)), some (.ref S), some (.ref I), some (.ref BK), v8, v9, some (.ref LP), some (.ref FL), some (.ref HU), v13, v14, v15, some (.ref D), some (.ref LO), none, none] ∧ F29 a H' S p l BK LP FL m2 st3 bs cb fb ∧ H' LO = some (.lst (xs.map V.int)) ∧ xs.length = w - d ∧ ∀ x ∈ xs, 0 ≤ x ∧ x < (cn : Int), ?_, ?_⟩
    · refine ⟨_, rfl, _, rfl, _, rfl, _, _, rfl, rfl, _, _, rfl, rfl, _, rfl, by omega, by omega, ?_⟩
      rw [show ((cn : Int) - ((w : Int) - (d : Int))).toNat = cn - (w - d) by omega]
      refine for_range (lo := 0) (n := cn - (w - d)) (fun i σ H' => ∃ (v8 : Option V) (xs : List Int), σ = [some (.ref s), some (.ref p), some (.int (cn : Int)), some (.int (w : Int)), some (.int (d : Int)), some (.ref S), some (.ref I), some (.ref BK), v8, v9, some (.ref LP), some (.ref FL), some (.ref HU), v13, v14, v15, some (.ref D), some (.ref LO), none, none] ∧ F29 a H' S p l BK LP FL m2 st3 bs cb fb ∧ H' LO = some (.lst (xs.map V.int)) ∧ xs.length + i = cn ∧ ∀ x ∈ xs, 0 ≤ x ∧ x < (cn : Int)) ⟨_, upto cn, rfl, F20, dLO, by rw [upto_len]; rfl, fun x mx => upto_mem.mp mx⟩ ?_ ?_
      · clear F20 dLO
        rintro i σ H21 hi ⟨v8, xs, rfl, F, dLO, lxs, rxs⟩
        refine ⟨_, rfl, .inl ⟨rfl, _, SqL.of dLO⟩, _, rfl, _, rfl, LO, _, rfl, .inl (SqL.of dLO), p, l, (xs.length : Int), by rw [List.length_map]; rfl, F.W.P, by omega, by omega, fun v H22 v0 v1 P22 o22 => ?_⟩
        obtain ⟨vn, rfl⟩ : ∃ n : Nat, v = (n : Int) := ⟨v.toNat, by omega⟩
        have hv : vn < xs.length := by omega
        have hx : xs[vn]? = some xs[vn] := List.getElem?_eq_getElem hv
        have F22 := F.draw P22 o22.but
        have dLO22 := o22.but _ _ dLO fun z => oLO (.inl (.inl z))
        refine ⟨LO, _, _, vn, _, rfl, rfl, dLO22, by omega, by omega, seqIx_nat (by rw [List.length_map]; omega), by rw [List.getElem?_map, hx]; rfl, ?_⟩
        have er : (xs.map V.int).eraseIdx vn = (xs.eraseIdx vn).map V.int := erase_map _ _ _
        rw [er]
        exact ⟨_, xs.eraseIdx vn, rfl, F19.put F22 nLO oLO lLO.symm sLO, upd_same, by rw [List.length_eraseIdx, if_pos hv]; omega, fun x mx => rxs x (List.mem_of_mem_eraseIdx mx)⟩
      rintro σ H21 ⟨v8, xs, rfl, F, dLO, lxs, rxs⟩
      exact ⟨v8, xs, rfl, F, dLO, by omega, rxs⟩
    clear F20 dLO s20 H20
    rintro σ H20 ⟨v8, xs, rfl, F20, dLO, lxs, rxs⟩
    -- the lost disks go
    refine ⟨fun σ H' => ∃ (v13 : Option V) (st4 : Sts), σ = [some (.ref s), some (.ref p), some (.int (cn : Int)), some (.int (w : Int)), some (.int (d : Int)), some (.ref S), some (.ref I), some (.ref BK), v8, v9, some (.ref LP), some (.ref FL), some (.ref HU), v13, v14, v15, some (.ref D), some (.ref LO), none, none] ∧ F29 a H' S p l BK LP FL m2 st4 bs cb fb ∧ Gm st4 cn ∧ (∀ (y r : Nat), (y : Int) ∉ xs → secS st4 y r = secS st3 y r) ∧ (∀ (y r : Nat), (y : Int) ∈ xs → secS st4 y r = none), ?_, ?_⟩
    · refine ⟨_, rfl, LO, rfl, ⟨_, SqL.of dLO⟩, for_list (K := K) (a := LO) (xs := xs.map V.int) (fun i σ H' => ∃ (v13 : Option V) (st4 : Sts), σ = [some (.ref s), some (.ref p), some (.int (cn : Int)), some (.int (w : Int)), some (.int (d : Int)), some (.ref S), some (.ref I), some (.ref BK), v8, v9, some (.ref LP), some (.ref FL), some (.ref HU), v13, v14, v15, some (.ref D), some (.ref LO), none, none] ∧ F29 a H' S p l BK LP FL m2 st4 bs cb fb ∧ (H' LO = some (.lst (xs.map V.int)) ∧ ¬ Mu S p m2 st4 LO) ∧ Gm st4 cn ∧ (∀ (y r : Nat), (y : Int) ∉ xs.take i → secS st4 y r = secS st3 y r) ∧ (∀ (y r : Nat), (y : Int) ∈ xs.take i → secS st4 y r = none)) ⟨v13, st3, rfl, F20, ⟨dLO, oLO⟩, G3, fun _ _ _ => rfl, fun _ _ m => (nomatch m)⟩ (fun i σ H' _ ⟨_, _, _, _, q, _⟩ => SqL.of q.1) ?_ ?_⟩
      · clear F20 dLO oLO G3
        rintro i y σ H21 hy ⟨v13, st4, rfl, F, ⟨dLO, oLO⟩, G, eq4, no4⟩
        obtain ⟨xv, hx, rfl⟩ := int_item hy
        obtain ⟨x0, x1⟩ := rxs xv (List.mem_of_getElem? hx)
        obtain ⟨x, rfl⟩ : ∃ n : Nat, xv = (n : Int) := ⟨xv.toNat, by omega⟩
        have im := F.W.im
        rw [hI2] at im
        refine ⟨_, rfl, _, rfl, I, _, _, x, rfl, rfl, im.hI, by rw [List.length_map]; exact ixN_nat (by rw [G.len]; omega), ?_⟩
        rw [show (st4.map dkV).set x V.non = (st4.set x none).map dkV from set_dk st4 x none]
        obtain ⟨Wg, kg⟩ := F.W.gone x
        rw [hI2] at Wg kg
        refine ⟨_, _, rfl, F.kp Wg kg, kg _ _ dLO oLO, G.gone x, fun y' r ny => ?_, fun y' r my => ?_⟩
        · rw [take_snoc hx] at ny
          have n1 : (y' : Int) ∉ xs.take i := fun z => ny (List.mem_append_left _ z)
          have n2 : y' ≠ x := fun z => ny (List.mem_append_right _ (by rw [z]; simp))
          rw [setS_sec n2]
          exact eq4 y' r n1
        · rw [take_snoc hx] at my
          by_cases c : y' = x
          · subst c
            cases z : secS (st4.set y' none) y' r with
            | none => rfl
            | some sc =>
              obtain ⟨dk, g, _⟩ := sec_some z
              exact absurd ⟨dk, g⟩ setS_gone
          · rw [setS_sec c]
            rcases List.mem_append.mp my with my | my
            · exact no4 y' r my
            · exact absurd (by have := List.mem_singleton.mp my; omega) c
      rintro σ H21 ⟨v13, st4, rfl, F, _, G, eq4, no4⟩
      rw [List.length_map, List.take_length] at eq4 no4
      exact ⟨v13, st4, rfl, F, G, eq4, no4⟩
    clear F20 dLO oLO lLO sLO nLO F19 G3
    rintro σ H21 ⟨v13, st4, rfl, F21, G4, eq4, no4⟩
    -- the blocks are read
    have ok4 : ∀ {H' : Hp}, Stor a H' S m2 → ∀ b ∈ cb, BOk st4 m2 b (osB (gD xs b) m2 b) := fun h b mb => by
      obtain ⟨g1, g2, g3, g4, _⟩ := bfacts b mb
      refine osB_ok h (mcb b mb) rows2 ep2 mk2 d2 g1 g2 g3 g4 (fun j q hq z => ?_) fun j q hq z => ?_
      · obtain ⟨e1, _⟩ := disk h b mb j q hq
        rw [gD_at hq] at z
        obtain ⟨D', hD'⟩ := A3 b mb j q hq
        exact ⟨D', by rw [eq4 _ _ (by rw [e1]; exact of_decide_eq_true z)]; exact hD'⟩
      · obtain ⟨e1, _⟩ := disk h b mb j q hq
        rw [gD_at hq] at z
        exact gp_none (no4 _ _ (by rw [e1]; exact Classical.byContradiction fun n => of_decide_eq_false z n))
    have many4 : ∀ b ∈ cb, m2.data ≤ (presO (osB (gD xs b) m2 b)).length := fun b mb => by
      have := osB_many (m := m2) (g := gD xs b) (hs := xs) (F21.W.s.asc b (mcb b mb)) fun j q hq z => by
        rw [gD_at hq] at z
        exact Classical.byContradiction fun n => of_decide_eq_false z n
      rw [(bfacts b mb).2.2.2.2] at this
      rw [M2.data]
      omega
    refine ⟨fun σ H' => ∃ v18 : Option V, σ = [some (.ref s), some (.ref p), some (.int (cn : Int)), some (.int (w : Int)), some (.int (d : Int)), some (.ref S), some (.ref I), some (.ref BK), v8, v9, some (.ref LP), some (.ref FL), some (.ref HU), v13, v14, v15, some (.ref D), some (.ref LO), v18, none] ∧ Same H21 H', ?_, ?_⟩
    · refine ⟨_, rfl, BK, rfl, ⟨_, SqL.of F21.B.d.1⟩, for_list (K := K) (a := BK) (xs := bs.map fun e => V.ref e.t) (fun i σ H' => ∃ v18 : Option V, σ = [some (.ref s), some (.ref p), some (.int (cn : Int)), some (.int (w : Int)), some (.int (d : Int)), some (.ref S), some (.ref I), some (.ref BK), v8, v9, some (.ref LP), some (.ref FL), some (.ref HU), v13, v14, v15, some (.ref D), some (.ref LO), v18, none] ∧ Same H21 H') ⟨none, rfl, Same.refl _⟩ (fun i σ H' _ ⟨_, _, q⟩ => SqL.of (q _ _ F21.B.d.1)) ?_ ?_⟩
      · rintro i y σ H22 hy ⟨v18, rfl, s22⟩
        obtain ⟨e, he, rfl⟩ := ln_item hy
        have me := List.mem_of_getElem? he
        have F22 := F21.same s22
        have mb : clearB e.b ∈ cb := by rw [← bscb]; exact List.mem_map.mpr ⟨e, me, rfl⟩
        refine ⟨_, rfl, S, m2.dx, _, rfl, F22.W.s.hS, by kernel_rfl, _, rfl, e.t, _, 0, .ref e.b.T, rfl, rfl, SqT.of (F22.B.t e me).1, at_of (j := 0) rfl rfl, S, m2, clearB e.b, XX S m2 p, st4, osB (gD xs (clearB e.b)) m2 (clearB e.b), rfl, F22.W.s, mcb _ mb, rfl, rows2, d2, F22.W.im, by rw [G4.len]; omega, G4.rows100, ok4 F22.W.s _ mb, many4 _ mb, fun D' H23 s23 dD' => ?_⟩
        have F23 := F22.same s23
        refine ⟨_, rfl, e.t, _, 1, .ref e.k, rfl, rfl, SqT.of (F23.B.t e me).1, at_of (j := 1) rfl rfl, _, _, dp_ints (SqL.of dD'), dp_ints (SqL.of (F23.B.k e me).1), shaped_ints _, shaped_ints _, _, rfl, ?_⟩
        rw [eqv_ints, decide_eq_true (show (clearB e.b).ws = e.b.ws from rfl)]
        exact iteF ⟨_, rfl, s22.trans s23⟩
      rintro σ H22 ⟨v18, rfl, s22⟩
      exact ⟨v18, rfl, s22⟩
    rintro σ H22 ⟨v18, rfl, s22⟩
    have F22 := F21.same s22
    clear F21 s22 ok4 many4 eq4 no4
    -- all disks go
    refine ⟨fun σ H' => ∃ (v13 : Option V) (st5 : Sts), σ = [some (.ref s), some (.ref p), some (.int (cn : Int)), some (.int (w : Int)), some (.int (d : Int)), some (.ref S), some (.ref I), some (.ref BK), v8, v9, some (.ref LP), some (.ref FL), some (.ref HU), v13, v14, v15, some (.ref D), some (.ref LO), v18, none] ∧ F29 a H' S p l BK LP FL m2 st5 bs cb fb ∧ Gm st5 cn ∧ (∀ (y r : Nat), y < cn → secS st5 y r = none), ?_, ?_⟩
    · refine ⟨_, rfl, _, rfl, by omega, by omega, ?_⟩
      rw [Int.toNat_natCast]
      refine for_range (lo := 0) (n := cn) (fun i σ H' => ∃ (v13 : Option V) (st5 : Sts), σ = [some (.ref s), some (.ref p), some (.int (cn : Int)), some (.int (w : Int)), some (.int (d : Int)), some (.ref S), some (.ref I), some (.ref BK), v8, v9, some (.ref LP), some (.ref FL), some (.ref HU), v13, v14, v15, some (.ref D), some (.ref LO), v18, none] ∧ F29 a H' S p l BK LP FL m2 st5 bs cb fb ∧ Gm st5 cn ∧ (∀ (y r : Nat), y < i → secS st5 y r = none)) ⟨v13, st4, rfl, F22, G4, fun y r h => absurd h (Nat.not_lt_zero _)⟩ ?_ ?_
      · clear F22 G4
        rintro x σ H23 hx ⟨v13, st5, rfl, F, G, no5⟩
        rw [show (0 : Int) + (x : Int) = (x : Int) from Int.zero_add _]
        have im := F.W.im
        rw [hI2] at im
        refine ⟨_, rfl, _, rfl, I, _, _, x, rfl, rfl, im.hI, by rw [List.length_map]; exact ixN_nat (by rw [G.len]; omega), ?_⟩
        rw [show (st5.map dkV).set x V.non = (st5.set x none).map dkV from set_dk st5 x none]
        obtain ⟨Wg, kg⟩ := F.W.gone x
        rw [hI2] at Wg kg
        refine ⟨_, _, rfl, F.kp Wg kg, G.gone x, fun y r hy => ?_⟩
        by_cases c : y = x
        · subst c
          cases z : secS (st5.set y none) y r with
          | none => rfl
          | some sc =>
            obtain ⟨dk, g, _⟩ := sec_some z
            exact absurd ⟨dk, g⟩ setS_gone
        · rw [setS_sec c]
          exact no5 y r (by omega)
      rintro σ H23 ⟨v13, st5, rfl, F, G, no5⟩
      exact ⟨v13, st5, rfl, F, G, no5⟩
    rintro σ H23 ⟨v13, st5, rfl, F23, G5, no5⟩
    refine ⟨_, rfl, BK, _, rfl, .inl (SqL.of F23.B.d.1), rfl, _, rfl, ?_⟩
    rw [List.length_map]
    by_cases c : bs.length = 0
    · rw [decide_eq_true (show V.int ((bs.length : Nat) : Int) = V.int 0 by rw [c]; rfl)]
      exact iteT (k _)
    · rw [decide_eq_false (show ¬ V.int ((bs.length : Nat) : Int) = V.int 0 from fun z => c (by have := V.int.inj z; omega))]
      have lc : cb.length = bs.length := by rw [← bscb, List.length_map]
      obtain ⟨b0, m0⟩ : ∃ b, b ∈ cb := List.exists_mem_of_length_pos (by omega)
      refine iteF ⟨_, rfl, _, rfl, S, LP, m2, cb, XX S m2 p, st5, fun b => osB (fun _ => false) m2 b, rfl, F23.W.s, SqL.of F23.L.1, mcb, by omega, by omega, rows2, d2, ep2, mk2, F23.W.im, by rw [G5.len]; omega, G5.rows100, fun b mb _ => ?_, ⟨b0, m0, zcb b0 m0, by rw [osB_not]; exact d2⟩, fun H' _ => k H'⟩
      obtain ⟨g1, g2, g3, g4, _⟩ := bfacts b mb
      refine osB_ok F23.W.s (mcb b mb) rows2 ep2 mk2 d2 g1 g2 g3 g4 (fun j q hq z => Bool.noConfusion z) fun j q hq _ => ?_
      obtain ⟨_, e2, _⟩ := disk F23.W.s b mb j q hq
      exact gp_none (no5 _ _ e2)
end
theorem all_mk {l : PySem.W.OpenLaw} {w : World} {K : PySem.W.Frag} {h : Heap} {mg : Str → Option Value} {fa : Addr} (X : K.In h) (G : h.Ns mainGlobals mg) (hfa : mg "law" = some (.ref fa))
    {f_is_present : Addr} {oc_is_present kV_is_present dc_is_present pm_is_present cd_is_present ct_is_present : Value} {od_is_present an_is_present : Option Addr} {sl_is_present : Array (Option Value)}
    {f_sector_at : Addr} {oc_sector_at kV_sector_at dc_sector_at pm_sector_at cd_sector_at ct_sector_at : Value} {od_sector_at an_sector_at : Option Addr} {sl_sector_at : Array (Option Value)}
    {f_inverse : Addr} {oc_inverse kV_inverse dc_inverse pm_inverse cd_inverse ct_inverse : Value} {od_inverse an_inverse : Option Addr} {sl_inverse : Array (Option Value)}
    {f_weight : Addr} {oc_weight kV_weight dc_weight pm_weight cd_weight ct_weight : Value} {od_weight an_weight : Option Addr} {sl_weight : Array (Option Value)}
    {f_weights : Addr} {oc_weights kV_weights dc_weights pm_weights cd_weights ct_weights : Value} {od_weights an_weights : Option Addr} {sl_weights : Array (Option Value)}
    {f_check_lengths : Addr} {oc_check_lengths kV_check_lengths dc_check_lengths pm_check_lengths cd_check_lengths ct_check_lengths : Value} {od_check_lengths an_check_lengths : Option Addr} {sl_check_lengths : Array (Option Value)}
    {f_piece_at : Addr} {oc_piece_at kV_piece_at dc_piece_at pm_piece_at cd_piece_at ct_piece_at : Value} {od_piece_at an_piece_at : Option Addr} {sl_piece_at : Array (Option Value)}
    {f_encode : Addr} {oc_encode kV_encode dc_encode pm_encode cd_encode ct_encode : Value} {od_encode an_encode : Option Addr} {sl_encode : Array (Option Value)}
    {f_present_numbers : Addr} {oc_present_numbers kV_present_numbers dc_present_numbers pm_present_numbers cd_present_numbers ct_present_numbers : Value} {od_present_numbers an_present_numbers : Option Addr} {sl_present_numbers : Array (Option Value)}
    {f_recover : Addr} {oc_recover kV_recover dc_recover pm_recover cd_recover ct_recover : Value} {od_recover an_recover : Option Addr} {sl_recover : Array (Option Value)}
    {f_agree : Addr} {oc_agree kV_agree dc_agree pm_agree cd_agree ct_agree : Value} {od_agree an_agree : Option Addr} {sl_agree : Array (Option Value)}
    {f_wrong_pieces : Addr} {oc_wrong_pieces kV_wrong_pieces dc_wrong_pieces pm_wrong_pieces cd_wrong_pieces ct_wrong_pieces : Value} {od_wrong_pieces an_wrong_pieces : Option Addr} {sl_wrong_pieces : Array (Option Value)}
    {f_check_words : Addr} {oc_check_words kV_check_words dc_check_words pm_check_words cd_check_words ct_check_words : Value} {od_check_words an_check_words : Option Addr} {sl_check_words : Array (Option Value)}
    {f_is_place : Addr} {oc_is_place kV_is_place dc_is_place pm_is_place cd_is_place ct_is_place : Value} {od_is_place an_is_place : Option Addr} {sl_is_place : Array (Option Value)}
    {f_seal : Addr} {oc_seal kV_seal dc_seal pm_seal cd_seal ct_seal : Value} {od_seal an_seal : Option Addr} {sl_seal : Array (Option Value)}
    {f_unseal : Addr} {oc_unseal kV_unseal dc_unseal pm_unseal cd_unseal ct_unseal : Value} {od_unseal an_unseal : Option Addr} {sl_unseal : Array (Option Value)}
    {f_is_whole : Addr} {oc_is_whole kV_is_whole dc_is_whole pm_is_whole cd_is_whole ct_is_whole : Value} {od_is_whole an_is_whole : Option Addr} {sl_is_whole : Array (Option Value)}
    {f_choose_disks : Addr} {oc_choose_disks kV_choose_disks dc_choose_disks pm_choose_disks cd_choose_disks ct_choose_disks : Value} {od_choose_disks an_choose_disks : Option Addr} {sl_choose_disks : Array (Option Value)}
    {f_piece_size : Addr} {oc_piece_size kV_piece_size dc_piece_size pm_piece_size cd_piece_size ct_piece_size : Value} {od_piece_size an_piece_size : Option Addr} {sl_piece_size : Array (Option Value)}
    {f_data_pieces : Addr} {oc_data_pieces kV_data_pieces dc_data_pieces pm_data_pieces cd_data_pieces ct_data_pieces : Value} {od_data_pieces an_data_pieces : Option Addr} {sl_data_pieces : Array (Option Value)}
    {f_piece_requests : Addr} {oc_piece_requests kV_piece_requests dc_piece_requests pm_piece_requests cd_piece_requests ct_piece_requests : Value} {od_piece_requests an_piece_requests : Option Addr} {sl_piece_requests : Array (Option Value)}
    {f_write_stripe : Addr} {oc_write_stripe kV_write_stripe dc_write_stripe pm_write_stripe cd_write_stripe ct_write_stripe : Value} {od_write_stripe an_write_stripe : Option Addr} {sl_write_stripe : Array (Option Value)}
    {f_good_piece : Addr} {oc_good_piece kV_good_piece dc_good_piece pm_good_piece cd_good_piece ct_good_piece : Value} {od_good_piece an_good_piece : Option Addr} {sl_good_piece : Array (Option Value)}
    {f_read_stripe : Addr} {oc_read_stripe kV_read_stripe dc_read_stripe pm_read_stripe cd_read_stripe ct_read_stripe : Value} {od_read_stripe an_read_stripe : Option Addr} {sl_read_stripe : Array (Option Value)}
    {f_repair_stripe : Addr} {oc_repair_stripe kV_repair_stripe dc_repair_stripe pm_repair_stripe cd_repair_stripe ct_repair_stripe : Value} {od_repair_stripe an_repair_stripe : Option Addr} {sl_repair_stripe : Array (Option Value)}
    {f_law_pot : Addr} {oc_law_pot kV_law_pot dc_law_pot pm_law_pot cd_law_pot ct_law_pot : Value} {od_law_pot an_law_pot : Option Addr} {sl_law_pot : Array (Option Value)}
    {f_law_next : Addr} {oc_law_next kV_law_next dc_law_next pm_law_next cd_law_next ct_law_next : Value} {od_law_next an_law_next : Option Addr} {sl_law_next : Array (Option Value)}
    {f_law_word : Addr} {oc_law_word kV_law_word dc_law_word pm_law_word cd_law_word ct_law_word : Value} {od_law_word an_law_word : Option Addr} {sl_law_word : Array (Option Value)}
    {f_law_words : Addr} {oc_law_words kV_law_words dc_law_words pm_law_words cd_law_words ct_law_words : Value} {od_law_words an_law_words : Option Addr} {sl_law_words : Array (Option Value)}
    {f_law_carry : Addr} {oc_law_carry kV_law_carry dc_law_carry pm_law_carry cd_law_carry ct_law_carry : Value} {od_law_carry an_law_carry : Option Addr} {sl_law_carry : Array (Option Value)}
    {f_law_spoil : Addr} {oc_law_spoil kV_law_spoil dc_law_spoil pm_law_spoil cd_law_spoil ct_law_spoil : Value} {od_law_spoil an_law_spoil : Option Addr} {sl_law_spoil : Array (Option Value)}
    {f_law_refused : Addr} {oc_law_refused kV_law_refused dc_law_refused pm_law_refused cd_law_refused ct_law_refused : Value} {od_law_refused an_law_refused : Option Addr} {sl_law_refused : Array (Option Value)}
    {f_law : Addr} {oc_law kV_law dc_law pm_law cd_law ct_law : Value} {od_law an_law : Option Addr} {sl_law : Array (Option Value)}
    {f_Space_init : Addr} {oc_Space_init kV_Space_init dc_Space_init pm_Space_init cd_Space_init ct_Space_init : Value} {od_Space_init an_Space_init : Option Addr} {sl_Space_init : Array (Option Value)}
    {f_Space_take : Addr} {oc_Space_take kV_Space_take dc_Space_take pm_Space_take cd_Space_take ct_Space_take : Value} {od_Space_take an_Space_take : Option Addr} {sl_Space_take : Array (Option Value)}
    {f_Space_give : Addr} {oc_Space_give kV_Space_give dc_Space_give pm_Space_give cd_Space_give ct_Space_give : Value} {od_Space_give an_Space_give : Option Addr} {sl_Space_give : Array (Option Value)}
    {f_Space_settle : Addr} {oc_Space_settle kV_Space_settle dc_Space_settle pm_Space_settle cd_Space_settle ct_Space_settle : Value} {od_Space_settle an_Space_settle : Option Addr} {sl_Space_settle : Array (Option Value)}
    {f_Space_free_count : Addr} {oc_Space_free_count kV_Space_free_count dc_Space_free_count pm_Space_free_count cd_Space_free_count ct_Space_free_count : Value} {od_Space_free_count an_Space_free_count : Option Addr} {sl_Space_free_count : Array (Option Value)}
    {f_Store_init : Addr} {oc_Store_init kV_Store_init dc_Store_init pm_Store_init cd_Store_init ct_Store_init : Value} {od_Store_init an_Store_init : Option Addr} {sl_Store_init : Array (Option Value)}
    {f_Store_look : Addr} {oc_Store_look kV_Store_look dc_Store_look pm_Store_look cd_Store_look ct_Store_look : Value} {od_Store_look an_Store_look : Option Addr} {sl_Store_look : Array (Option Value)}
    {f_Store_put : Addr} {oc_Store_put dc_Store_put pm_Store_put cd_Store_put ct_Store_put : Value} {od_Store_put an_Store_put : Option Addr} {sl_Store_put : Array (Option Value)}
    {f_Store_get : Addr} {oc_Store_get kV_Store_get dc_Store_get pm_Store_get cd_Store_get ct_Store_get : Value} {od_Store_get an_Store_get : Option Addr} {sl_Store_get : Array (Option Value)}
    {f_Store_commit : Addr} {oc_Store_commit kV_Store_commit dc_Store_commit pm_Store_commit cd_Store_commit ct_Store_commit : Value} {od_Store_commit an_Store_commit : Option Addr} {sl_Store_commit : Array (Option Value)}
    {f_Store_forget : Addr} {oc_Store_forget kV_Store_forget dc_Store_forget pm_Store_forget cd_Store_forget ct_Store_forget : Value} {od_Store_forget an_Store_forget : Option Addr} {sl_Store_forget : Array (Option Value)}
    {f_Store_repairs : Addr} {oc_Store_repairs kV_Store_repairs dc_Store_repairs pm_Store_repairs cd_Store_repairs ct_Store_repairs : Value} {od_Store_repairs an_Store_repairs : Option Addr} {sl_Store_repairs : Array (Option Value)}
    {f_Store_free_counts : Addr} {oc_Store_free_counts kV_Store_free_counts dc_Store_free_counts pm_Store_free_counts cd_Store_free_counts ct_Store_free_counts : Value} {od_Store_free_counts an_Store_free_counts : Option Addr} {sl_Store_free_counts : Array (Option Value)}
    {c_PoolError : Addr}
    {c_InvalidArgument : Addr}
    {c_NotEnoughPieces : Addr}
    {c_NoSpace : Addr}
    {c_NotEnoughDisks : Addr}
    {c_Damaged : Addr}
    {c_Space : Addr}
    {c_Store : Addr}
    {kd_Store_put e_Store_put : Addr} {de_Store_put : Option Addr} {ne_Store_put : Nat} {se_Store_put : Array (Option Value)}
    {tk_PRIME : Tok}
    {tk_MAX_PIECES : Tok}
    {tk_MAX_DISKS : Tok}
    {tk_MAX_PAYLOAD : Tok}
    {tk_MAX_ROWS : Tok}
    {tk_FIRST_ROW : Tok}
    {tk_NEW : Tok}
    {tk_OLD : Tok}
    {tk_WAITING : Tok}
    {tk_LABEL : Tok}
    {tk_PIECE : Tok}
    {tk_HEADER_WORDS : Tok}
    {tk_CHECK_WORDS : Tok}
    (a_Space : PySem.W.nsIn K mainGlobals "Space" = some (some (.ref c_Space)))
    (a_Store : PySem.W.nsIn K mainGlobals "Store" = some (some (.ref c_Store)))
    (a_is_present : PySem.W.nsIn K mainGlobals "is_present" = some (some (.ref f_is_present)))
    (l_is_present : K.lookup f_is_present = some ⟨oc_is_present, od_is_present, .func (PySem.W.fnOf "is_present" "is_present" (defArgs s_is_present) (defBody s_is_present) (defScope s_is_present) .none kV_is_present dc_is_present pm_is_present an_is_present cd_is_present ct_is_present), sl_is_present⟩)
    (q_is_present : PySem.W.codeIn K cd_is_present "is_present" = true)
    (k_is_present : PySem.W.keepIn K (.ref f_is_present) = true)
    (a_sector_at : PySem.W.nsIn K mainGlobals "sector_at" = some (some (.ref f_sector_at)))
    (l_sector_at : K.lookup f_sector_at = some ⟨oc_sector_at, od_sector_at, .func (PySem.W.fnOf "sector_at" "sector_at" (defArgs s_sector_at) (defBody s_sector_at) (defScope s_sector_at) .none kV_sector_at dc_sector_at pm_sector_at an_sector_at cd_sector_at ct_sector_at), sl_sector_at⟩)
    (q_sector_at : PySem.W.codeIn K cd_sector_at "sector_at" = true)
    (k_sector_at : PySem.W.keepIn K (.ref f_sector_at) = true)
    (a_inverse : PySem.W.nsIn K mainGlobals "inverse" = some (some (.ref f_inverse)))
    (l_inverse : K.lookup f_inverse = some ⟨oc_inverse, od_inverse, .func (PySem.W.fnOf "inverse" "inverse" (defArgs s_inverse) (defBody s_inverse) (defScope s_inverse) .none kV_inverse dc_inverse pm_inverse an_inverse cd_inverse ct_inverse), sl_inverse⟩)
    (q_inverse : PySem.W.codeIn K cd_inverse "inverse" = true)
    (k_inverse : PySem.W.keepIn K (.ref f_inverse) = true)
    (a_weight : PySem.W.nsIn K mainGlobals "weight" = some (some (.ref f_weight)))
    (l_weight : K.lookup f_weight = some ⟨oc_weight, od_weight, .func (PySem.W.fnOf "weight" "weight" (defArgs s_weight) (defBody s_weight) (defScope s_weight) .none kV_weight dc_weight pm_weight an_weight cd_weight ct_weight), sl_weight⟩)
    (q_weight : PySem.W.codeIn K cd_weight "weight" = true)
    (k_weight : PySem.W.keepIn K (.ref f_weight) = true)
    (a_weights : PySem.W.nsIn K mainGlobals "weights" = some (some (.ref f_weights)))
    (l_weights : K.lookup f_weights = some ⟨oc_weights, od_weights, .func (PySem.W.fnOf "weights" "weights" (defArgs s_weights) (defBody s_weights) (defScope s_weights) .none kV_weights dc_weights pm_weights an_weights cd_weights ct_weights), sl_weights⟩)
    (q_weights : PySem.W.codeIn K cd_weights "weights" = true)
    (k_weights : PySem.W.keepIn K (.ref f_weights) = true)
    (a_check_lengths : PySem.W.nsIn K mainGlobals "check_lengths" = some (some (.ref f_check_lengths)))
    (l_check_lengths : K.lookup f_check_lengths = some ⟨oc_check_lengths, od_check_lengths, .func (PySem.W.fnOf "check_lengths" "check_lengths" (defArgs s_check_lengths) (defBody s_check_lengths) (defScope s_check_lengths) .none kV_check_lengths dc_check_lengths pm_check_lengths an_check_lengths cd_check_lengths ct_check_lengths), sl_check_lengths⟩)
    (q_check_lengths : PySem.W.codeIn K cd_check_lengths "check_lengths" = true)
    (k_check_lengths : PySem.W.keepIn K (.ref f_check_lengths) = true)
    (a_piece_at : PySem.W.nsIn K mainGlobals "piece_at" = some (some (.ref f_piece_at)))
    (l_piece_at : K.lookup f_piece_at = some ⟨oc_piece_at, od_piece_at, .func (PySem.W.fnOf "piece_at" "piece_at" (defArgs s_piece_at) (defBody s_piece_at) (defScope s_piece_at) .none kV_piece_at dc_piece_at pm_piece_at an_piece_at cd_piece_at ct_piece_at), sl_piece_at⟩)
    (q_piece_at : PySem.W.codeIn K cd_piece_at "piece_at" = true)
    (k_piece_at : PySem.W.keepIn K (.ref f_piece_at) = true)
    (a_encode : PySem.W.nsIn K mainGlobals "encode" = some (some (.ref f_encode)))
    (l_encode : K.lookup f_encode = some ⟨oc_encode, od_encode, .func (PySem.W.fnOf "encode" "encode" (defArgs s_encode) (defBody s_encode) (defScope s_encode) .none kV_encode dc_encode pm_encode an_encode cd_encode ct_encode), sl_encode⟩)
    (q_encode : PySem.W.codeIn K cd_encode "encode" = true)
    (k_encode : PySem.W.keepIn K (.ref f_encode) = true)
    (a_present_numbers : PySem.W.nsIn K mainGlobals "present_numbers" = some (some (.ref f_present_numbers)))
    (l_present_numbers : K.lookup f_present_numbers = some ⟨oc_present_numbers, od_present_numbers, .func (PySem.W.fnOf "present_numbers" "present_numbers" (defArgs s_present_numbers) (defBody s_present_numbers) (defScope s_present_numbers) .none kV_present_numbers dc_present_numbers pm_present_numbers an_present_numbers cd_present_numbers ct_present_numbers), sl_present_numbers⟩)
    (q_present_numbers : PySem.W.codeIn K cd_present_numbers "present_numbers" = true)
    (k_present_numbers : PySem.W.keepIn K (.ref f_present_numbers) = true)
    (a_recover : PySem.W.nsIn K mainGlobals "recover" = some (some (.ref f_recover)))
    (l_recover : K.lookup f_recover = some ⟨oc_recover, od_recover, .func (PySem.W.fnOf "recover" "recover" (defArgs s_recover) (defBody s_recover) (defScope s_recover) .none kV_recover dc_recover pm_recover an_recover cd_recover ct_recover), sl_recover⟩)
    (q_recover : PySem.W.codeIn K cd_recover "recover" = true)
    (k_recover : PySem.W.keepIn K (.ref f_recover) = true)
    (a_agree : PySem.W.nsIn K mainGlobals "agree" = some (some (.ref f_agree)))
    (l_agree : K.lookup f_agree = some ⟨oc_agree, od_agree, .func (PySem.W.fnOf "agree" "agree" (defArgs s_agree) (defBody s_agree) (defScope s_agree) .none kV_agree dc_agree pm_agree an_agree cd_agree ct_agree), sl_agree⟩)
    (q_agree : PySem.W.codeIn K cd_agree "agree" = true)
    (k_agree : PySem.W.keepIn K (.ref f_agree) = true)
    (a_wrong_pieces : PySem.W.nsIn K mainGlobals "wrong_pieces" = some (some (.ref f_wrong_pieces)))
    (l_wrong_pieces : K.lookup f_wrong_pieces = some ⟨oc_wrong_pieces, od_wrong_pieces, .func (PySem.W.fnOf "wrong_pieces" "wrong_pieces" (defArgs s_wrong_pieces) (defBody s_wrong_pieces) (defScope s_wrong_pieces) .none kV_wrong_pieces dc_wrong_pieces pm_wrong_pieces an_wrong_pieces cd_wrong_pieces ct_wrong_pieces), sl_wrong_pieces⟩)
    (q_wrong_pieces : PySem.W.codeIn K cd_wrong_pieces "wrong_pieces" = true)
    (k_wrong_pieces : PySem.W.keepIn K (.ref f_wrong_pieces) = true)
    (a_check_words : PySem.W.nsIn K mainGlobals "check_words" = some (some (.ref f_check_words)))
    (l_check_words : K.lookup f_check_words = some ⟨oc_check_words, od_check_words, .func (PySem.W.fnOf "check_words" "check_words" (defArgs s_check_words) (defBody s_check_words) (defScope s_check_words) .none kV_check_words dc_check_words pm_check_words an_check_words cd_check_words ct_check_words), sl_check_words⟩)
    (q_check_words : PySem.W.codeIn K cd_check_words "check_words" = true)
    (k_check_words : PySem.W.keepIn K (.ref f_check_words) = true)
    (a_is_place : PySem.W.nsIn K mainGlobals "is_place" = some (some (.ref f_is_place)))
    (l_is_place : K.lookup f_is_place = some ⟨oc_is_place, od_is_place, .func (PySem.W.fnOf "is_place" "is_place" (defArgs s_is_place) (defBody s_is_place) (defScope s_is_place) .none kV_is_place dc_is_place pm_is_place an_is_place cd_is_place ct_is_place), sl_is_place⟩)
    (q_is_place : PySem.W.codeIn K cd_is_place "is_place" = true)
    (k_is_place : PySem.W.keepIn K (.ref f_is_place) = true)
    (a_seal : PySem.W.nsIn K mainGlobals "seal" = some (some (.ref f_seal)))
    (l_seal : K.lookup f_seal = some ⟨oc_seal, od_seal, .func (PySem.W.fnOf "seal" "seal" (defArgs s_seal) (defBody s_seal) (defScope s_seal) .none kV_seal dc_seal pm_seal an_seal cd_seal ct_seal), sl_seal⟩)
    (q_seal : PySem.W.codeIn K cd_seal "seal" = true)
    (k_seal : PySem.W.keepIn K (.ref f_seal) = true)
    (a_unseal : PySem.W.nsIn K mainGlobals "unseal" = some (some (.ref f_unseal)))
    (l_unseal : K.lookup f_unseal = some ⟨oc_unseal, od_unseal, .func (PySem.W.fnOf "unseal" "unseal" (defArgs s_unseal) (defBody s_unseal) (defScope s_unseal) .none kV_unseal dc_unseal pm_unseal an_unseal cd_unseal ct_unseal), sl_unseal⟩)
    (q_unseal : PySem.W.codeIn K cd_unseal "unseal" = true)
    (k_unseal : PySem.W.keepIn K (.ref f_unseal) = true)
    (a_is_whole : PySem.W.nsIn K mainGlobals "is_whole" = some (some (.ref f_is_whole)))
    (l_is_whole : K.lookup f_is_whole = some ⟨oc_is_whole, od_is_whole, .func (PySem.W.fnOf "is_whole" "is_whole" (defArgs s_is_whole) (defBody s_is_whole) (defScope s_is_whole) .none kV_is_whole dc_is_whole pm_is_whole an_is_whole cd_is_whole ct_is_whole), sl_is_whole⟩)
    (q_is_whole : PySem.W.codeIn K cd_is_whole "is_whole" = true)
    (k_is_whole : PySem.W.keepIn K (.ref f_is_whole) = true)
    (a_choose_disks : PySem.W.nsIn K mainGlobals "choose_disks" = some (some (.ref f_choose_disks)))
    (l_choose_disks : K.lookup f_choose_disks = some ⟨oc_choose_disks, od_choose_disks, .func (PySem.W.fnOf "choose_disks" "choose_disks" (defArgs s_choose_disks) (defBody s_choose_disks) (defScope s_choose_disks) .none kV_choose_disks dc_choose_disks pm_choose_disks an_choose_disks cd_choose_disks ct_choose_disks), sl_choose_disks⟩)
    (q_choose_disks : PySem.W.codeIn K cd_choose_disks "choose_disks" = true)
    (k_choose_disks : PySem.W.keepIn K (.ref f_choose_disks) = true)
    (a_piece_size : PySem.W.nsIn K mainGlobals "piece_size" = some (some (.ref f_piece_size)))
    (l_piece_size : K.lookup f_piece_size = some ⟨oc_piece_size, od_piece_size, .func (PySem.W.fnOf "piece_size" "piece_size" (defArgs s_piece_size) (defBody s_piece_size) (defScope s_piece_size) .none kV_piece_size dc_piece_size pm_piece_size an_piece_size cd_piece_size ct_piece_size), sl_piece_size⟩)
    (q_piece_size : PySem.W.codeIn K cd_piece_size "piece_size" = true)
    (k_piece_size : PySem.W.keepIn K (.ref f_piece_size) = true)
    (a_data_pieces : PySem.W.nsIn K mainGlobals "data_pieces" = some (some (.ref f_data_pieces)))
    (l_data_pieces : K.lookup f_data_pieces = some ⟨oc_data_pieces, od_data_pieces, .func (PySem.W.fnOf "data_pieces" "data_pieces" (defArgs s_data_pieces) (defBody s_data_pieces) (defScope s_data_pieces) .none kV_data_pieces dc_data_pieces pm_data_pieces an_data_pieces cd_data_pieces ct_data_pieces), sl_data_pieces⟩)
    (q_data_pieces : PySem.W.codeIn K cd_data_pieces "data_pieces" = true)
    (k_data_pieces : PySem.W.keepIn K (.ref f_data_pieces) = true)
    (a_piece_requests : PySem.W.nsIn K mainGlobals "piece_requests" = some (some (.ref f_piece_requests)))
    (l_piece_requests : K.lookup f_piece_requests = some ⟨oc_piece_requests, od_piece_requests, .func (PySem.W.fnOf "piece_requests" "piece_requests" (defArgs s_piece_requests) (defBody s_piece_requests) (defScope s_piece_requests) .none kV_piece_requests dc_piece_requests pm_piece_requests an_piece_requests cd_piece_requests ct_piece_requests), sl_piece_requests⟩)
    (q_piece_requests : PySem.W.codeIn K cd_piece_requests "piece_requests" = true)
    (k_piece_requests : PySem.W.keepIn K (.ref f_piece_requests) = true)
    (a_write_stripe : PySem.W.nsIn K mainGlobals "write_stripe" = some (some (.ref f_write_stripe)))
    (l_write_stripe : K.lookup f_write_stripe = some ⟨oc_write_stripe, od_write_stripe, .func (PySem.W.fnOf "write_stripe" "write_stripe" (defArgs s_write_stripe) (defBody s_write_stripe) (defScope s_write_stripe) .none kV_write_stripe dc_write_stripe pm_write_stripe an_write_stripe cd_write_stripe ct_write_stripe), sl_write_stripe⟩)
    (q_write_stripe : PySem.W.codeIn K cd_write_stripe "write_stripe" = true)
    (k_write_stripe : PySem.W.keepIn K (.ref f_write_stripe) = true)
    (a_good_piece : PySem.W.nsIn K mainGlobals "good_piece" = some (some (.ref f_good_piece)))
    (l_good_piece : K.lookup f_good_piece = some ⟨oc_good_piece, od_good_piece, .func (PySem.W.fnOf "good_piece" "good_piece" (defArgs s_good_piece) (defBody s_good_piece) (defScope s_good_piece) .none kV_good_piece dc_good_piece pm_good_piece an_good_piece cd_good_piece ct_good_piece), sl_good_piece⟩)
    (q_good_piece : PySem.W.codeIn K cd_good_piece "good_piece" = true)
    (k_good_piece : PySem.W.keepIn K (.ref f_good_piece) = true)
    (a_read_stripe : PySem.W.nsIn K mainGlobals "read_stripe" = some (some (.ref f_read_stripe)))
    (l_read_stripe : K.lookup f_read_stripe = some ⟨oc_read_stripe, od_read_stripe, .func (PySem.W.fnOf "read_stripe" "read_stripe" (defArgs s_read_stripe) (defBody s_read_stripe) (defScope s_read_stripe) .none kV_read_stripe dc_read_stripe pm_read_stripe an_read_stripe cd_read_stripe ct_read_stripe), sl_read_stripe⟩)
    (q_read_stripe : PySem.W.codeIn K cd_read_stripe "read_stripe" = true)
    (k_read_stripe : PySem.W.keepIn K (.ref f_read_stripe) = true)
    (a_repair_stripe : PySem.W.nsIn K mainGlobals "repair_stripe" = some (some (.ref f_repair_stripe)))
    (l_repair_stripe : K.lookup f_repair_stripe = some ⟨oc_repair_stripe, od_repair_stripe, .func (PySem.W.fnOf "repair_stripe" "repair_stripe" (defArgs s_repair_stripe) (defBody s_repair_stripe) (defScope s_repair_stripe) .none kV_repair_stripe dc_repair_stripe pm_repair_stripe an_repair_stripe cd_repair_stripe ct_repair_stripe), sl_repair_stripe⟩)
    (q_repair_stripe : PySem.W.codeIn K cd_repair_stripe "repair_stripe" = true)
    (k_repair_stripe : PySem.W.keepIn K (.ref f_repair_stripe) = true)
    (a_law_pot : PySem.W.nsIn K mainGlobals "_law_pot" = some (some (.ref f_law_pot)))
    (l_law_pot : K.lookup f_law_pot = some ⟨oc_law_pot, od_law_pot, .func (PySem.W.fnOf "_law_pot" "_law_pot" (defArgs s_law_pot) (defBody s_law_pot) (defScope s_law_pot) .none kV_law_pot dc_law_pot pm_law_pot an_law_pot cd_law_pot ct_law_pot), sl_law_pot⟩)
    (q_law_pot : PySem.W.codeIn K cd_law_pot "_law_pot" = true)
    (k_law_pot : PySem.W.keepIn K (.ref f_law_pot) = true)
    (a_law_next : PySem.W.nsIn K mainGlobals "_law_next" = some (some (.ref f_law_next)))
    (l_law_next : K.lookup f_law_next = some ⟨oc_law_next, od_law_next, .func (PySem.W.fnOf "_law_next" "_law_next" (defArgs s_law_next) (defBody s_law_next) (defScope s_law_next) .none kV_law_next dc_law_next pm_law_next an_law_next cd_law_next ct_law_next), sl_law_next⟩)
    (q_law_next : PySem.W.codeIn K cd_law_next "_law_next" = true)
    (k_law_next : PySem.W.keepIn K (.ref f_law_next) = true)
    (a_law_word : PySem.W.nsIn K mainGlobals "_law_word" = some (some (.ref f_law_word)))
    (l_law_word : K.lookup f_law_word = some ⟨oc_law_word, od_law_word, .func (PySem.W.fnOf "_law_word" "_law_word" (defArgs s_law_word) (defBody s_law_word) (defScope s_law_word) .none kV_law_word dc_law_word pm_law_word an_law_word cd_law_word ct_law_word), sl_law_word⟩)
    (q_law_word : PySem.W.codeIn K cd_law_word "_law_word" = true)
    (k_law_word : PySem.W.keepIn K (.ref f_law_word) = true)
    (a_law_words : PySem.W.nsIn K mainGlobals "_law_words" = some (some (.ref f_law_words)))
    (l_law_words : K.lookup f_law_words = some ⟨oc_law_words, od_law_words, .func (PySem.W.fnOf "_law_words" "_law_words" (defArgs s_law_words) (defBody s_law_words) (defScope s_law_words) .none kV_law_words dc_law_words pm_law_words an_law_words cd_law_words ct_law_words), sl_law_words⟩)
    (q_law_words : PySem.W.codeIn K cd_law_words "_law_words" = true)
    (k_law_words : PySem.W.keepIn K (.ref f_law_words) = true)
    (a_law_carry : PySem.W.nsIn K mainGlobals "_law_carry" = some (some (.ref f_law_carry)))
    (l_law_carry : K.lookup f_law_carry = some ⟨oc_law_carry, od_law_carry, .func (PySem.W.fnOf "_law_carry" "_law_carry" (defArgs s_law_carry) (defBody s_law_carry) (defScope s_law_carry) .none kV_law_carry dc_law_carry pm_law_carry an_law_carry cd_law_carry ct_law_carry), sl_law_carry⟩)
    (q_law_carry : PySem.W.codeIn K cd_law_carry "_law_carry" = true)
    (k_law_carry : PySem.W.keepIn K (.ref f_law_carry) = true)
    (a_law_spoil : PySem.W.nsIn K mainGlobals "_law_spoil" = some (some (.ref f_law_spoil)))
    (l_law_spoil : K.lookup f_law_spoil = some ⟨oc_law_spoil, od_law_spoil, .func (PySem.W.fnOf "_law_spoil" "_law_spoil" (defArgs s_law_spoil) (defBody s_law_spoil) (defScope s_law_spoil) .none kV_law_spoil dc_law_spoil pm_law_spoil an_law_spoil cd_law_spoil ct_law_spoil), sl_law_spoil⟩)
    (q_law_spoil : PySem.W.codeIn K cd_law_spoil "_law_spoil" = true)
    (k_law_spoil : PySem.W.keepIn K (.ref f_law_spoil) = true)
    (a_law_refused : PySem.W.nsIn K mainGlobals "_law_refused" = some (some (.ref f_law_refused)))
    (l_law_refused : K.lookup f_law_refused = some ⟨oc_law_refused, od_law_refused, .func (PySem.W.fnOf "_law_refused" "_law_refused" (defArgs s_law_refused) (defBody s_law_refused) (defScope s_law_refused) .none kV_law_refused dc_law_refused pm_law_refused an_law_refused cd_law_refused ct_law_refused), sl_law_refused⟩)
    (q_law_refused : PySem.W.codeIn K cd_law_refused "_law_refused" = true)
    (k_law_refused : PySem.W.keepIn K (.ref f_law_refused) = true)
    (a_law : PySem.W.nsIn K mainGlobals "law" = some (some (.ref f_law)))
    (l_law : K.lookup f_law = some ⟨oc_law, od_law, .func (PySem.W.fnOf "law" "law" (defArgs s_law) (defBody s_law) (defScope s_law) .none kV_law dc_law pm_law an_law cd_law ct_law), sl_law⟩)
    (q_law : PySem.W.codeIn K cd_law "law" = true)
    (k_law : PySem.W.keepIn K (.ref f_law) = true)
    (a_Space_init : PySem.W.findIn K (.ref c_Space) "__init__" = some (some (.ref f_Space_init)))
    (i_Space_init : PySem.W.isFn K (.ref f_Space_init) = true)
    (l_Space_init : K.lookup f_Space_init = some ⟨oc_Space_init, od_Space_init, .func (PySem.W.fnOf "__init__" "Space.__init__" (defArgs s_Space_init) (defBody s_Space_init) (defScope s_Space_init) .none kV_Space_init dc_Space_init pm_Space_init an_Space_init cd_Space_init ct_Space_init), sl_Space_init⟩)
    (q_Space_init : PySem.W.codeIn K cd_Space_init "Space.__init__" = true)
    (k_Space_init : PySem.W.keepIn K (.ref f_Space_init) = true)
    (a_Space_take : PySem.W.findIn K (.ref c_Space) "take" = some (some (.ref f_Space_take)))
    (i_Space_take : PySem.W.isFn K (.ref f_Space_take) = true)
    (l_Space_take : K.lookup f_Space_take = some ⟨oc_Space_take, od_Space_take, .func (PySem.W.fnOf "take" "Space.take" (defArgs s_Space_take) (defBody s_Space_take) (defScope s_Space_take) .none kV_Space_take dc_Space_take pm_Space_take an_Space_take cd_Space_take ct_Space_take), sl_Space_take⟩)
    (q_Space_take : PySem.W.codeIn K cd_Space_take "Space.take" = true)
    (k_Space_take : PySem.W.keepIn K (.ref f_Space_take) = true)
    (a_Space_give : PySem.W.findIn K (.ref c_Space) "give" = some (some (.ref f_Space_give)))
    (i_Space_give : PySem.W.isFn K (.ref f_Space_give) = true)
    (l_Space_give : K.lookup f_Space_give = some ⟨oc_Space_give, od_Space_give, .func (PySem.W.fnOf "give" "Space.give" (defArgs s_Space_give) (defBody s_Space_give) (defScope s_Space_give) .none kV_Space_give dc_Space_give pm_Space_give an_Space_give cd_Space_give ct_Space_give), sl_Space_give⟩)
    (q_Space_give : PySem.W.codeIn K cd_Space_give "Space.give" = true)
    (k_Space_give : PySem.W.keepIn K (.ref f_Space_give) = true)
    (a_Space_settle : PySem.W.findIn K (.ref c_Space) "settle" = some (some (.ref f_Space_settle)))
    (i_Space_settle : PySem.W.isFn K (.ref f_Space_settle) = true)
    (l_Space_settle : K.lookup f_Space_settle = some ⟨oc_Space_settle, od_Space_settle, .func (PySem.W.fnOf "settle" "Space.settle" (defArgs s_Space_settle) (defBody s_Space_settle) (defScope s_Space_settle) .none kV_Space_settle dc_Space_settle pm_Space_settle an_Space_settle cd_Space_settle ct_Space_settle), sl_Space_settle⟩)
    (q_Space_settle : PySem.W.codeIn K cd_Space_settle "Space.settle" = true)
    (k_Space_settle : PySem.W.keepIn K (.ref f_Space_settle) = true)
    (a_Space_free_count : PySem.W.findIn K (.ref c_Space) "free_count" = some (some (.ref f_Space_free_count)))
    (i_Space_free_count : PySem.W.isFn K (.ref f_Space_free_count) = true)
    (l_Space_free_count : K.lookup f_Space_free_count = some ⟨oc_Space_free_count, od_Space_free_count, .func (PySem.W.fnOf "free_count" "Space.free_count" (defArgs s_Space_free_count) (defBody s_Space_free_count) (defScope s_Space_free_count) .none kV_Space_free_count dc_Space_free_count pm_Space_free_count an_Space_free_count cd_Space_free_count ct_Space_free_count), sl_Space_free_count⟩)
    (q_Space_free_count : PySem.W.codeIn K cd_Space_free_count "Space.free_count" = true)
    (k_Space_free_count : PySem.W.keepIn K (.ref f_Space_free_count) = true)
    (a_Store_init : PySem.W.findIn K (.ref c_Store) "__init__" = some (some (.ref f_Store_init)))
    (i_Store_init : PySem.W.isFn K (.ref f_Store_init) = true)
    (l_Store_init : K.lookup f_Store_init = some ⟨oc_Store_init, od_Store_init, .func (PySem.W.fnOf "__init__" "Store.__init__" (defArgs s_Store_init) (defBody s_Store_init) (defScope s_Store_init) .none kV_Store_init dc_Store_init pm_Store_init an_Store_init cd_Store_init ct_Store_init), sl_Store_init⟩)
    (q_Store_init : PySem.W.codeIn K cd_Store_init "Store.__init__" = true)
    (k_Store_init : PySem.W.keepIn K (.ref f_Store_init) = true)
    (a_Store_look : PySem.W.findIn K (.ref c_Store) "look" = some (some (.ref f_Store_look)))
    (i_Store_look : PySem.W.isFn K (.ref f_Store_look) = true)
    (l_Store_look : K.lookup f_Store_look = some ⟨oc_Store_look, od_Store_look, .func (PySem.W.fnOf "look" "Store.look" (defArgs s_Store_look) (defBody s_Store_look) (defScope s_Store_look) .none kV_Store_look dc_Store_look pm_Store_look an_Store_look cd_Store_look ct_Store_look), sl_Store_look⟩)
    (q_Store_look : PySem.W.codeIn K cd_Store_look "Store.look" = true)
    (k_Store_look : PySem.W.keepIn K (.ref f_Store_look) = true)
    (a_Store_put : PySem.W.findIn K (.ref c_Store) "put" = some (some (.ref f_Store_put)))
    (i_Store_put : PySem.W.isFn K (.ref f_Store_put) = true)
    (l_Store_put : K.lookup f_Store_put = some ⟨oc_Store_put, od_Store_put, .func (PySem.W.fnOf "put" "Store.put" (defArgs s_Store_put) (defBody s_Store_put) (defScope s_Store_put) .none (.ref kd_Store_put) dc_Store_put pm_Store_put an_Store_put cd_Store_put ct_Store_put), sl_Store_put⟩)
    (kw_Store_put : PySem.W.nsIn K kd_Store_put "avoid" = some (some (.ref e_Store_put)))
    (le_Store_put : K.lookup e_Store_put = some ⟨.type "tuple", de_Store_put, .seq #[] ne_Store_put, se_Store_put⟩)
    (q_Store_put : PySem.W.codeIn K cd_Store_put "Store.put" = true)
    (k_Store_put : PySem.W.keepIn K (.ref f_Store_put) = true)
    (a_Store_get : PySem.W.findIn K (.ref c_Store) "get" = some (some (.ref f_Store_get)))
    (i_Store_get : PySem.W.isFn K (.ref f_Store_get) = true)
    (l_Store_get : K.lookup f_Store_get = some ⟨oc_Store_get, od_Store_get, .func (PySem.W.fnOf "get" "Store.get" (defArgs s_Store_get) (defBody s_Store_get) (defScope s_Store_get) .none kV_Store_get dc_Store_get pm_Store_get an_Store_get cd_Store_get ct_Store_get), sl_Store_get⟩)
    (q_Store_get : PySem.W.codeIn K cd_Store_get "Store.get" = true)
    (k_Store_get : PySem.W.keepIn K (.ref f_Store_get) = true)
    (a_Store_commit : PySem.W.findIn K (.ref c_Store) "commit" = some (some (.ref f_Store_commit)))
    (i_Store_commit : PySem.W.isFn K (.ref f_Store_commit) = true)
    (l_Store_commit : K.lookup f_Store_commit = some ⟨oc_Store_commit, od_Store_commit, .func (PySem.W.fnOf "commit" "Store.commit" (defArgs s_Store_commit) (defBody s_Store_commit) (defScope s_Store_commit) .none kV_Store_commit dc_Store_commit pm_Store_commit an_Store_commit cd_Store_commit ct_Store_commit), sl_Store_commit⟩)
    (q_Store_commit : PySem.W.codeIn K cd_Store_commit "Store.commit" = true)
    (k_Store_commit : PySem.W.keepIn K (.ref f_Store_commit) = true)
    (a_Store_forget : PySem.W.findIn K (.ref c_Store) "_forget" = some (some (.ref f_Store_forget)))
    (i_Store_forget : PySem.W.isFn K (.ref f_Store_forget) = true)
    (l_Store_forget : K.lookup f_Store_forget = some ⟨oc_Store_forget, od_Store_forget, .func (PySem.W.fnOf "_forget" "Store._forget" (defArgs s_Store_forget) (defBody s_Store_forget) (defScope s_Store_forget) .none kV_Store_forget dc_Store_forget pm_Store_forget an_Store_forget cd_Store_forget ct_Store_forget), sl_Store_forget⟩)
    (q_Store_forget : PySem.W.codeIn K cd_Store_forget "Store._forget" = true)
    (k_Store_forget : PySem.W.keepIn K (.ref f_Store_forget) = true)
    (a_Store_repairs : PySem.W.findIn K (.ref c_Store) "repairs" = some (some (.ref f_Store_repairs)))
    (i_Store_repairs : PySem.W.isFn K (.ref f_Store_repairs) = true)
    (l_Store_repairs : K.lookup f_Store_repairs = some ⟨oc_Store_repairs, od_Store_repairs, .func (PySem.W.fnOf "repairs" "Store.repairs" (defArgs s_Store_repairs) (defBody s_Store_repairs) (defScope s_Store_repairs) .none kV_Store_repairs dc_Store_repairs pm_Store_repairs an_Store_repairs cd_Store_repairs ct_Store_repairs), sl_Store_repairs⟩)
    (q_Store_repairs : PySem.W.codeIn K cd_Store_repairs "Store.repairs" = true)
    (k_Store_repairs : PySem.W.keepIn K (.ref f_Store_repairs) = true)
    (a_Store_free_counts : PySem.W.findIn K (.ref c_Store) "free_counts" = some (some (.ref f_Store_free_counts)))
    (i_Store_free_counts : PySem.W.isFn K (.ref f_Store_free_counts) = true)
    (l_Store_free_counts : K.lookup f_Store_free_counts = some ⟨oc_Store_free_counts, od_Store_free_counts, .func (PySem.W.fnOf "free_counts" "Store.free_counts" (defArgs s_Store_free_counts) (defBody s_Store_free_counts) (defScope s_Store_free_counts) .none kV_Store_free_counts dc_Store_free_counts pm_Store_free_counts an_Store_free_counts cd_Store_free_counts ct_Store_free_counts), sl_Store_free_counts⟩)
    (q_Store_free_counts : PySem.W.codeIn K cd_Store_free_counts "Store.free_counts" = true)
    (k_Store_free_counts : PySem.W.keepIn K (.ref f_Store_free_counts) = true)
    (a_PRIME : PySem.W.nsIn K mainGlobals "PRIME" = some (some (.int 65521 tk_PRIME)))
    (a_MAX_PIECES : PySem.W.nsIn K mainGlobals "MAX_PIECES" = some (some (.int 8 tk_MAX_PIECES)))
    (a_MAX_DISKS : PySem.W.nsIn K mainGlobals "MAX_DISKS" = some (some (.int 8 tk_MAX_DISKS)))
    (a_MAX_PAYLOAD : PySem.W.nsIn K mainGlobals "MAX_PAYLOAD" = some (some (.int 1000 tk_MAX_PAYLOAD)))
    (a_MAX_ROWS : PySem.W.nsIn K mainGlobals "MAX_ROWS" = some (some (.int 4000 tk_MAX_ROWS)))
    (a_FIRST_ROW : PySem.W.nsIn K mainGlobals "FIRST_ROW" = some (some (.int 18 tk_FIRST_ROW)))
    (a_NEW : PySem.W.nsIn K mainGlobals "NEW" = some (some (.int 1 tk_NEW)))
    (a_OLD : PySem.W.nsIn K mainGlobals "OLD" = some (some (.int 2 tk_OLD)))
    (a_WAITING : PySem.W.nsIn K mainGlobals "WAITING" = some (some (.int 3 tk_WAITING)))
    (a_LABEL : PySem.W.nsIn K mainGlobals "LABEL" = some (some (.int 1 tk_LABEL)))
    (a_PIECE : PySem.W.nsIn K mainGlobals "PIECE" = some (some (.int 3 tk_PIECE)))
    (a_HEADER_WORDS : PySem.W.nsIn K mainGlobals "HEADER_WORDS" = some (some (.int 6 tk_HEADER_WORDS)))
    (a_CHECK_WORDS : PySem.W.nsIn K mainGlobals "CHECK_WORDS" = some (some (.int 2 tk_CHECK_WORDS)))
    (n_len : PySem.W.nsIn K mainGlobals "len" = some none)
    (n_enumerate : PySem.W.nsIn K mainGlobals "enumerate" = some none)
    (n_sum : PySem.W.nsIn K mainGlobals "sum" = some none)
    (n_zip : PySem.W.nsIn K mainGlobals "zip" = some none)
    (n_list : PySem.W.nsIn K mainGlobals "list" = some none)
    (n_range : PySem.W.nsIn K mainGlobals "range" = some none)
    (n_tuple : PySem.W.nsIn K mainGlobals "tuple" = some none)
    (n_min : PySem.W.nsIn K mainGlobals "min" = some none)
    (n_max : PySem.W.nsIn K mainGlobals "max" = some none)
    (n_sorted : PySem.W.nsIn K mainGlobals "sorted" = some none)
    (n_int : PySem.W.nsIn K mainGlobals "int" = some none)
    (n_abs : PySem.W.nsIn K mainGlobals "abs" = some none)
    (n_isinstance : PySem.W.nsIn K mainGlobals "isinstance" = some none)
    (n_all : PySem.W.nsIn K mainGlobals "all" = some none)
    (n_combinations : PySem.W.nsIn K mainGlobals "combinations" = some (some (.type "itertools.combinations")))
    (pg_Space : PySem.W.plainGet K c_Space Str.empty = true)
    (hd_Space : PySem.W.hasDictIn K c_Space = true)
    (po_Space : PySem.W.plainOver K c_Space = true)
    (sa_Space : PySem.W.findIn K (.ref c_Space) "__setattr__" = some (some (.builtin "object.__setattr__")))
    (mk_Space : PySem.W.makesIn K c_Space = true)
    (kc_Space : PySem.W.keepIn K (.ref c_Space) = true)
    (na_Space_first : PySem.W.findIn K (.ref c_Space) "_first" = some none)
    (na_Space_lowest : PySem.W.findIn K (.ref c_Space) "_lowest" = some none)
    (na_Space_rows : PySem.W.findIn K (.ref c_Space) "_rows" = some none)
    (na_Space_states : PySem.W.findIn K (.ref c_Space) "_states" = some none)
    (pg_Store : PySem.W.plainGet K c_Store Str.empty = true)
    (hd_Store : PySem.W.hasDictIn K c_Store = true)
    (po_Store : PySem.W.plainOver K c_Store = true)
    (sa_Store : PySem.W.findIn K (.ref c_Store) "__setattr__" = some (some (.builtin "object.__setattr__")))
    (mk_Store : PySem.W.makesIn K c_Store = true)
    (kc_Store : PySem.W.keepIn K (.ref c_Store) = true)
    (na_Store_blocks : PySem.W.findIn K (.ref c_Store) "_blocks" = some none)
    (na_Store_images : PySem.W.findIn K (.ref c_Store) "_images" = some none)
    (na_Store_made : PySem.W.findIn K (.ref c_Store) "_made" = some none)
    (na_Store_memory : PySem.W.findIn K (.ref c_Store) "_memory" = some none)
    (na_Store_spaces : PySem.W.findIn K (.ref c_Store) "_spaces" = some none)
    (na_Store_data : PySem.W.findIn K (.ref c_Store) "data" = some none)
    (na_Store_epoch : PySem.W.findIn K (.ref c_Store) "epoch" = some none)
    (na_Store_members : PySem.W.findIn K (.ref c_Store) "members" = some none)
    (na_Store_parity : PySem.W.findIn K (.ref c_Store) "parity" = some none)
    (na_Store_rows : PySem.W.findIn K (.ref c_Store) "rows" = some none)
    (a_PoolError : PySem.W.nsIn K mainGlobals "PoolError" = some (some (.ref c_PoolError)))
    (x_PoolError : PySem.W.excIn K c_PoolError [.type "ValueError", .type "Exception", .type "BaseException", .type "object"] "ValueError.__new__" = true)
    (k_PoolError : PySem.W.keepIn K (.ref c_PoolError) = true)
    (b_PoolError : PySem.W.subIn K (.ref c_PoolError) (.type "BaseException") = some true)
    (t_PoolError : PySem.W.typeIn K (.ref c_PoolError) = some (.type "type"))
    (E1_PoolError : PySem.W.findIn K (.ref c_PoolError) "__getattribute__" = some (some (.builtin "BaseException.__getattribute__")))
    (E2_PoolError : PySem.W.findIn K (.ref c_PoolError) "__getattr__" = some none)
    (E3_PoolError : PySem.W.hasDictIn K c_PoolError = true)
    (E4_PoolError : PySem.W.findIn K (.ref c_PoolError) "__class__" = some (some (.builtin "object.__class__")))
    (s_PoolError : PySem.W.subIn K (.ref c_PoolError) (.ref c_PoolError) = some true)
    (E5_PoolError : PySem.W.mroIn K c_PoolError (.type "object") = some true)
    (a_InvalidArgument : PySem.W.nsIn K mainGlobals "InvalidArgument" = some (some (.ref c_InvalidArgument)))
    (x_InvalidArgument : PySem.W.excIn K c_InvalidArgument [.type "ValueError", .type "Exception", .type "BaseException", .type "object"] "ValueError.__new__" = true)
    (k_InvalidArgument : PySem.W.keepIn K (.ref c_InvalidArgument) = true)
    (b_InvalidArgument : PySem.W.subIn K (.ref c_InvalidArgument) (.type "BaseException") = some true)
    (t_InvalidArgument : PySem.W.typeIn K (.ref c_InvalidArgument) = some (.type "type"))
    (E1_InvalidArgument : PySem.W.findIn K (.ref c_InvalidArgument) "__getattribute__" = some (some (.builtin "BaseException.__getattribute__")))
    (E2_InvalidArgument : PySem.W.findIn K (.ref c_InvalidArgument) "__getattr__" = some none)
    (E3_InvalidArgument : PySem.W.hasDictIn K c_InvalidArgument = true)
    (E4_InvalidArgument : PySem.W.findIn K (.ref c_InvalidArgument) "__class__" = some (some (.builtin "object.__class__")))
    (s_InvalidArgument : PySem.W.subIn K (.ref c_InvalidArgument) (.ref c_InvalidArgument) = some true)
    (E5_InvalidArgument : PySem.W.mroIn K c_InvalidArgument (.type "object") = some true)
    (a_NotEnoughPieces : PySem.W.nsIn K mainGlobals "NotEnoughPieces" = some (some (.ref c_NotEnoughPieces)))
    (x_NotEnoughPieces : PySem.W.excIn K c_NotEnoughPieces [.type "ValueError", .type "Exception", .type "BaseException", .type "object"] "ValueError.__new__" = true)
    (k_NotEnoughPieces : PySem.W.keepIn K (.ref c_NotEnoughPieces) = true)
    (b_NotEnoughPieces : PySem.W.subIn K (.ref c_NotEnoughPieces) (.type "BaseException") = some true)
    (t_NotEnoughPieces : PySem.W.typeIn K (.ref c_NotEnoughPieces) = some (.type "type"))
    (E1_NotEnoughPieces : PySem.W.findIn K (.ref c_NotEnoughPieces) "__getattribute__" = some (some (.builtin "BaseException.__getattribute__")))
    (E2_NotEnoughPieces : PySem.W.findIn K (.ref c_NotEnoughPieces) "__getattr__" = some none)
    (E3_NotEnoughPieces : PySem.W.hasDictIn K c_NotEnoughPieces = true)
    (E4_NotEnoughPieces : PySem.W.findIn K (.ref c_NotEnoughPieces) "__class__" = some (some (.builtin "object.__class__")))
    (s_NotEnoughPieces : PySem.W.subIn K (.ref c_NotEnoughPieces) (.ref c_NotEnoughPieces) = some true)
    (E5_NotEnoughPieces : PySem.W.mroIn K c_NotEnoughPieces (.type "object") = some true)
    (a_NoSpace : PySem.W.nsIn K mainGlobals "NoSpace" = some (some (.ref c_NoSpace)))
    (x_NoSpace : PySem.W.excIn K c_NoSpace [.type "ValueError", .type "Exception", .type "BaseException", .type "object"] "ValueError.__new__" = true)
    (k_NoSpace : PySem.W.keepIn K (.ref c_NoSpace) = true)
    (b_NoSpace : PySem.W.subIn K (.ref c_NoSpace) (.type "BaseException") = some true)
    (t_NoSpace : PySem.W.typeIn K (.ref c_NoSpace) = some (.type "type"))
    (E1_NoSpace : PySem.W.findIn K (.ref c_NoSpace) "__getattribute__" = some (some (.builtin "BaseException.__getattribute__")))
    (E2_NoSpace : PySem.W.findIn K (.ref c_NoSpace) "__getattr__" = some none)
    (E3_NoSpace : PySem.W.hasDictIn K c_NoSpace = true)
    (E4_NoSpace : PySem.W.findIn K (.ref c_NoSpace) "__class__" = some (some (.builtin "object.__class__")))
    (s_NoSpace : PySem.W.subIn K (.ref c_NoSpace) (.ref c_NoSpace) = some true)
    (E5_NoSpace : PySem.W.mroIn K c_NoSpace (.type "object") = some true)
    (a_NotEnoughDisks : PySem.W.nsIn K mainGlobals "NotEnoughDisks" = some (some (.ref c_NotEnoughDisks)))
    (x_NotEnoughDisks : PySem.W.excIn K c_NotEnoughDisks [.type "ValueError", .type "Exception", .type "BaseException", .type "object"] "ValueError.__new__" = true)
    (k_NotEnoughDisks : PySem.W.keepIn K (.ref c_NotEnoughDisks) = true)
    (b_NotEnoughDisks : PySem.W.subIn K (.ref c_NotEnoughDisks) (.type "BaseException") = some true)
    (t_NotEnoughDisks : PySem.W.typeIn K (.ref c_NotEnoughDisks) = some (.type "type"))
    (E1_NotEnoughDisks : PySem.W.findIn K (.ref c_NotEnoughDisks) "__getattribute__" = some (some (.builtin "BaseException.__getattribute__")))
    (E2_NotEnoughDisks : PySem.W.findIn K (.ref c_NotEnoughDisks) "__getattr__" = some none)
    (E3_NotEnoughDisks : PySem.W.hasDictIn K c_NotEnoughDisks = true)
    (E4_NotEnoughDisks : PySem.W.findIn K (.ref c_NotEnoughDisks) "__class__" = some (some (.builtin "object.__class__")))
    (s_NotEnoughDisks : PySem.W.subIn K (.ref c_NotEnoughDisks) (.ref c_NotEnoughDisks) = some true)
    (E5_NotEnoughDisks : PySem.W.mroIn K c_NotEnoughDisks (.type "object") = some true)
    (a_Damaged : PySem.W.nsIn K mainGlobals "Damaged" = some (some (.ref c_Damaged)))
    (x_Damaged : PySem.W.excIn K c_Damaged [.type "ValueError", .type "Exception", .type "BaseException", .type "object"] "ValueError.__new__" = true)
    (k_Damaged : PySem.W.keepIn K (.ref c_Damaged) = true)
    (b_Damaged : PySem.W.subIn K (.ref c_Damaged) (.type "BaseException") = some true)
    (t_Damaged : PySem.W.typeIn K (.ref c_Damaged) = some (.type "type"))
    (E1_Damaged : PySem.W.findIn K (.ref c_Damaged) "__getattribute__" = some (some (.builtin "BaseException.__getattribute__")))
    (E2_Damaged : PySem.W.findIn K (.ref c_Damaged) "__getattr__" = some none)
    (E3_Damaged : PySem.W.hasDictIn K c_Damaged = true)
    (E4_Damaged : PySem.W.findIn K (.ref c_Damaged) "__class__" = some (some (.builtin "object.__class__")))
    (s_Damaged : PySem.W.subIn K (.ref c_Damaged) (.ref c_Damaged) = some true)
    (E5_Damaged : PySem.W.mroIn K c_Damaged (.type "object") = some true)
    (E6 : PySem.W.specialIn K (.builtin "object.__class__") "__get__" = some (some (.builtin "getset_descriptor.__get__")))
    (E7 : PySem.W.takesIn K (.builtin "object.__class__") = some true)
    (u_InvalidArgument_PoolError : PySem.W.subIn K (.ref c_InvalidArgument) (.ref c_PoolError) = some true)
    (u_NotEnoughDisks_PoolError : PySem.W.subIn K (.ref c_NotEnoughDisks) (.ref c_PoolError) = some true)
    (u_Damaged_PoolError : PySem.W.subIn K (.ref c_Damaged) (.ref c_PoolError) = some true)
    (u_NotEnoughPieces_NotEnoughPieces : PySem.W.subIn K (.ref c_NotEnoughPieces) (.ref c_NotEnoughPieces) = some true) :
    ∃ fd : FuncData, (∀ (s : Shared) (v : Value), BindsTo s fd ⟨[v], []⟩ [("script", v)]) ∧ ∀ base : Heap, K.In base → base.Ns mainGlobals mg → FnOk l.prog w K mg base CX0 11 fa fd ["script"] (sp_law0 K) := by
  have e := hfa.symm.trans (PySem.W.mg_of X G a_law)
  cases e
  have F_is_present := fun_mk (st := s_is_present) l_is_present q_is_present k_is_present
  have d_is_present := F_is_present.binds (ps := ["images", "disk"]) fun _ _ _ _ _ _ us hl => match us, hl with | [_, _], _ => rfl
  have F_sector_at := fun_mk (st := s_sector_at) l_sector_at q_sector_at k_sector_at
  have d_sector_at := F_sector_at.binds (ps := ["images", "disk", "row"]) fun _ _ _ _ _ _ us hl => match us, hl with | [_, _, _], _ => rfl
  have F_inverse := fun_mk (st := s_inverse) l_inverse q_inverse k_inverse
  have d_inverse := F_inverse.binds (ps := ["a"]) fun _ _ _ _ _ _ us hl => match us, hl with | [_], _ => rfl
  have F_weight := fun_mk (st := s_weight) l_weight q_weight k_weight
  have d_weight := F_weight.binds (ps := ["place", "others", "x"]) fun _ _ _ _ _ _ us hl => match us, hl with | [_, _, _], _ => rfl
  have F_weights := fun_mk (st := s_weights) l_weights q_weights k_weights
  have d_weights := F_weights.binds (ps := ["places", "x"]) fun _ _ _ _ _ _ us hl => match us, hl with | [_, _], _ => rfl
  have F_check_lengths := fun_mk (st := s_check_lengths) l_check_lengths q_check_lengths k_check_lengths
  have d_check_lengths := F_check_lengths.binds (ps := ["pieces"]) fun _ _ _ _ _ _ us hl => match us, hl with | [_], _ => rfl
  have F_piece_at := fun_mk (st := s_piece_at) l_piece_at q_piece_at k_piece_at
  have d_piece_at := F_piece_at.binds (ps := ["known", "places", "number"]) fun _ _ _ _ _ _ us hl => match us, hl with | [_, _, _], _ => rfl
  have F_encode := fun_mk (st := s_encode) l_encode q_encode k_encode
  have d_encode := F_encode.binds (ps := ["pieces", "parity"]) fun _ _ _ _ _ _ us hl => match us, hl with | [_, _], _ => rfl
  have F_present_numbers := fun_mk (st := s_present_numbers) l_present_numbers q_present_numbers k_present_numbers
  have d_present_numbers := F_present_numbers.binds (ps := ["pieces", "data"]) fun _ _ _ _ _ _ us hl => match us, hl with | [_, _], _ => rfl
  have F_recover := fun_mk (st := s_recover) l_recover q_recover k_recover
  have d_recover := F_recover.binds (ps := ["pieces", "data"]) fun _ _ _ _ _ _ us hl => match us, hl with | [_, _], _ => rfl
  have F_agree := fun_mk (st := s_agree) l_agree q_agree k_agree
  have d_agree := F_agree.binds (ps := ["pieces", "numbers", "data"]) fun _ _ _ _ _ _ us hl => match us, hl with | [_, _, _], _ => rfl
  have F_wrong_pieces := fun_mk (st := s_wrong_pieces) l_wrong_pieces q_wrong_pieces k_wrong_pieces
  have d_wrong_pieces := F_wrong_pieces.binds (ps := ["pieces", "data"]) fun _ _ _ _ _ _ us hl => match us, hl with | [_, _], _ => rfl
  have F_check_words := fun_mk (st := s_check_words) l_check_words q_check_words k_check_words
  have d_check_words := F_check_words.binds (ps := ["words"]) fun _ _ _ _ _ _ us hl => match us, hl with | [_], _ => rfl
  have F_is_place := fun_mk (st := s_is_place) l_is_place q_is_place k_is_place
  have d_is_place := F_is_place.binds (ps := ["kind", "disk", "row"]) fun _ _ _ _ _ _ us hl => match us, hl with | [_, _, _], _ => rfl
  have F_seal := fun_mk (st := s_seal) l_seal q_seal k_seal
  have d_seal := F_seal.binds (ps := ["kind", "disk", "row", "stamp", "payload"]) fun _ _ _ _ _ _ us hl => match us, hl with | [_, _, _, _, _], _ => rfl
  have F_unseal := fun_mk (st := s_unseal) l_unseal q_unseal k_unseal
  have d_unseal := F_unseal.binds (ps := ["sector", "kind", "disk", "row"]) fun _ _ _ _ _ _ us hl => match us, hl with | [_, _, _, _], _ => rfl
  have F_is_whole := fun_mk (st := s_is_whole) l_is_whole q_is_whole k_is_whole
  have d_is_whole := F_is_whole.binds (ps := ["sector"]) fun _ _ _ _ _ _ us hl => match us, hl with | [_], _ => rfl
  have F_choose_disks := fun_mk (st := s_choose_disks) l_choose_disks q_choose_disks k_choose_disks
  have d_choose_disks := F_choose_disks.binds (ps := ["candidates", "width"]) fun _ _ _ _ _ _ us hl => match us, hl with | [_, _], _ => rfl
  have F_piece_size := fun_mk (st := s_piece_size) l_piece_size q_piece_size k_piece_size
  have d_piece_size := F_piece_size.binds (ps := ["length", "data"]) fun _ _ _ _ _ _ us hl => match us, hl with | [_, _], _ => rfl
  have F_data_pieces := fun_mk (st := s_data_pieces) l_data_pieces q_data_pieces k_data_pieces
  have d_data_pieces := F_data_pieces.binds (ps := ["words", "data"]) fun _ _ _ _ _ _ us hl => match us, hl with | [_, _], _ => rfl
  have F_piece_requests := fun_mk (st := s_piece_requests) l_piece_requests q_piece_requests k_piece_requests
  have d_piece_requests := F_piece_requests.binds (ps := ["images", "places", "stamp", "pieces", "numbers"]) fun _ _ _ _ _ _ us hl => match us, hl with | [_, _, _, _, _], _ => rfl
  have F_write_stripe := fun_mk (st := s_write_stripe) l_write_stripe q_write_stripe k_write_stripe
  have d_write_stripe := F_write_stripe.binds (ps := ["images", "places", "stamp", "words", "data"]) fun _ _ _ _ _ _ us hl => match us, hl with | [_, _, _, _, _], _ => rfl
  have F_good_piece := fun_mk (st := s_good_piece) l_good_piece q_good_piece k_good_piece
  have d_good_piece := F_good_piece.binds (ps := ["images", "place", "stamp", "size"]) fun _ _ _ _ _ _ us hl => match us, hl with | [_, _, _, _], _ => rfl
  have F_read_stripe := fun_mk (st := s_read_stripe) l_read_stripe q_read_stripe k_read_stripe
  have d_read_stripe := F_read_stripe.binds (ps := ["images", "places", "stamp", "length", "data"]) fun _ _ _ _ _ _ us hl => match us, hl with | [_, _, _, _, _], _ => rfl
  have F_repair_stripe := fun_mk (st := s_repair_stripe) l_repair_stripe q_repair_stripe k_repair_stripe
  have d_repair_stripe := F_repair_stripe.binds (ps := ["images", "places", "stamp", "length", "data"]) fun _ _ _ _ _ _ us hl => match us, hl with | [_, _, _, _, _], _ => rfl
  have F_law_pot := fun_mk (st := s_law_pot) l_law_pot q_law_pot k_law_pot
  have d_law_pot := F_law_pot.binds (ps := ["script"]) fun _ _ _ _ _ _ us hl => match us, hl with | [_], _ => rfl
  have F_law_next := fun_mk (st := s_law_next) l_law_next q_law_next k_law_next
  have d_law_next := F_law_next.binds (ps := ["pot", "limit"]) fun _ _ _ _ _ _ us hl => match us, hl with | [_, _], _ => rfl
  have F_law_word := fun_mk (st := s_law_word) l_law_word q_law_word k_law_word
  have d_law_word := F_law_word.binds (ps := ["pot"]) fun _ _ _ _ _ _ us hl => match us, hl with | [_], _ => rfl
  have F_law_words := fun_mk (st := s_law_words) l_law_words q_law_words k_law_words
  have d_law_words := F_law_words.binds (ps := ["pot", "count"]) fun _ _ _ _ _ _ us hl => match us, hl with | [_, _], _ => rfl
  have F_law_carry := fun_mk (st := s_law_carry) l_law_carry q_law_carry k_law_carry
  have d_law_carry := F_law_carry.binds (ps := ["images", "requests"]) fun _ _ _ _ _ _ us hl => match us, hl with | [_, _], _ => rfl
  have F_law_spoil := fun_mk (st := s_law_spoil) l_law_spoil q_law_spoil k_law_spoil
  have d_law_spoil := F_law_spoil.binds (ps := ["pot", "sectors", "row"]) fun _ _ _ _ _ _ us hl => match us, hl with | [_, _, _], _ => rfl
  have F_law_refused := fun_mk (st := s_law_refused) l_law_refused q_law_refused k_law_refused
  have d_law_refused := F_law_refused.binds (ps := ["store", "pointers"]) fun _ _ _ _ _ _ us hl => match us, hl with | [_, _], _ => rfl
  have F_law := fun_mk (st := s_law) l_law q_law k_law
  have d_law := F_law.binds (ps := ["script"]) fun _ _ _ _ _ _ us hl => match us, hl with | [_], _ => rfl
  have F_Space_init := fun_mk (st := s_Space_init) l_Space_init q_Space_init k_Space_init
  have d_Space_init := F_Space_init.binds (ps := ["self", "rows", "first"]) fun _ _ _ _ _ _ us hl => match us, hl with | [_, _, _], _ => rfl
  have F_Space_take := fun_mk (st := s_Space_take) l_Space_take q_Space_take k_Space_take
  have d_Space_take := F_Space_take.binds (ps := ["self"]) fun _ _ _ _ _ _ us hl => match us, hl with | [_], _ => rfl
  have F_Space_give := fun_mk (st := s_Space_give) l_Space_give q_Space_give k_Space_give
  have d_Space_give := F_Space_give.binds (ps := ["self", "row"]) fun _ _ _ _ _ _ us hl => match us, hl with | [_, _], _ => rfl
  have F_Space_settle := fun_mk (st := s_Space_settle) l_Space_settle q_Space_settle k_Space_settle
  have d_Space_settle := F_Space_settle.binds (ps := ["self"]) fun _ _ _ _ _ _ us hl => match us, hl with | [_], _ => rfl
  have F_Space_free_count := fun_mk (st := s_Space_free_count) l_Space_free_count q_Space_free_count k_Space_free_count
  have d_Space_free_count := F_Space_free_count.binds (ps := ["self"]) fun _ _ _ _ _ _ us hl => match us, hl with | [_], _ => rfl
  have F_Store_init := fun_mk (st := s_Store_init) l_Store_init q_Store_init k_Store_init
  have d_Store_init := kbn_mk (ps := ["self", "data", "parity", "rows", "members", "epoch"]) (n := 1) (ks := ["data", "parity", "rows", "members", "epoch"]) F_Store_init fun _ _ _ _ _ _ us ws l1 l2 => match us, l1, ws, l2 with | [_], _, [_, _, _, _, _], _ => rfl
  have F_Store_look := fun_mk (st := s_Store_look) l_Store_look q_Store_look k_Store_look
  have d_Store_look := F_Store_look.binds (ps := ["self", "images"]) fun _ _ _ _ _ _ us hl => match us, hl with | [_, _], _ => rfl
  have F_Store_put := fun_mk (st := s_Store_put) l_Store_put q_Store_put k_Store_put
  have kb_Store_put := kbn_mk (ps := ["self", "words", "avoid"]) (n := 2) (ks := ["avoid"]) F_Store_put fun _ _ _ _ _ _ us ws l1 l2 => match us, l1, ws, l2 with | [_, _], _, [_], _ => rfl
  have d_Store_put := kwd_one (ps := ["self", "words", "avoid"]) (n := 2) l_Store_put kw_Store_put rfl fun us v l1 => match us, l1 with | [_, _], _ => ⟨_, _, _, _, _, _, rfl, rfl, rfl⟩
  have e_Store_put_ := ktp_of [] le_Store_put (by decide)
  have F_Store_get := fun_mk (st := s_Store_get) l_Store_get q_Store_get k_Store_get
  have d_Store_get := F_Store_get.binds (ps := ["self", "pointer"]) fun _ _ _ _ _ _ us hl => match us, hl with | [_, _], _ => rfl
  have F_Store_commit := fun_mk (st := s_Store_commit) l_Store_commit q_Store_commit k_Store_commit
  have d_Store_commit := F_Store_commit.binds (ps := ["self", "live"]) fun _ _ _ _ _ _ us hl => match us, hl with | [_, _], _ => rfl
  have F_Store_forget := fun_mk (st := s_Store_forget) l_Store_forget q_Store_forget k_Store_forget
  have d_Store_forget := F_Store_forget.binds (ps := ["self", "pointers"]) fun _ _ _ _ _ _ us hl => match us, hl with | [_, _], _ => rfl
  have F_Store_repairs := fun_mk (st := s_Store_repairs) l_Store_repairs q_Store_repairs k_Store_repairs
  have d_Store_repairs := F_Store_repairs.binds (ps := ["self", "live"]) fun _ _ _ _ _ _ us hl => match us, hl with | [_, _], _ => rfl
  have F_Store_free_counts := fun_mk (st := s_Store_free_counts) l_Store_free_counts q_Store_free_counts k_Store_free_counts
  have d_Store_free_counts := F_Store_free_counts.binds (ps := ["self"]) fun _ _ _ _ _ _ us hl => match us, hl with | [_], _ => rfl
  have T : Txt w K mg ⟨f_is_present, _, f_sector_at, _, f_inverse, _, f_weight, _, f_weights, _, f_check_lengths, _, f_piece_at, _, f_encode, _, f_present_numbers, _, f_recover, _, f_agree, _, f_wrong_pieces, _, f_check_words, _, f_is_place, _, f_seal, _, f_unseal, _, f_is_whole, _, f_choose_disks, _, f_piece_size, _, f_data_pieces, _, f_piece_requests, _, f_write_stripe, _, f_good_piece, _, f_read_stripe, _, f_repair_stripe, _, f_law_pot, _, f_law_next, _, f_law_word, _, f_law_words, _, f_law_carry, _, f_law_spoil, _, f_law_refused, _, fa, _, f_Space_init, _, f_Space_take, _, f_Space_give, _, f_Space_settle, _, f_Space_free_count, _, f_Store_init, _, f_Store_look, _, f_Store_put, _, f_Store_get, _, f_Store_commit, _, f_Store_forget, _, f_Store_repairs, _, f_Store_free_counts, _, c_PoolError, c_InvalidArgument, c_NotEnoughPieces, c_NoSpace, c_NotEnoughDisks, c_Damaged, c_Space, c_Store, e_Store_put, w⟩ := {
    F_is_present := F_is_present, g_is_present := PySem.W.mg_of X G a_is_present, d_is_present := d_is_present,
    F_sector_at := F_sector_at, g_sector_at := PySem.W.mg_of X G a_sector_at, d_sector_at := d_sector_at,
    F_inverse := F_inverse, g_inverse := PySem.W.mg_of X G a_inverse, d_inverse := d_inverse,
    F_weight := F_weight, g_weight := PySem.W.mg_of X G a_weight, d_weight := d_weight,
    F_weights := F_weights, g_weights := PySem.W.mg_of X G a_weights, d_weights := d_weights,
    F_check_lengths := F_check_lengths, g_check_lengths := PySem.W.mg_of X G a_check_lengths, d_check_lengths := d_check_lengths,
    F_piece_at := F_piece_at, g_piece_at := PySem.W.mg_of X G a_piece_at, d_piece_at := d_piece_at,
    F_encode := F_encode, g_encode := PySem.W.mg_of X G a_encode, d_encode := d_encode,
    F_present_numbers := F_present_numbers, g_present_numbers := PySem.W.mg_of X G a_present_numbers, d_present_numbers := d_present_numbers,
    F_recover := F_recover, g_recover := PySem.W.mg_of X G a_recover, d_recover := d_recover,
    F_agree := F_agree, g_agree := PySem.W.mg_of X G a_agree, d_agree := d_agree,
    F_wrong_pieces := F_wrong_pieces, g_wrong_pieces := PySem.W.mg_of X G a_wrong_pieces, d_wrong_pieces := d_wrong_pieces,
    F_check_words := F_check_words, g_check_words := PySem.W.mg_of X G a_check_words, d_check_words := d_check_words,
    F_is_place := F_is_place, g_is_place := PySem.W.mg_of X G a_is_place, d_is_place := d_is_place,
    F_seal := F_seal, g_seal := PySem.W.mg_of X G a_seal, d_seal := d_seal,
    F_unseal := F_unseal, g_unseal := PySem.W.mg_of X G a_unseal, d_unseal := d_unseal,
    F_is_whole := F_is_whole, g_is_whole := PySem.W.mg_of X G a_is_whole, d_is_whole := d_is_whole,
    F_choose_disks := F_choose_disks, g_choose_disks := PySem.W.mg_of X G a_choose_disks, d_choose_disks := d_choose_disks,
    F_piece_size := F_piece_size, g_piece_size := PySem.W.mg_of X G a_piece_size, d_piece_size := d_piece_size,
    F_data_pieces := F_data_pieces, g_data_pieces := PySem.W.mg_of X G a_data_pieces, d_data_pieces := d_data_pieces,
    F_piece_requests := F_piece_requests, g_piece_requests := PySem.W.mg_of X G a_piece_requests, d_piece_requests := d_piece_requests,
    F_write_stripe := F_write_stripe, g_write_stripe := PySem.W.mg_of X G a_write_stripe, d_write_stripe := d_write_stripe,
    F_good_piece := F_good_piece, g_good_piece := PySem.W.mg_of X G a_good_piece, d_good_piece := d_good_piece,
    F_read_stripe := F_read_stripe, g_read_stripe := PySem.W.mg_of X G a_read_stripe, d_read_stripe := d_read_stripe,
    F_repair_stripe := F_repair_stripe, g_repair_stripe := PySem.W.mg_of X G a_repair_stripe, d_repair_stripe := d_repair_stripe,
    F_law_pot := F_law_pot, g_law_pot := PySem.W.mg_of X G a_law_pot, d_law_pot := d_law_pot,
    F_law_next := F_law_next, g_law_next := PySem.W.mg_of X G a_law_next, d_law_next := d_law_next,
    F_law_word := F_law_word, g_law_word := PySem.W.mg_of X G a_law_word, d_law_word := d_law_word,
    F_law_words := F_law_words, g_law_words := PySem.W.mg_of X G a_law_words, d_law_words := d_law_words,
    F_law_carry := F_law_carry, g_law_carry := PySem.W.mg_of X G a_law_carry, d_law_carry := d_law_carry,
    F_law_spoil := F_law_spoil, g_law_spoil := PySem.W.mg_of X G a_law_spoil, d_law_spoil := d_law_spoil,
    F_law_refused := F_law_refused, g_law_refused := PySem.W.mg_of X G a_law_refused, d_law_refused := d_law_refused,
    F_law := F_law, g_law := PySem.W.mg_of X G a_law, d_law := d_law,
    F_Space_init := F_Space_init, mk_Space := ⟨mk_Space, a_Space_init, i_Space_init, kc_Space⟩, d_Space_init := d_Space_init,
    F_Space_take := F_Space_take, m_Space_take := ⟨a_Space_take, i_Space_take, k_Space_take⟩, d_Space_take := d_Space_take,
    F_Space_give := F_Space_give, m_Space_give := ⟨a_Space_give, i_Space_give, k_Space_give⟩, d_Space_give := d_Space_give,
    F_Space_settle := F_Space_settle, m_Space_settle := ⟨a_Space_settle, i_Space_settle, k_Space_settle⟩, d_Space_settle := d_Space_settle,
    F_Space_free_count := F_Space_free_count, m_Space_free_count := ⟨a_Space_free_count, i_Space_free_count, k_Space_free_count⟩, d_Space_free_count := d_Space_free_count,
    F_Store_init := F_Store_init, mk_Store := ⟨mk_Store, a_Store_init, i_Store_init, kc_Store⟩, d_Store_init := d_Store_init,
    F_Store_look := F_Store_look, m_Store_look := ⟨a_Store_look, i_Store_look, k_Store_look⟩, d_Store_look := d_Store_look,
    F_Store_put := F_Store_put, m_Store_put := ⟨a_Store_put, i_Store_put, k_Store_put⟩, d_Store_put := d_Store_put, kb_Store_put := kb_Store_put, e_Store_put := e_Store_put_,
    F_Store_get := F_Store_get, m_Store_get := ⟨a_Store_get, i_Store_get, k_Store_get⟩, d_Store_get := d_Store_get,
    F_Store_commit := F_Store_commit, m_Store_commit := ⟨a_Store_commit, i_Store_commit, k_Store_commit⟩, d_Store_commit := d_Store_commit,
    F_Store_forget := F_Store_forget, m_Store_forget := ⟨a_Store_forget, i_Store_forget, k_Store_forget⟩, d_Store_forget := d_Store_forget,
    F_Store_repairs := F_Store_repairs, m_Store_repairs := ⟨a_Store_repairs, i_Store_repairs, k_Store_repairs⟩, d_Store_repairs := d_Store_repairs,
    F_Store_free_counts := F_Store_free_counts, m_Store_free_counts := ⟨a_Store_free_counts, i_Store_free_counts, k_Store_free_counts⟩, d_Store_free_counts := d_Store_free_counts,
    g_Space := PySem.W.mg_of X G a_Space, cl_Space := ⟨pg_Space, hd_Space, po_Space, sa_Space⟩,
    na_Space_first := na_Space_first,
    na_Space_lowest := na_Space_lowest,
    na_Space_rows := na_Space_rows,
    na_Space_states := na_Space_states,
    g_Store := PySem.W.mg_of X G a_Store, cl_Store := ⟨pg_Store, hd_Store, po_Store, sa_Store⟩,
    na_Store_blocks := na_Store_blocks,
    na_Store_images := na_Store_images,
    na_Store_made := na_Store_made,
    na_Store_memory := na_Store_memory,
    na_Store_spaces := na_Store_spaces,
    na_Store_data := na_Store_data,
    na_Store_epoch := na_Store_epoch,
    na_Store_members := na_Store_members,
    na_Store_parity := na_Store_parity,
    na_Store_rows := na_Store_rows,
    g_PRIME := ⟨_, PySem.W.mg_of X G a_PRIME, ⟨_, rfl⟩⟩,
    g_MAX_PIECES := ⟨_, PySem.W.mg_of X G a_MAX_PIECES, ⟨_, rfl⟩⟩,
    g_MAX_DISKS := ⟨_, PySem.W.mg_of X G a_MAX_DISKS, ⟨_, rfl⟩⟩,
    g_MAX_PAYLOAD := ⟨_, PySem.W.mg_of X G a_MAX_PAYLOAD, ⟨_, rfl⟩⟩,
    g_MAX_ROWS := ⟨_, PySem.W.mg_of X G a_MAX_ROWS, ⟨_, rfl⟩⟩,
    g_FIRST_ROW := ⟨_, PySem.W.mg_of X G a_FIRST_ROW, ⟨_, rfl⟩⟩,
    g_NEW := ⟨_, PySem.W.mg_of X G a_NEW, ⟨_, rfl⟩⟩,
    g_OLD := ⟨_, PySem.W.mg_of X G a_OLD, ⟨_, rfl⟩⟩,
    g_WAITING := ⟨_, PySem.W.mg_of X G a_WAITING, ⟨_, rfl⟩⟩,
    g_LABEL := ⟨_, PySem.W.mg_of X G a_LABEL, ⟨_, rfl⟩⟩,
    g_PIECE := ⟨_, PySem.W.mg_of X G a_PIECE, ⟨_, rfl⟩⟩,
    g_HEADER_WORDS := ⟨_, PySem.W.mg_of X G a_HEADER_WORDS, ⟨_, rfl⟩⟩,
    g_CHECK_WORDS := ⟨_, PySem.W.mg_of X G a_CHECK_WORDS, ⟨_, rfl⟩⟩,
    hw := rfl,
    n_len := PySem.W.mg_none_of X G n_len,
    n_enumerate := PySem.W.mg_none_of X G n_enumerate,
    n_sum := PySem.W.mg_none_of X G n_sum,
    n_zip := PySem.W.mg_none_of X G n_zip,
    n_list := PySem.W.mg_none_of X G n_list,
    n_range := PySem.W.mg_none_of X G n_range,
    n_tuple := PySem.W.mg_none_of X G n_tuple,
    n_min := PySem.W.mg_none_of X G n_min,
    n_max := PySem.W.mg_none_of X G n_max,
    n_sorted := PySem.W.mg_none_of X G n_sorted,
    n_int := PySem.W.mg_none_of X G n_int,
    n_abs := PySem.W.mg_none_of X G n_abs,
    n_isinstance := PySem.W.mg_none_of X G n_isinstance,
    n_all := PySem.W.mg_none_of X G n_all,
    n_combinations := PySem.W.mg_of X G n_combinations,
    g_PoolError := PySem.W.mg_of X G a_PoolError, x_PoolError := x_PoolError, k_PoolError := k_PoolError, b_PoolError := b_PoolError, t_PoolError := t_PoolError, E_PoolError := ⟨E1_PoolError, E2_PoolError, b_PoolError, E3_PoolError, E4_PoolError, E6, E7, E5_PoolError⟩,
    g_InvalidArgument := PySem.W.mg_of X G a_InvalidArgument, x_InvalidArgument := x_InvalidArgument, k_InvalidArgument := k_InvalidArgument, b_InvalidArgument := b_InvalidArgument, t_InvalidArgument := t_InvalidArgument, E_InvalidArgument := ⟨E1_InvalidArgument, E2_InvalidArgument, b_InvalidArgument, E3_InvalidArgument, E4_InvalidArgument, E6, E7, E5_InvalidArgument⟩,
    g_NotEnoughPieces := PySem.W.mg_of X G a_NotEnoughPieces, x_NotEnoughPieces := x_NotEnoughPieces, k_NotEnoughPieces := k_NotEnoughPieces, b_NotEnoughPieces := b_NotEnoughPieces, t_NotEnoughPieces := t_NotEnoughPieces, E_NotEnoughPieces := ⟨E1_NotEnoughPieces, E2_NotEnoughPieces, b_NotEnoughPieces, E3_NotEnoughPieces, E4_NotEnoughPieces, E6, E7, E5_NotEnoughPieces⟩,
    g_NoSpace := PySem.W.mg_of X G a_NoSpace, x_NoSpace := x_NoSpace, k_NoSpace := k_NoSpace, b_NoSpace := b_NoSpace, t_NoSpace := t_NoSpace, E_NoSpace := ⟨E1_NoSpace, E2_NoSpace, b_NoSpace, E3_NoSpace, E4_NoSpace, E6, E7, E5_NoSpace⟩,
    g_NotEnoughDisks := PySem.W.mg_of X G a_NotEnoughDisks, x_NotEnoughDisks := x_NotEnoughDisks, k_NotEnoughDisks := k_NotEnoughDisks, b_NotEnoughDisks := b_NotEnoughDisks, t_NotEnoughDisks := t_NotEnoughDisks, E_NotEnoughDisks := ⟨E1_NotEnoughDisks, E2_NotEnoughDisks, b_NotEnoughDisks, E3_NotEnoughDisks, E4_NotEnoughDisks, E6, E7, E5_NotEnoughDisks⟩,
    g_Damaged := PySem.W.mg_of X G a_Damaged, x_Damaged := x_Damaged, k_Damaged := k_Damaged, b_Damaged := b_Damaged, t_Damaged := t_Damaged, E_Damaged := ⟨E1_Damaged, E2_Damaged, b_Damaged, E3_Damaged, E4_Damaged, E6, E7, E5_Damaged⟩,
    u_InvalidArgument_PoolError := PySem.W.exm_ref b_PoolError E3_PoolError t_PoolError u_InvalidArgument_PoolError,
    u_NotEnoughDisks_PoolError := PySem.W.exm_ref b_PoolError E3_PoolError t_PoolError u_NotEnoughDisks_PoolError,
    u_Damaged_PoolError := PySem.W.exm_ref b_PoolError E3_PoolError t_PoolError u_Damaged_PoolError,
    u_NotEnoughPieces_NotEnoughPieces := PySem.W.exm_ref b_NotEnoughPieces E3_NotEnoughPieces t_NotEnoughPieces u_NotEnoughPieces_NotEnoughPieces,
    i_Damaged_Damaged := kit_self }
  exact ⟨PySem.W.fnOf "law" "law" (defArgs s_law) (defBody s_law) (defScope s_law) .none kV_law dc_law pm_law an_law cd_law ct_law, fun s v => .of_eq rfl, fun base _ _ => (ok_law T).imp fun vs H Q E h => h⟩
theorem walk {l : PySem.W.OpenLaw} {q : Program} {loose : List Str} {XP : (Str → Option Value) → Heap → Prop} {YP : World → Heap → Prop} {d : DefRec} {K : Params → PySem.W.Frag} (hn : l.most = some 63) (hdf : d.params.defaults = [])
    (hY : ∀ (w : World) (h : Heap), YP w h → (K w.params).In h)
    (F : ∀ (w : World) (mg : Str → Option Value) (fa : Addr) (h : Heap), (K w.params).In h → h.Ns mainGlobals mg → mg d.name = some (.ref fa) →
      ∃ fd : FuncData, (∀ (s : Shared) (u : Value), BindsTo s fd ⟨[u], []⟩ [("script", u)]) ∧ ∀ base : Heap, (K w.params).In base → base.Ns mainGlobals mg → FnOk l.prog w (K w.params) mg base CX0 11 fa fd ["script"] (sp_law0 (K w.params))) :
    PySem.W.WalkO q loose XP YP l.row.toRowW d [] (fun f vs => PySem.call f vs) :=
  L2.walk_of (n := 63) (k := 11) (x := "script") (CX := fun _ => CX0) (sp := fun w => sp_law0 (K w.params)) hn (by decide) hdf ⟨rfl, by decide, by decide⟩ hY F (fun _ _ a ns hl _ hS => ⟨a, ns, rfl, hS, hl, fun _ => rfl⟩) fun _ _ _ _ _ z => z
end PP
open PySem PySem.W PyProof.Rows
set_option maxRecDepth 100000 in
set_option maxHeartbeats 0 in
theorem PySem.Challenge.cw_paritypool_k29_repairs_holds : PySem.Challenge.rw_paritypool_k29_repairs.Holds := by
  w_on; o_law; k_head; (case hw => w_witness2)
  k_fill
  refine PP.walk (l := PySem.Challenge.rw_paritypool_k29_repairs) rfl rfl (fun w h Y => PySem.W.kIn_of Y) ?F
  case F =>
    intro w mg fa h KX G hmg
    refine' PP.all_mk KX G hmg ?a_Space ?a_Store ?a_is_present ?l_is_present ?q_is_present ?k_is_present ?a_sector_at ?l_sector_at ?q_sector_at ?k_sector_at ?a_inverse ?l_inverse ?q_inverse ?k_inverse ?a_weight ?l_weight ?q_weight ?k_weight ?a_weights ?l_weights ?q_weights ?k_weights ?a_check_lengths ?l_check_lengths ?q_check_lengths ?k_check_lengths ?a_piece_at ?l_piece_at ?q_piece_at ?k_piece_at ?a_encode ?l_encode ?q_encode ?k_encode ?a_present_numbers ?l_present_numbers ?q_present_numbers ?k_present_numbers ?a_recover ?l_recover ?q_recover ?k_recover ?a_agree ?l_agree ?q_agree ?k_agree ?a_wrong_pieces ?l_wrong_pieces ?q_wrong_pieces ?k_wrong_pieces ?a_check_words ?l_check_words ?q_check_words ?k_check_words ?a_is_place ?l_is_place ?q_is_place ?k_is_place ?a_seal ?l_seal ?q_seal ?k_seal ?a_unseal ?l_unseal ?q_unseal ?k_unseal ?a_is_whole ?l_is_whole ?q_is_whole ?k_is_whole ?a_choose_disks ?l_choose_disks ?q_choose_disks ?k_choose_disks ?a_piece_size ?l_piece_size ?q_piece_size ?k_piece_size ?a_data_pieces ?l_data_pieces ?q_data_pieces ?k_data_pieces ?a_piece_requests ?l_piece_requests ?q_piece_requests ?k_piece_requests ?a_write_stripe ?l_write_stripe ?q_write_stripe ?k_write_stripe ?a_good_piece ?l_good_piece ?q_good_piece ?k_good_piece ?a_read_stripe ?l_read_stripe ?q_read_stripe ?k_read_stripe ?a_repair_stripe ?l_repair_stripe ?q_repair_stripe ?k_repair_stripe ?a_law_pot ?l_law_pot ?q_law_pot ?k_law_pot ?a_law_next ?l_law_next ?q_law_next ?k_law_next ?a_law_word ?l_law_word ?q_law_word ?k_law_word ?a_law_words ?l_law_words ?q_law_words ?k_law_words ?a_law_carry ?l_law_carry ?q_law_carry ?k_law_carry ?a_law_spoil ?l_law_spoil ?q_law_spoil ?k_law_spoil ?a_law_refused ?l_law_refused ?q_law_refused ?k_law_refused ?a_law ?l_law ?q_law ?k_law ?a_Space_init ?i_Space_init ?l_Space_init ?q_Space_init ?k_Space_init ?a_Space_take ?i_Space_take ?l_Space_take ?q_Space_take ?k_Space_take ?a_Space_give ?i_Space_give ?l_Space_give ?q_Space_give ?k_Space_give ?a_Space_settle ?i_Space_settle ?l_Space_settle ?q_Space_settle ?k_Space_settle ?a_Space_free_count ?i_Space_free_count ?l_Space_free_count ?q_Space_free_count ?k_Space_free_count ?a_Store_init ?i_Store_init ?l_Store_init ?q_Store_init ?k_Store_init ?a_Store_look ?i_Store_look ?l_Store_look ?q_Store_look ?k_Store_look ?a_Store_put ?i_Store_put ?l_Store_put ?kw_Store_put ?le_Store_put ?q_Store_put ?k_Store_put ?a_Store_get ?i_Store_get ?l_Store_get ?q_Store_get ?k_Store_get ?a_Store_commit ?i_Store_commit ?l_Store_commit ?q_Store_commit ?k_Store_commit ?a_Store_forget ?i_Store_forget ?l_Store_forget ?q_Store_forget ?k_Store_forget ?a_Store_repairs ?i_Store_repairs ?l_Store_repairs ?q_Store_repairs ?k_Store_repairs ?a_Store_free_counts ?i_Store_free_counts ?l_Store_free_counts ?q_Store_free_counts ?k_Store_free_counts ?a_PRIME ?a_MAX_PIECES ?a_MAX_DISKS ?a_MAX_PAYLOAD ?a_MAX_ROWS ?a_FIRST_ROW ?a_NEW ?a_OLD ?a_WAITING ?a_LABEL ?a_PIECE ?a_HEADER_WORDS ?a_CHECK_WORDS ?n_len ?n_enumerate ?n_sum ?n_zip ?n_list ?n_range ?n_tuple ?n_min ?n_max ?n_sorted ?n_int ?n_abs ?n_isinstance ?n_all ?n_combinations ?pg_Space ?hd_Space ?po_Space ?sa_Space ?mk_Space ?kc_Space ?na_Space_first ?na_Space_lowest ?na_Space_rows ?na_Space_states ?pg_Store ?hd_Store ?po_Store ?sa_Store ?mk_Store ?kc_Store ?na_Store_blocks ?na_Store_images ?na_Store_made ?na_Store_memory ?na_Store_spaces ?na_Store_data ?na_Store_epoch ?na_Store_members ?na_Store_parity ?na_Store_rows ?a_PoolError ?x_PoolError ?k_PoolError ?b_PoolError ?t_PoolError ?E1_PoolError ?E2_PoolError ?E3_PoolError ?E4_PoolError ?s_PoolError ?E5_PoolError ?a_InvalidArgument ?x_InvalidArgument ?k_InvalidArgument ?b_InvalidArgument ?t_InvalidArgument ?E1_InvalidArgument ?E2_InvalidArgument ?E3_InvalidArgument ?E4_InvalidArgument ?s_InvalidArgument ?E5_InvalidArgument ?a_NotEnoughPieces ?x_NotEnoughPieces ?k_NotEnoughPieces ?b_NotEnoughPieces ?t_NotEnoughPieces ?E1_NotEnoughPieces ?E2_NotEnoughPieces ?E3_NotEnoughPieces ?E4_NotEnoughPieces ?s_NotEnoughPieces ?E5_NotEnoughPieces ?a_NoSpace ?x_NoSpace ?k_NoSpace ?b_NoSpace ?t_NoSpace ?E1_NoSpace ?E2_NoSpace ?E3_NoSpace ?E4_NoSpace ?s_NoSpace ?E5_NoSpace ?a_NotEnoughDisks ?x_NotEnoughDisks ?k_NotEnoughDisks ?b_NotEnoughDisks ?t_NotEnoughDisks ?E1_NotEnoughDisks ?E2_NotEnoughDisks ?E3_NotEnoughDisks ?E4_NotEnoughDisks ?s_NotEnoughDisks ?E5_NotEnoughDisks ?a_Damaged ?x_Damaged ?k_Damaged ?b_Damaged ?t_Damaged ?E1_Damaged ?E2_Damaged ?E3_Damaged ?E4_Damaged ?s_Damaged ?E5_Damaged ?E6 ?E7 ?u_InvalidArgument_PoolError ?u_NotEnoughDisks_PoolError ?u_Damaged_PoolError ?u_NotEnoughPieces_NotEnoughPieces
    (case a_Space => k_is)
    (case a_Store => k_is)
    (case a_is_present => k_is)
    (case l_is_present => k_is)
    (case q_is_present => k_is)
    (case k_is_present => k_is)
    (case a_sector_at => k_is)
    (case l_sector_at => k_is)
    (case q_sector_at => k_is)
    (case k_sector_at => k_is)
    (case a_inverse => k_is)
    (case l_inverse => k_is)
    (case q_inverse => k_is)
    (case k_inverse => k_is)
    (case a_weight => k_is)
    (case l_weight => k_is)
    (case q_weight => k_is)
    (case k_weight => k_is)
    (case a_weights => k_is)
    (case l_weights => k_is)
    (case q_weights => k_is)
    (case k_weights => k_is)
    (case a_check_lengths => k_is)
    (case l_check_lengths => k_is)
    (case q_check_lengths => k_is)
    (case k_check_lengths => k_is)
    (case a_piece_at => k_is)
    (case l_piece_at => k_is)
    (case q_piece_at => k_is)
    (case k_piece_at => k_is)
    (case a_encode => k_is)
    (case l_encode => k_is)
    (case q_encode => k_is)
    (case k_encode => k_is)
    (case a_present_numbers => k_is)
    (case l_present_numbers => k_is)
    (case q_present_numbers => k_is)
    (case k_present_numbers => k_is)
    (case a_recover => k_is)
    (case l_recover => k_is)
    (case q_recover => k_is)
    (case k_recover => k_is)
    (case a_agree => k_is)
    (case l_agree => k_is)
    (case q_agree => k_is)
    (case k_agree => k_is)
    (case a_wrong_pieces => k_is)
    (case l_wrong_pieces => k_is)
    (case q_wrong_pieces => k_is)
    (case k_wrong_pieces => k_is)
    (case a_check_words => k_is)
    (case l_check_words => k_is)
    (case q_check_words => k_is)
    (case k_check_words => k_is)
    (case a_is_place => k_is)
    (case l_is_place => k_is)
    (case q_is_place => k_is)
    (case k_is_place => k_is)
    (case a_seal => k_is)
    (case l_seal => k_is)
    (case q_seal => k_is)
    (case k_seal => k_is)
    (case a_unseal => k_is)
    (case l_unseal => k_is)
    (case q_unseal => k_is)
    (case k_unseal => k_is)
    (case a_is_whole => k_is)
    (case l_is_whole => k_is)
    (case q_is_whole => k_is)
    (case k_is_whole => k_is)
    (case a_choose_disks => k_is)
    (case l_choose_disks => k_is)
    (case q_choose_disks => k_is)
    (case k_choose_disks => k_is)
    (case a_piece_size => k_is)
    (case l_piece_size => k_is)
    (case q_piece_size => k_is)
    (case k_piece_size => k_is)
    (case a_data_pieces => k_is)
    (case l_data_pieces => k_is)
    (case q_data_pieces => k_is)
    (case k_data_pieces => k_is)
    (case a_piece_requests => k_is)
    (case l_piece_requests => k_is)
    (case q_piece_requests => k_is)
    (case k_piece_requests => k_is)
    (case a_write_stripe => k_is)
    (case l_write_stripe => k_is)
    (case q_write_stripe => k_is)
    (case k_write_stripe => k_is)
    (case a_good_piece => k_is)
    (case l_good_piece => k_is)
    (case q_good_piece => k_is)
    (case k_good_piece => k_is)
    (case a_read_stripe => k_is)
    (case l_read_stripe => k_is)
    (case q_read_stripe => k_is)
    (case k_read_stripe => k_is)
    (case a_repair_stripe => k_is)
    (case l_repair_stripe => k_is)
    (case q_repair_stripe => k_is)
    (case k_repair_stripe => k_is)
    (case a_law_pot => k_is)
    (case l_law_pot => k_is)
    (case q_law_pot => k_is)
    (case k_law_pot => k_is)
    (case a_law_next => k_is)
    (case l_law_next => k_is)
    (case q_law_next => k_is)
    (case k_law_next => k_is)
    (case a_law_word => k_is)
    (case l_law_word => k_is)
    (case q_law_word => k_is)
    (case k_law_word => k_is)
    (case a_law_words => k_is)
    (case l_law_words => k_is)
    (case q_law_words => k_is)
    (case k_law_words => k_is)
    (case a_law_carry => k_is)
    (case l_law_carry => k_is)
    (case q_law_carry => k_is)
    (case k_law_carry => k_is)
    (case a_law_spoil => k_is)
    (case l_law_spoil => k_is)
    (case q_law_spoil => k_is)
    (case k_law_spoil => k_is)
    (case a_law_refused => k_is)
    (case l_law_refused => k_is)
    (case q_law_refused => k_is)
    (case k_law_refused => k_is)
    (case a_law => k_is)
    (case l_law => k_is)
    (case q_law => k_is)
    (case k_law => k_is)
    (case a_Space_init => k_is)
    (case i_Space_init => k_is)
    (case l_Space_init => k_is)
    (case q_Space_init => k_is)
    (case k_Space_init => k_is)
    (case a_Space_take => k_is)
    (case i_Space_take => k_is)
    (case l_Space_take => k_is)
    (case q_Space_take => k_is)
    (case k_Space_take => k_is)
    (case a_Space_give => k_is)
    (case i_Space_give => k_is)
    (case l_Space_give => k_is)
    (case q_Space_give => k_is)
    (case k_Space_give => k_is)
    (case a_Space_settle => k_is)
    (case i_Space_settle => k_is)
    (case l_Space_settle => k_is)
    (case q_Space_settle => k_is)
    (case k_Space_settle => k_is)
    (case a_Space_free_count => k_is)
    (case i_Space_free_count => k_is)
    (case l_Space_free_count => k_is)
    (case q_Space_free_count => k_is)
    (case k_Space_free_count => k_is)
    (case a_Store_init => k_is)
    (case i_Store_init => k_is)
    (case l_Store_init => k_is)
    (case q_Store_init => k_is)
    (case k_Store_init => k_is)
    (case a_Store_look => k_is)
    (case i_Store_look => k_is)
    (case l_Store_look => k_is)
    (case q_Store_look => k_is)
    (case k_Store_look => k_is)
    (case a_Store_put => k_is)
    (case i_Store_put => k_is)
    (case l_Store_put => k_is)
    (case kw_Store_put => k_is)
    (case le_Store_put => k_is)
    (case q_Store_put => k_is)
    (case k_Store_put => k_is)
    (case a_Store_get => k_is)
    (case i_Store_get => k_is)
    (case l_Store_get => k_is)
    (case q_Store_get => k_is)
    (case k_Store_get => k_is)
    (case a_Store_commit => k_is)
    (case i_Store_commit => k_is)
    (case l_Store_commit => k_is)
    (case q_Store_commit => k_is)
    (case k_Store_commit => k_is)
    (case a_Store_forget => k_is)
    (case i_Store_forget => k_is)
    (case l_Store_forget => k_is)
    (case q_Store_forget => k_is)
    (case k_Store_forget => k_is)
    (case a_Store_repairs => k_is)
    (case i_Store_repairs => k_is)
    (case l_Store_repairs => k_is)
    (case q_Store_repairs => k_is)
    (case k_Store_repairs => k_is)
    (case a_Store_free_counts => k_is)
    (case i_Store_free_counts => k_is)
    (case l_Store_free_counts => k_is)
    (case q_Store_free_counts => k_is)
    (case k_Store_free_counts => k_is)
    (case a_PRIME => k_is)
    (case a_MAX_PIECES => k_is)
    (case a_MAX_DISKS => k_is)
    (case a_MAX_PAYLOAD => k_is)
    (case a_MAX_ROWS => k_is)
    (case a_FIRST_ROW => k_is)
    (case a_NEW => k_is)
    (case a_OLD => k_is)
    (case a_WAITING => k_is)
    (case a_LABEL => k_is)
    (case a_PIECE => k_is)
    (case a_HEADER_WORDS => k_is)
    (case a_CHECK_WORDS => k_is)
    (case n_len => k_is)
    (case n_enumerate => k_is)
    (case n_sum => k_is)
    (case n_zip => k_is)
    (case n_list => k_is)
    (case n_range => k_is)
    (case n_tuple => k_is)
    (case n_min => k_is)
    (case n_max => k_is)
    (case n_sorted => k_is)
    (case n_int => k_is)
    (case n_abs => k_is)
    (case n_isinstance => k_is)
    (case n_all => k_is)
    (case n_combinations => k_is)
    (case pg_Space => k_is)
    (case hd_Space => k_is)
    (case po_Space => k_is)
    (case sa_Space => k_is)
    (case mk_Space => k_is)
    (case kc_Space => k_is)
    (case na_Space_first => k_is)
    (case na_Space_lowest => k_is)
    (case na_Space_rows => k_is)
    (case na_Space_states => k_is)
    (case pg_Store => k_is)
    (case hd_Store => k_is)
    (case po_Store => k_is)
    (case sa_Store => k_is)
    (case mk_Store => k_is)
    (case kc_Store => k_is)
    (case na_Store_blocks => k_is)
    (case na_Store_images => k_is)
    (case na_Store_made => k_is)
    (case na_Store_memory => k_is)
    (case na_Store_spaces => k_is)
    (case na_Store_data => k_is)
    (case na_Store_epoch => k_is)
    (case na_Store_members => k_is)
    (case na_Store_parity => k_is)
    (case na_Store_rows => k_is)
    (case a_PoolError => k_is)
    (case x_PoolError => k_exc)
    (case k_PoolError => k_is)
    (case b_PoolError => k_is)
    (case t_PoolError => k_is)
    (case E1_PoolError => k_is)
    (case E2_PoolError => k_is)
    (case E3_PoolError => k_is)
    (case E4_PoolError => k_is)
    (case s_PoolError => first | rfl | k_is)
    (case E5_PoolError => k_is)
    (case a_InvalidArgument => k_is)
    (case x_InvalidArgument => k_exc)
    (case k_InvalidArgument => k_is)
    (case b_InvalidArgument => k_is)
    (case t_InvalidArgument => k_is)
    (case E1_InvalidArgument => k_is)
    (case E2_InvalidArgument => k_is)
    (case E3_InvalidArgument => k_is)
    (case E4_InvalidArgument => k_is)
    (case s_InvalidArgument => first | rfl | k_is)
    (case E5_InvalidArgument => k_is)
    (case a_NotEnoughPieces => k_is)
    (case x_NotEnoughPieces => k_exc)
    (case k_NotEnoughPieces => k_is)
    (case b_NotEnoughPieces => k_is)
    (case t_NotEnoughPieces => k_is)
    (case E1_NotEnoughPieces => k_is)
    (case E2_NotEnoughPieces => k_is)
    (case E3_NotEnoughPieces => k_is)
    (case E4_NotEnoughPieces => k_is)
    (case s_NotEnoughPieces => first | rfl | k_is)
    (case E5_NotEnoughPieces => k_is)
    (case a_NoSpace => k_is)
    (case x_NoSpace => k_exc)
    (case k_NoSpace => k_is)
    (case b_NoSpace => k_is)
    (case t_NoSpace => k_is)
    (case E1_NoSpace => k_is)
    (case E2_NoSpace => k_is)
    (case E3_NoSpace => k_is)
    (case E4_NoSpace => k_is)
    (case s_NoSpace => first | rfl | k_is)
    (case E5_NoSpace => k_is)
    (case a_NotEnoughDisks => k_is)
    (case x_NotEnoughDisks => k_exc)
    (case k_NotEnoughDisks => k_is)
    (case b_NotEnoughDisks => k_is)
    (case t_NotEnoughDisks => k_is)
    (case E1_NotEnoughDisks => k_is)
    (case E2_NotEnoughDisks => k_is)
    (case E3_NotEnoughDisks => k_is)
    (case E4_NotEnoughDisks => k_is)
    (case s_NotEnoughDisks => first | rfl | k_is)
    (case E5_NotEnoughDisks => k_is)
    (case a_Damaged => k_is)
    (case x_Damaged => k_exc)
    (case k_Damaged => k_is)
    (case b_Damaged => k_is)
    (case t_Damaged => k_is)
    (case E1_Damaged => k_is)
    (case E2_Damaged => k_is)
    (case E3_Damaged => k_is)
    (case E4_Damaged => k_is)
    (case s_Damaged => first | rfl | k_is)
    (case E5_Damaged => k_is)
    (case E6 => k_is)
    (case E7 => k_is)
    (case u_InvalidArgument_PoolError => k_is)
    (case u_NotEnoughDisks_PoolError => k_is)
    (case u_Damaged_PoolError => k_is)
    (case u_NotEnoughPieces_NotEnoughPieces => k_is)
