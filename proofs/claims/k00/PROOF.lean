import PyProof.Rows.All
import HandS.ForExc
import HandS.Comp
import HandS.ExcInit
import HandS.ExcField
import HandS.CallSlots
import HandS.Deep
import HandS.TupAny
import HandS.IsInst
import HandS.Wide
import HandS.Gcd
import KE.DataCmp
import KE.DataEq
import KE.SortData
import HandS.Conv
import HandS.SetFor
import HandS.WordsExc
import PyProof.Rows.RuleB_and
import PyProof.Rows.RuleB_or
import PyProof.Rows.RuleB_xor
import PySem.Challenge.RW_alikeclash_k00_kinds_and_quotients
import Wide.All
import OpenK.AllK
import Wide.FinOn
import PyProof.EqAt
import PyProof.EqKinds
import PyProof.TupleCall
import PyProof.TupleOfSeq
import HandS.TupSets
set_option Elab.async false
set_option linter.all false
set_option maxRecDepth 100000
set_option maxHeartbeats 1000000
/-! Rx: a small evaluator over data for the plain part of the language, and that the model does what it tells. -/
namespace Rx
open PySem PySem.Spec PyProof.Rows L2

/-! ### data as they stand in a heap; aw: the address of the law's well -/
mutual
inductive Rp (aw : Addr) (K : PySem.W.Frag) (H : Hp) : V → PyData → Prop
  | non : Rp aw K H .non .none
  | bl (b : Bool) : Rp aw K H (.bl b) (.bool b)
  | int (i : Int) : Rp aw K H (.int i) (.int i)
  | str (x : Str) : Rp aw K H (.str x) (.str x)
  | lst {a : Addr} {xs : List V} {ds : List PyData} : H a = some (.lst xs) → xs.length ≤ sizeLine → Rps aw K H xs ds → Rp aw K H (.ref a) (.list ds)
  | tup {a : Addr} {xs : List V} {ds : List PyData} : SqT K H a xs → xs.length ≤ sizeLine → Rps aw K H xs ds → Rp aw K H (.ref a) (.tuple ds)
  | wel : Rp aw K H (.ref aw) (.dict [])
inductive Rps (aw : Addr) (K : PySem.W.Frag) (H : Hp) : List V → List PyData → Prop
  | nil : Rps aw K H [] []
  | cons {v : V} {vs : List V} {d : PyData} {ds : List PyData} : Rp aw K H v d → Rps aw K H vs ds → Rps aw K H (v :: vs) (d :: ds)
end
theorem Same.sqt {K : PySem.W.Frag} {H H' : Hp} {a : Addr} {xs : List V} (e : Same H H') (h : SqT K H a xs) : SqT K H' a xs := by
  rcases h with (h | ⟨o, h⟩) | h
  · exact .inl (.inl (e _ _ h))
  · exact .inl (.inr ⟨o, e _ _ h⟩)
  · exact .inr h
section
variable {aw : Addr} {K : PySem.W.Frag} {H H' : Hp}
mutual
theorem Rp.mono (e : Same H H') : ∀ {v : V} {d : PyData}, Rp aw K H v d → Rp aw K H' v d
  | _, _, .non => .non
  | _, _, .bl b => .bl b
  | _, _, .int i => .int i
  | _, _, .str x => .str x
  | _, _, .lst s l r => .lst (e _ _ s) l (Rps.mono e r)
  | _, _, .tup s l r => .tup (Same.sqt e s) l (Rps.mono e r)
  | _, _, .wel => .wel
theorem Rps.mono (e : Same H H') : ∀ {vs : List V} {ds : List PyData}, Rps aw K H vs ds → Rps aw K H' vs ds
  | _, _, .nil => .nil
  | _, _, .cons r t => .cons (Rp.mono e r) (Rps.mono e t)
end
mutual
theorem Rp.dp : ∀ {v : V} {d : PyData}, Rp aw K H v d → d.plain = true → Dp K H v d
  | _, _, .non, _ => .non
  | _, _, .bl b, _ => .bl b
  | _, _, .int i, _ => .int i
  | _, _, .str x, _ => .str x
  | _, _, .lst (ds := ds) s _ r, h => .lst (.inl (.inl s)) (Rps.dp r (by simpa [PyData.plain] using h))
  | _, _, .tup (ds := ds) s _ r, h => .tup s (Rps.dp r (by simpa [PyData.plain] using h))
  | _, _, .wel, h => by simp [PyData.plain] at h
theorem Rps.dp : ∀ {vs : List V} {ds : List PyData}, Rps aw K H vs ds → PyData.plainAll ds = true → DpAll K H vs ds
  | _, _, .nil, _ => .nil
  | _, _, .cons r t, h => by
    simp only [PyData.plainAll, Bool.and_eq_true] at h
    exact .cons (Rp.dp r h.1) (Rps.dp t h.2)
end
theorem Rps.length : ∀ {vs : List V} {ds : List PyData}, Rps aw K H vs ds → vs.length = ds.length
  | _, _, .nil => rfl
  | _, _, .cons _ t => by rw [List.length_cons, List.length_cons, t.length]
theorem Rps.get : ∀ {vs : List V} {ds : List PyData} {i : Nat} {d : PyData}, Rps aw K H vs ds → ds[i]? = some d → ∃ v, vs[i]? = some v ∧ Rp aw K H v d
  | _, _, _, _, .nil, h => by simp at h
  | _, _, 0, _, .cons r _, h => by
    simp at h
    subst h
    exact ⟨_, rfl, r⟩
  | _, _, i + 1, _, .cons _ t, h => by
    obtain ⟨v, h1, h2⟩ := Rps.get (i := i) t (by simpa using h)
    exact ⟨v, by simpa using h1, h2⟩
theorem Rps.getV : ∀ {vs : List V} {ds : List PyData} {i : Nat} {v : V}, Rps aw K H vs ds → vs[i]? = some v → ∃ d, ds[i]? = some d ∧ Rp aw K H v d
  | _, _, _, _, .nil, h => by simp at h
  | _, _, 0, _, .cons r _, h => by
    simp at h
    subst h
    exact ⟨_, rfl, r⟩
  | _, _, i + 1, _, .cons _ t, h => by
    obtain ⟨v, h1, h2⟩ := Rps.getV (i := i) t (by simpa using h)
    exact ⟨v, by simpa using h1, h2⟩
theorem Rps.append : ∀ {vs ws : List V} {ds es : List PyData}, Rps aw K H vs ds → Rps aw K H ws es → Rps aw K H (vs ++ ws) (ds ++ es)
  | _, _, _, _, .nil, s => s
  | _, _, _, _, .cons r t, s => .cons r (Rps.append t s)
theorem Rps.one {v : V} {d : PyData} (r : Rp aw K H v d) : Rps aw K H [v] [d] := .cons r .nil
theorem Rps.take : ∀ {vs : List V} {ds : List PyData} (n : Nat), Rps aw K H vs ds → Rps aw K H (vs.take n) (ds.take n)
  | _, _, 0, _ => by simpa using .nil
  | _, _, _ + 1, .nil => .nil
  | _, _, n + 1, .cons r t => .cons r (Rps.take n t)
theorem Rps.drop : ∀ {vs : List V} {ds : List PyData} (n : Nat), Rps aw K H vs ds → Rps aw K H (vs.drop n) (ds.drop n)
  | _, _, 0, r => r
  | _, _, _ + 1, .nil => .nil
  | _, _, n + 1, .cons _ t => Rps.drop n t
theorem Rps.set : ∀ {vs : List V} {ds : List PyData} (n : Nat) {v : V} {d : PyData}, Rps aw K H vs ds → Rp aw K H v d → Rps aw K H (vs.set n v) (ds.set n d)
  | _, _, _, _, _, .nil, _ => .nil
  | _, _, 0, _, _, .cons _ t, q => .cons q t
  | _, _, n + 1, _, _, .cons r t, q => .cons r (Rps.set n t q)
theorem Rps.eraseIdx : ∀ {vs : List V} {ds : List PyData} (n : Nat), Rps aw K H vs ds → Rps aw K H (vs.eraseIdx n) (ds.eraseIdx n)
  | _, _, _, .nil => .nil
  | _, _, 0, .cons _ t => t
  | _, _, n + 1, .cons r t => .cons r (Rps.eraseIdx n t)
theorem Rps.reverse {vs : List V} {ds : List PyData} (h : Rps aw K H vs ds) : Rps aw K H vs.reverse ds.reverse := by
  induction vs generalizing ds with
  | nil => cases h; exact .nil
  | cons v vs ih =>
    cases h with
    | cons r t =>
      rw [List.reverse_cons, List.reverse_cons]
      exact (ih t).append (Rps.one r)
theorem Rps.ints : ∀ {vs : List V} {ns : List Int}, Rps aw K H vs (ns.map PyData.int) → vs = ns.map V.int
  | _, [], h => by cases h; rfl
  | _, n :: ns, h => by
    have h' : Rps aw K H _ (PyData.int n :: ns.map PyData.int) := h
    cases h' with
    | cons r t =>
      cases r
      rw [Rps.ints t]
      rfl
theorem Rps.bls : ∀ {vs : List V} {bs : List Bool}, Rps aw K H vs (bs.map PyData.bool) → vs = bs.map V.bl
  | _, [], h => by cases h; rfl
  | _, n :: ns, h => by
    have h' : Rps aw K H _ (PyData.bool n :: ns.map PyData.bool) := h
    cases h' with
    | cons r t =>
      cases r
      rw [Rps.bls t]
      rfl
end

/-! ### the state of the evaluator -/
inductive Slt where
  | no
  /-- a value that stands still -/
  | val (d : PyData)
  /-- a list that this def alone holds -/
  | own (ds : List PyData)
abbrev Wl := List Int × Int
inductive Rz (α : Type) where
  | ok (a : α) (w : Wl)
  | exc (c : Nat) (fs : List PyData) (w : Wl)
  | stuck
def Rz.bnd {α β : Type} (m : Rz α) (f : α → Wl → Rz β) : Rz β :=
  match m with
  | .ok a w => f a w
  | .exc c fs w => .exc c fs w
  | .stuck => .stuck
inductive Got where
  | val (d : PyData)
  | fresh (ds : List PyData)
def Got.d : Got → PyData
  | .val d => d
  | .fresh ds => .list ds

/-- what holds of the heap and of the law's well, between the entry (G0, H0) and now (G, H); G: what stands still -/
structure Base (aw ag : Addr) (G0 H0 G H : Hp) (w : Wl) : Prop where
  gh : Same G H
  g0 : Same G0 G
  fr : ∀ a o, H0 a = some o → a ≠ aw → a ≠ ag → H a = some o
  old : ∀ a, H0 a ≠ none → G0 a = none → G a = none
  hw : H aw = some (.lst [.ref ag, .int w.2])
  hg : H ag = some (.lst (w.1.map V.int))
  gw : G aw = none
  gg : G ag = none
structure Rel (aw ag : Addr) (K : PySem.W.Frag) (G0 H0 G H : Hp) (σ : L2.St) (sl : List Slt) (w : Wl) : Prop where
  b : Base aw ag G0 H0 G H w
  val : ∀ (i : Nat) d, sl[i]? = some (.val d) → ∃ v, σ[i]? = some (some v) ∧ Rp aw K G v d
  own : ∀ (i : Nat) ds, sl[i]? = some (.own ds) → ∃ a vs, σ[i]? = some (some (.ref a)) ∧ H a = some (.lst vs) ∧ G a = none ∧ H0 a = none ∧ a ≠ aw ∧ a ≠ ag ∧ Rps aw K G vs ds ∧ vs.length ≤ sizeLine
  inj : ∀ (i j : Nat) ds es a, sl[i]? = some (.own ds) → sl[j]? = some (.own es) → σ[i]? = some (some (.ref a)) → σ[j]? = some (some (.ref a)) → i = j
  len : σ.length = sl.length
/-- the result of an expression -/
def RpR (aw ag : Addr) (K : PySem.W.Frag) (H0 G H : Hp) (σ : L2.St) (sl : List Slt) (v : V) : Got → Prop
  | .val d => Rp aw K G v d
  | .fresh ds => ∃ p vs, v = .ref p ∧ H p = some (.lst vs) ∧ G p = none ∧ H0 p = none ∧ p ≠ aw ∧ p ≠ ag ∧ (∀ (i : Nat) es, sl[i]? = some (.own es) → σ[i]? ≠ some (some (.ref p))) ∧ Rps aw K G vs ds ∧ vs.length ≤ sizeLine
section
variable {aw ag : Addr} {K : PySem.W.Frag} {G0 H0 G H G' H' : Hp} {σ : L2.St} {sl : List Slt} {w : Wl} {v : V} {r : Got}
theorem Base.newNe (B : Base aw ag G0 H0 G H w) {p : Addr} (h : H p = none) : p ≠ aw ∧ p ≠ ag ∧ G p = none ∧ H0 p = none := by
  have h1 : p ≠ aw := fun e => by rw [e, B.hw] at h; cases h
  have h2 : p ≠ ag := fun e => by rw [e, B.hg] at h; cases h
  refine ⟨h1, h2, ?_, ?_⟩
  · cases q : G p with
    | none => rfl
    | some o => rw [B.gh p o q] at h; cases h
  · cases q : H0 p with
    | none => rfl
    | some o => rw [B.fr p o q h1 h2] at h; cases h
theorem same_upd {H : Hp} {p : Addr} {o : HO} (h : H p = none) : Same H (upd H p o) := fun b x e => by
  rw [upd_ne (ne_of_none e h)]
  exact e
/-- a new object, not told to stand still -/
theorem Base.lay (B : Base aw ag G0 H0 G H w) {p : Addr} {o : HO} (h : H p = none) : Base aw ag G0 H0 G (upd H p o) w := by
  obtain ⟨h1, h2, h3, h4⟩ := B.newNe h
  exact ⟨B.gh.trans (same_upd h), B.g0, fun a u e n1 n2 => same_upd h a u (B.fr a u e n1 n2), B.old, same_upd h _ _ B.hw, same_upd h _ _ B.hg, B.gw, B.gg⟩
/-- something of H begins to stand still -/
theorem Base.still (B : Base aw ag G0 H0 G H w) {p : Addr} {o : HO} (h : H p = some o) (h0 : H0 p = none) (hg : G p = none) (n1 : p ≠ aw) (n2 : p ≠ ag) : Base aw ag G0 H0 (upd G p o) H w := by
  refine ⟨fun a u e => ?_, B.g0.trans (same_upd hg), B.fr, fun a e1 e2 => ?_, B.hw, B.hg, ?_, ?_⟩
  · by_cases ha : a = p
    · subst ha
      rw [upd_same] at e
      cases e
      exact h
    · rw [upd_ne ha] at e
      exact B.gh a u e
  · have ha : a ≠ p := fun z => e1 (z ▸ h0)
    rw [upd_ne ha]
    exact B.old a e1 e2
  · rw [upd_ne (Ne.symm n1)]
    exact B.gw
  · rw [upd_ne (Ne.symm n2)]
    exact B.gg
theorem Rel.lay (R : Rel aw ag K G0 H0 G H σ sl w) {p : Addr} {o : HO} (h : H p = none) : Rel aw ag K G0 H0 G (upd H p o) σ sl w :=
  ⟨R.b.lay h, R.val, fun i ds e => by
    obtain ⟨a, vs, q1, q2, q3⟩ := R.own i ds e
    exact ⟨a, vs, q1, same_upd h a _ q2, q3⟩, R.inj, R.len⟩
theorem Rel.still (R : Rel aw ag K G0 H0 G H σ sl w) {p : Addr} {o : HO} (h : H p = some o) (h0 : H0 p = none) (hg : G p = none) (n1 : p ≠ aw) (n2 : p ≠ ag) (no : ∀ (i : Nat) es, sl[i]? = some (.own es) → σ[i]? ≠ some (some (.ref p))) : Rel aw ag K G0 H0 (upd G p o) H σ sl w :=
  ⟨R.b.still h h0 hg n1 n2, fun i d e => by
    obtain ⟨v, q1, q2⟩ := R.val i d e
    exact ⟨v, q1, q2.mono (same_upd hg)⟩, fun i ds e => by
    obtain ⟨a, vs, q1, q2, q3, q4, q5, q6, q7, q8⟩ := R.own i ds e
    have na : a ≠ p := fun z => no i ds e (z ▸ q1)
    exact ⟨a, vs, q1, q2, by rw [upd_ne na]; exact q3, q4, q5, q6, q7.mono (same_upd hg), q8⟩, R.inj, R.len⟩
/-- a new object that stands still at once -/
theorem Rel.made (R : Rel aw ag K G0 H0 G H σ sl w) {p : Addr} {o : HO} (h : H p = none) : Rel aw ag K G0 H0 (upd G p o) (upd H p o) σ sl w ∧ Same G (upd G p o) := by
  obtain ⟨h1, h2, h3, h4⟩ := R.b.newNe h
  refine ⟨(R.lay h).still upd_same h4 h3 h1 h2 fun i es e z => ?_, same_upd h3⟩
  obtain ⟨a, vs, q1, q2, _⟩ := R.own i es e
  rw [q1] at z
  have z' : a = p := by cases z; rfl
  rw [z', h] at q2
  cases q2
/-- a result is told to stand still -/
theorem esc (R : Rel aw ag K G0 H0 G H σ sl w) (h : RpR aw ag K H0 G H σ sl v r) : ∃ G1, Rel aw ag K G0 H0 G1 H σ sl w ∧ Same G G1 ∧ Rp aw K G1 v r.d := by
  cases r with
  | val d => exact ⟨G, R, Same.refl G, h⟩
  | fresh ds =>
    obtain ⟨p, vs, rfl, h1, h2, h3, h4, h5, h6, h7, h8⟩ := h
    exact ⟨upd G p (.lst vs), R.still h1 h3 h2 h4 h5 h6, same_upd h2, .lst upd_same h8 (h7.mono (same_upd h2))⟩
/-- a result as it stands now -/
theorem peek (R : Rel aw ag K G0 H0 G H σ sl w) (h : RpR aw ag K H0 G H σ sl v r) : Rp aw K H v r.d := by
  cases r with
  | val d => exact Rp.mono R.b.gh h
  | fresh ds =>
    obtain ⟨p, vs, rfl, h1, h2, h3, h4, h5, h6, h7, h8⟩ := h
    exact .lst h1 h8 (h7.mono R.b.gh)
/-- a new list is a fresh result -/
theorem freshR (R : Rel aw ag K G0 H0 G H σ sl w) {p : Addr} {vs : List V} {ds : List PyData} (h : H p = none) (r : Rps aw K G vs ds) (hl : vs.length ≤ sizeLine) : Rel aw ag K G0 H0 G (upd H p (.lst vs)) σ sl w ∧ RpR aw ag K H0 G (upd H p (.lst vs)) σ sl (.ref p) (.fresh ds) := by
  obtain ⟨h1, h2, h3, h4⟩ := R.b.newNe h
  refine ⟨R.lay h, p, vs, rfl, upd_same, h3, h4, h1, h2, fun i es e z => ?_, r, hl⟩
  obtain ⟨a, ws, q1, q2, _⟩ := R.own i es e
  rw [q1] at z
  have z' : a = p := by cases z; rfl
  rw [z', h] at q2
  cases q2
/-- a new tuple -/
theorem tupR (R : Rel aw ag K G0 H0 G H σ sl w) {p : Addr} {vs : List V} {ds : List PyData} (h : H p = none) (r : Rps aw K G vs ds) (hl : vs.length ≤ sizeLine) : Rel aw ag K G0 H0 (upd G p (.tup vs)) (upd H p (.tup vs)) σ sl w ∧ Same G (upd G p (.tup vs)) ∧ Rp aw K (upd G p (.tup vs)) (.ref p) (.tuple ds) := by
  obtain ⟨R1, S1⟩ := R.made (o := .tup vs) h
  exact ⟨R1, S1, .tup (.inl (.inl upd_same)) hl (r.mono S1)⟩
end
end Rx
set_option Elab.async false
set_option linter.all false
set_option maxRecDepth 100000
set_option maxHeartbeats 1000000
/-! Rx: operations on data, and that the model's operations do so. -/
/-! Rx: sorted(x), whatever x is whose items can be collected. -/
namespace RxC
open PySem PySem.Spec PySem.W PySem.Calls PyProof.Rows L2
section
variable {P : Program} {w : World} {A : Around} {E : Value → Shared → Prop} {s : Shared}
/-- the heap behind sorted(..), the items collected in h -/
def srtHeap (h : Heap) (vs out : List Value) : Heap := sortedHeap (h.push (seqObj "list" vs.toArray 0)) h.objs.size vs out.toArray
theorem srt_old {h : Heap} {vs out : List Value} {b : Addr} {o : Obj} (e : h.get? b = some o) : (srtHeap h vs out).get? b = some o := by
  have lt := Heap.lt_size e
  unfold srtHeap
  rw [sortedHeap_old (Nat.ne_of_lt lt) (by rw [size_push']; exact Nat.lt_succ_of_lt lt)]
  exact Heap.get?_push_of_some _ e
theorem srt_at (h : Heap) (vs out : List Value) : ∃ n, (srtHeap h vs out).get? h.objs.size = some (seqObj "list" out.toArray n) := sortedHeap_at (Heap.get?_push_size _ rfl)
/-- what is asked of the items that were collected -/
def Ready (P : Program) (w : World) (A : Around) (Q : Value → Shared → Prop) (vs : List Value) (s1 : Shared) : Prop := vs.length ≤ sizeLine ∧ ∃ κ : PyProof.Rows.KeyKind,
  SortsAt P w A.in1.in1 { s1 with heap := sortingHeap (s1.heap.push (seqObj "list" vs.toArray 0)) s1.heap.objs.size vs } κ vs ∧ Q (.ref s1.heap.objs.size) { s1 with heap := srtHeap s1.heap vs (sortVals κ false vs vs) }
theorem sorted_gen {x : Value} {Q : Value → Shared → Prop} (col : wpAny (model P w) A.in1 (collect x) (Ready P w A Q) E s) : wpAny (model P w) A (call (.builtin "sorted") [x]) Q E s := by
  refine Calls.call_function_entry kind_sorted plain_sorted entry_sorted (args_sorted1 _) ?_
  unfold Builtin.«sorted»
  refine wpAny_bind (m := checkCount "sorted" 1 1 _) (wpAny_pure (wpAny_bind (wpAny_mono col (fun vs s1 r => ?_) fun _ _ e => e)))
  obtain ⟨short, κ, S, q⟩ := r
  have new : (s1.heap.push (seqObj "list" vs.toArray 0)).get? s1.heap.objs.size = some (seqObj "list" vs.toArray 0) := Heap.get?_push_size _ rfl
  refine wpAny_bind (wpAny_newList (wpAny_bind (wpAny_holding (wpAny_call_entry_kw slot_list_sort ⟨_, new, rfl⟩ entry_list_sort (list_sort_vals (s := { s1 with heap := s1.heap.push (seqObj "list" vs.toArray 0) }) new S short ⟨_, rfl, ?_⟩) (args_list_sort _)))) short)
  exact wpAny_pure ⟨_, rfl, q⟩
/-- the items told by data -/
def Told {β : Type} (A : Around) (Q : Value → Shared → Prop) (R : Value → β → Prop) (enc : β → PyData) (vs : List Value) (s1 : Shared) : Prop := ∃ bs : List β, EachIs R vs bs ∧ EachIs (fun v b => ∃ as, Reads s1.heap v (enc b) as) vs bs ∧ AllAlike (bs.map enc) ∧ Sortable (bs.map enc) ∧ bs.length ≤ sizeLine ∧
  (∀ b ∈ bs, A.units + 2 + (enc b).depth < cLine) ∧ ∀ out, out.length = bs.length → EachIs R out (bs.mergeSort (dataLe false enc)) → Q (.ref s1.heap.objs.size) { s1 with heap := srtHeap s1.heap vs out }
theorem sorted_told {β : Type} {R : Value → β → Prop} {enc : β → PyData} {x : Value} {Q : Value → Shared → Prop} (col : wpAny (model P w) A.in1 (collect x) (Told A Q R enc) E s) : wpAny (model P w) A (call (.builtin "sorted") [x]) Q E s := by
  refine sorted_gen (wpAny_mono col (fun vs s1 r => ?_) fun _ _ e => e)
  obtain ⟨bs, e, er, al, so, short, deep, q⟩ := r
  have old : ∀ (b : Addr) (o : Obj), s1.heap.get? b = some o → (sortingHeap (s1.heap.push (seqObj "list" vs.toArray 0)) s1.heap.objs.size vs).get? b = some o := fun b o h => sortingHeap_old (Nat.ne_of_lt (Heap.lt_size h)) (Heap.get?_push_of_some _ h)
  have er2 := er.mono (R' := fun v b => ∃ as, Reads (sortingHeap (s1.heap.push (seqObj "list" vs.toArray 0)) s1.heap.objs.size vs) v (enc b) as) fun _ _ ⟨as, r⟩ => ⟨as, PyProof.Rows.Reads.keeps old r⟩
  refine ⟨by rw [e.length]; exact short, _, SortsAt.data (each_map (R := fun v d => ∃ as, Reads (sortingHeap (s1.heap.push (seqObj "list" vs.toArray 0)) s1.heap.objs.size vs) v d as) enc er2) al so fun d hd => ?_, q _ ((sortVals_length false rfl).trans e.length) (sortVals_data false e er2 al)⟩
  obtain ⟨b, hb, rfl⟩ := List.mem_map.mp hd
  have := deep b hb
  show A.units + 1 + 1 + (enc b).depth < cLine
  omega
end
end RxC
set_option Elab.async false
set_option linter.all false
set_option maxRecDepth 100000
set_option maxHeartbeats 1000000
/-! Rx: what operations give on data; readings for them. -/
namespace Rx
open PySem PySem.Spec PyProof.Rows L2

/-! ### operations on data -/
inductive BO where
  | add | sub | mul | fdiv | mod | pow | shl | shr | band | bor | bxor
  deriving DecidableEq
def BO.op : BO → Operator
  | .add => .Add | .sub => .Sub | .mul => .Mult | .fdiv => .FloorDiv | .mod => .Mod | .pow => .Pow | .shl => .LShift | .shr => .RShift | .band => .BitAnd | .bor => .BitOr | .bxor => .BitXor
def wideB (i j : Int) : Bool := decide (i.natAbs < 2 ^ 2000) && decide (j.natAbs < 2 ^ 2000)
def powB (i j : Int) : Bool := decide (0 ≤ j) && decide (j ≤ 1000000) && decide (i.natAbs < 2 ^ 64)
def binD : BO → PyData → PyData → Option Got
  | .add, .int a, .int b => some (.val (.int (a + b)))
  | .add, .list a, .list b => if a.length + b.length ≤ sizeLine then some (.fresh (a ++ b)) else none
  | .add, .tuple a, .tuple b => if a.length + b.length ≤ sizeLine then some (.val (.tuple (a ++ b))) else none
  | .sub, .int a, .int b => some (.val (.int (a - b)))
  | .mul, .int a, .int b => if wideB a b = true then some (.val (.int (a * b))) else none
  | .fdiv, .int a, .int b => if b ≠ 0 ∧ b.natAbs < 2 ^ 2000 then some (.val (.int (a.fdiv b))) else none
  | .mod, .int a, .int b => if b ≠ 0 then some (.val (.int (a.fmod b))) else none
  | .pow, .int a, .int b => if powB a b = true then some (.val (.int (a ^ b.toNat))) else none
  | .shl, .int a, .int b => if powB a b = true then some (.val (.int (a * 2 ^ b.toNat))) else none
  | .shr, .int a, .int b => if 0 ≤ b then some (.val (.int (a / 2 ^ b.toNat))) else none
  | .band, .int a, .int b => some (.val (.int (Builtin.bitAnd a b)))
  | .bor, .int a, .int b => some (.val (.int (Builtin.bitOr a b)))
  | .bxor, .int a, .int b => some (.val (.int (Builtin.bitXor a b)))
  | _, _, _ => none
inductive CO where
  | eq | ne | lt | le | gt | ge | isn | notn | isin | notin
  deriving DecidableEq
def CO.op : CO → CmpOp
  | .eq => .Eq | .ne => .NotEq | .lt => .Lt | .le => .LtE | .gt => .Gt | .ge => .GtE | .isn => .Is | .notn => .IsNot | .isin => .In | .notin => .NotIn
def flatD (d : PyData) : Bool := d.plain && decide (d.depth ≤ 64)
def ordB (d e : PyData) : Bool := PySem.W.alike d e && (d.plain && e.plain) && decide (d.depth ≤ 64) && (match d with | .none => false | _ => true)
def isNone : PyData → Bool
  | .none => true
  | _ => false
def eqD (d e : PyData) : Option Bool :=
  match d, e with
  | .int a, .int b => some (decide (a = b))
  | .bool a, .bool b => some (decide (a = b))
  | .str a, .str b => some (decide (a = b))
  | _, _ => if flatD d = true ∧ flatD e = true then some (PyData.eqv d e) else none
def ltD (d e : PyData) : Option Bool :=
  match d, e with
  | .int a, .int b => some (decide (a < b))
  | _, _ => if ordB d e = true then some (PySem.W.dataLt d e) else none
def inD (d e : PyData) : Option Bool :=
  match e with
  | .list es => if flatD d = true ∧ flatD (.list es) = true then some (es.any fun y => PyData.eqv y d) else none
  | .tuple es => if flatD d = true ∧ flatD (.tuple es) = true then some (es.any fun y => PyData.eqv y d) else none
  | _ => none
def cmpD : CO → PyData → PyData → Option Bool
  | .eq, d, e => eqD d e
  | .ne, d, e => (eqD d e).map not
  | .lt, d, e => ltD d e
  | .gt, d, e => match d, e with
    | .int a, .int b => some (decide (b < a))
    | _, _ => if ordB d e = true then some (PySem.W.dataLt e d) else none
  | .le, d, e => match d, e with
    | .int a, .int b => some (decide (a ≤ b))
    | _, _ => if ordB d e = true then some (!PySem.W.dataLt e d) else none
  | .ge, d, e => match d, e with
    | .int a, .int b => some (decide (b ≤ a))
    | _, _ => if ordB d e = true then some (!PySem.W.dataLt d e) else none
  | .isn, d, .none => some (isNone d)
  | .notn, d, .none => some (!isNone d)
  | .isin, d, e => inD d e
  | .notin, d, e => (inD d e).map not
  | _, _, _ => none
def truD : PyData → Option Bool
  | .none => some false
  | .bool b => some b
  | .int i => some (i != 0)
  | .str y => if y.length ≤ sizeLine then some ((y.length : Int) != 0) else none
  | .list xs => some (!xs.isEmpty)
  | .tuple xs => some (!xs.isEmpty)
  | .dict _ => none

/-! ### what an operand is: it stands still, or is a list whose items do -/
def Rq (aw : Addr) (K : PySem.W.Frag) (G H : Hp) (v : V) (d : PyData) : Prop :=
  Rp aw K G v d ∨ ∃ p vs ds, v = .ref p ∧ d = .list ds ∧ H p = some (.lst vs) ∧ Rps aw K G vs ds ∧ vs.length ≤ sizeLine
/-- what is wanted of a result -/
def OutR (aw : Addr) (K : PySem.W.Frag) (G H : Hp) (Q : VK) : Got → Prop
  | .val d => (∀ v, Rp aw K G v d → Q v H) ∧ ∀ ds, d = .tuple ds → ∀ p vs, H p = none → Rps aw K G vs ds → vs.length ≤ sizeLine → Q (.ref p) (upd H p (.tup vs))
  | .fresh ds => ∀ p vs, H p = none → Rps aw K G vs ds → vs.length ≤ sizeLine → Q (.ref p) (upd H p (.lst vs))
section
variable {aw ag : Addr} {K : PySem.W.Frag} {G H : Hp} {x y v : V} {d e : PyData} {Q : VK} {i : Int} {b : Bool} {ds : List PyData}
theorem Rp.int_inv (h : Rp aw K G v (.int i)) : v = .int i := by cases h; rfl
theorem Rp.bl_inv (h : Rp aw K G v (.bool b)) : v = .bl b := by cases h; rfl
theorem Rp.str_inv {z : Str} (h : Rp aw K G v (.str z)) : v = .str z := by cases h; rfl
theorem Rp.non_inv (h : Rp aw K G v .none) : v = .non := by cases h; rfl
theorem Rp.lst_inv (h : Rp aw K G v (.list ds)) : ∃ a vs, v = .ref a ∧ G a = some (.lst vs) ∧ vs.length ≤ sizeLine ∧ Rps aw K G vs ds := by
  cases h with
  | lst h1 h2 h3 => exact ⟨_, _, rfl, h1, h2, h3⟩
theorem Rp.tup_inv (h : Rp aw K G v (.tuple ds)) : ∃ a vs, v = .ref a ∧ SqT K G a vs ∧ vs.length ≤ sizeLine ∧ Rps aw K G vs ds := by
  cases h with
  | tup h1 h2 h3 => exact ⟨_, _, rfl, h1, h2, h3⟩
theorem Rq.now (S : Same G H) (h : Rq aw K G H v d) : Rp aw K H v d := by
  rcases h with h | ⟨p, vs, ds, rfl, rfl, h1, h2, h3⟩
  · exact h.mono S
  · exact .lst h1 h3 (h2.mono S)
theorem Rq.lst_inv (S : Same G H) (h : Rq aw K G H v (.list ds)) : ∃ a vs, v = .ref a ∧ H a = some (.lst vs) ∧ vs.length ≤ sizeLine ∧ Rps aw K G vs ds := by
  rcases h with h | ⟨p, vs, ds', rfl, e, h1, h2, h3⟩
  · obtain ⟨a, vs, e, h1, h2, h3⟩ := h.lst_inv
    exact ⟨a, vs, e, S _ _ h1, h2, h3⟩
  · cases e
    exact ⟨p, vs, rfl, h1, h3, h2⟩
theorem Rq.tup_inv (S : Same G H) (h : Rq aw K G H v (.tuple ds)) : ∃ a vs, v = .ref a ∧ SqT K H a vs ∧ vs.length ≤ sizeLine ∧ Rps aw K G vs ds := by
  rcases h with h | ⟨p, vs, ds', rfl, e, h1, h2, h3⟩
  · obtain ⟨a, vs, e, h1, h2, h3⟩ := h.tup_inv
    exact ⟨a, vs, e, Same.sqt S h1, h2, h3⟩
  · cases e
theorem Rq.int_inv (S : Same G H) (h : Rq aw K G H v (.int i)) : v = .int i := (h.now S).int_inv
theorem OutR.to {d : PyData} (h : OutR aw K G H Q (.val d)) (r : Rp aw K G v d) : Q v H := h.1 v r
end

/-! ### readings -/
def rBin (aw : Addr) (K : PySem.W.Frag) (o : BO) : R2 := fun x y H Q => ∃ G d e r, Same G H ∧ Rp aw K G x d ∧ Rq aw K G H y e ∧ binD o d e = some r ∧ OutR aw K G H Q r
theorem lt2000 {i : Int} (h : i.natAbs < 2 ^ 2000) : i.natAbs.log2 < 2000 := by
  by_cases h0 : i.natAbs = 0
  · rw [h0]
    exact (by decide +kernel : Nat.log2 0 < 2000)
  · exact (Nat.log2_lt h0).mpr h
theorem op_bin {X : Cx} {aw : Addr} (o : BO) : OpR X (binaryOp o.op) (rBin aw X.K o) := by
  intro pins s σ H x y v u Q I rx ry h
  obtain ⟨G, d, e, r, S, hx, hy, hb, q⟩ := h
  unfold binD at hb
  split at hb
  · cases hb
    cases hx.int_inv
    cases hy.int_inv S
    exact op_add pins s σ H _ _ v u Q I rx ry ⟨_, _, rfl, rfl, q.to (.int _)⟩
  · split at hb
    · cases hb
      rename_i hl
      obtain ⟨a, vs, rfl, h1, h2, h3⟩ := hx.lst_inv
      obtain ⟨a', vs', rfl, h1', h2', h3'⟩ := hy.lst_inv S
      have e1 := h3.length
      have e2 := h3'.length
      exact op_cat pins s σ H _ _ v u Q I rx ry ⟨a, a', vs, vs', rfl, rfl, S _ _ h1, h1', by omega, fun p hp => q p _ hp (h3.append h3') (by rw [List.length_append]; omega)⟩
    · cases hb
  · split at hb
    · cases hb
      rename_i hl
      obtain ⟨a, vs, rfl, h1, h2, h3⟩ := hx.tup_inv
      rcases hy with hy | ⟨_, _, _, _, z, _⟩
      · obtain ⟨a', vs', rfl, h1', h2', h3'⟩ := hy.tup_inv
        have e1 := h3.length
        have e2 := h3'.length
        refine op_catA pins s σ H _ _ v u Q I rx ry ⟨a, a', vs, vs', rfl, rfl, Same.sqt S h1, Same.sqt S h1', by omega, fun ev => ?_, fun _ ev => ?_, fun _ _ p hp => ?_⟩
        · subst ev
          cases h3
          exact q.1 _ (.tup h1' h2' h3')
        · subst ev
          cases h3'
          exact q.1 _ (by rw [List.append_nil]; exact .tup h1 h2 h3)
        · exact q.2 _ rfl p _ hp (h3.append h3') (by rw [List.length_append]; omega)
      · cases z
    · cases hb
  · cases hb
    cases hx.int_inv
    cases hy.int_inv S
    exact op_sub pins s σ H _ _ v u Q I rx ry ⟨_, _, rfl, rfl, q.to (.int _)⟩
  · split at hb
    · cases hb
      rename_i hl
      unfold wideB at hl
      simp only [Bool.and_eq_true, decide_eq_true_eq] at hl
      cases hx.int_inv
      cases hy.int_inv S
      have l1 := lt2000 hl.1
      have l2 := lt2000 hl.2
      exact op_mulW pins s σ H _ _ v u Q I rx ry ⟨_, _, rfl, rfl, by unfold CMulW; omega, q.to (.int _)⟩
    · cases hb
  · split at hb
    · cases hb
      rename_i hl
      cases hx.int_inv
      cases hy.int_inv S
      have l2 := lt2000 hl.2
      obtain ⟨t, rfl⟩ := rx
      obtain ⟨t', rfl⟩ := ry
      exact floordiv_int hl.1 ⟨.int _, H, I.tok _, ⟨_, rfl⟩, q.to (.int _)⟩ (.inl (PyProof.noPylong_of_log2 (by omega)))
    · cases hb
  · split at hb
    · cases hb
      rename_i hl
      cases hx.int_inv
      cases hy.int_inv S
      exact op_modN pins s σ H _ _ v u Q I rx ry ⟨_, _, rfl, rfl, hl, q.to (.int _)⟩
    · cases hb
  · split at hb
    · cases hb
      rename_i hl
      unfold powB at hl
      simp only [Bool.and_eq_true, decide_eq_true_eq] at hl
      cases hx.int_inv
      cases hy.int_inv S
      exact op_pow pins s σ H _ _ v u Q I rx ry ⟨_, _, rfl, rfl, ⟨hl.1.1, hl.1.2, hl.2⟩, q.to (.int _)⟩
    · cases hb
  · split at hb
    · cases hb
      rename_i hl
      unfold powB at hl
      simp only [Bool.and_eq_true, decide_eq_true_eq] at hl
      cases hx.int_inv
      cases hy.int_inv S
      exact op_shl pins s σ H _ _ v u Q I rx ry ⟨_, _, rfl, rfl, ⟨hl.1.1, hl.1.2, hl.2⟩, q.to (.int _)⟩
    · cases hb
  · split at hb
    · cases hb
      rename_i hl
      cases hx.int_inv
      cases hy.int_inv S
      exact op_shr pins s σ H _ _ v u Q I rx ry ⟨_, _, rfl, rfl, hl, q.to (.int _)⟩
    · cases hb
  · cases hb
    cases hx.int_inv
    cases hy.int_inv S
    exact op_and pins s σ H _ _ v u Q I rx ry ⟨_, _, rfl, rfl, q.to (.int _)⟩
  · cases hb
    cases hx.int_inv
    cases hy.int_inv S
    exact op_or pins s σ H _ _ v u Q I rx ry ⟨_, _, rfl, rfl, q.to (.int _)⟩
  · cases hb
    cases hx.int_inv
    cases hy.int_inv S
    exact op_xor pins s σ H _ _ v u Q I rx ry ⟨_, _, rfl, rfl, q.to (.int _)⟩
  · cases hb
/-- comparisons -/
def rCmp (aw : Addr) (K : PySem.W.Frag) (o : CO) : R2 := fun x y H Q => ∃ G d e b, Same G H ∧ Rp aw K G x d ∧ Rq aw K G H y e ∧ cmpD o d e = some b ∧ Q (.bl b) H
theorem reads_of {X : Cx} {pins : List (Addr × Obj)} {σ : L2.St} {H : Hp} {s : Shared} {aw : Addr} {x : V} {v : Value} {d : PyData} (I : Inv X pins σ H s) (rx : RelV x v) (h : Rp aw X.K H x d) (p : d.plain = true) : ∃ as, Reads s.heap v d as :=
  Dp.reads I d x v (h.dp p) rx

section
variable {X : Cx} {pins : List (Addr × Obj)} {σ : L2.St} {H G : Hp} {s : Shared} {aw : Addr} {x y : V} {v u : Value} {d e : PyData} {b : Bool} {Q : VK}
theorem flat_inv (h : flatD d = true) : d.plain = true ∧ d.depth ≤ 64 := by
  unfold flatD at h
  simp only [Bool.and_eq_true, decide_eq_true_eq] at h
  exact h
theorem ord_inv (h : ordB d e = true) : PySem.W.alike d e = true ∧ d ≠ .none ∧ d.plain = true ∧ e.plain = true ∧ d.depth ≤ 64 := by
  unfold ordB at h
  simp only [Bool.and_eq_true, decide_eq_true_eq] at h
  refine ⟨h.1.1.1, fun z => ?_, h.1.1.2.1, h.1.1.2.2, h.1.2⟩
  rw [z] at h
  cases h.2
theorem eqD_run (hu : X.A.units + 70 < cLine) (I : Inv X pins σ H s) (rx : RelV x v) (ry : RelV y u) (hx : Rp aw X.K H x d) (hy : Rp aw X.K H y e) (h : eqD d e = some b) (q : Q (.bl b) H) :
    wpAny (model X.prog X.w) X.A (compareOp .Eq v u) (EP X pins σ Q) X.xe s ∧ ∀ Q' : VK, Q' (.bl (!b)) H → wpAny (model X.prog X.w) X.A (compareOp .NotEq v u) (EP X pins σ Q') X.xe s := by
  have gen : flatD d = true ∧ flatD e = true → PyData.eqv d e = b → wpAny (model X.prog X.w) X.A (compareOp .Eq v u) (EP X pins σ Q) X.xe s ∧ ∀ Q' : VK, Q' (.bl (!b)) H → wpAny (model X.prog X.w) X.A (compareOp .NotEq v u) (EP X pins σ Q') X.xe s := fun hf eb => by
    obtain ⟨p1, d1⟩ := flat_inv hf.1
    obtain ⟨p2, d2⟩ := flat_inv hf.2
    obtain ⟨as, ra⟩ := reads_of I rx hx p1
    obtain ⟨bs, rb⟩ := reads_of I ry hy p2
    refine ⟨SeqAt.eq_plain ra rb p1 p2 (by omega) ⟨.bl _, H, I, rfl, by rw [eb]; exact q⟩, fun Q' q' => SeqAt.ne_plain ra rb p1 p2 (by omega) ⟨.bl _, H, I, rfl, by rw [eb]; exact q'⟩⟩
  unfold eqD at h
  split at h
  · cases h
    cases hx.int_inv
    cases hy.int_inv
    refine ⟨op_eq pins s σ H _ _ v u Q I rx ry ⟨rfl, ?_⟩, fun Q' q' => op_ne pins s σ H _ _ v u Q' I rx ry ⟨rfl, ?_⟩⟩
    · rw [dec_int]; exact q
    · rw [dec_int]; exact q'
  · cases h
    cases hx.bl_inv
    cases hy.bl_inv
    refine ⟨op_eq pins s σ H _ _ v u Q I rx ry ⟨rfl, ?_⟩, fun Q' q' => op_ne pins s σ H _ _ v u Q' I rx ry ⟨rfl, ?_⟩⟩
    · rw [dec_bl]; exact q
    · rw [dec_bl]; exact q'
  · cases h
    cases hx.str_inv
    cases hy.str_inv
    refine ⟨op_eq pins s σ H _ _ v u Q I rx ry ⟨rfl, ?_⟩, fun Q' q' => op_ne pins s σ H _ _ v u Q' I rx ry ⟨rfl, ?_⟩⟩
    · rw [dec_str]; exact q
    · rw [dec_str]; exact q'
  · split at h
    · rename_i hf
      exact gen hf (Option.some.inj h)
    · cases h
theorem inD_run (hu : X.A.units + 70 < cLine) (I : Inv X pins σ H s) (rx : RelV x v) (ry : RelV y u) (hx : Rp aw X.K H x d) (hy : Rp aw X.K H y e) (h : inD d e = some b) :
    (Q (.bl b) H → wpAny (model X.prog X.w) X.A (compareOp .In v u) (EP X pins σ Q) X.xe s) ∧ (Q (.bl (!b)) H → wpAny (model X.prog X.w) X.A (compareOp .NotIn v u) (EP X pins σ Q) X.xe s) := by
  unfold inD at h
  split at h
  · split at h
    · rename_i es hf
      cases h
      obtain ⟨p1, d1⟩ := flat_inv hf.1
      obtain ⟨p2, d2⟩ := flat_inv hf.2
      obtain ⟨as, ra⟩ := reads_of I rx hx p1
      obtain ⟨bs, rb⟩ := reads_of I ry hy p2
      have p3 : PyData.plainAll es = true := by simpa [PyData.plain] using p2
      exact ⟨fun q => SeqAt.in_list_data rb ra p3 p1 (by omega) ⟨.bl _, H, I, rfl, q⟩, fun q => SeqAt.notIn_list_data rb ra p3 p1 (by omega) ⟨.bl _, H, I, rfl, q⟩⟩
    · cases h
  · split at h
    · rename_i es hf
      cases h
      obtain ⟨p1, d1⟩ := flat_inv hf.1
      obtain ⟨p2, d2⟩ := flat_inv hf.2
      obtain ⟨as, ra⟩ := reads_of I rx hx p1
      obtain ⟨bs, rb⟩ := reads_of I ry hy p2
      have p3 : PyData.plainAll es = true := by simpa [PyData.plain] using p2
      exact ⟨fun q => SeqAt.in_tuple_data rb ra p3 p1 (by omega) ⟨.bl _, H, I, rfl, q⟩, fun q => SeqAt.notIn_tuple_data rb ra p3 p1 (by omega) ⟨.bl _, H, I, rfl, q⟩⟩
    · cases h
  · cases h
theorem isNone_dec (hx : Rp aw X.K H x d) : decide (x = .non) = isNone d := by
  cases hx <;> rfl
end
theorem op_cmp {X : Cx} {aw : Addr} (o : CO) (hu : X.A.units + 70 < cLine) : OpR X (compareOp o.op) (rCmp aw X.K o) := by
  intro pins s σ H x y v u Q I rx ry h
  obtain ⟨G, d, e, b, S, hx0, hy0, hb, q⟩ := h
  have hx := hx0.mono S
  have hy := hy0.now S
  have ord : ∀ {c : Bool}, ordB d e = true → PySem.W.alike d e = true ∧ d ≠ .none ∧ d.depth ≤ 64 ∧ (∃ as, Reads s.heap v d as) ∧ ∃ bs, Reads s.heap u e bs := fun {_} h => by
    obtain ⟨h1, h2, h3, h4, h5⟩ := ord_inv h
    exact ⟨h1, h2, h5, reads_of I rx hx h3, reads_of I ry hy h4⟩
  unfold cmpD at hb
  split at hb
  · exact (eqD_run hu I rx ry hx hy hb q).1
  · cases he : eqD _ _ with
    | none => rw [he] at hb; cases hb
    | some c =>
      rw [he] at hb
      cases hb
      exact (eqD_run (Q := fun _ _ => True) hu I rx ry hx hy he trivial).2 Q q
  · unfold ltD at hb
    split at hb
    · cases hb
      cases hx.int_inv
      cases hy.int_inv
      exact op_lt pins s σ H _ _ v u Q I rx ry ⟨_, _, rfl, rfl, q⟩
    · split at hb
      · rename_i ho
        cases hb
        obtain ⟨h1, h2, h3, ⟨as, ra⟩, bs, rb⟩ := ord (c := true) ho
        exact PySem.W.lt_data ra rb h1 h2 (by omega) ⟨.bl _, H, I, rfl, q⟩
      · cases hb
  · split at hb
    · cases hb
      cases hx.int_inv
      cases hy.int_inv
      exact op_gt pins s σ H _ _ v u Q I rx ry ⟨_, _, rfl, rfl, q⟩
    · split at hb
      · rename_i ho
        cases hb
        obtain ⟨h1, h2, h3, ⟨as, ra⟩, bs, rb⟩ := ord (c := true) ho
        exact PySem.W.gt_data ra rb h1 h2 (by omega) ⟨.bl _, H, I, rfl, q⟩
      · cases hb
  · split at hb
    · cases hb
      cases hx.int_inv
      cases hy.int_inv
      exact op_le pins s σ H _ _ v u Q I rx ry ⟨_, _, rfl, rfl, q⟩
    · split at hb
      · rename_i ho
        cases hb
        obtain ⟨h1, h2, h3, ⟨as, ra⟩, bs, rb⟩ := ord (c := true) ho
        exact PySem.W.le_data ra rb h1 h2 (by omega) ⟨.bl _, H, I, rfl, q⟩
      · cases hb
  · split at hb
    · cases hb
      cases hx.int_inv
      cases hy.int_inv
      exact op_ge pins s σ H _ _ v u Q I rx ry ⟨_, _, rfl, rfl, q⟩
    · split at hb
      · rename_i ho
        cases hb
        obtain ⟨h1, h2, h3, ⟨as, ra⟩, bs, rb⟩ := ord (c := true) ho
        exact PySem.W.ge_data ra rb h1 h2 (by omega) ⟨.bl _, H, I, rfl, q⟩
      · cases hb
  · cases hb
    cases hy.non_inv
    exact op_isN pins s σ H _ _ v u Q I rx ry ⟨rfl, by rw [isNone_dec hx]; exact q⟩
  · cases hb
    cases hy.non_inv
    exact op_notN pins s σ H _ _ v u Q I rx ry ⟨rfl, by rw [isNone_dec hx]; exact q⟩
  · exact (inD_run hu I rx ry hx hy hb).1 q
  · cases he : inD _ _ with
    | none => rw [he] at hb; cases hb
    | some c =>
      rw [he] at hb
      cases hb
      exact (inD_run hu I rx ry hx hy he).2 q
  · cases hb
/-- truth -/
theorem tru_run {X : Cx} {aw : Addr} {H : Hp} {x : V} {d : PyData} {b : Bool} (hx : Rp aw X.K H x d) (h : truD d = some b) : TruV X.K x H b := by
  cases hx with
  | non => cases h; rfl
  | bl c => cases h; rfl
  | int i => cases h; rfl
  | str y =>
    have h' : (if y.length ≤ sizeLine then some ((y.length : Int) != 0) else none) = some b := h
    split at h'
    · cases h'
      exact ⟨by assumption, rfl⟩
    · cases h'
  | lst h1 h2 h3 =>
    cases h
    refine .inl ⟨_, SqL.of h1, ?_⟩
    cases h3 <;> rfl
  | tup h1 h2 h3 =>
    cases h
    refine .inr (.inl ⟨_, h1, ?_⟩)
    cases h3 <;> rfl
  | wel => cases h
end Rx
set_option Elab.async false
set_option linter.all false
set_option maxRecDepth 100000
set_option maxHeartbeats 1000000
/-! Rx: subscripts, slices, isinstance, built-in functions on data. -/
namespace Rx
open PySem PySem.Spec PyProof.Rows L2

/-! ### subscripts -/
def ixD : PyData → PyData → Option PyData
  | .list xs, .int i => atI xs i
  | .tuple xs, .int i => atI xs i
  | _, _ => none
section
variable {aw : Addr} {K : PySem.W.Frag} {G H : Hp} {x y v : V} {d e : PyData} {vs : List V} {ds : List PyData}
theorem Rps.atI {i : Int} {d : PyData} (r : Rps aw K G vs ds) (h : L2.atI ds i = some d) : ∃ v, L2.atI vs i = some v ∧ Rp aw K G v d := by
  unfold L2.atI at h ⊢
  rw [r.length]
  cases q : ixN ds.length i with
  | none => rw [q] at h; cases h
  | some j =>
    rw [q] at h
    exact r.get h
end
def rIxD (aw : Addr) (K : PySem.W.Frag) : R2 := fun x y H Q => ∃ G d e r, Same G H ∧ Rq aw K G H x d ∧ Rp aw K G y e ∧ ixD d e = some r ∧ ∀ v, Rp aw K G v r → Q v H
theorem ix_D {X : Cx} {aw : Addr} : IxR X (rIxD aw X.K) := by
  intro value slice pins s σ H x y v u Q I rx ry h hs
  obtain ⟨G, d, e, r, S, hx, hy, hb, q⟩ := h
  unfold ixD at hb
  split at hb
  · cases hy.int_inv
    obtain ⟨a, vs, rfl, h1, h2, h3⟩ := hx.lst_inv S
    obtain ⟨w, e1, e2⟩ := h3.atI hb
    exact ix_list value slice pins s σ H _ _ v u Q I rx ry ⟨a, vs, _, w, rfl, rfl, SqL.of h1, e1, q w e2⟩ hs
  · cases hy.int_inv
    obtain ⟨a, vs, rfl, h1, h2, h3⟩ := hx.tup_inv S
    obtain ⟨w, e1, e2⟩ := h3.atI hb
    exact ix_tup value slice pins s σ H _ _ v u Q I rx ry ⟨a, vs, _, w, rfl, rfl, h1, e1, q w e2⟩ hs
  · cases hb
/-! ### slices -/
def cutD (xs : List PyData) (lo hi : Option Int) : List PyData := (xs.drop (HT.sIx xs.length 0 lo)).take (HT.sIx xs.length xs.length hi - HT.sIx xs.length 0 lo)
def slD : PyData → Option Int → Option Int → Option Got
  | .list xs, lo, hi => some (.fresh (cutD xs lo hi))
  | .tuple xs, lo, hi => some (.val (.tuple (cutD xs lo hi)))
  | _, _, _ => none
theorem Rps.cut {aw : Addr} {K : PySem.W.Frag} {G : Hp} {vs : List V} {ds : List PyData} {lo hi : Option Int} (r : Rps aw K G vs ds) : Rps aw K G (cutV vs lo hi) (cutD ds lo hi) := by
  unfold cutV cutD
  rw [r.length]
  exact (r.drop _).take _
theorem HTle (n : Nat) (o : Option Int) : HT.sIx n n o ≤ n := HT.sIx_le n n (Nat.le_refl _) o
theorem cutV_whole {xs : List V} {lo hi : Option Int} (h : HT.sIx xs.length 0 lo = 0 ∧ HT.sIx xs.length xs.length hi = xs.length) : cutV xs lo hi = xs := by
  unfold cutV
  rw [h.1, h.2, Nat.sub_zero]
  show List.take xs.length xs = xs
  exact List.take_length
def rSlD (aw : Addr) (K : PySem.W.Frag) : V → Option Int → Option Int → Hp → VK → Prop := fun x lo hi H Q => ∃ G d r, Same G H ∧ Rq aw K G H x d ∧ slD d lo hi = some r ∧ OutR aw K G H Q r
theorem sl_D {X : Cx} {aw : Addr} : SlR X (rSlD aw X.K) := by
  intro pins s σ H x v vl vu lo hi sl Q I rx hs pl pu h
  obtain ⟨G, d, r, S, hx, hb, q⟩ := h
  unfold slD at hb
  split at hb
  · cases hb
    obtain ⟨a, vs, rfl, h1, h2, h3⟩ := hx.lst_inv S
    exact sl_list pins s σ H _ v vl vu _ _ sl Q I rx hs pl pu ⟨a, vs, rfl, SqL.of h1, fun p hp => q p _ hp h3.cut (Nat.le_trans (cutV_length _ _ _) h2)⟩
  · cases hb
    rcases hx with hx | ⟨_, _, _, _, z, _⟩
    · obtain ⟨a, vs, rfl, h1, h2, h3⟩ := hx.tup_inv
      refine sl_tupA pins s σ H _ v vl vu _ _ sl Q I rx hs pl pu ⟨a, vs, rfl, Same.sqt S h1, fun hw => ?_, fun _ p hp => ?_⟩
      · refine q.1 _ (.tup h1 h2 ?_)
        have c := h3.cut (lo := lo) (hi := hi)
        rw [cutV_whole hw] at c
        exact c
      · exact q.2 _ rfl p _ hp h3.cut (Nat.le_trans (cutV_length _ _ _) h2)
    · cases z
  · cases hb
/-! ### isinstance -/
inductive Ty where
  | int | bool | str | tup | lst
  deriving DecidableEq
def Ty.nm : Ty → String
  | .int => "int" | .bool => "bool" | .str => "str" | .tup => "tuple" | .lst => "list"
def isiD : Ty → PyData → Option Bool
  | _, .dict _ => none
  | .int, .int _ => some true
  | .int, .bool _ => some true
  | .bool, .bool _ => some true
  | .str, .str _ => some true
  | .tup, .tuple _ => some true
  | .lst, .list _ => some true
  | _, _ => some false
theorem tyx_of {aw : Addr} {K : PySem.W.Frag} {H : Hp} {a : Addr} {xs : List V} (h : SqT K H a xs) : TyX K H (.ref a) (.type "tuple") := by
  rcases h with (h | ⟨o, h⟩) | ⟨o, its, n, h, hc, _⟩
  · exact .base (.tup h)
  · exact .fTuple h
  · exact .kTuple h hc
theorem isi_run {X : Cx} {aw : Addr} {pins : List (Addr × Obj)} {σ : L2.St} {H : Hp} {s : Shared} {x : V} {v : Value} {d : PyData} {t : Ty} {b : Bool} {Q : VK} (I : Inv X pins σ H s) (rx : RelV x v) (hx : Rp aw X.K H x d) (h : isiD t d = some b) (q : Q (.bl b) H) :
    wpAny (model X.prog X.w) X.A (call (.builtin "isinstance") [v, .type t.nm]) (EP X pins σ Q) X.xe s := by
  have go : ∀ {n : String}, TyX X.K H x (.type n) → kitB n t.nm = some b → wpAny (model X.prog X.w) X.A (call (.builtin "isinstance") [v, .type t.nm]) (EP X pins σ Q) X.xe s := fun {n} ty hk =>
    call_isi pins s σ H [x, .ty t.nm] [v, .type t.nm] Q I (.cons rx (.cons rfl .nil)) ⟨x, .ty t.nm, .type n, .type t.nm, b, rfl, .ty _, ty, kit_ty hk, q⟩
  cases hx with
  | non => cases t <;> cases h <;> exact go (.base .non) (by decide +kernel)
  | bl c => cases t <;> cases h <;> exact go (.base (.bl c)) (by decide +kernel)
  | int i => cases t <;> cases h <;> exact go (.base (.int i)) (by decide +kernel)
  | str y => cases t <;> cases h <;> exact go (.base (.str y)) (by decide +kernel)
  | lst h1 h2 h3 => cases t <;> cases h <;> exact go (.base (.lst h1)) (by decide +kernel)
  | tup h1 h2 h3 => cases t <;> cases h <;> exact go (tyx_of (aw := aw) h1) (by decide +kernel)
  | wel => cases t <;> cases h
/-! ### built-in functions -/
inductive BI where
  | len | all | any | abs | int | tuple | list | sorted | gcd | max2 | min2 | sum
  deriving DecidableEq
def BI.nm : BI → Str
  | .len => "len" | .all => "all" | .any => "any" | .abs => "abs" | .int => "int" | .tuple => "tuple" | .list => "list" | .sorted => "sorted" | .gcd => "gcd" | .max2 => "max" | .min2 => "min" | .sum => "sum"
def BI.val : BI → Value
  | .len => .builtin "len" | .all => .builtin "all" | .any => .builtin "any" | .abs => .builtin "abs" | .int => .type "int" | .tuple => .type "tuple" | .list => .type "list" | .sorted => .builtin "sorted" | .gcd => .builtin "math.gcd" | .max2 => .builtin "max" | .min2 => .builtin "min" | .sum => .builtin "sum"
def boolsOf : List PyData → Option (List Bool)
  | [] => some []
  | .bool b :: r => (boolsOf r).map (b :: ·)
  | _ :: _ => none
theorem boolsOf_inv : ∀ {ds : List PyData} {bs : List Bool}, boolsOf ds = some bs → ds = bs.map .bool
  | [], _, h => by cases h; rfl
  | d :: r, bs, h => by
    cases d with
    | bool b =>
      have h' : (boolsOf r).map (b :: ·) = some bs := h
      cases q : boolsOf r with
      | none => rw [q] at h'; cases h'
      | some cs =>
        rw [q] at h'
        cases h'
        rw [boolsOf_inv q]
        rfl
    | none => cases h
    | int _ => cases h
    | str _ => cases h
    | list _ => cases h
    | tuple _ => cases h
    | dict _ => cases h
theorem boolsOf_map (bs : List Bool) : boolsOf (bs.map .bool) = some bs := by
  induction bs with
  | nil => rfl
  | cons b r ih => show (boolsOf (r.map .bool)).map (b :: ·) = _; rw [ih]; rfl
def intsOf : List PyData → Option (List Int)
  | [] => some []
  | .int b :: r => (intsOf r).map (b :: ·)
  | _ :: _ => none
theorem intsOf_inv : ∀ {ds : List PyData} {bs : List Int}, intsOf ds = some bs → ds = bs.map .int
  | [], _, h => by cases h; rfl
  | d :: r, bs, h => by
    cases d with
    | int b =>
      have h' : (intsOf r).map (b :: ·) = some bs := h
      cases q : intsOf r with
      | none => rw [q] at h'; cases h'
      | some cs =>
        rw [q] at h'
        cases h'
        rw [intsOf_inv q]
        rfl
    | none => cases h
    | bool _ => cases h
    | str _ => cases h
    | list _ => cases h
    | tuple _ => cases h
    | dict _ => cases h
theorem intsOf_map (bs : List Int) : intsOf (bs.map .int) = some bs := by
  induction bs with
  | nil => rfl
  | cons b r ih => show (intsOf (r.map .int)).map (b :: ·) = _; rw [ih]; rfl
def neTup : PyData → Bool
  | .tuple (_ :: _) => true
  | _ => false
def noTup : PyData → Bool
  | .tuple _ => false
  | .none => false
  | _ => true
def sortB (ds : List PyData) : Bool := (ds.all fun d => ds.all fun e => PySem.W.alike d e) && (ds.all neTup || ds.all noTup) && ds.all flatD
def sortD (ds : List PyData) : List PyData := ds.mergeSort (PySem.W.dataLe false id)
def biD : BI → List PyData → Option Got
  | .len, [.list xs] => some (.val (.int xs.length))
  | .len, [.tuple xs] => some (.val (.int xs.length))
  | .len, [.str y] => if y.length ≤ sizeLine then some (.val (.int y.length)) else none
  | .all, [.list xs] => (boolsOf xs).map fun bs => .val (.bool (bs.all id))
  | .any, [.list xs] => (boolsOf xs).map fun bs => .val (.bool (bs.any id))
  | .sum, [.list xs] => (intsOf xs).map fun bs => .val (.int bs.sum)
  | .abs, [.int i] => some (.val (.int (if i < 0 then -i else i)))
  | .int, [.int i] => some (.val (.int i))
  | .tuple, [.list xs] => some (.val (.tuple xs))
  | .tuple, [.tuple xs] => some (.val (.tuple xs))
  | .list, [.list xs] => some (.fresh xs)
  | .list, [.tuple xs] => some (.fresh xs)
  | .sorted, [.list xs] => if sortB xs = true then some (.fresh (sortD xs)) else none
  | .sorted, [.tuple xs] => if sortB xs = true then some (.fresh (sortD xs)) else none
  | .gcd, [.int a, .int b] => some (.val (.int (Nat.gcd a.natAbs b.natAbs : Nat)))
  | .max2, [.int a, .int b] => some (.val (.int (if b > a then b else a)))
  | .min2, [.int a, .int b] => some (.val (.int (if b < a then b else a)))
  | _, _ => none
inductive Rqs (aw : Addr) (K : PySem.W.Frag) (G H : Hp) : List V → List PyData → Prop
  | nil : Rqs aw K G H [] []
  | cons {v : V} {vs : List V} {d : PyData} {ds : List PyData} : Rq aw K G H v d → Rqs aw K G H vs ds → Rqs aw K G H (v :: vs) (d :: ds)
def rBi (aw : Addr) (K : PySem.W.Frag) (f : BI) : List V → Hp → VK → Prop := fun vs H Q => ∃ G ds r, Same G H ∧ Rqs aw K G H vs ds ∧ biD f ds = some r ∧ OutR aw K G H Q r
theorem Rqs.one {aw : Addr} {K : PySem.W.Frag} {G H : Hp} {vs : List V} {d : PyData} (h : Rqs aw K G H vs [d]) : ∃ v, vs = [v] ∧ Rq aw K G H v d := by
  cases h with
  | cons h t => cases t; exact ⟨_, rfl, h⟩
theorem Rqs.two {aw : Addr} {K : PySem.W.Frag} {G H : Hp} {vs : List V} {d e : PyData} (h : Rqs aw K G H vs [d, e]) : ∃ v w, vs = [v, w] ∧ Rq aw K G H v d ∧ Rq aw K G H w e := by
  cases h with
  | cons h t =>
    cases t with
    | cons h2 t => cases t; exact ⟨_, _, rfl, h, h2⟩
/-! sorted -/
theorem each_zip {aw : Addr} {K : PySem.W.Frag} {G : Hp} : ∀ {vs : List V} {us : List Value} {ds : List PyData}, Vals vs us → Rps aw K G vs ds → PySem.W.EachIs (fun (u : Value) (p : V × PyData) => RelV p.1 u) us (vs.zip ds) ∧ (vs.zip ds).map Prod.snd = ds ∧ ∀ p ∈ vs.zip ds, Rp aw K G p.1 p.2
  | _, _, _, .nil, h => by
    cases h
    exact ⟨.nil, rfl, fun p hp => by cases hp⟩
  | _, _, _, .cons r t, h => by
    cases h with
    | cons q qs =>
      obtain ⟨h1, h2, h3⟩ := each_zip t qs
      refine ⟨.cons r h1, by rw [List.zip_cons_cons, List.map_cons, h2], fun p hp => ?_⟩
      rcases List.mem_cons.mp hp with e | hp
      · rw [e]; exact q
      · exact h3 p hp
theorem vals_each : ∀ {us : List Value} {bs : List (V × PyData)}, PySem.W.EachIs (fun (u : Value) (p : V × PyData) => RelV p.1 u) us bs → Vals (bs.map Prod.fst) us
  | _, _, .nil => .nil
  | _, _, .cons r t => .cons r (vals_each t)
theorem rps_pairs {aw : Addr} {K : PySem.W.Frag} {G : Hp} : ∀ {bs : List (V × PyData)}, (∀ p ∈ bs, Rp aw K G p.1 p.2) → Rps aw K G (bs.map Prod.fst) (bs.map Prod.snd)
  | [], _ => .nil
  | p :: r, h => .cons (h p List.mem_cons_self) (rps_pairs fun q hq => h q (List.mem_cons_of_mem _ hq))
theorem neTup_inv {d : PyData} (h : neTup d = true) : ∃ x r, d = .tuple (x :: r) := by
  unfold neTup at h
  split at h
  · exact ⟨_, _, rfl⟩
  · cases h
theorem noTup_inv {d : PyData} (h : noTup d = true) : d ≠ .none ∧ ∀ xs, d ≠ .tuple xs := by
  refine ⟨fun e => ?_, fun xs e => ?_⟩ <;> (rw [e] at h; cases h)
theorem sortB_inv {ds : List PyData} (h : sortB ds = true) : PySem.W.AllAlike ds ∧ PySem.W.Sortable ds ∧ ∀ d ∈ ds, d.plain = true ∧ d.depth ≤ 64 := by
  unfold sortB at h
  simp only [Bool.and_eq_true, Bool.or_eq_true, List.all_eq_true] at h
  obtain ⟨⟨h1, h2⟩, h3⟩ := h
  refine ⟨fun d hd e he => h1 d hd e he, ?_, fun d hd => flat_inv (h3 d hd)⟩
  rcases h2 with h2 | h2
  · exact .inl fun d hd => neTup_inv (h2 d hd)
  · exact .inr fun d hd => noTup_inv (h2 d hd)
/-- sorted(x): what is collected of x is told by data that can be sorted -/
theorem sort_from {X : Cx} {aw : Addr} {pins : List (Addr × Obj)} {σ : L2.St} {H : Hp} {s : Shared} {Q : VK} {x : Value} (hu : X.A.units + 70 < cLine)
    (col : wpAny (model X.prog X.w) X.A.in1 (collect x) (fun its s1 => ∃ G vs ds, Inv X pins σ H s1 ∧ Same G H ∧ Vals vs its ∧ vs.length ≤ sizeLine ∧ Rps aw X.K G vs ds ∧ sortB ds = true ∧ ∀ p ws, H p = none → Rps aw X.K G ws (sortD ds) → ws.length ≤ sizeLine → Q (.ref p) (upd H p (.lst ws))) X.xe s) :
    wpAny (model X.prog X.w) X.A (call (.builtin "sorted") [x]) (EP X pins σ Q) X.xe s := by
  refine RxC.sorted_told (R := fun (u : Value) (p : V × PyData) => RelV p.1 u) (enc := Prod.snd) (wpAny_mono col (fun its s1 c => ?_) fun _ _ e => e)
  obtain ⟨G, vs, ds, I, S, rv, hz, r, hs, q⟩ := c
  obtain ⟨hal, hso, hfl⟩ := sortB_inv hs
  obtain ⟨e1, e2, e3⟩ := each_zip rv r
  have er : PySem.W.EachIs (fun (u : Value) (p : V × PyData) => ∃ as, Reads s1.heap u p.2 as) its (vs.zip ds) := by
    refine PySem.W.EachIs.of_zip e1.length fun p hp => ?_
    have h1 := e1.zip p hp
    have hm : p.2 ∈ vs.zip ds := (List.of_mem_zip hp).2
    exact reads_of I h1 ((e3 _ hm).mono S) (hfl _ (List.of_mem_zip hm).2).1
  have hlen : (vs.zip ds).length = vs.length := by rw [List.length_zip, ← r.length, Nat.min_self]
  refine ⟨vs.zip ds, e1, er, by rw [e2]; exact hal, by rw [e2]; exact hso, by rw [hlen]; exact hz, fun b hb => ?_, fun out h1 h2 => ?_⟩
  · have := (hfl b.2 (List.of_mem_zip hb).2).2
    omega
  · obtain ⟨n, he⟩ := RxC.srt_at s1.heap its out
    have hl2 : (((vs.zip ds).mergeSort (PySem.W.dataLe false Prod.snd)).map Prod.fst).length ≤ sizeLine := by rw [List.length_map, List.length_mergeSort, hlen]; exact hz
    have m : ((vs.zip ds).mergeSort (PySem.W.dataLe false Prod.snd)).map Prod.snd = sortD ds := by
      unfold sortD
      exact (List.map_mergeSort (f := Prod.snd) (r := PySem.W.dataLe false Prod.snd) (s := PySem.W.dataLe false id) (l := vs.zip ds) (fun _ _ _ _ => rfl)).trans (by rw [e2])
    have r2 : Rps aw X.K G (((vs.zip ds).mergeSort (PySem.W.dataLe false Prod.snd)).map Prod.fst) (sortD ds) := by
      rw [← m]
      exact rps_pairs fun p hp => e3 p (List.mem_mergeSort.mp hp)
    exact ⟨.ref _, upd H s1.heap.objs.size (.lst _), I.laid (t' := s1.toks) (fun _ _ => RxC.srt_old) (Nat.le_refl _) ⟨hl2, out, n, vals_each h2, he⟩, rfl, q _ _ (I.hok.fresh (Nat.le_refl _)) r2 hl2⟩
theorem sort_run {X : Cx} {aw : Addr} {pins : List (Addr × Obj)} {σ : L2.St} {G H : Hp} {s : Shared} {Q : VK} {a : Addr} {its : List Value} {vs : List V} {ds : List PyData} (hu : X.A.units + 70 < cLine) (I : Inv X pins σ H s) (S : Same G H)
    (rv : Vals vs its) (hl : PySem.Heap.IsList s.heap a its.toArray ∨ PyProof.Rows.IsTup s.heap a its.toArray) (hz : vs.length ≤ sizeLine) (r : Rps aw X.K G vs ds) (hs : sortB ds = true) (q : ∀ p ws, H p = none → Rps aw X.K G ws (sortD ds) → ws.length ≤ sizeLine → Q (.ref p) (upd H p (.lst ws))) :
    wpAny (model X.prog X.w) X.A (call (.builtin "sorted") [.ref a]) (EP X pins σ Q) X.xe s := by
  have go : ∀ {T : String} {o : Obj} {n : Nat}, (T = "list" ∨ T = "tuple") → s.heap.get? a = some o → o.cls = .type T → o.data = .seq its.toArray n → wpAny (model X.prog X.w) X.A (call (.builtin "sorted") [.ref a]) (EP X pins σ Q) X.xe s := fun hT ho hc hd =>
    sort_from hu (wpAny_collect_seq a hT ho hc hd (fun h' k => ⟨G, vs, ds, I.kept (t' := s.toks) k, S, by simpa using rv, hz, r, hs, q⟩) (by rw [List.size_toArray, ← rv.length]; exact hz))
  rcases hl with ⟨o, ho, hc, n, hd⟩ | ⟨o, ho, hc, n, hd⟩
  · exact go (.inl rfl) ho hc hd
  · exact go (.inr rfl) ho hc hd
theorem cr_bi {X : Cx} {aw : Addr} (f : BI) (hc : X.calm = true) (hu : X.A.units + 70 < cLine) : CallR X f.val (rBi aw X.K f) := by
  intro pins s σ H vs us Q I rs h
  obtain ⟨G, ds, r, S, h0, hb, q⟩ := h
  unfold biD at hb
  split at hb
  · cases hb
    obtain ⟨x, rfl, hx⟩ := h0.one
    obtain ⟨a, vs, rfl, h1, h2, h3⟩ := hx.lst_inv S
    exact call_len_seq pins s σ H _ us Q I rs ⟨a, vs, rfl, .inl (SqL.of h1), by rw [h3.length]; exact q.to (.int _)⟩
  · cases hb
    obtain ⟨x, rfl, hx⟩ := h0.one
    obtain ⟨a, vs, rfl, h1, h2, h3⟩ := hx.tup_inv S
    exact call_len_seq pins s σ H _ us Q I rs ⟨a, vs, rfl, .inr h1, by rw [h3.length]; exact q.to (.int _)⟩
  · split at hb
    · cases hb
      obtain ⟨x, rfl, hx⟩ := h0.one
      cases (hx.now S).str_inv
      exact call_len_str pins s σ H _ us Q I rs ⟨_, rfl, by assumption, q.to (.int _)⟩
    · cases hb
  · obtain ⟨x, rfl, hx⟩ := h0.one
    obtain ⟨a, vs, rfl, h1, h2, h3⟩ := hx.lst_inv S
    cases hq : boolsOf _ with
    | none => rw [hq] at hb; cases hb
    | some bs =>
      rw [hq] at hb
      cases hb
      rw [boolsOf_inv hq] at h3
      have e := h3.bls
      subst e
      exact cr_all hc pins s σ H _ us Q I rs ⟨a, bs, rfl, SqL.of h1, q.to (.bl _)⟩
  · obtain ⟨x, rfl, hx⟩ := h0.one
    obtain ⟨a, vs, rfl, h1, h2, h3⟩ := hx.lst_inv S
    cases hq : boolsOf _ with
    | none => rw [hq] at hb; cases hb
    | some bs =>
      rw [hq] at hb
      cases hb
      rw [boolsOf_inv hq] at h3
      have e := h3.bls
      subst e
      exact cr_any hc pins s σ H _ us Q I rs ⟨a, bs, rfl, SqL.of h1, q.to (.bl _)⟩
  · obtain ⟨x, rfl, hx⟩ := h0.one
    obtain ⟨a, vs, rfl, h1, h2, h3⟩ := hx.lst_inv S
    cases hq : intsOf _ with
    | none => rw [hq] at hb; cases hb
    | some bs =>
      rw [hq] at hb
      cases hb
      rw [intsOf_inv hq] at h3
      have e := h3.ints
      subst e
      exact cr_sum hc pins s σ H _ us Q I rs ⟨a, bs, rfl, SqL.of h1, q.to (.int _)⟩
  · cases hb
    obtain ⟨x, rfl, hx⟩ := h0.one
    cases hx.int_inv S
    exact call_abs pins s σ H _ us Q I rs ⟨_, rfl, q.to (.int _)⟩
  · cases hb
    obtain ⟨x, rfl, hx⟩ := h0.one
    cases hx.int_inv S
    exact call_int1 pins s σ H _ us Q I rs (.inl ⟨_, rfl, q.to (.int _)⟩)
  · cases hb
    obtain ⟨x, rfl, hx⟩ := h0.one
    obtain ⟨a, vs, rfl, h1, h2, h3⟩ := hx.lst_inv S
    exact call_tuple_of pins s σ H _ us Q I rs ⟨a, vs, rfl, .inl ⟨SqL.of h1, fun l hl => q.2 _ rfl l _ hl h3 h2⟩⟩
  · cases hb
    obtain ⟨x, rfl, hx⟩ := h0.one
    rcases hx with hx | ⟨_, _, _, _, z, _⟩
    · obtain ⟨a, vs, rfl, h1, h2, h3⟩ := hx.tup_inv
      exact call_tuple_of pins s σ H _ us Q I rs ⟨a, vs, rfl, .inr ⟨Same.sqt S h1, q.1 _ (.tup h1 h2 h3)⟩⟩
    · cases z
  · cases hb
    obtain ⟨x, rfl, hx⟩ := h0.one
    obtain ⟨a, vs, rfl, h1, h2, h3⟩ := hx.lst_inv S
    exact call_list_of pins s σ H _ us Q I rs ⟨a, vs, rfl, .inl (SqL.of h1), fun l hl => q l _ hl h3 h2⟩
  · cases hb
    obtain ⟨x, rfl, hx⟩ := h0.one
    obtain ⟨a, vs, rfl, h1, h2, h3⟩ := hx.tup_inv S
    exact call_list_of pins s σ H _ us Q I rs ⟨a, vs, rfl, .inr h1, fun l hl => q l _ hl h3 h2⟩
  · split at hb
    · cases hb
      obtain ⟨x, rfl, hx⟩ := h0.one
      obtain ⟨a, vs, rfl, h1, h2, h3⟩ := hx.lst_inv S
      obtain ⟨its, rv, pl, _⟩ := I.list (SqL.of h1)
      rw [Vals.ref1 rs]
      exact sort_run hu I S rv (.inl pl.isList) h2 h3 (by assumption) q
    · cases hb
  · split at hb
    · cases hb
      obtain ⟨x, rfl, hx⟩ := h0.one
      obtain ⟨a, vs, rfl, h1, h2, h3⟩ := hx.tup_inv S
      obtain ⟨its, rv, pl, _⟩ := I.tuple h1
      rw [Vals.ref1 rs]
      exact sort_run hu I S rv (.inr pl) h2 h3 (by assumption) q
    · cases hb
  · cases hb
    obtain ⟨x, y, rfl, hx, hy⟩ := h0.two
    cases hx.int_inv S
    cases hy.int_inv S
    exact cr_gcd pins s σ H _ us Q I rs ⟨_, _, rfl, q.to (.int _)⟩
  · cases hb
    obtain ⟨x, y, rfl, hx, hy⟩ := h0.two
    cases hx.int_inv S
    cases hy.int_inv S
    exact call_max2 hc pins s σ H _ us Q I rs ⟨_, _, rfl, q.to (.int _)⟩
  · cases hb
    obtain ⟨x, y, rfl, hx, hy⟩ := h0.two
    cases hx.int_inv S
    cases hy.int_inv S
    exact call_min2 hc pins s σ H _ us Q I rs ⟨_, _, rfl, q.to (.int _)⟩
  · cases hb
end Rx
set_option Elab.async false
set_option linter.all false
set_option maxRecDepth 100000
set_option maxHeartbeats 2000000
/-! Rx: the terms, that a text is such a term, and what it gives. -/
namespace Rx
open PySem PySem.Spec PyProof.Rows L2

inductive T where
  | nil
  | cons (a r : T)
  | nm (i : Nat)
  | kI (i : Int)
  | kS (s : Str)
  | kB (b : Bool)
  | kN
  | bin (o : BO) (a b : T)
  | neg (a : T)
  | cmp (o : CO) (a b : T)
  | cmp2 (o p : CO) (a b c : T)
  | band (l : T)
  | bor (l : T)
  | not (a : T)
  | ife (c a b : T)
  | tup (l : T)
  | lst (l : T)
  | ix (a b : T)
  | slc (a lo hi : T)
  | isi (a : T) (t : Ty)
  | bi (f : BI) (l : T)
  | lset (a : T)
  | lrng (a : T)
  | trng (a : T)
  | call (f : Nat) (l : T)
  | callk (f : Nat) (ks : List Nat) (l : T)
  | lc (own : List (Str × Nat)) (g it c e : T)
  | rng1 (a : T)
  | rng2 (a b : T)
  -- statements
  | asg (i : Nat) (e : T)
  | asgT (g e : T)
  | aug (i : Nat) (o : BO) (e : T)
  | setI (i : Nat) (j e : T)
  | app (i : Nat) (e : T)
  | ins (i : Nat) (a b : T)
  | popS (i : Nat) (a : T)
  | rev (i : Nat)
  | ret (e : T)
  | drop (e : T)
  | ifs (c a b : T)
  | for_ (g it b : T)
  | wh (c b : T)
  | brk
  | cnt
  | pas
  | rse (c : Nat) (l : T)
  | tryR (c : Nat) (i : Nat) (fs : List Nat) (b : T)
  | frz (i : Nat) (b : T)

/-! ### a text is a term -/
structure CkC where
  N : List Str
  sc : Scope
  st : Str → Bool
/-- the names of the table: the defs (with their parameters), the own exceptions (with their fields) -/
structure Tab where
  fns : List (Str × List Str)
  exs : List (Str × List Str)
  /-- the forms of keyword calls: the def, for each keyword the parameter's place -/
  kws : List (Nat × List Nat)
  /-- math.gcd is there -/
  gcd : Bool
def dbgB (x : Str) : Bool := !(x == ("__debug__" : Str)) && !(x == ("__classdict__" : Str))
def visB (sc : Scope) (x : Str) : Bool := decide (sc.names.lookup x = some .local) || decide (sc.names.lookup x = some .cell) || decide (sc.names.lookup x = some .free)
def nmOk (c : CkC) (i : Nat) (x : Str) : Bool := decide (c.N[i]? = some x) && visB c.sc x && dbgB x
def locB (c : CkC) (x : Str) : Bool := decide (c.sc.names.lookup x = some .local) || (decide (c.sc.names.lookup x = some .cell) && c.st x)
def stOk (c : CkC) (i : Nat) (x : Str) : Bool := decide (c.N[i]? = some x) && locB c x
def glOk (c : CkC) (x : Str) : Bool := decide (c.sc.names.lookup x = some .globalImplicit) && dbgB x
def isLc : Expr → Bool
  | .ListComp .. => true
  | .SetComp .. => true
  | .DictComp .. => true
  | _ => false
/-- the names of a target, all in the block's own -/
def tgIn (vs : List Nat) : T → Bool
  | .nm i => vs.contains i
  | .tup l => tgIn vs l
  | .nil => true
  | .cons a r => tgIn vs a && tgIn vs r
  | _ => false
mutual
def chkG : T → CkC → Expr → Bool
  | .nm i, c, .Name x _ => stOk c i x
  | .tup l, c, .Tuple es _ _ => chkGs l c es
  | _, _, _ => false
termination_by structural t => t
def chkGs : T → CkC → List Expr → Bool
  | .nil, _, [] => true
  | .cons a r, c, e :: es => chkG a c e && chkGs r c es
  | _, _, _ => false
termination_by structural t => t
end
section
variable (tb : Tab)
mutual
def chkE : T → CkC → Expr → Bool
  | .nm i, c, .Name x _ => nmOk c i x
  | .kI i, _, .Constant (.int j) _ _ => decide (i = j)
  | .kS s, _, .Constant (.str z) _ _ => decide (s = z)
  | .kB b, _, .Constant (.bool z) _ _ => decide (b = z)
  | .kN, _, .Constant .none _ _ => true
  | .bin o a b, c, .BinOp ea eo eb _ => decide (o.op = eo) && chkE a c ea && chkE b c eb
  | .neg a, c, .UnaryOp .USub ea _ => chkE a c ea
  | .cmp o a b, c, .Compare ea [eo] [eb] _ => decide (o.op = eo) && !behindInMarks eo eb && chkE a c ea && chkE b c eb
  | .cmp2 o p a b d, c, .Compare ea [eo, ep] [eb, ed] _ => decide (o.op = eo) && decide (p.op = ep) && !behindInMarks eo eb && !behindInMarks ep ed && chkE a c ea && chkE b c eb && chkE d c ed
  | .band l, c, .BoolOp .And es _ => chkL l c es && !es.isEmpty
  | .bor l, c, .BoolOp .Or es _ => chkL l c es && !es.isEmpty
  | .not a, c, .UnaryOp .Not ea _ => chkE a c ea
  | .ife t a b, c, .IfExp et ea eb _ => chkE t c et && chkE a c ea && chkE b c eb
  | .tup l, c, .Tuple es _ _ => chkL l c es
  | .lst l, c, .List es _ => chkL l c es
  | .slc a lo hi, c, .Subscript ea (.Slice el eh none _) _ => chkE a c ea && (match lo, el with | .nil, none => true | .nil, some _ => false | _, some e => chkE lo c e | _, none => false) && (match hi, eh with | .nil, none => true | .nil, some _ => false | _, some e => chkE hi c e | _, none => false)
  | .ix a b, c, .Subscript ea eb _ => chkE a c ea && chkE b c eb
  | .isi a t, c, .Call (.Name x _) [ea, .Name y _] [] _ => decide (x = "isinstance") && decide (y = (t.nm : Str)) && glOk c x && glOk c y && chkE a c ea
  | .lset a, c, .Call (.Name x _) [.Call (.Name y _) [ea] [] _] [] _ => decide (x = "len") && decide (y = "set") && glOk c x && glOk c y && chkE a c ea
  | .lrng a, c, .Call (.Name x _) [.Call (.Name y _) [ea] [] _] [] _ => decide (x = "list") && decide (y = "range") && glOk c x && glOk c y && chkE a c ea
  | .trng a, c, .Call (.Name x _) [.Call (.Name y _) [ea] [] _] [] _ => decide (x = "tuple") && decide (y = "range") && glOk c x && glOk c y && chkE a c ea
  | .bi f l, c, .Call (.Name x _) es [] _ => decide (x = f.nm) && (decide (f ≠ .gcd) || tb.gcd) && glOk c x && chkL l c es && !es.isEmpty
  | .call f l, c, .Call (.Name x _) es [] _ => decide (tb.fns[f]?.map (·.1) = some x) && glOk c x && chkL l c es && !es.isEmpty
  | .callk f ks l, c, .Call (.Name x _) [] kws _ => (match tb.fns[f]? with | some (y, ps) => decide (y = x) && decide (kws.map (·.arg) = ks.map fun k => ps[k]?) && decide ((f, ks) ∈ tb.kws) && !kws.isEmpty && (kws.all fun k => k.arg.isSome) | none => false) && glOk c x && chkL l c (kws.map (·.value))
  | .rng1 a, c, .Call (.Name x _) [ea] [] _ => decide (x = "range") && glOk c x && chkE a c ea
  | .rng2 a b, c, .Call (.Name x _) [ea, eb] [] _ => decide (x = "range") && glOk c x && chkE a c ea && chkE b c eb
  | .lc own g it t e, c, .ListComp ee [⟨eg, ei, ef, 0⟩] scope _ => blkC c.N c.sc scope own && !isLc ei && chkE it c ei && tgIn (own.map (·.2)) g && chkG g { c with sc := relS scope c.sc, st := fun x => scope.names.lookup x == some .cell } eg
      && (match t, ef with | .nil, [] => true | .nil, _ :: _ => false | _, [e] => chkE t { c with sc := relS scope c.sc, st := fun x => scope.names.lookup x == some .cell } e | _, _ => false) && chkE e { c with sc := relS scope c.sc, st := fun x => scope.names.lookup x == some .cell } ee
  | _, _, _ => false
termination_by structural t => t
def chkL : T → CkC → List Expr → Bool
  | .nil, _, [] => true
  | .cons a r, c, e :: es => chkE a c e && chkL r c es
  | _, _, _ => false
termination_by structural t => t
end
end
end Rx
set_option Elab.async false
set_option linter.all false
set_option maxRecDepth 100000
set_option maxHeartbeats 2000000
/-! Rx: statements of a text; the evaluator. -/
namespace Rx
open PySem PySem.Spec PyProof.Rows L2

def swapB (c : CkC) (x : Str) (py : Pos) : Expr → Bool
  | .ListComp _ _ s p => decide (c.sc.names.lookup x = some .local) && (py.line == p.line) && !(s.names.any fun (n, k) => n == x && (k == .local || k == .cell))
  | _ => false
def isTupE : Expr → Bool
  | .Tuple .. => true
  | _ => false
def augB : BO → Bool
  | .add => true
  | .sub => true
  | .bor => true
  | .band => true
  | .bxor => true
  | _ => false
def chkFl (c : CkC) (flds : List Str) (n : Str) : List Nat → List Expr → Bool
  | [], [] => true
  | j :: js, .Attribute (.Name y _) f _ :: es => decide (y = n) && decide (flds[j]? = some f) && chkFl c flds n js es
  | _, _ => false
def cAsg (c : CkC) (i : Nat) (fe : Expr → Bool) : Stmt → Bool
  | .Assign [.Name x _] ee _ => stOk c i x && fe ee
  | _ => false
def cAsgT (c : CkC) (g : T) (fe : Expr → Bool) : Stmt → Bool
  | .Assign [.Tuple es k p] ee _ => chkG g c (.Tuple es k p) && !isTupE ee && !isLc ee && fe ee
  | _ => false
def cAug (c : CkC) (i : Nat) (o : BO) (fe : Expr → Bool) : Stmt → Bool
  | .AugAssign (.Name x _) eo ee _ => stOk c i x && nmOk c i x && augB o && decide (o.op = eo) && fe ee
  | _ => false
def cSetI (c : CkC) (i : Nat) (fj fe : Expr → Bool) : Stmt → Bool
  | .Assign [.Subscript (.Name x _) ej _] ee _ => nmOk c i x && fj ej && !isLc ee && fe ee
  | _ => false
/-- x.m(..), x a name: the method's name, the arguments -/
def cMeth (c : CkC) (i : Nat) (m : Str) (fl : List Expr → Bool) : Stmt → Bool
  | .Expr (.Call (.Attribute (.Name x _) n ap) es [] cp) _ => (ap.endLine == cp.line) && decide (n = m) && nmOk c i x && fl es && decide (es.length < 20)
  | _ => false
def cDrop (fe : Expr → Bool) : Stmt → Bool
  | .Expr ee _ => !isLc ee && fe ee
  | _ => false
def cRet (fe : Expr → Bool) : Stmt → Bool
  | .Return (some ee) _ => fe ee
  | _ => false
def cIfs (ft : Expr → Bool) (fa fb : List Stmt → Bool) : Stmt → Bool
  | .If et sa sb _ => ft et && fa sa && fb sb
  | _ => false
def cFor (c : CkC) (g : T) (fi : Expr → Bool) (fb : List Stmt → Bool) : Stmt → Bool
  | .For eg ei sb [] _ => chkG g c eg && fi ei && !isLc ei && fb sb
  | _ => false
def cWh (ft : Expr → Bool) (fb : List Stmt → Bool) : Stmt → Bool
  | .While et sb [] _ => ft et && fb sb
  | _ => false
def cBrk : Stmt → Bool
  | .Break _ => true
  | _ => false
def cCnt : Stmt → Bool
  | .Continue _ => true
  | _ => false
def cPas : Stmt → Bool
  | .Pass _ => true
  | _ => false
def cRse (tb : Tab) (c : CkC) (k : Nat) (fl : List Expr → Bool) : Stmt → Bool
  | .Raise (some (.Call (.Name x _) es [] _)) none _ => decide (tb.exs[k]?.map (·.1) = some x) && decide (tb.exs[k]?.map (·.2.length) = some es.length) && glOk c x && fl es && !es.isEmpty && decide (es.length ≤ 100)
  | _ => false
def cTry (tb : Tab) (c : CkC) (k i : Nat) (fs : List Nat) (fb : List Stmt → Bool) : Stmt → Bool
  | .Try sb [.ExceptHandler (some (.Name x _)) (some n) [.Return (some (.Tuple (.Constant (.bool false) _ _ :: ef) _ _)) _] _] [] [] _ =>
      decide (c.N[i]? = some n) && decide (c.sc.names.lookup n = some .local) && dbgB n && glOk c x && (match tb.exs[k]? with | some (y, flds) => decide (y = x) && decide flds.Nodup && chkFl c flds n fs ef && decide (ef.length ≤ 100) | none => false) && fb sb
  | _ => false
section
variable (tb : Tab)
mutual
def chkS : T → CkC → Stmt → Bool
  | .asg i e, c, st => cAsg c i (chkE tb e c) st
  | .asgT g e, c, st => cAsgT c g (chkE tb e c) st
  | .aug i o e, c, st => cAug c i o (chkE tb e c) st
  | .setI i j e, c, st => cSetI c i (chkE tb j c) (chkE tb e c) st
  | .app i e, c, st => cMeth c i "append" (chkL tb (.cons e .nil) c) st
  | .ins i a b, c, st => cMeth c i "insert" (chkL tb (.cons a (.cons b .nil)) c) st
  | .popS i a, c, st => cMeth c i "pop" (chkL tb (.cons a .nil) c) st
  | .rev i, c, st => cMeth c i "reverse" (chkL tb .nil c) st
  | .ret e, c, st => cRet (chkE tb e c) st
  | .drop e, c, st => cDrop (chkE tb e c) st
  | .ifs t a b, c, st => cIfs (chkE tb t c) (fun ss => chkB a c ss) (fun ss => chkB b c ss) st
  | .for_ g it b, c, st => cFor c g (chkE tb it c) (fun ss => chkB b c ss) st
  | .wh t b, c, st => cWh (chkE tb t c) (fun ss => chkB b c ss) st
  | .brk, _, st => cBrk st
  | .cnt, _, st => cCnt st
  | .pas, _, st => cPas st
  | .rse k l, c, st => cRse tb c k (chkL tb l c) st
  | .tryR k i fs b, c, st => cTry tb c k i fs (fun ss => chkB b c ss) st
  | _, _, _ => false
termination_by structural t => t
def chkB : T → CkC → List Stmt → Bool
  | .frz _ r, c, ss => chkB r c ss
  | .nil, _, [] => true
  | .cons s r, c, st :: ss => chkS s c st && chkB r c ss
  | _, _, _ => false
termination_by structural t => t
end
end

/-! ### the evaluator -/
def Rz.map {α β : Type} (f : α → β) (m : Rz α) : Rz β := m.bnd fun a w => .ok (f a) w
def ofO {α : Type} (o : Option α) (w : Wl) : Rz α :=
  match o with
  | some a => .ok a w
  | none => .stuck
/-- an operand that is looked at alone -/
def pk (t : T) (r : Rz Got) (sl : List Slt) (w : Wl) : Rz PyData :=
  match t with
  | .nm i => match sl[i]? with
    | some (.own ds) => .ok (.list ds) w
    | _ => r.map Got.d
  | _ => r.map Got.d
def noExc {α : Type} : Rz α → Rz α
  | .ok a w => .ok a w
  | _ => .stuck
def boolR : PyData → Wl → Rz Bool
  | .bool b, w => .ok b w
  | _, _ => .stuck
def compF (f : PyData → Wl → Rz (Option PyData)) : List PyData → List PyData → Wl → Rz (List PyData)
  | [], acc, w => .ok acc w
  | d :: r, acc, w => (f d w).bnd fun o w => compF f r (acc ++ o.toList) w
mutual
def asgG : T → PyData → List Slt → Option (List Slt)
  | .nm i, d, sl => if i < sl.length then some (sl.set i (.val d)) else none
  | .tup l, .tuple ds, sl => asgGs l ds sl
  | _, _, _ => none
def asgGs : T → List PyData → List Slt → Option (List Slt)
  | .nil, [], sl => some sl
  | .cons a r, d :: ds, sl => match asgG a d sl with
    | some sl => asgGs r ds sl
    | none => none
  | _, _, _ => none
end
def wipeS (sl : List Slt) : List Nat → List Slt
  | [] => sl
  | v :: vs => (wipeS sl vs).set v .no
def itemsD : PyData → Option (List PyData)
  | .list xs => some xs
  | .tuple xs => some xs
  | _ => none
def rngD (a b : Int) : Option (List PyData) := if -1000000 ≤ a ∧ a ≤ 1000000 ∧ -1000000 ≤ b ∧ b ≤ 1000000 then some ((List.range (b - a).toNat).map fun (i : Nat) => PyData.int (a + (i : Int))) else none
/-- each item once -/
def ddI : List Int → List Int
  | [] => []
  | x :: r => if x ∈ ddI r then ddI r else x :: ddI r
def lsetD : PyData → Option PyData
  | .tuple xs => match intsOf xs with
    | some ns => if ns.length ≤ 1000 then some (.int (ddI ns).length) else none
    | none => none
  | _ => none
/-- the arguments in the parameters' order -/
def byKeys (ks : List Nat) (ds : List PyData) : List PyData := (List.range ks.length).map fun j => ds.getD (ks.idxOf j) .none
/-- what a term gives: as a value, looked at alone, as a test, as a list of arguments (the last one by itself looked at), as the rest of and, or; as a part of a slice, as a comprehension's test, as what is walked -/
structure Sm where
  v : List Slt → Wl → Rz Got
  p : List Slt → Wl → Rz PyData
  b : List Slt → Wl → Rz Bool
  l : List Slt → Wl → Rz (List PyData)
  l1 : List Slt → Wl → Rz (List PyData)
  av : List Slt → Wl → Rz Got
  ov : List Slt → Wl → Rz Got
  at_ : List Slt → Wl → Rz Bool
  ot : List Slt → Wl → Rz Bool
  o : List Slt → Wl → Rz (Option Int)
  f : List Slt → Wl → Rz Bool
  i : List Slt → Wl → Rz (List PyData)
def bad {α : Type} : List Slt → Wl → Rz α := fun _ _ => .stuck
def intR : PyData → Wl → Rz Int
  | .int i, w => .ok i w
  | _, _ => .stuck
/-- of an expression with the value v, whose test is its value's truth -/
def Sm.ex (v : List Slt → Wl → Rz Got) : Sm where
  v := v
  p := fun sl w => (v sl w).map Got.d
  b := fun sl w => (v sl w).bnd fun x w => ofO (truD x.d) w
  l := bad
  l1 := bad
  av := bad
  ov := bad
  at_ := bad
  ot := bad
  o := fun sl w => (v sl w).bnd fun x w => (intR x.d w).map some
  f := fun sl w => (v sl w).bnd fun x w => ofO (truD x.d) w
  i := fun sl w => (v sl w).bnd fun x w => ofO (itemsD x.d) w
/-- of an expression whose test is a truth value of its own -/
def Sm.tst (v : List Slt → Wl → Rz Got) (b : List Slt → Wl → Rz Bool) : Sm := { Sm.ex v with b := b, f := b }
def Sm.none_ : Sm := ⟨bad, bad, bad, bad, bad, bad, bad, bad, bad, bad, bad, bad⟩
def slotV (i : Nat) (sl : List Slt) (w : Wl) : Rz Got :=
  match sl[i]? with
  | some (.val d) => .ok (.val d) w
  | _ => .stuck
def slotP (i : Nat) (sl : List Slt) (w : Wl) : Rz PyData :=
  match sl[i]? with
  | some (.val d) => .ok d w
  | some (.own ds) => .ok (.list ds) w
  | _ => .stuck
def isNil : T → Bool
  | .nil => true
  | _ => false
def isNm : T → Option Nat
  | .nm i => some i
  | _ => none
def asB (v : List Slt → Wl → Rz Got) : List Slt → Wl → Rz Bool := fun sl w => (v sl w).bnd fun x w => boolR x.d w
def vBin (o : BO) (a b : Sm) : List Slt → Wl → Rz Got := fun sl w => (a.v sl w).bnd fun x w => (b.p sl w).bnd fun y w => ofO (binD o x.d y) w
def vNeg (a : Sm) : List Slt → Wl → Rz Got := fun sl w => (a.v sl w).bnd fun x w => (intR x.d w).map fun i => .val (.int (-i))
def vCmp (o : CO) (a b : Sm) : List Slt → Wl → Rz Got := fun sl w => (a.v sl w).bnd fun x w => (b.p sl w).bnd fun y w => (ofO (cmpD o x.d y) w).map fun c => .val (.bool c)
def vCmp2 (o p : CO) (a b c : Sm) : List Slt → Wl → Rz Got := fun sl w => (a.v sl w).bnd fun x w => (b.v sl w).bnd fun y w => (ofO (cmpD o x.d y.d) w).bnd fun k w => if k = true then (c.v sl w).bnd fun z w => (ofO (cmpD p y.d z.d) w).map fun k => .val (.bool k) else .ok (.val (.bool false)) w
def vNot (a : Sm) : List Slt → Wl → Rz Got := fun sl w => (a.v sl w).bnd fun x w => (boolR x.d w).map fun b => .val (.bool (!b))
def vIfe (c a b : Sm) : List Slt → Wl → Rz Got := fun sl w => (c.b sl w).bnd fun k w => if k = true then a.v sl w else b.v sl w
def vTup (l : Sm) : List Slt → Wl → Rz Got := fun sl w => (l.l sl w).bnd fun ds w => if ds.length ≤ sizeLine then .ok (.val (.tuple ds)) w else .stuck
def vLst (l : Sm) : List Slt → Wl → Rz Got := fun sl w => (l.l sl w).bnd fun ds w => if ds.length ≤ sizeLine then .ok (.fresh ds) w else .stuck
/-- a name is looked at behind the index -/
def vIx (n : Option Nat) (a b : Sm) : List Slt → Wl → Rz Got := fun sl w =>
  match n with
  | some i => (slotP i sl w).bnd fun x _ => (b.v sl w).bnd fun y w => (ofO (ixD x y.d) w).map .val
  | none => (a.v sl w).bnd fun x w => (b.v sl w).bnd fun y w => (ofO (ixD x.d y.d) w).map .val
def vSlc (a : Sm) (lo hi : List Slt → Wl → Rz (Option Int)) : List Slt → Wl → Rz Got := fun sl w => (a.v sl w).bnd fun x w => (lo sl w).bnd fun l w => (hi sl w).bnd fun h w => ofO (slD x.d l h) w
def vIsi (a : Sm) (t : Ty) : List Slt → Wl → Rz Got := fun sl w => (a.p sl w).bnd fun x w => (ofO (isiD t x) w).map fun b => .val (.bool b)
def vBi (f : BI) (l : Sm) : List Slt → Wl → Rz Got := fun sl w => (l.l1 sl w).bnd fun ds w => ofO (biD f ds) w
def vLset (a : Sm) : List Slt → Wl → Rz Got := fun sl w => (a.v sl w).bnd fun x w => (ofO (lsetD x.d) w).map .val
def vLrng (a : Sm) : List Slt → Wl → Rz Got := fun sl w => (a.v sl w).bnd fun x w => (intR x.d w).bnd fun n w => (ofO (rngD 0 n) w).map .fresh
def vTrng (a : Sm) : List Slt → Wl → Rz Got := fun sl w => (a.v sl w).bnd fun x w => (intR x.d w).bnd fun n w => (ofO (rngD 0 n) w).map fun ds => .val (.tuple ds)
def iRng1 (a : Sm) : List Slt → Wl → Rz (List PyData) := fun sl w => (a.v sl w).bnd fun x w => (intR x.d w).bnd fun n w => ofO (rngD 0 n) w
def iRng2 (a b : Sm) : List Slt → Wl → Rz (List PyData) := fun sl w => (a.v sl w).bnd fun x w => (b.v sl w).bnd fun y w => (intR x.d w).bnd fun n w => (intR y.d w).bnd fun m w => ofO (rngD n m) w
def turnLc (vs : List Nat) (g : T) (t e : Sm) (sl : List Slt) (d : PyData) (w : Wl) : Rz (Option PyData) :=
  noExc (match asgG g d (wipeS sl vs) with
    | none => .stuck
    | some sl1 => (t.f sl1 w).bnd fun b w => if b = true then (e.v sl1 w).map fun x => some x.d else .ok none w)
/-- none of these slots owns a list -/
def noOwn (vs : List Nat) (sl : List Slt) : Bool := vs.all fun i => match sl[i]? with
  | some (.own _) => false
  | _ => true
def vLc (vs : List Nat) (g : T) (it t e : Sm) (own : Option Nat) : List Slt → Wl → Rz Got := fun sl w =>
  if noOwn vs sl = true then ((match own with
    | some i => (slotP i sl w).bnd fun x w => ofO (itemsD x) w
    | none => it.i sl w).bnd fun items w => compF (turnLc vs g t e sl) items [] w).map .fresh else .stuck
section
variable (cl : Nat → List PyData → Wl → Rz PyData)
def sem : T → Sm
  | .nil => { Sm.none_ with l := fun _ w => .ok [] w, l1 := fun _ w => .ok [] w, o := fun _ w => .ok none w, f := fun _ w => .ok true w }
  | .cons a r => { Sm.none_ with
      l := fun sl w => ((sem a).v sl w).bnd fun x w => ((sem r).l sl w).map fun ds => x.d :: ds
      l1 := fun sl w => if isNil r = true then ((sem a).p sl w).map fun d => [d] else ((sem a).v sl w).bnd fun x w => ((sem r).l sl w).map fun ds => x.d :: ds
      av := fun sl w => if isNil r = true then (sem a).v sl w else (asB (sem a).v sl w).bnd fun b w => if b = true then (sem r).av sl w else .ok (.val (.bool false)) w
      ov := fun sl w => if isNil r = true then (sem a).v sl w else (asB (sem a).v sl w).bnd fun b w => if b = true then .ok (.val (.bool true)) w else (sem r).ov sl w
      at_ := fun sl w => if isNil r = true then (sem a).b sl w else ((sem a).b sl w).bnd fun b w => if b = true then (sem r).at_ sl w else .ok false w
      ot := fun sl w => if isNil r = true then (sem a).b sl w else ((sem a).b sl w).bnd fun b w => if b = true then .ok true w else (sem r).ot sl w }
  | .nm i => { Sm.ex (slotV i) with p := slotP i, b := fun sl w => (slotP i sl w).bnd fun x w => ofO (truD x) w, f := fun sl w => (slotP i sl w).bnd fun x w => ofO (truD x) w }
  | .kI i => .ex fun _ w => .ok (.val (.int i)) w
  | .kS s => .ex fun _ w => .ok (.val (.str s)) w
  | .kB b => .ex fun _ w => .ok (.val (.bool b)) w
  | .kN => .ex fun _ w => .ok (.val .none) w
  | .bin o a b => .ex (vBin o (sem a) (sem b))
  | .neg a => .ex (vNeg (sem a))
  | .cmp o a b => .tst (vCmp o (sem a) (sem b)) (asB (vCmp o (sem a) (sem b)))
  | .cmp2 o p a b c => .tst (vCmp2 o p (sem a) (sem b) (sem c)) (asB (vCmp2 o p (sem a) (sem b) (sem c)))
  | .band l => .tst (sem l).av (sem l).at_
  | .bor l => .tst (sem l).ov (sem l).ot
  | .not a => .tst (vNot (sem a)) fun sl w => ((sem a).b sl w).map fun b => !b
  | .ife c a b => .tst (vIfe (sem c) (sem a) (sem b)) bad
  | .tup l => .ex (vTup (sem l))
  | .lst l => .ex (vLst (sem l))
  | .ix a b => .ex (vIx (isNm a) (sem a) (sem b))
  | .slc a lo hi => .ex (vSlc (sem a) (sem lo).o (sem hi).o)
  | .isi a t => .ex (vIsi (sem a) t)
  | .bi f l => .ex (vBi f (sem l))
  | .lset a => .ex (vLset (sem a))
  | .lrng a => .ex (vLrng (sem a))
  | .trng a => .ex (vTrng (sem a))
  | .call f l => .ex fun sl w => ((sem l).l sl w).bnd fun ds w => (cl f ds w).map .val
  | .callk f ks l => .ex fun sl w => ((sem l).l sl w).bnd fun ds w => (cl f (byKeys ks ds) w).map .val
  | .lc own g it t e => .ex (vLc (own.map (·.2)) g (sem it) (sem t) (sem e) (isNm it))
  | .rng1 a => { Sm.ex bad with i := iRng1 (sem a) }
  | .rng2 a b => { Sm.ex bad with i := iRng2 (sem a) (sem b) }
  | _ => .none_

/-! statements -/
end
inductive Fl where
  | nx
  | ret (d : PyData)
  | brk
  | cnt
inductive Xr where
  | ok (f : Fl) (sl : List Slt) (w : Wl)
  | exc (c : Nat) (fs : List PyData) (w : Wl)
  | stuck
def Rz.x {α : Type} (m : Rz α) (f : α → Wl → Xr) : Xr :=
  match m with
  | .ok a w => f a w
  | .exc c fs w => .exc c fs w
  | .stuck => .stuck
def Xr.seq (m : Xr) (f : List Slt → Wl → Xr) : Xr :=
  match m with
  | .ok .nx sl w => f sl w
  | m => m
def loopF (body : PyData → List Slt → Wl → Xr) : List PyData → List Slt → Wl → Xr
  | [], sl, w => .ok .nx sl w
  | d :: r, sl, w => match body d sl w with
    | .ok .nx sl w => loopF body r sl w
    | .ok .cnt sl w => loopF body r sl w
    | .ok .brk sl w => .ok .nx sl w
    | m => m
def whileF (t : List Slt → Wl → Rz Bool) (body : List Slt → Wl → Xr) : Nat → List Slt → Wl → Xr
  | 0, _, _ => .stuck
  | n + 1, sl, w => (t sl w).x fun b w => if b = true then (match body sl w with
      | .ok .nx sl w => whileF t body n sl w
      | .ok .cnt sl w => whileF t body n sl w
      | .ok .brk sl w => .ok .nx sl w
      | m => m) else .ok .nx sl w
def Got.slot : Got → Slt
  | .val d => .val d
  | .fresh ds => .own ds
def storeS (i : Nat) (s : Slt) (sl : List Slt) (w : Wl) : Xr := if i < sl.length then .ok .nx (sl.set i s) w else .stuck
def frzS (i : Nat) (sl : List Slt) : List Slt :=
  match sl[i]? with
  | some (.own ds) => sl.set i (.val (.list ds))
  | _ => sl
def ownAt (i : Nat) (sl : List Slt) (f : List PyData → Xr) : Xr :=
  match sl[i]? with
  | some (.own ds) => f ds
  | _ => .stuck
section
variable (cl : Nat → List PyData → Wl → Rz PyData) (wf : Nat)
def run : T → List Slt → Wl → Xr
  | .nil => fun sl w => .ok .nx sl w
  | .cons s r => fun sl w => (run s sl w).seq (run r)
  | .frz i r => fun sl w => run r (frzS i sl) w
  | .asg i e => fun sl w => ((sem cl e).v sl w).x fun x w => storeS i x.slot sl w
  | .asgT g e => fun sl w => ((sem cl e).v sl w).x fun x w => match asgG g x.d sl with
    | some sl => .ok .nx sl w
    | none => .stuck
  | .aug i o e => fun sl w => match sl[i]? with
    | some (.val (.int a)) => ((sem cl e).v sl w).x fun y w => match y.d with
      | .int b => (match binD o (.int a) (.int b) with
        | some z => .ok .nx (sl.set i z.slot) w
        | none => .stuck)
      | _ => .stuck
    | _ => .stuck
  | .setI i j e => fun sl w => ownAt i sl fun ds => ((sem cl e).v sl w).x fun x w => ((sem cl j).v sl w).x fun y w => match y.d with
    | .int k => (match ixN ds.length k with
      | some n => .ok .nx (sl.set i (.own (ds.set n x.d))) w
      | none => .stuck)
    | _ => .stuck
  | .app i e => fun sl w => ownAt i sl fun ds => ((sem cl e).v sl w).x fun x w => if ds.length < sizeLine then .ok .nx (sl.set i (.own (ds ++ [x.d]))) w else .stuck
  | .ins i a b => fun sl w => ownAt i sl fun ds => ((sem cl a).v sl w).x fun x w => ((sem cl b).v sl w).x fun y w => match x.d with
    | .int k => if 0 ≤ k ∧ k < 2 ^ 62 ∧ ds.length < sizeLine then .ok .nx (sl.set i (.own (ds.take k.toNat ++ [y.d] ++ ds.drop k.toNat))) w else .stuck
    | _ => .stuck
  | .popS i a => fun sl w => ownAt i sl fun ds => ((sem cl a).v sl w).x fun x w => match x.d with
    | .int k => if 0 ≤ k ∧ k < ds.length then .ok .nx (sl.set i (.own (ds.eraseIdx k.toNat))) w else .stuck
    | _ => .stuck
  | .rev i => fun sl w => ownAt i sl fun ds => .ok .nx (sl.set i (.own ds.reverse)) w
  | .ret e => fun sl w => ((sem cl e).v sl w).x fun x w => .ok (.ret x.d) sl w
  | .drop e => fun sl w => ((sem cl e).v sl w).x fun _ w => .ok .nx sl w
  | .ifs t a b => fun sl w => ((sem cl t).b sl w).x fun k w => if k = true then run a sl w else run b sl w
  | .for_ g it b => fun sl w => ((sem cl it).i sl w).x fun items w => loopF (fun d sl w => match asgG g d sl with
    | some sl => run b sl w
    | none => .stuck) items sl w
  | .wh t b => fun sl w => whileF (sem cl t).b (run b) wf sl w
  | .brk => fun sl w => .ok .brk sl w
  | .cnt => fun sl w => .ok .cnt sl w
  | .pas => fun sl w => .ok .nx sl w
  | .rse c l => fun sl w => ((sem cl l).l sl w).x fun ds w => .exc c ds w
  | .tryR c i fs b => fun sl w => match run b sl w with
    | .exc c' ds w => if c' = c ∧ i < sl.length then .ok (.ret (.tuple (.bool false :: fs.map fun j => ds.getD j .none))) sl w else .stuck
    | m => m
  | _ => fun _ _ => .stuck
end
/-- a def of the table -/
structure Fn where
  name : Str
  N : List Str
  np : Nat
  body : T
  prim : Option (List PyData → Wl → Rz PyData)
def startS (n : Nat) (ds : List PyData) : List Slt := ds.map .val ++ List.replicate (n - ds.length) .no
def fin : Xr → Rz PyData
  | .ok (.ret d) _ w => .ok d w
  | .ok .nx _ w => .ok .none w
  | .exc c fs w => .exc c fs w
  | _ => .stuck
def callF (fns : List Fn) (wf : Nat) : Nat → Nat → List PyData → Wl → Rz PyData
  | 0, _, _, _ => .stuck
  | k + 1, f, ds, w => match fns[f]? with
    | none => .stuck
    | some F => if ds.length = F.np then (match F.prim with
      | some g => g ds w
      | none => fin (run (callF fns wf k) wf F.body (startS F.N.length ds) w)) else .stuck
end Rx
set_option Elab.async false
set_option linter.all false
set_option maxRecDepth 100000
set_option maxHeartbeats 2000000
/-! Rx: what is to be shown of a term, and how parts are put together. -/
namespace Rx
open PySem PySem.Spec PyProof.Rows L2

/-- the promise of a def that gives g -/
def spF (aw ag : Addr) (K : PySem.W.Frag) (exA : Nat → Addr) (exF : Nat → List Str) (g : List PyData → Wl → Rz PyData) (n : Nat) : Sp := fun vs H Q E =>
  vs.length = n ∧ ∃ G ds w, Base aw ag G H G H w ∧ Rps aw K G vs ds ∧ match g ds w with
    | .ok d w' => ∀ v G' H', Base aw ag G H G' H' w' → Rp aw K G' v d → Q v H'
    | .exc c fs w' => ∀ dd vs' G' H', Base aw ag G H G' H' w' → H' dd = some (.xd ((exF c).zip vs')) → vs'.length = (exF c).length → Rps aw K G' vs' fs → E (.ref (exA c)) (some dd) H'
    | .stuck => False

/-- keywords' values in the parameters' order -/
def byKs {α : Type} (z : α) (ks : List Nat) (ws : List α) : List α := (List.range ks.length).map fun j => ws.getD (ks.idxOf j) z
/-- how a call with these keywords alone binds -/
def KwB (K : PySem.W.Frag) (fd : FuncData) (ps : List Str) (ks : List Nat) : Prop := ∀ (s : Shared) (ws : List Value), K.In s.heap → ws.length = ks.length → BindsTo s fd ⟨[], (ks.filterMap fun k => ps[k]?).zip ws⟩ (ps.zip (byKs .none ks ws))
/-- the surroundings of all defs -/
structure Glo (P : Program) (wd : World) (K : PySem.W.Frag) (mg : Str → Option Value) (base : Heap) (tb : Tab) (aw ag : Addr) (exA : Nat → Addr) (exF : Nat → List Str) (cl : Nat → List PyData → Wl → Rz PyData) (lv : Nat) : Prop where
  bi : ∀ f : BI, f ≠ .gcd → mg f.nm = none
  gcd : tb.gcd = true → mg "gcd" = some (.builtin "math.gcd")
  isi : mg "isinstance" = none
  rng : mg "range" = none
  set : mg "set" = none
  tys : ∀ t : Ty, mg (t.nm : Str) = none
  fn : ∀ (i : Nat) x ps, tb.fns[i]? = some (x, ps) → ∃ f fd, mg x = some (.ref f) ∧ PySem.W.keepIn K (.ref f) = true ∧ Binds K fd ps [] ∧ (∀ ks, (i, ks) ∈ tb.kws → KwB K fd ps ks) ∧
    FnOk P wd K mg base (L2.CX P wd) lv f fd ps (spF aw ag K exA exF (cl i) ps.length)
  ln : ∀ (i : Nat) x ps, tb.fns[i]? = some (x, ps) → ∀ ds w, ds.length ≠ ps.length → cl i ds w = .stuck
  ex : ∀ (c : Nat) x fl, tb.exs[c]? = some (x, fl) → exF c = fl ∧ mg x = some (.ref (exA c)) ∧ OexC K (exA c) ∧ XfC K (exA c) ∧ (∀ f ∈ fl, PySem.W.findIn K (.ref (exA c)) f = some none) ∧ PySem.W.exmOne K (.ref (exA c)) (.ref (exA c)) = some true ∧
    ∃ fI fd, PySem.W.findIn K (.ref (exA c)) "__init__" = some (some (.ref fI)) ∧ PySem.W.typeIn K (.ref fI) = some (.type "function") ∧ Binds K fd ("self" :: fl) [] ∧
      FnOk P wd K mg base (L2.CX P wd) 1 fI fd ("self" :: fl) (fun vs H Q _ => ∃ a C ws, vs = .ref a :: ws ∧ ws.length = fl.length ∧ H a = some (exo a C none) ∧ C = exA c ∧
        ∀ dx, H dx = none → dx ≠ a → Q .non (upd (upd H dx (exd dx (fl.zip ws))) a (exo a C (some dx))))

/-- where a text stands -/
structure Ctx (P : Program) (wd : World) (K : PySem.W.Frag) (mg : Str → Option Value) (base : Heap) (lv : Nat) (W : WX) (c : CkC) (X : Cx) : Prop where
  P : X.prog = P
  wd : X.w = wd
  K : X.K = K
  mg : X.mg = mg
  base : X.base = base
  calm : X.calm = true
  N : X.N = c.N
  sc : X.env.scope = c.sc
  st : X.fn = c.st
  nd : c.N.Nodup
  kind : c.sc.kind = .function
  room : Room lv X.A
  takes : Takes X W

section
variable {aw ag : Addr} {K : PySem.W.Frag} {exA : Nat → Addr} {exF : Nat → List Str}
/-- what is wanted of an exception -/
def ExcP (aw ag : Addr) (K : PySem.W.Frag) (exA : Nat → Addr) (exF : Nat → List Str) (W : WX) (G0 H0 G : Hp) (σ : L2.St) (c : Nat) (fs : List PyData) (w' : Wl) : Prop :=
  ∀ dd vs' G' H', Base aw ag G0 H0 G' H' w' → Same G G' → H' dd = some (.xd ((exF c).zip vs')) → vs'.length = (exF c).length → Rps aw K G' vs' fs → W (.ref (exA c)) (some dd) σ H'
/-- what is wanted behind a part: β what the reading gives, α what the evaluator gives -/
def Post {α β : Type} (aw ag : Addr) (K : PySem.W.Frag) (exA : Nat → Addr) (exF : Nat → List Str) (W : WX) (Rr : Hp → Hp → β → α → Prop) (G0 H0 G : Hp) (σ : L2.St) (sl : List Slt) (Q : β → Hp → Prop) : Rz α → Prop
  | .ok a w' => ∀ b G' H', Rel aw ag K G0 H0 G' H' σ sl w' → Same G G' → Rr G' H' b a → Q b H'
  | .exc c fs w' => ExcP aw ag K exA exF W G0 H0 G σ c fs w'
  | .stuck => False
variable {W : WX} {α α' β β' : Type} {Rr : Hp → Hp → β → α → Prop} {Rr' : Hp → Hp → β' → α' → Prop} {G0 H0 G G' H H' : Hp} {σ : L2.St} {sl : List Slt} {w w' : Wl} {Q : β → Hp → Prop} {Q' : β' → Hp → Prop} {m : Rz α} {f : α → Wl → Rz α'}
theorem ExcP.mono {c : Nat} {fs : List PyData} (S : Same G G') (h : ExcP aw ag K exA exF W G0 H0 G σ c fs w') : ExcP aw ag K exA exF W G0 H0 G' σ c fs w' := fun dd vs' G1 H1 B S1 e l r => h dd vs' G1 H1 B (S.trans S1) e l r
theorem Post.mono (S : Same G G') (h : Post aw ag K exA exF W Rr G0 H0 G σ sl Q m) : Post aw ag K exA exF W Rr G0 H0 G' σ sl Q m := by
  cases m with
  | ok a w1 => exact fun b G1 H1 R S1 r => h b G1 H1 R (S.trans S1) r
  | exc c fs w1 => exact ExcP.mono S h
  | stuck => exact h
/-- a part, then the rest -/
theorem Post.bnd (h : Post aw ag K exA exF W Rr' G0 H0 G σ sl Q' (m.bnd f))
    (k : ∀ a w1 b G1 H1, m = .ok a w1 → Rel aw ag K G0 H0 G1 H1 σ sl w1 → Same G G1 → Rr G1 H1 b a → Post aw ag K exA exF W Rr' G0 H0 G1 σ sl Q' (f a w1) → Q b H1) : Post aw ag K exA exF W Rr G0 H0 G σ sl Q m := by
  cases m with
  | ok a w1 => exact fun b G1 H1 R S r => k a w1 b G1 H1 rfl R S r (Post.mono S h)
  | exc c fs w1 => exact h
  | stuck => exact h
theorem Post.map {g : α → α'} (h : Post aw ag K exA exF W Rr' G0 H0 G σ sl Q' (m.map g))
    (k : ∀ a w1 b G1 H1, m = .ok a w1 → Rel aw ag K G0 H0 G1 H1 σ sl w1 → Same G G1 → Rr G1 H1 b a → Post aw ag K exA exF W Rr' G0 H0 G1 σ sl Q' (.ok (g a) w1) → Q b H1) : Post aw ag K exA exF W Rr G0 H0 G σ sl Q m := Post.bnd h k
theorem Post.ofO {o : Option α} (h : Post aw ag K exA exF W Rr G0 H0 G σ sl Q (ofO o w)) : ∃ a, o = some a ∧ Post aw ag K exA exF W Rr G0 H0 G σ sl Q (.ok a w) := by
  cases o with
  | none => exact False.elim h
  | some a => exact ⟨a, rfl, h⟩
theorem Post.ofOb {o : Option α} (h : Post aw ag K exA exF W Rr' G0 H0 G σ sl Q' ((Rx.ofO o w).bnd f)) : ∃ a, o = some a ∧ Post aw ag K exA exF W Rr' G0 H0 G σ sl Q' (f a w) := by
  cases o with
  | none => exact False.elim h
  | some a => exact ⟨a, rfl, h⟩
theorem Post.ofOm {o : Option α} {g : α → α'} (h : Post aw ag K exA exF W Rr' G0 H0 G σ sl Q' ((Rx.ofO o w).map g)) : ∃ a, o = some a ∧ Post aw ag K exA exF W Rr' G0 H0 G σ sl Q' (.ok (g a) w) := by
  cases o with
  | none => exact False.elim h
  | some a => exact ⟨a, rfl, h⟩
theorem Post.int {d : PyData} {f : Int → Wl → Rz α'} (h : Post aw ag K exA exF W Rr' G0 H0 G σ sl Q' ((intR d w).bnd f)) : ∃ i, d = .int i ∧ Post aw ag K exA exF W Rr' G0 H0 G σ sl Q' (f i w) := by
  cases d <;> first | exact False.elim h | exact ⟨_, rfl, h⟩
theorem Post.bool {d : PyData} {f : Bool → Wl → Rz α'} (h : Post aw ag K exA exF W Rr' G0 H0 G σ sl Q' ((boolR d w).bnd f)) : ∃ i, d = .bool i ∧ Post aw ag K exA exF W Rr' G0 H0 G σ sl Q' (f i w) := by
  cases d <;> first | exact False.elim h | exact ⟨_, rfl, h⟩
end
section
variable (aw ag : Addr) (K : PySem.W.Frag) (exA : Nat → Addr) (exF : Nat → List Str) (W : WX)
def rrV (aw ag : Addr) (K : PySem.W.Frag) (H0 : Hp) (σ : L2.St) (sl : List Slt) (G H : Hp) (v : V) (r : Got) : Prop := RpR aw ag K H0 G H σ sl v r
def rrP (aw : Addr) (K : PySem.W.Frag) (G H : Hp) (v : V) (d : PyData) : Prop := Rq aw K G H v d
def rrB (G H : Hp) (b c : Bool) : Prop := b = c
def rrL (aw : Addr) (K : PySem.W.Frag) (G H : Hp) (vs : List V) (ds : List PyData) : Prop := Rps aw K G vs ds
def rrQ (aw : Addr) (K : PySem.W.Frag) (G H : Hp) (vs : List V) (ds : List PyData) : Prop := Rqs aw K G H vs ds
def rrO (G H : Hp) (a b : Option Int) : Prop := a = b
/-- a value's, a looked at value's, a test's .. reading -/
def SE (v : List Slt → Wl → Rz Got) (te : TE) : Prop := ∀ G0 H0 G H σ sl w Q, Rel aw ag K G0 H0 G H σ sl w → Post aw ag K exA exF W (rrV aw ag K H0 σ sl) G0 H0 G σ sl Q (v sl w) → te σ H Q
def SP (v : List Slt → Wl → Rz PyData) (te : TE) : Prop := ∀ G0 H0 G H σ sl w Q, Rel aw ag K G0 H0 G H σ sl w → Post aw ag K exA exF W (rrP aw K) G0 H0 G σ sl Q (v sl w) → te σ H Q
def SB (v : List Slt → Wl → Rz Bool) (tt : TT) : Prop := ∀ G0 H0 G H σ sl w Q, Rel aw ag K G0 H0 G H σ sl w → Post aw ag K exA exF W rrB G0 H0 G σ sl Q (v sl w) → tt σ H Q
def SL (v : List Slt → Wl → Rz (List PyData)) (ta : TA) : Prop := ∀ G0 H0 G H σ sl w Q, Rel aw ag K G0 H0 G H σ sl w → Post aw ag K exA exF W (rrL aw K) G0 H0 G σ sl Q (v sl w) → ta σ H Q
def SQ (v : List Slt → Wl → Rz (List PyData)) (ta : TA) : Prop := ∀ G0 H0 G H σ sl w Q, Rel aw ag K G0 H0 G H σ sl w → Post aw ag K exA exF W (rrQ aw K) G0 H0 G σ sl Q (v sl w) → ta σ H Q
def SO (v : List Slt → Wl → Rz (Option Int)) (to : TO) : Prop := ∀ G0 H0 G H σ sl w Q, Rel aw ag K G0 H0 G H σ sl w → Post aw ag K exA exF W rrO G0 H0 G σ sl Q (v sl w) → to σ H Q
end
section
variable {aw ag : Addr} {K : PySem.W.Frag} {exA : Nat → Addr} {exF : Nat → List Str} {W : WX} {G0 H0 G G1 H H1 : Hp} {σ : L2.St} {sl : List Slt} {w : Wl} {v : V} {r : Got} {d : PyData}
theorem rq_of (R : Rel aw ag K G0 H0 G H σ sl w) (h : RpR aw ag K H0 G H σ sl v r) : Rq aw K G H v r.d := by
  cases r with
  | val d => exact .inl h
  | fresh ds =>
    obtain ⟨p, vs, rfl, h1, h2, h3, h4, h5, h6, h7, h8⟩ := h
    exact .inr ⟨p, vs, ds, rfl, rfl, h1, h7, h8⟩
/-- what is wanted of an operation's result, from what is wanted behind it -/
theorem outR {Q : VK} (R : Rel aw ag K G0 H0 G H σ sl w) (h : Post aw ag K exA exF W (rrV aw ag K H0 σ sl) G0 H0 G σ sl Q (.ok r w)) : OutR aw K G H Q r := by
  cases r with
  | val d =>
    refine ⟨fun v hv => h v G H R (Same.refl G) hv, fun ds e p vs hp r hl => ?_⟩
    subst e
    obtain ⟨R1, S1, r1⟩ := tupR R hp r hl
    exact h _ _ _ R1 S1 r1
  | fresh ds =>
    intro p vs hp r hl
    obtain ⟨R1, r1⟩ := freshR R hp r hl
    exact h _ _ _ R1 (Same.refl G) r1
theorem SE.sp {v : List Slt → Wl → Rz Got} {te : TE} (h : SE aw ag K exA exF W v te) : SP aw ag K exA exF W (fun sl w => (v sl w).map Got.d) te := fun G0 H0 G H σ sl w Q R p =>
  h G0 H0 G H σ sl w Q R (Post.map p fun a w1 b G1 H1 _ R1 S1 r q => q b G1 H1 R1 (Same.refl _) (rq_of R1 r))
/-- a value that is told to stand still -/
theorem SE.still {v : List Slt → Wl → Rz Got} {te : TE} (h : SE aw ag K exA exF W v te) {α : Type} {β : Type} {Rr : Hp → Hp → β → α → Prop} {Q' : β → Hp → Prop} {f : Got → Wl → Rz α} {Q : VK} (R : Rel aw ag K G0 H0 G H σ sl w)
    (p : Post aw ag K exA exF W Rr G0 H0 G σ sl Q' ((v sl w).bnd f))
    (k : ∀ r w1 x G1 H1, Rel aw ag K G0 H0 G1 H1 σ sl w1 → Same G G1 → Rp aw K G1 x r.d → Post aw ag K exA exF W Rr G0 H0 G1 σ sl Q' (f r w1) → Q x H1) : te σ H Q :=
  h G0 H0 G H σ sl w Q R (Post.bnd p fun r w1 x G1 H1 _ R1 S1 hr q => by
    obtain ⟨G2, R2, S2, r2⟩ := esc R1 hr
    exact k r w1 x G2 H1 R2 (S1.trans S2) r2 (Post.mono S2 q))
theorem Base.trans (B : Base aw ag G0 H0 G H w) {w1 : Wl} (C : Base aw ag G H G1 H1 w1) : Base aw ag G0 H0 G1 H1 w1 := by
  have hne : ∀ a, H0 a ≠ none → H a ≠ none := fun a e => by
    by_cases h1 : a = aw
    · rw [h1, B.hw]; exact fun z => by cases z
    · by_cases h2 : a = ag
      · rw [h2, B.hg]; exact fun z => by cases z
      · cases q : H0 a with
        | none => exact absurd q e
        | some o => rw [B.fr a o q h1 h2]; exact fun z => by cases z
  exact ⟨C.gh, B.g0.trans C.g0, fun a o e n1 n2 => C.fr a o (B.fr a o e n1 n2) n1 n2, fun a e1 e2 => C.old a (hne a e1) (B.old a e1 e2), C.hw, C.hg, C.gw, C.gg⟩
theorem Base.self (B : Base aw ag G0 H0 G H w) : Base aw ag G H G H w := ⟨B.gh, Same.refl G, fun _ _ e _ _ => e, fun _ _ e => e, B.hw, B.hg, B.gw, B.gg⟩
/-- behind a call -/
theorem Rel.call (R : Rel aw ag K G0 H0 G H σ sl w) {w1 : Wl} (C : Base aw ag G H G1 H1 w1) : Rel aw ag K G0 H0 G1 H1 σ sl w1 :=
  ⟨R.b.trans C, fun i d e => by
    obtain ⟨v, q1, q2⟩ := R.val i d e
    exact ⟨v, q1, q2.mono C.g0⟩, fun i ds e => by
    obtain ⟨a, vs, q1, q2, q3, q4, q5, q6, q7, q8⟩ := R.own i ds e
    exact ⟨a, vs, q1, C.fr _ _ q2 q5 q6, C.old a (by rw [q2]; exact fun z => by cases z) q3, q4, q5, q6, q7.mono C.g0, q8⟩, R.inj, R.len⟩
end
end Rx
set_option Elab.async false
set_option linter.all false
set_option maxRecDepth 100000
set_option maxHeartbeats 2000000
/-! Rx: expressions, one by one. -/
namespace Rx
open PySem PySem.Spec PyProof.Rows L2

/-! ### what is walked -/
def Yields (aw : Addr) (K : PySem.W.Frag) (G H : Hp) (x : V) (H' : Hp) (d : PyData) : Prop :=
  (H' = H ∧ Rp aw K G x d) ∨ ∃ p vs ds, H p = none ∧ H' = upd H p (.tup vs) ∧ x = .ref p ∧ d = .tuple ds ∧ Rps aw K G vs ds ∧ vs.length ≤ sizeLine
def ItOk (aw : Addr) (K : PySem.W.Frag) (G : Hp) (J : It) (ds : List PyData) : Prop :=
  ∀ (i : Nat) (H : Hp), Same G H → (∀ d, ds[i]? = some d → J.go i H ∧ ∀ x H', J.yld i H x H' → Yields aw K G H x H' d) ∧ (i = ds.length → J.stop i H)
def rrI (aw : Addr) (K : PySem.W.Frag) (G H : Hp) (J : It) (ds : List PyData) : Prop := ItOk aw K G J ds ∧ ds.length ≤ sizeLine
theorem ItOk.mono {aw : Addr} {K : PySem.W.Frag} {G G' : Hp} {J : It} {ds : List PyData} (S : Same G G') (h : ItOk aw K G J ds) : ItOk aw K G' J ds := fun i H S2 =>
  ⟨fun d hd => ⟨((h i H (S.trans S2)).1 d hd).1, fun x H' y => by
    rcases ((h i H (S.trans S2)).1 d hd).2 x H' y with ⟨e, r⟩ | ⟨p, vs, es, a1, a2, a3, a4, a5, a6⟩
    · exact .inl ⟨e, r.mono S⟩
    · exact .inr ⟨p, vs, es, a1, a2, a3, a4, a5.mono S, a6⟩⟩, (h i H (S.trans S2)).2⟩
def SI (aw ag : Addr) (K : PySem.W.Frag) (exA : Nat → Addr) (exF : Nat → List Str) (W : WX) (v : List Slt → Wl → Rz (List PyData)) (wi : TI) : Prop := ∀ G0 H0 G H σ sl w Q, Rel aw ag K G0 H0 G H σ sl w → Post aw ag K exA exF W (rrI aw K) G0 H0 G σ sl Q (v sl w) → wi σ H Q
theorem tru_run' {K : PySem.W.Frag} {aw : Addr} {H : Hp} {x : V} {d : PyData} {b : Bool} (hx : Rp aw K H x d) (h : truD d = some b) : TruV K x H b := by
  cases hx with
  | non => cases h; rfl
  | bl c => cases h; rfl
  | int i => cases h; rfl
  | str y =>
    have h' : (if y.length ≤ sizeLine then some ((y.length : Int) != 0) else none) = some b := h
    split at h'
    · cases h'
      exact ⟨by assumption, rfl⟩
    · cases h'
  | lst h1 h2 h3 =>
    cases h
    refine .inl ⟨_, SqL.of h1, ?_⟩
    cases h3 <;> rfl
  | tup h1 h2 h3 =>
    cases h
    refine .inr (.inl ⟨_, h1, ?_⟩)
    cases h3 <;> rfl
  | wel => cases h
/-- a list or a tuple that stands still -/
def iSeq (K : PySem.W.Frag) (te : TE) : TI := fun σ H R => te σ H fun x H1 => ∃ a, x = .ref a ∧ (((∃ xs, SqL K H1 a xs) ∧ R (Itl K a) H1) ∨ ((∃ xs, SqT K H1 a xs) ∧ R (Itt K a) H1))
theorem pi_seq {X : Cx} {tg l : Expr} {tl : TE} (hl : PE X l tl) : PI X tg l (iSeq X.K tl) := by
  refine ⟨fun pins s σ H R I h => ?_⟩
  refine thn (hl.run pins s σ H _ I h) fun v s1 ⟨x, H1, I1, r1, q1⟩ => ?_
  obtain ⟨a, e, q⟩ := q1
  subst e
  cases r1
  rcases q with ⟨⟨xs, hq⟩, q⟩ | ⟨⟨xs, hq⟩, q⟩
  · obtain ⟨its, rv, p, hz⟩ := I1.list hq
    refine wpAny_pyIter_list p.isList ?_
    refine ⟨s1.heap.objs.size, [s1.heap.objs.size], _, _, H1, rfl, I1.kept (t' := s1.toks) fun b o e => Heap.get?_push_of_some _ e, turn_list a _, ⟨_, Heap.get?_push_size _ rfl, rfl, rfl⟩, fun b hb => ?_, q⟩
    have e : b = s1.heap.objs.size := by simpa using hb
    subst e
    exact I1.fpOk (Nat.le_refl _) (I1.hok.fresh (Nat.le_refl _))
  · obtain ⟨its, rv, p, hz⟩ := I1.tuple hq
    refine wpAny_pyIter_tuple (show s1.heap.IsTuple a its.toArray from p) ?_
    refine ⟨s1.heap.objs.size, [s1.heap.objs.size], _, _, H1, rfl, I1.kept (t' := s1.toks) fun b o e => Heap.get?_push_of_some _ e, turn_tuple a _, ⟨_, Heap.get?_push_size _ rfl, rfl, rfl⟩, fun b hb => ?_, q⟩
    have e : b = s1.heap.objs.size := by simpa using hb
    subst e
    exact I1.fpOk (Nat.le_refl _) (I1.hok.fresh (Nat.le_refl _))
theorem sqL_inj {K : PySem.W.Frag} {H : Hp} {a : Addr} {xs : List V} (h : H a = some (.lst xs)) : SqL K H a xs := SqL.of h
theorem itl_ok {aw : Addr} {K : PySem.W.Frag} {G : Hp} {a : Addr} {vs : List V} {ds : List PyData} (h : G a = some (.lst vs)) (r : Rps aw K G vs ds) : ItOk aw K G (Itl K a) ds := fun i H S =>
  ⟨fun d hd => by
    obtain ⟨v, e1, e2⟩ := r.get hd
    refine ⟨⟨vs, v, SqL.of (S _ _ h), e1⟩, fun x H' y => ?_⟩
    obtain ⟨e, y⟩ := y
    have z := y vs (SqL.of (S _ _ h))
    rw [e1] at z
    cases z
    exact .inl ⟨e, e2⟩, fun e => ⟨vs, SqL.of (S _ _ h), by rw [r.length, e]; exact Nat.le_refl _⟩⟩
theorem itt_ok {aw : Addr} {K : PySem.W.Frag} {G : Hp} {a : Addr} {vs : List V} {ds : List PyData} (h : SqT K G a vs) (r : Rps aw K G vs ds) : ItOk aw K G (Itt K a) ds := fun i H S =>
  ⟨fun d hd => by
    obtain ⟨v, e1, e2⟩ := r.get hd
    refine ⟨⟨vs, v, Same.sqt S h, e1⟩, fun x H' y => ?_⟩
    obtain ⟨e, y⟩ := y
    have z := y vs (Same.sqt S h)
    rw [e1] at z
    cases z
    exact .inl ⟨e, e2⟩, fun e => ⟨vs, Same.sqt S h, by rw [r.length, e]; exact Nat.le_refl _⟩⟩
theorem rng_len {a b : Int} {ds : List PyData} (h : rngD a b = some ds) : (-1000000 ≤ a ∧ a ≤ 1000000 ∧ -1000000 ≤ b ∧ b ≤ 1000000) ∧ ds = (List.range (b - a).toNat).map fun (i : Nat) => PyData.int (a + (i : Int)) := by
  unfold rngD at h
  split at h
  · cases h
    exact ⟨by assumption, rfl⟩
  · cases h
theorem itr_ok {aw : Addr} {K : PySem.W.Frag} {G : Hp} {a b : Int} {ds : List PyData} (h : rngD a b = some ds) : ItOk aw K G (Itr a (b - a).toNat) ds := by
  obtain ⟨_, e⟩ := rng_len h
  subst e
  refine fun i H S => ⟨fun d hd => ?_, fun e => ?_⟩
  · rw [List.getElem?_map] at hd
    by_cases hi : i < (b - a).toNat
    · rw [List.getElem?_range hi] at hd
      cases hd
      exact ⟨hi, fun x H' y => .inl ⟨y.1, by rw [y.2]; exact .int _⟩⟩
    · rw [List.getElem?_eq_none (by rw [List.length_range]; omega)] at hd
      cases hd
  · rw [List.length_map, List.length_range] at e
    show (b - a).toNat ≤ i
    omega
section
variable {P : Program} {wd : World} {K : PySem.W.Frag} {mg : Str → Option Value} {base : Heap} {tb : Tab} {aw ag : Addr} {exA : Nat → Addr} {exF : Nat → List Str} {cl : Nat → List PyData → Wl → Rz PyData} {lv : Nat}
variable (P wd K mg base tb aw ag exA exF cl lv)
/-- what is shown of a term -/
structure Ok (t : T) : Prop where
  e : ∀ c W e, chkE tb t c e = true → ∃ te, (∀ X, Ctx P wd K mg base lv W c X → PE X e te) ∧
    (∀ X, Ctx P wd K mg base lv W c X → ∀ i y py spos, isLc e = true → X.N[i]? = some y → X.env.scope.names.lookup y = some .local → swapsWith e (some (.Name y py)) spos.line X.env = pure true → PS X (.Assign [.Name y py] e spos) (tAsg te (gName i))) ∧
    SE aw ag K exA exF W (sem cl t).v te ∧ SP aw ag K exA exF W (sem cl t).p te
  ts : ∀ c W e, chkE tb t c e = true → ∃ tt, (∀ X, Ctx P wd K mg base lv W c X → PT X e tt) ∧ SB aw ag K exA exF W (sem cl t).b tt
  i : ∀ c W e, chkE tb t c e = true → ∃ wi, (∀ X tg, Ctx P wd K mg base lv W c X → PI X tg e wi) ∧ SI aw ag K exA exF W (sem cl t).i wi
  l : ∀ c W es, chkL tb t c es = true → ∃ ta, (∀ X, Ctx P wd K mg base lv W c X → PA X es ta) ∧ (∀ X, Ctx P wd K mg base lv W c X → ∀ kws : List Keyword, kws.map (·.value) = es → PK X kws ta) ∧ SL aw ag K exA exF W (sem cl t).l ta ∧ SQ aw ag K exA exF W (sem cl t).l1 ta
  ao : ∀ c W es, chkL tb t c es = true → es ≠ [] → ∃ ta to, (∀ X, Ctx P wd K mg base lv W c X → ∀ pos, PE X (.BoolOp .And es pos) ta ∧ PE X (.BoolOp .Or es pos) to) ∧ SE aw ag K exA exF W (sem cl t).av ta ∧ SE aw ag K exA exF W (sem cl t).ov to
  aot : ∀ c W es, chkL tb t c es = true → es ≠ [] → ∃ ta to, (∀ X, Ctx P wd K mg base lv W c X → ∀ pos, PW X (.BoolOp .And es pos) ta ∧ PW X (.BoolOp .Or es pos) to) ∧ SB aw ag K exA exF W (sem cl t).at_ ta ∧ SB aw ag K exA exF W (sem cl t).ot to
end
section
variable {P : Program} {wd : World} {K : PySem.W.Frag} {mg : Str → Option Value} {base : Heap} {tb : Tab} {aw ag : Addr} {exA : Nat → Addr} {exF : Nat → List Str} {cl : Nat → List PyData → Wl → Rz PyData} {lv : Nat} {W : WX} {c : CkC} {X : Cx}
/-! ### what a check tells of the text -/
def plainE : Expr → Bool
  | .BinOp .. => true
  | .UnaryOp .USub _ _ => true
  | .ListComp .. => true
  | .Call .. => true
  | .Constant .. => true
  | .Subscript .. => true
  | .Name .. => true
  | .List .. => true
  | .Tuple .. => true
  | _ => false
theorem plain_true {e : Expr} (h : plainE e = true) (env : Env) (whole : Sem Value) : isTrue e env whole = (do let v ← whole; standAt e.pos; holding [v] (truthy v)) := by
  cases e <;> first | rfl | (cases h; done) | skip
  rename_i op _ _
  cases op <;> first | rfl | (cases h; done)
theorem chk_form {t : T} {c : CkC} {e : Expr} (h : chkE tb t c e = true) : (match e with | .Starred .. => false | .Set .. => false | .Slice .. => false | .SetComp .. => false | .DictComp .. => false | _ => true) = true := by
  cases e <;> first | rfl | (exfalso; cases t <;> exact absurd (show false = true from h) (by decide))
theorem chk_star {t : T} {c : CkC} {e : Expr} (h : chkE tb t c e = true) (es : List Expr) (env : Env) : starEach (e :: es) env = (false, eval e env) :: starEach es env := by
  have f := chk_form h
  cases e <;> first | rfl | (cases f; done)
theorem chk_nostar : ∀ {t : T} {c : CkC} {es : List Expr}, chkL tb t c es = true → ∀ env pos, (backTo pos (starEach es env)).any (·.1) = false
  | .nil, c, [], h, env, pos => rfl
  | .cons a r, c, e :: es, h, env, pos => by
    simp only [chkL, Bool.and_eq_true] at h
    rw [chk_star h.1]
    show ((false, _) :: backTo pos (starEach es env)).any (·.1) = false
    rw [List.any_cons, chk_nostar h.2 env pos]
    rfl
  | .nil, c, _ :: _, h, _, _ => by simp [chkL] at h
  | .cons a r, c, [], h, _, _ => by simp [chkL] at h
theorem chk_fold {t : T} {c : CkC} {e : Expr} (h : chkE tb t c e = true) (env : Env) (x : Value) : foldedSetIterable e env x = pure x := by
  have f := chk_form h
  cases e <;> first | rfl | (cases f; done)
theorem chk_ix {t : T} {c : CkC} {e : Expr} (h : chkE tb t c e = true) : PlainIx e := by
  have f := chk_form h
  intro o i
  cases e <;> first | rfl | (cases f; done)
theorem chk_slice {t : T} {c : CkC} {e : Expr} (h : chkE tb t c e = true) (h' : isLc e = false) (tg : Option Expr) (l : Nat) (env : Env) : swapsWith e tg l env = pure false := by
  cases e <;> first | rfl | (cases h'; done)
theorem vis_of {x : Str} (C : Ctx P wd K mg base lv W c X) (h : visB c.sc x = true) : Vis X.env.scope x := by
  rw [C.sc]
  unfold visB at h
  simp only [Bool.or_eq_true, decide_eq_true_eq] at h
  rcases h with (h | h) | h
  · exact .inl h
  · exact .inr (.inl h)
  · exact .inr (.inr h)
theorem dbg_of {x : Str} (h : dbgB x = true) : (x == ("__debug__" : Str)) = false ∧ (x == ("__classdict__" : Str)) = false := by
  unfold dbgB at h
  simp only [Bool.and_eq_true, Bool.not_eq_true'] at h
  exact h
theorem nm_of {i : Nat} {x : Str} (h : nmOk c i x = true) : c.N[i]? = some x ∧ visB c.sc x = true ∧ dbgB x = true := by
  unfold nmOk at h
  simp only [Bool.and_eq_true, decide_eq_true_eq] at h
  exact ⟨h.1.1, h.1.2, h.2⟩
theorem gl_of {x : Str} (C : Ctx P wd K mg base lv W c X) (h : glOk c x = true) : Gl X x ∧ (x == ("__debug__" : Str)) = false := by
  unfold glOk at h
  simp only [Bool.and_eq_true, decide_eq_true_eq] at h
  refine ⟨?_, (dbg_of h.2).1⟩
  show X.env.scope.names.lookup x = _
  rw [C.sc]
  exact h.1
/-! ### builders -/
theorem units_of (C : Ctx P wd K mg base lv W c X) : X.A.units + 70 < cLine := by
  have := C.room.un
  omega
/-- an expression whose test is its value's truth -/
theorem mkEx {t : T} {v : List Slt → Wl → Rz Got} (hs : sem cl t = Sm.ex v) (hl : ∀ c es, chkL tb t c es = false)
    (h : ∀ c W e, chkE tb t c e = true → plainE e = true ∧ ∃ te, (∀ X, Ctx P wd K mg base lv W c X → PE X e te) ∧
      (∀ X, Ctx P wd K mg base lv W c X → ∀ i y py spos, isLc e = true → X.N[i]? = some y → X.env.scope.names.lookup y = some .local → swapsWith e (some (.Name y py)) spos.line X.env = pure true → PS X (.Assign [.Name y py] e spos) (tAsg te (gName i))) ∧
      SE aw ag K exA exF W v te) : Ok P wd K mg base tb aw ag exA exF cl lv t where
  e := fun c W e hc => by
    obtain ⟨_, te, h1, h2, h3⟩ := h c W e hc
    rw [hs]
    exact ⟨te, h1, h2, h3, h3.sp⟩
  ts := fun c W e hc => by
    obtain ⟨hp, te, h1, h2, h3⟩ := h c W e hc
    rw [hs]
    refine ⟨fun σ H Q => te σ H fun x H' => ∃ k, TruV K x H' k ∧ Q k H', fun X C => ?_, fun G0 H0 G H σ sl w Q R p => ?_⟩
    · have z := pt_truth (h1 X C) fun whole => plain_true hp X.env whole
      rw [C.K] at z
      exact z
    · refine h3 G0 H0 G H σ sl w _ R (Post.bnd p fun a w1 b G1 H1 _ R1 S1 r q => ?_)
      obtain ⟨k, ek, q2⟩ := Post.ofO q
      exact ⟨k, tru_run' (rq_of R1 r |>.now R1.b.gh) ek, q2 k G1 H1 R1 (Same.refl _) rfl⟩
  i := fun c W e hc => by
    obtain ⟨hp, te, h1, h2, h3⟩ := h c W e hc
    rw [hs]
    refine ⟨iSeq K te, fun X tg C => ?_, fun G0 H0 G H σ sl w Q R p => ?_⟩
    · have z := pi_seq (tg := tg) (h1 X C)
      rw [C.K] at z
      exact z
    · refine SE.still h3 R p fun r w1 x G1 H1 R1 S1 hx q => ?_
      obtain ⟨ds, ek, q2⟩ := Post.ofO q
      cases r with
      | val d =>
        cases d with
        | list xs =>
          cases ek
          obtain ⟨a, vs, rfl, e1, e2, e3⟩ := hx.lst_inv
          exact ⟨a, rfl, .inl ⟨⟨vs, SqL.of (R1.b.gh _ _ e1)⟩, q2 _ G1 H1 R1 (Same.refl _) ⟨itl_ok e1 e3, by rw [← e3.length]; exact e2⟩⟩⟩
        | tuple xs =>
          cases ek
          obtain ⟨a, vs, rfl, e1, e2, e3⟩ := hx.tup_inv
          exact ⟨a, rfl, .inr ⟨⟨vs, Same.sqt R1.b.gh e1⟩, q2 _ G1 H1 R1 (Same.refl _) ⟨itt_ok e1 e3, by rw [← e3.length]; exact e2⟩⟩⟩
        | _ => cases ek
      | fresh xs =>
        cases ek
        obtain ⟨a, vs, rfl, e1, e2, e3⟩ := hx.lst_inv
        exact ⟨a, rfl, .inl ⟨⟨vs, SqL.of (R1.b.gh _ _ e1)⟩, q2 _ G1 H1 R1 (Same.refl _) ⟨itl_ok e1 e3, by rw [← e3.length]; exact e2⟩⟩⟩
  l := fun c W es hc => by rw [hl] at hc; cases hc
  ao := fun c W es hc => by rw [hl] at hc; cases hc
  aot := fun c W es hc => by rw [hl] at hc; cases hc
/-- an expression with a test of its own -/
theorem mkTst {t : T} {v : List Slt → Wl → Rz Got} {b : List Slt → Wl → Rz Bool} (hs : sem cl t = Sm.tst v b) (hl : ∀ c es, chkL tb t c es = false) (hi : ∀ c e, chkE tb t c e = true → isLc e = false)
    (h : ∀ c W e, chkE tb t c e = true → (∃ te, (∀ X, Ctx P wd K mg base lv W c X → PE X e te) ∧ SE aw ag K exA exF W v te) ∧ ∃ tt, (∀ X, Ctx P wd K mg base lv W c X → PT X e tt) ∧ SB aw ag K exA exF W b tt) : Ok P wd K mg base tb aw ag exA exF cl lv t where
  e := fun c W e hc => by
    obtain ⟨⟨te, h1, h3⟩, _⟩ := h c W e hc
    rw [hs]
    exact ⟨te, h1, (fun X _ i y py spos z => absurd z (by rw [hi c e hc]; decide)), h3, h3.sp⟩
  ts := fun c W e hc => by
    obtain ⟨_, tt, h1, h3⟩ := h c W e hc
    rw [hs]
    exact ⟨tt, h1, h3⟩
  i := fun c W e hc => by
    obtain ⟨⟨te, h1, h3⟩, _⟩ := h c W e hc
    rw [hs]
    refine ⟨iSeq K te, fun X tg C => ?_, fun G0 H0 G H σ sl w Q R p => ?_⟩
    · have z := pi_seq (tg := tg) (h1 X C)
      rw [C.K] at z
      exact z
    · refine SE.still h3 R p fun r w1 x G1 H1 R1 S1 hx q => ?_
      obtain ⟨ds, ek, q2⟩ := Post.ofO q
      cases r with
      | val d =>
        cases d with
        | list xs =>
          cases ek
          obtain ⟨a, vs, rfl, e1, e2, e3⟩ := hx.lst_inv
          exact ⟨a, rfl, .inl ⟨⟨vs, SqL.of (R1.b.gh _ _ e1)⟩, q2 _ G1 H1 R1 (Same.refl _) ⟨itl_ok e1 e3, by rw [← e3.length]; exact e2⟩⟩⟩
        | tuple xs =>
          cases ek
          obtain ⟨a, vs, rfl, e1, e2, e3⟩ := hx.tup_inv
          exact ⟨a, rfl, .inr ⟨⟨vs, Same.sqt R1.b.gh e1⟩, q2 _ G1 H1 R1 (Same.refl _) ⟨itt_ok e1 e3, by rw [← e3.length]; exact e2⟩⟩⟩
        | _ => cases ek
      | fresh xs =>
        cases ek
        obtain ⟨a, vs, rfl, e1, e2, e3⟩ := hx.lst_inv
        exact ⟨a, rfl, .inl ⟨⟨vs, SqL.of (R1.b.gh _ _ e1)⟩, q2 _ G1 H1 R1 (Same.refl _) ⟨itl_ok e1 e3, by rw [← e3.length]; exact e2⟩⟩⟩
  l := fun c W es hc => by rw [hl] at hc; cases hc
  ao := fun c W es hc => by rw [hl] at hc; cases hc
  aot := fun c W es hc => by rw [hl] at hc; cases hc
end
end Rx
set_option Elab.async false
set_option linter.all false
set_option maxRecDepth 100000
set_option maxHeartbeats 2000000
namespace Rx
open PySem PySem.Spec PyProof.Rows L2
section
variable {P : Program} {wd : World} {K : PySem.W.Frag} {mg : Str → Option Value} {base : Heap} {tb : Tab} {aw ag : Addr} {exA : Nat → Addr} {exF : Nat → List Str} {cl : Nat → List PyData → Wl → Rz PyData} {lv : Nat}
theorem noLc {e : Expr} {te : TE} {W : WX} {c : CkC} (h : isLc e = false) : ∀ X, Ctx P wd K mg base lv W c X → ∀ i y py spos, isLc e = true → X.N[i]? = some y → X.env.scope.names.lookup y = some .local → swapsWith e (some (.Name y py)) spos.line X.env = pure true → PS X (.Assign [.Name y py] e spos) (tAsg te (gName i)) :=
  fun X _ i y py spos z => absurd z (by rw [h]; decide)
theorem chkL_no {t : T} (h : (match t with | .nil => false | .cons .. => false | _ => true) = true) : ∀ c es, chkL tb t c es = false := by
  intro c es
  cases t <;> first | (cases h; done) | (cases es <;> simp [chkL])
theorem ok_kI (i : Int) : Ok P wd K mg base tb aw ag exA exF cl lv (.kI i) := mkEx rfl (chkL_no rfl) fun c W e h => by
  cases e <;> first | (simp [chkE] at h; done) | skip
  rename_i k _ _
  cases k <;> first | (simp [chkE] at h; done) | skip
  simp only [chkE, decide_eq_true_eq] at h
  subst h
  exact ⟨rfl, tC (.int i), fun X _ => pe_int, noLc rfl, fun G0 H0 G H σ sl w Q R p => p _ G H R (Same.refl _) (.int i)⟩
theorem ok_kS (s : Str) : Ok P wd K mg base tb aw ag exA exF cl lv (.kS s) := mkEx rfl (chkL_no rfl) fun c W e h => by
  cases e <;> first | (simp [chkE] at h; done) | skip
  rename_i k _ _
  cases k <;> first | (simp [chkE] at h; done) | skip
  simp only [chkE, decide_eq_true_eq] at h
  subst h
  exact ⟨rfl, tC (.str s), fun X _ => pe_str, noLc rfl, fun G0 H0 G H σ sl w Q R p => p _ G H R (Same.refl _) (.str s)⟩
theorem ok_kB (b : Bool) : Ok P wd K mg base tb aw ag exA exF cl lv (.kB b) := mkEx rfl (chkL_no rfl) fun c W e h => by
  cases e <;> first | (simp [chkE] at h; done) | skip
  rename_i k _ _
  cases k <;> first | (simp [chkE] at h; done) | skip
  simp only [chkE, decide_eq_true_eq] at h
  subst h
  exact ⟨rfl, tC (.bl b), fun X _ => pe_bl, noLc rfl, fun G0 H0 G H σ sl w Q R p => p _ G H R (Same.refl _) (.bl b)⟩
theorem ok_kN : Ok P wd K mg base tb aw ag exA exF cl lv .kN := mkEx rfl (chkL_no rfl) fun c W e h => by
  cases e <;> first | (simp [chkE] at h; done) | skip
  rename_i k _ _
  cases k <;> first | (simp [chkE] at h; done) | skip
  exact ⟨rfl, tC .non, fun X _ => pe_non, noLc rfl, fun G0 H0 G H σ sl w Q R p => p _ G H R (Same.refl _) .non⟩
/-! names -/
theorem slotV_run {W : WX} {i : Nat} : SE aw ag K exA exF W (slotV i) (tVar i) := fun G0 H0 G H σ sl w Q R p => by
  unfold slotV at p
  split at p
  · rename_i d hd
    obtain ⟨v, e1, e2⟩ := R.val i d hd
    exact ⟨v, e1, p v G H R (Same.refl _) e2⟩
  · exact False.elim p
theorem slotP_run {W : WX} {i : Nat} : SP aw ag K exA exF W (slotP i) (tVar i) := fun G0 H0 G H σ sl w Q R p => by
  unfold slotP at p
  split at p
  · rename_i d hd
    obtain ⟨v, e1, e2⟩ := R.val i d hd
    exact ⟨v, e1, p v G H R (Same.refl _) (.inl e2)⟩
  · rename_i ds hd
    obtain ⟨a, vs, q1, q2, q3, q4, q5, q6, q7, q8⟩ := R.own i ds hd
    exact ⟨.ref a, q1, p _ G H R (Same.refl _) (.inr ⟨a, vs, ds, rfl, rfl, q2, q7, q8⟩)⟩
  · exact False.elim p
theorem nm_inv {i : Nat} {c : CkC} {e : Expr} (h : chkE tb (.nm i) c e = true) : ∃ x pos, e = .Name x pos ∧ nmOk c i x = true := by
  cases e <;> first | (simp [chkE] at h; done) | skip
  exact ⟨_, _, rfl, by simpa [chkE] using h⟩
theorem pe_nm {W : WX} {c : CkC} {X : Cx} {i : Nat} {x : Str} {pos : Pos} (h : nmOk c i x = true) (C : Ctx P wd K mg base lv W c X) : PE X (.Name x pos) (tVar i) := by
  obtain ⟨h1, h2, h3⟩ := nm_of h
  exact pe_var (by rw [C.N]; exact h1) (vis_of C h2) (dbg_of h3).1 (dbg_of h3).2
theorem ok_nm (i : Nat) : Ok P wd K mg base tb aw ag exA exF cl lv (.nm i) where
  e := fun c W e h => by
    obtain ⟨x, pos, rfl, hn⟩ := nm_inv h
    exact ⟨tVar i, fun X C => pe_nm hn C, noLc rfl, slotV_run, slotP_run⟩
  ts := fun c W e h => by
    obtain ⟨x, pos, rfl, hn⟩ := nm_inv h
    refine ⟨fun σ H Q => tVar i σ H fun x H' => ∃ k, TruV K x H' k ∧ Q k H', fun X C => ?_, fun G0 H0 G H σ sl w Q R p => ?_⟩
    · have z := pt_truth (pe_nm (pos := pos) hn C) fun whole => plain_true rfl X.env whole
      rw [C.K] at z
      exact z
    · refine slotP_run (W := W) G0 H0 G H σ sl w _ R (Post.bnd p fun a w1 b G1 H1 _ R1 S1 r q => ?_)
      obtain ⟨k, ek, q2⟩ := Post.ofO q
      exact ⟨k, tru_run' (Rq.now R1.b.gh r) ek, q2 k G1 H1 R1 (Same.refl _) rfl⟩
  i := fun c W e h => by
    obtain ⟨x, pos, rfl, hn⟩ := nm_inv h
    refine ⟨iSeq K (tVar i), fun X tg C => ?_, fun G0 H0 G H σ sl w Q R p => ?_⟩
    · have z := pi_seq (tg := tg) (pe_nm (pos := pos) hn C)
      rw [C.K] at z
      exact z
    · refine SE.still (slotV_run (W := W)) R p fun r w1 x G1 H1 R1 S1 hx q => ?_
      obtain ⟨ds, ek, q2⟩ := Post.ofO q
      cases r with
      | val d =>
        cases d with
        | list xs =>
          cases ek
          obtain ⟨a, vs, rfl, e1, e2, e3⟩ := hx.lst_inv
          exact ⟨a, rfl, .inl ⟨⟨vs, SqL.of (R1.b.gh _ _ e1)⟩, q2 _ G1 H1 R1 (Same.refl _) ⟨itl_ok e1 e3, by rw [← e3.length]; exact e2⟩⟩⟩
        | tuple xs =>
          cases ek
          obtain ⟨a, vs, rfl, e1, e2, e3⟩ := hx.tup_inv
          exact ⟨a, rfl, .inr ⟨⟨vs, Same.sqt R1.b.gh e1⟩, q2 _ G1 H1 R1 (Same.refl _) ⟨itt_ok e1 e3, by rw [← e3.length]; exact e2⟩⟩⟩
        | _ => cases ek
      | fresh xs =>
        cases ek
        obtain ⟨a, vs, rfl, e1, e2, e3⟩ := hx.lst_inv
        exact ⟨a, rfl, .inl ⟨⟨vs, SqL.of (R1.b.gh _ _ e1)⟩, q2 _ G1 H1 R1 (Same.refl _) ⟨itl_ok e1 e3, by rw [← e3.length]; exact e2⟩⟩⟩
  l := fun c W es h => by rw [chkL_no rfl] at h; cases h
  ao := fun c W es h => by rw [chkL_no rfl] at h; cases h
  aot := fun c W es h => by rw [chkL_no rfl] at h; cases h
/-! operators -/
theorem ok_bin (o : BO) {a b : T} (ha : Ok P wd K mg base tb aw ag exA exF cl lv a) (hb : Ok P wd K mg base tb aw ag exA exF cl lv b) : Ok P wd K mg base tb aw ag exA exF cl lv (.bin o a b) := mkEx rfl (chkL_no rfl) fun c W e h => by
  cases e <;> first | (simp [chkE] at h; done) | skip
  rename_i ea eo eb pos
  simp only [chkE, Bool.and_eq_true, decide_eq_true_eq] at h
  obtain ⟨⟨h1, h2⟩, h3⟩ := h
  subst h1
  obtain ⟨ta, a1, _, a3, _⟩ := ha.e c W ea h2
  obtain ⟨tb', b1, _, _, b4⟩ := hb.e c W eb h3
  refine ⟨rfl, tOp (rBin aw K o) ta tb', fun X C => ?_, noLc rfl, fun G0 H0 G H σ sl w Q R p => ?_⟩
  · have z := op_bin (X := X) (aw := aw) o
    rw [C.K] at z
    exact pe_op z (a1 X C) (b1 X C)
  · refine SE.still a3 R p fun r w1 x G1 H1 R1 S1 hx q => ?_
    refine b4 G0 H0 G1 H1 σ sl w1 _ R1 (Post.bnd q fun d w2 y G2 H2 _ R2 S2 hy q2 => ?_)
    obtain ⟨z, ez, q3⟩ := Post.ofO q2
    exact ⟨G2, r.d, d, z, R2.b.gh, hx.mono S2, hy, ez, outR R2 q3⟩
theorem ok_neg {a : T} (ha : Ok P wd K mg base tb aw ag exA exF cl lv a) : Ok P wd K mg base tb aw ag exA exF cl lv (.neg a) := mkEx rfl (chkL_no rfl) fun c W e h => by
  cases e <;> first | (simp [chkE] at h; done) | skip
  rename_i eo ea pos
  cases eo <;> first | (simp [chkE] at h; done) | skip
  simp only [chkE] at h
  obtain ⟨ta, a1, _, a3, _⟩ := ha.e c W ea h
  refine ⟨rfl, tUn (rU fun i => .int (-i)) ta, fun X C => pe_un un_neg (a1 X C), noLc rfl, fun G0 H0 G H σ sl w Q R p => ?_⟩
  refine SE.still a3 R p fun r w1 x G1 H1 R1 S1 hx q => ?_
  obtain ⟨i, ed, q2⟩ := Post.int q
  rw [ed] at hx
  cases hx.int_inv
  exact ⟨i, rfl, q2 _ G1 H1 R1 (Same.refl _) (.int _)⟩
theorem se_cmp {o : CO} {a b : T} {ta tb' : TE} {W : WX} (a3 : SE aw ag K exA exF W (sem cl a).v ta) (b4 : SP aw ag K exA exF W (sem cl b).p tb') : SE aw ag K exA exF W (vCmp o (sem cl a) (sem cl b)) (tOp (rCmp aw K o) ta tb') := fun G0 H0 G H σ sl w Q R p => by
  refine SE.still a3 R p fun r w1 x G1 H1 R1 S1 hx q => ?_
  refine b4 G0 H0 G1 H1 σ sl w1 _ R1 (Post.bnd q fun d w2 y G2 H2 _ R2 S2 hy q2 => ?_)
  obtain ⟨z, ez, q3⟩ := Post.ofOm q2
  exact ⟨G2, r.d, d, z, R2.b.gh, hx.mono S2, hy, ez, q3 _ G2 H2 R2 (Same.refl _) (.bl z)⟩
/-- a truth value as a test -/
theorem sb_of {v : List Slt → Wl → Rz Got} {te : TE} {W : WX} (h : SE aw ag K exA exF W v te) : SB aw ag K exA exF W (asB v) (tTest te) := fun G0 H0 G H σ sl w Q R p =>
  h G0 H0 G H σ sl w _ R (Post.bnd p fun r w1 x G1 H1 _ R1 S1 hr q => by
    cases r with
    | val d =>
      cases d <;> first | exact False.elim q | skip
      rename_i b _
      cases Rp.bl_inv hr
      exact ⟨b, rfl, q b G1 H1 R1 (Same.refl _) rfl⟩
    | fresh ds => exact False.elim q)
theorem cmp_of {X : Cx} {W : WX} {c : CkC} (o : CO) (C : Ctx P wd K mg base lv W c X) : OpR X (compareOp o.op) (rCmp aw K o) := by
  have z := op_cmp (X := X) (aw := aw) o (units_of C)
  rw [C.K] at z
  exact z
theorem ok_cmp (o : CO) {a b : T} (ha : Ok P wd K mg base tb aw ag exA exF cl lv a) (hb : Ok P wd K mg base tb aw ag exA exF cl lv b) : Ok P wd K mg base tb aw ag exA exF cl lv (.cmp o a b) := mkTst rfl (chkL_no rfl) (fun c e h => by cases e <;> first | rfl | (simp [chkE] at h; done)) fun c W e h => by
  cases e <;> first | (simp [chkE] at h; done) | skip
  rename_i ea ops es pos
  rcases ops with _ | ⟨eo, _ | ⟨_, _⟩⟩ <;> first | (simp [chkE] at h; done) | skip
  rcases es with _ | ⟨eb, _ | ⟨_, _⟩⟩ <;> first | (simp [chkE] at h; done) | skip
  simp only [chkE, Bool.and_eq_true, decide_eq_true_eq, Bool.not_eq_true'] at h
  obtain ⟨⟨⟨h1, h2⟩, h3⟩, h4⟩ := h
  subst h1
  obtain ⟨ta, a1, _, a3, _⟩ := ha.e c W ea h3
  obtain ⟨tb', b1, _, _, b4⟩ := hb.e c W eb h4
  have s := se_cmp (o := o) a3 b4
  exact ⟨⟨tOp (rCmp aw K o) ta tb', fun X C => pe_cmpR (cmp_of o C) (a1 X C) (b1 X C) h2, s⟩, tTest (tOp (rCmp aw K o) ta tb'), fun X C => pt_cmpR (cmp_of o C) (a1 X C) (b1 X C) h2, sb_of s⟩
end
end Rx
set_option Elab.async false
set_option linter.all false
set_option maxRecDepth 100000
set_option maxHeartbeats 2000000
namespace Rx
open PySem PySem.Spec PyProof.Rows L2
section
variable {P : Program} {wd : World} {K : PySem.W.Frag} {mg : Str → Option Value} {base : Heap} {tb : Tab} {aw ag : Addr} {exA : Nat → Addr} {exF : Nat → List Str} {cl : Nat → List PyData → Wl → Rz PyData} {lv : Nat}
theorem ok_cmp2 (o p : CO) {a b d : T} (ha : Ok P wd K mg base tb aw ag exA exF cl lv a) (hb : Ok P wd K mg base tb aw ag exA exF cl lv b) (hd : Ok P wd K mg base tb aw ag exA exF cl lv d) : Ok P wd K mg base tb aw ag exA exF cl lv (.cmp2 o p a b d) := mkTst rfl (chkL_no rfl) (fun c e h => by cases e <;> first | rfl | (simp [chkE] at h; done)) fun c W e h => by
  cases e <;> first | (simp [chkE] at h; done) | skip
  rename_i ea ops es pos
  rcases ops with _ | ⟨eo, _ | ⟨ep, _ | ⟨_, _⟩⟩⟩ <;> first | (simp [chkE] at h; done) | skip
  rcases es with _ | ⟨eb, _ | ⟨ed, _ | ⟨_, _⟩⟩⟩ <;> first | (simp [chkE] at h; done) | skip
  simp only [chkE, Bool.and_eq_true, decide_eq_true_eq, Bool.not_eq_true'] at h
  obtain ⟨⟨⟨⟨⟨⟨h1, h2⟩, h3⟩, h4⟩, h5⟩, h6⟩, h7⟩ := h
  subst h1
  subst h2
  obtain ⟨ta, a1, _, a3, _⟩ := ha.e c W ea h5
  obtain ⟨tb', b1, _, b3, _⟩ := hb.e c W eb h6
  obtain ⟨td, d1, _, d3, _⟩ := hd.e c W ed h7
  have s : SE aw ag K exA exF W (vCmp2 o p (sem cl a) (sem cl b) (sem cl d)) (tChain (rCmp aw K o) (rCmp aw K p) ta tb' td) := fun G0 H0 G H σ sl w Q R q => by
    refine SE.still a3 R q fun r w1 x G1 H1 R1 S1 hx q => ?_
    refine SE.still b3 R1 q fun r2 w2 y G2 H2 R2 S2 hy q => ?_
    obtain ⟨k, ek, q⟩ := Post.ofOb q
    refine ⟨G2, r.d, r2.d, k, R2.b.gh, hx.mono S2, .inl hy, ek, k, rfl, ?_⟩
    cases k with
    | true =>
      refine SE.still d3 R2 q fun r3 w3 z G3 H3 R3 S3 hz q => ?_
      obtain ⟨k2, ek2, q⟩ := Post.ofOm q
      exact ⟨G3, r2.d, r3.d, k2, R3.b.gh, hy.mono S3, .inl hz, ek2, q _ G3 H3 R3 (Same.refl _) (.bl _)⟩
    | false => exact q _ G2 H2 R2 (Same.refl _) (.bl _)
  have s2 : SB aw ag K exA exF W (asB (vCmp2 o p (sem cl a) (sem cl b) (sem cl d))) (tTest (tChain (rCmp aw K o) (rCmp aw K p) ta tb' td)) := sb_of s
  exact ⟨⟨_, fun X C => pe_chain (cmp_of o C) (cmp_of p C) (a1 X C) (b1 X C) (d1 X C) h4, s⟩, _, fun X C => pt_chain (cmp_of o C) (cmp_of p C) (a1 X C) (b1 X C) (d1 X C) h4, s2⟩
/-! lists -/
theorem ok_nil : Ok P wd K mg base tb aw ag exA exF cl lv .nil where
  e := fun c W e h => by cases e <;> simp [chkE] at h
  ts := fun c W e h => by cases e <;> simp [chkE] at h
  i := fun c W e h => by cases e <;> simp [chkE] at h
  l := fun c W es h => by
    cases es with
    | nil =>
      refine ⟨tNil, fun X _ => pa_nil, fun X _ kws e => ?_, fun G0 H0 G H σ sl w Q R p => p [] G H R (Same.refl _) .nil, fun G0 H0 G H σ sl w Q R p => p [] G H R (Same.refl _) .nil⟩
      cases kws with
      | nil => exact pk_nil
      | cons _ _ => cases e
    | cons _ _ => simp [chkL] at h
  ao := fun c W es h hne => by
    cases es with
    | nil => exact absurd rfl hne
    | cons _ _ => simp [chkL] at h
  aot := fun c W es h hne => by
    cases es with
    | nil => exact absurd rfl hne
    | cons _ _ => simp [chkL] at h
theorem nil_of {r : T} {c : CkC} {es : List Expr} (h : chkL tb r c es = true) : isNil r = true ↔ es = [] := by
  cases r <;> cases es <;> simp [chkL, isNil] at h ⊢
theorem Rqs.of {G H : Hp} : ∀ {vs : List V} {ds : List PyData}, Rps aw K G vs ds → Rqs aw K G H vs ds
  | _, _, .nil => .nil
  | _, _, .cons r t => .cons (.inl r) (Rqs.of t)
theorem ok_cons {a r : T} (ha : Ok P wd K mg base tb aw ag exA exF cl lv a) (hr : Ok P wd K mg base tb aw ag exA exF cl lv r) : Ok P wd K mg base tb aw ag exA exF cl lv (.cons a r) where
  e := fun c W e h => by cases e <;> simp [chkE] at h
  ts := fun c W e h => by cases e <;> simp [chkE] at h
  i := fun c W e h => by cases e <;> simp [chkE] at h
  l := fun c W es h => by
    cases es with
    | nil => simp [chkL] at h
    | cons e es =>
      simp only [chkL, Bool.and_eq_true] at h
      obtain ⟨h1, h2⟩ := h
      obtain ⟨ta, a1, _, a3, a4⟩ := ha.e c W e h1
      by_cases hn : isNil r = true
      · have en : es = [] := (nil_of h2).mp hn
        subst en
        have er : r = .nil := by cases r <;> first | rfl | (cases hn; done)
        subst er
        refine ⟨tCons ta tNil, fun X C => pa_cons (a1 X C) pa_nil (chk_star h1 [] X.env), fun X C kws e => ?_, fun G0 H0 G H σ sl w Q R p => ?_, fun G0 H0 G H σ sl w Q R p => ?_⟩
        · cases kws with
          | nil => cases e
          | cons k ks =>
            have e1 : k.value = _ := (List.cons.inj e).1
            have e2 := (List.cons.inj e).2
            obtain ⟨an, av, ap⟩ := k
            subst e1
            cases ks with
            | nil => exact pk_cons (a1 X C) pk_nil
            | cons _ _ => cases e2
        · refine SE.still a3 R p fun x w1 v G1 H1 R1 S1 hv q => ?_
          exact q _ G1 H1 R1 (Same.refl _) (.cons hv .nil)
        · have p' : Post aw ag K exA exF W (rrQ aw K) G0 H0 G σ sl Q (((sem cl a).p sl w).map fun d => [d]) := p
          exact a4 G0 H0 G H σ sl w _ R (Post.map p' fun d w1 v G1 H1 _ R1 S1 hv q => q [v] G1 H1 R1 (Same.refl _) (.cons hv .nil))
      · obtain ⟨tr, r1, r2, r3, _⟩ := hr.l c W es h2
        have hsl : SL aw ag K exA exF W (sem cl (.cons a r)).l (tCons ta tr) := fun G0 H0 G H σ sl w Q R p => by
          refine SE.still a3 R p fun x w1 v G1 H1 R1 S1 hv q => ?_
          exact r3 G0 H0 G1 H1 σ sl w1 _ R1 (Post.map q fun ds w2 vs G2 H2 _ R2 S2 hvs q2 => q2 _ G2 H2 R2 (Same.refl _) (.cons (hv.mono S2) hvs))
        refine ⟨tCons ta tr, fun X C => pa_cons (a1 X C) (r1 X C) (chk_star h1 es X.env), fun X C kws e => ?_, hsl, fun G0 H0 G H σ sl w Q R p => ?_⟩
        · cases kws with
          | nil => cases e
          | cons k ks =>
            have e1 : k.value = _ := (List.cons.inj e).1
            have e2 := (List.cons.inj e).2
            obtain ⟨an, av, ap⟩ := k
            subst e1
            exact pk_cons (a1 X C) (r2 X C ks e2)
        · have p' : Post aw ag K exA exF W (rrQ aw K) G0 H0 G σ sl Q (if isNil r = true then ((sem cl a).p sl w).map fun d => [d] else ((sem cl a).v sl w).bnd fun x w => ((sem cl r).l sl w).map fun ds => x.d :: ds) := p
          rw [if_neg hn] at p'
          refine SE.still a3 R p' fun x w1 v G1 H1 R1 S1 hv q => ?_
          exact r3 G0 H0 G1 H1 σ sl w1 _ R1 (Post.map q fun ds w2 vs G2 H2 _ R2 S2 hvs q2 => q2 _ G2 H2 R2 (Same.refl _) (.cons (.inl (hv.mono S2)) (Rqs.of hvs)))
  ao := fun c W es h hne => by
    cases es with
    | nil => exact absurd rfl hne
    | cons e es =>
      simp only [chkL, Bool.and_eq_true] at h
      obtain ⟨h1, h2⟩ := h
      obtain ⟨ta, a1, _, a3, a4⟩ := ha.e c W e h1
      cases es with
      | nil =>
        have hn : isNil r = true := (nil_of h2).mpr rfl
        refine ⟨ta, ta, fun X C pos => ⟨pe_one (a1 X C), pe_one (a1 X C)⟩, fun G0 H0 G H σ sl w Q R p => ?_, fun G0 H0 G H σ sl w Q R p => ?_⟩
        · have p' : Post aw ag K exA exF W (rrV aw ag K H0 σ sl) G0 H0 G σ sl Q (if isNil r = true then (sem cl a).v sl w else (asB (sem cl a).v sl w).bnd fun b w => if b = true then (sem cl r).av sl w else .ok (.val (.bool false)) w) := p
          rw [if_pos hn] at p'
          exact a3 G0 H0 G H σ sl w Q R p'
        · have p' : Post aw ag K exA exF W (rrV aw ag K H0 σ sl) G0 H0 G σ sl Q (if isNil r = true then (sem cl a).v sl w else (asB (sem cl a).v sl w).bnd fun b w => if b = true then .ok (.val (.bool true)) w else (sem cl r).ov sl w) := p
          rw [if_pos hn] at p'
          exact a3 G0 H0 G H σ sl w Q R p'
      | cons e2 es2 =>
        have hn : ¬ isNil r = true := fun z => by cases (nil_of h2).mp z
        obtain ⟨tr, to, r1, r2, r3⟩ := hr.ao c W (e2 :: es2) h2 (by simp)
        refine ⟨tAndV ta tr, tOrV ta to, fun X C pos => ⟨pe_and (a1 X C) (r1 X C pos).1, pe_or (a1 X C) (r1 X C pos).2⟩, fun G0 H0 G H σ sl w Q R p => ?_, fun G0 H0 G H σ sl w Q R p => ?_⟩
        · have p' : Post aw ag K exA exF W (rrV aw ag K H0 σ sl) G0 H0 G σ sl Q (if isNil r = true then (sem cl a).v sl w else (asB (sem cl a).v sl w).bnd fun b w => if b = true then (sem cl r).av sl w else .ok (.val (.bool false)) w) := p
          rw [if_neg hn] at p'
          exact sb_of a3 G0 H0 G H σ sl w (fun b H1 => if b = true then tr σ H1 Q else Q (.bl false) H1) R (Post.bnd p' fun b w1 b' G1 H1 _ R1 S1 hb q => by
            cases hb
            cases b with
            | true => exact r2 G0 H0 G1 H1 σ sl w1 Q R1 q
            | false => exact q _ G1 H1 R1 (Same.refl _) (.bl _))
        · have p' : Post aw ag K exA exF W (rrV aw ag K H0 σ sl) G0 H0 G σ sl Q (if isNil r = true then (sem cl a).v sl w else (asB (sem cl a).v sl w).bnd fun b w => if b = true then .ok (.val (.bool true)) w else (sem cl r).ov sl w) := p
          rw [if_neg hn] at p'
          exact sb_of a3 G0 H0 G H σ sl w (fun b H1 => if b = true then Q (.bl true) H1 else to σ H1 Q) R (Post.bnd p' fun b w1 b' G1 H1 _ R1 S1 hb q => by
            cases hb
            cases b with
            | false => exact r3 G0 H0 G1 H1 σ sl w1 Q R1 q
            | true => exact q _ G1 H1 R1 (Same.refl _) (.bl _))
  aot := fun c W es h hne => by
    cases es with
    | nil => exact absurd rfl hne
    | cons e es =>
      simp only [chkL, Bool.and_eq_true] at h
      obtain ⟨h1, h2⟩ := h
      obtain ⟨ta, a1, a3⟩ := ha.ts c W e h1
      cases es with
      | nil =>
        have hn : isNil r = true := (nil_of h2).mpr rfl
        refine ⟨ta, ta, fun X C pos => ⟨pw_and1 (a1 X C), pw_or1 (a1 X C)⟩, fun G0 H0 G H σ sl w Q R p => ?_, fun G0 H0 G H σ sl w Q R p => ?_⟩
        · have p' : Post aw ag K exA exF W rrB G0 H0 G σ sl Q (if isNil r = true then (sem cl a).b sl w else ((sem cl a).b sl w).bnd fun b w => if b = true then (sem cl r).at_ sl w else .ok false w) := p
          rw [if_pos hn] at p'
          exact a3 G0 H0 G H σ sl w Q R p'
        · have p' : Post aw ag K exA exF W rrB G0 H0 G σ sl Q (if isNil r = true then (sem cl a).b sl w else ((sem cl a).b sl w).bnd fun b w => if b = true then .ok true w else (sem cl r).ot sl w) := p
          rw [if_pos hn] at p'
          exact a3 G0 H0 G H σ sl w Q R p'
      | cons e2 es2 =>
        have hn : ¬ isNil r = true := fun z => by cases (nil_of h2).mp z
        obtain ⟨tr, to, r1, r2, r3⟩ := hr.aot c W (e2 :: es2) h2 (by simp)
        refine ⟨tAnd ta tr, tOr ta to, fun X C pos => ⟨pw_and (a1 X C) (r1 X C pos).1, pw_or (a1 X C) (r1 X C pos).2⟩, fun G0 H0 G H σ sl w Q R p => ?_, fun G0 H0 G H σ sl w Q R p => ?_⟩
        · have p' : Post aw ag K exA exF W rrB G0 H0 G σ sl Q (if isNil r = true then (sem cl a).b sl w else ((sem cl a).b sl w).bnd fun b w => if b = true then (sem cl r).at_ sl w else .ok false w) := p
          rw [if_neg hn] at p'
          refine a3 G0 H0 G H σ sl w _ R (Post.bnd p' fun b w1 b' G1 H1 _ R1 S1 hb q => ?_)
          cases hb
          cases b with
          | true => exact r2 G0 H0 G1 H1 σ sl w1 Q R1 q
          | false => exact q _ G1 H1 R1 (Same.refl _) rfl
        · have p' : Post aw ag K exA exF W rrB G0 H0 G σ sl Q (if isNil r = true then (sem cl a).b sl w else ((sem cl a).b sl w).bnd fun b w => if b = true then .ok true w else (sem cl r).ot sl w) := p
          rw [if_neg hn] at p'
          refine a3 G0 H0 G H σ sl w _ R (Post.bnd p' fun b w1 b' G1 H1 _ R1 S1 hb q => ?_)
          cases hb
          cases b with
          | false => exact r3 G0 H0 G1 H1 σ sl w1 Q R1 q
          | true => exact q _ G1 H1 R1 (Same.refl _) rfl
theorem ok_band {l : T} (hl : Ok P wd K mg base tb aw ag exA exF cl lv l) : Ok P wd K mg base tb aw ag exA exF cl lv (.band l) := mkTst rfl (chkL_no rfl) (fun c e h => by cases e <;> first | rfl | (simp [chkE] at h; done)) fun c W e h => by
  cases e <;> first | (simp [chkE] at h; done) | skip
  rename_i op es pos
  cases op <;> first | (simp [chkE] at h; done) | skip
  simp only [chkE, Bool.and_eq_true, Bool.not_eq_true', List.isEmpty_eq_false_iff] at h
  obtain ⟨t1, _, a1, a2, _⟩ := hl.ao c W es h.1 h.2
  obtain ⟨t2, _, b1, b2, _⟩ := hl.aot c W es h.1 h.2
  exact ⟨⟨t1, fun X C => (a1 X C pos).1, a2⟩, t2, fun X C => ((b1 X C pos).1).pt, b2⟩
theorem ok_bor {l : T} (hl : Ok P wd K mg base tb aw ag exA exF cl lv l) : Ok P wd K mg base tb aw ag exA exF cl lv (.bor l) := mkTst rfl (chkL_no rfl) (fun c e h => by cases e <;> first | rfl | (simp [chkE] at h; done)) fun c W e h => by
  cases e <;> first | (simp [chkE] at h; done) | skip
  rename_i op es pos
  cases op <;> first | (simp [chkE] at h; done) | skip
  simp only [chkE, Bool.and_eq_true, Bool.not_eq_true', List.isEmpty_eq_false_iff] at h
  obtain ⟨_, t1, a1, _, a2⟩ := hl.ao c W es h.1 h.2
  obtain ⟨_, t2, b1, _, b2⟩ := hl.aot c W es h.1 h.2
  exact ⟨⟨t1, fun X C => (a1 X C pos).2, a2⟩, t2, fun X C => ((b1 X C pos).2).pt, b2⟩
theorem ok_not {a : T} (ha : Ok P wd K mg base tb aw ag exA exF cl lv a) : Ok P wd K mg base tb aw ag exA exF cl lv (.not a) := mkTst rfl (chkL_no rfl) (fun c e h => by cases e <;> first | rfl | (simp [chkE] at h; done)) fun c W e h => by
  cases e <;> first | (simp [chkE] at h; done) | skip
  rename_i op ea pos
  cases op <;> first | (simp [chkE] at h; done) | skip
  simp only [chkE] at h
  obtain ⟨ta, a1, _, a3, _⟩ := ha.e c W ea h
  obtain ⟨tt, b1, b3⟩ := ha.ts c W ea h
  refine ⟨⟨tNotV ta, fun X C => pe_not (a1 X C), fun G0 H0 G H σ sl w Q R p => ?_⟩, tNot tt, fun X C => pt_not (b1 X C), fun G0 H0 G H σ sl w Q R p => ?_⟩
  · refine a3 G0 H0 G H σ sl w _ R (Post.bnd p fun r w1 x G1 H1 _ R1 S1 hr q => ?_)
    obtain ⟨b, eb, q2⟩ := Post.bool q
    cases r with
    | val d =>
      have eb' : d = .bool b := eb
      subst eb'
      cases Rp.bl_inv hr
      exact ⟨b, rfl, q2 _ G1 H1 R1 (Same.refl _) (.bl _)⟩
    | fresh ds => cases eb
  · exact b3 G0 H0 G H σ sl w _ R (Post.map p fun b w1 b' G1 H1 _ R1 S1 hb q => by
      cases hb
      exact q _ G1 H1 R1 (Same.refl _) rfl)
theorem ok_ife {t a b : T} (ht : Ok P wd K mg base tb aw ag exA exF cl lv t) (ha : Ok P wd K mg base tb aw ag exA exF cl lv a) (hb : Ok P wd K mg base tb aw ag exA exF cl lv b) : Ok P wd K mg base tb aw ag exA exF cl lv (.ife t a b) := mkTst rfl (chkL_no rfl) (fun c e h => by cases e <;> first | rfl | (simp [chkE] at h; done)) fun c W e h => by
  cases e <;> first | (simp [chkE] at h; done) | skip
  rename_i et ea eb pos
  simp only [chkE, Bool.and_eq_true] at h
  obtain ⟨⟨h1, h2⟩, h3⟩ := h
  obtain ⟨tt, t1, t3⟩ := ht.ts c W et h1
  obtain ⟨ta, a1, _, a3, _⟩ := ha.e c W ea h2
  obtain ⟨tb', b1, _, b3, _⟩ := hb.e c W eb h3
  refine ⟨⟨tIf tt ta tb', fun X C => pe_ifExp (t1 X C) (a1 X C) (b1 X C), fun G0 H0 G H σ sl w Q R p => ?_⟩, fun _ _ _ => False, fun X C => ⟨fun _ _ _ _ _ _ z => z.elim⟩, fun G0 H0 G H σ sl w Q R p => p.elim⟩
  refine t3 G0 H0 G H σ sl w _ R (Post.bnd p fun k w1 k' G1 H1 _ R1 S1 hk q => ?_)
  cases hk
  cases k with
  | true => exact a3 G0 H0 G1 H1 σ sl w1 Q R1 q
  | false => exact b3 G0 H0 G1 H1 σ sl w1 Q R1 q
theorem ok_tup {l : T} (hl : Ok P wd K mg base tb aw ag exA exF cl lv l) : Ok P wd K mg base tb aw ag exA exF cl lv (.tup l) := mkEx rfl (chkL_no rfl) fun c W e h => by
  cases e <;> first | (simp [chkE] at h; done) | skip
  rename_i es k pos
  simp only [chkE] at h
  obtain ⟨ta, a1, _, a3, _⟩ := hl.l c W es h
  refine ⟨rfl, tTup ta, fun X C => pe_tup (a1 X C), noLc rfl, fun G0 H0 G H σ sl w Q R p => ?_⟩
  refine a3 G0 H0 G H σ sl w _ R (Post.bnd p fun ds w1 vs G1 H1 _ R1 S1 hv q => ?_)
  by_cases hz : ds.length ≤ sizeLine
  · have q' : Post aw ag K exA exF W (rrV aw ag K H0 σ sl) G0 H0 G1 σ sl Q (if ds.length ≤ sizeLine then .ok (.val (.tuple ds)) w1 else .stuck) := q
    rw [if_pos hz] at q'
    have e := Rps.length hv
    exact ⟨by rw [e]; exact hz, fun p hp => (outR R1 q').2 ds rfl p vs hp hv (by rw [e]; exact hz)⟩
  · have q' : Post aw ag K exA exF W (rrV aw ag K H0 σ sl) G0 H0 G1 σ sl Q (if ds.length ≤ sizeLine then .ok (.val (.tuple ds)) w1 else .stuck) := q
    rw [if_neg hz] at q'
    exact q'.elim
theorem ok_lst {l : T} (hl : Ok P wd K mg base tb aw ag exA exF cl lv l) : Ok P wd K mg base tb aw ag exA exF cl lv (.lst l) := mkEx rfl (chkL_no rfl) fun c W e h => by
  cases e <;> first | (simp [chkE] at h; done) | skip
  rename_i es pos
  simp only [chkE] at h
  obtain ⟨ta, a1, _, a3, _⟩ := hl.l c W es h
  refine ⟨rfl, tLst ta, fun X C => pe_lst (a1 X C), noLc rfl, fun G0 H0 G H σ sl w Q R p => ?_⟩
  refine a3 G0 H0 G H σ sl w _ R (Post.bnd p fun ds w1 vs G1 H1 _ R1 S1 hv q => ?_)
  have q' : Post aw ag K exA exF W (rrV aw ag K H0 σ sl) G0 H0 G1 σ sl Q (if ds.length ≤ sizeLine then .ok (.fresh ds) w1 else .stuck) := q
  by_cases hz : ds.length ≤ sizeLine
  · rw [if_pos hz] at q'
    have e := Rps.length hv
    exact ⟨by rw [e]; exact hz, fun p hp => outR R1 q' p vs hp hv (by rw [e]; exact hz)⟩
  · rw [if_neg hz] at q'
    exact q'.elim
end
end Rx
set_option Elab.async false
set_option linter.all false
set_option maxRecDepth 100000
set_option maxHeartbeats 2000000
namespace PySem
namespace RxT
open PySem.W PySem.Calls PyProof.Rows
end RxT
end PySem
namespace Rx
open PySem PySem.Spec PyProof.Rows L2
def rIsiD (aw : Addr) (K : PySem.W.Frag) (t : Ty) : List V → Hp → VK → Prop := fun vs H Q => ∃ G x d b, vs = [x, .ty t.nm] ∧ Same G H ∧ Rq aw K G H x d ∧ isiD t d = some b ∧ Q (.bl b) H
theorem cr_isi {X : Cx} {aw : Addr} (t : Ty) : CallR X (.builtin "isinstance") (rIsiD aw X.K t) := by
  intro pins s σ H vs us Q I rs h
  obtain ⟨G, x, d, b, rfl, S, hx, hb, q⟩ := h
  obtain ⟨u1, u2, rfl, r1, r2⟩ := vals2 rs
  cases (show u2 = Value.type t.nm from r2)
  exact isi_run I r1 (hx.now S) hb q
theorem nodup_len {a b : List Int} (ha : a.Nodup) (hb : b.Nodup) (h : ∀ k, k ∈ a ↔ k ∈ b) : a.length = b.length := by
  have h1 : ∀ {a b : List Int}, a.Nodup → (∀ k, k ∈ a → k ∈ b) → a.length ≤ b.length := by
    intro a
    induction a with
    | nil => intro b _ _; exact Nat.zero_le _
    | cons x r ih =>
      intro b hn hs
      have hx : x ∈ b := hs x List.mem_cons_self
      have hr : r.length ≤ (b.erase x).length := ih (List.nodup_cons.mp hn).2 fun k hk => by
        have hne : k ≠ x := fun e => (List.nodup_cons.mp hn).1 (e ▸ hk)
        exact (List.mem_erase_of_ne hne).mpr (hs k (List.mem_cons_of_mem _ hk))
      rw [List.length_erase_of_mem hx] at hr
      have : 0 < b.length := List.length_pos_of_mem hx
      rw [List.length_cons]
      omega
  exact Nat.le_antisymm (h1 ha fun k hk => (h k).mp hk) (h1 hb fun k hk => (h k).mpr hk)
theorem ddI_mem (ns : List Int) (j : Int) : j ∈ ddI ns ↔ j ∈ ns := by
  induction ns with
  | nil => exact Iff.rfl
  | cons x r ih =>
    unfold ddI
    split
    · rename_i h
      rw [List.mem_cons]
      refine ⟨fun z => .inr (ih.mp z), fun z => ?_⟩
      rcases z with e | z
      · rw [e]; exact h
      · exact ih.mpr z
    · rw [List.mem_cons, List.mem_cons, ih]
theorem ddI_nodup (ns : List Int) : (ddI ns).Nodup := by
  induction ns with
  | nil => exact List.nodup_nil
  | cons x r ih =>
    unfold ddI
    split
    · exact ih
    · exact List.nodup_cons.mpr ⟨by assumption, ih⟩
def tLset (aw : Addr) (K : PySem.W.Frag) (ta : TE) : TE := fun σ H Q => ta σ H fun x H1 => ∃ G d e, Same G H1 ∧ Rp aw K G x d ∧ lsetD d = some e ∧ ∀ v, Rp aw K G v e → Q v H1
theorem pe_lset {X : Cx} {aw : Addr} {a : Expr} {ta : TE} {p p2 q pos : Pos} (hc : X.calm = true) (hg : Gl X "len") (hm : X.mg "len" = none) (hg2 : Gl X "set") (hm2 : X.mg "set" = none) (ha : PE X a ta)
    (na : starEach [a] X.env = (false, eval a X.env) :: starEach [] X.env) : PE X (.Call (.Name "len" p) [.Call (.Name "set" p2) [a] [] q] [] pos) (tLset aw X.K ta) := by
  refine ⟨fun pins s σ H Q I h => ?_⟩
  refine Call_ (ld_blt I hg hm PySem.boot_len ?_)
  refine PyProof.Rows.callWith_builtin1 (PyProof.Rows.args_cons ?_ rfl) rfl rfl
  refine Call_ (ld_blt I hg2 hm2 PyProof.Rows.boot_set ?_)
  refine PyProof.Rows.callWith_type1 (PyProof.Rows.args_cons (thn (ha.run pins s σ H _ I h) fun v s1 ⟨x, H1, I1, r1, q1⟩ => PyProof.Rows.args_nil ?_) na) na rfl
  obtain ⟨G, d, e, S, hx, he, q1⟩ := q1
  unfold lsetD at he
  split at he
  · split at he
    · rename_i ns hns
      split at he
      · rename_i hlen
        cases he
        rw [intsOf_inv hns] at hx
        obtain ⟨l, vs, rfl, h1, h2, h3⟩ := hx.tup_inv
        have ev := h3.ints
        subst ev
        cases r1
        obtain ⟨its, r, pl, hz⟩ := I1.tuple (Same.sqt S h1)
        have hi : IntsAre its.toArray.toList ns := by simpa using r.ints
        refine call_set_tupI ns (I1.ok.hd hc) (show s1.heap.IsTuple l its.toArray from pl) hi (by unfold scanBound; omega) fun h' tk c R1 hcn k => ?_
        refine PyProof.Rows.args_nil ?_
        obtain ⟨o, es, ep, t, ho, hex, hdt, g, nd, hm2', hb, hf, hn, hr, hl2⟩ := R1
        have I2 : Inv X pins σ H1 { s1 with heap := h', toks := tk } := I1.kept fun b o e => k b o e
        have hlen2 : es.size = (ddI ns).length := by
          have z := nodup_len nd (ddI_nodup ns) fun j => by
            rw [ddI_mem, ← hm2' j, decide_eq_true_eq]
          rw [List.length_map, Array.length_toList] at z
          exact z
        have hsz : es.size ≤ 1000 := by
          omega
        refine call_len_set ho hex hdt hf (by omega) ⟨.int (ddI ns).length, H1, I2.tok _, ⟨_, by rw [hlen2]⟩, q1 _ (.int _)⟩
      · cases he
    · cases he
  · cases he
end Rx
set_option Elab.async false
set_option linter.all false
set_option maxRecDepth 100000
set_option maxHeartbeats 2000000
namespace Rx
open PySem PySem.Spec PyProof.Rows L2
section
variable {P : Program} {wd : World} {K : PySem.W.Frag} {mg : Str → Option Value} {base : Heap} {tb : Tab} {aw ag : Addr} {exA : Nat → Addr} {exF : Nat → List Str} {cl : Nat → List PyData → Wl → Rz PyData} {lv : Nat}
theorem ok_ix {a b : T} (ha : Ok P wd K mg base tb aw ag exA exF cl lv a) (hb : Ok P wd K mg base tb aw ag exA exF cl lv b) : Ok P wd K mg base tb aw ag exA exF cl lv (.ix a b) := mkEx rfl (chkL_no rfl) fun c W e h => by
  cases e <;> first | (simp [chkE] at h; done) | skip
  rename_i ea eb pos
  have h' : (chkE tb a c ea && chkE tb b c eb) = true := by
    cases eb <;> first | exact h | skip
  obtain ⟨h1, h2⟩ := Bool.and_eq_true_iff.mp h'
  obtain ⟨ta, a1, _, a3, _⟩ := ha.e c W ea h1
  obtain ⟨tb', b1, _, b3, _⟩ := hb.e c W eb h2
  cases hn : isNm a with
  | none =>
    refine ⟨rfl, tOp (rIxD aw K) ta tb', fun X C => ?_, noLc rfl, fun G0 H0 G H σ sl w Q R p => ?_⟩
    · have z := pe_ix (ix_D (X := X) (aw := aw)) (a1 X C) (b1 X C) (chk_ix h2) (pos := pos)
      rw [C.K] at z
      exact z
    · refine SE.still a3 R p fun r w1 x G1 H1 R1 S1 hx q => ?_
      refine SE.still b3 R1 q fun r2 w2 y G2 H2 R2 S2 hy q => ?_
      obtain ⟨z, ez, q3⟩ := Post.ofOm q
      exact ⟨G2, r.d, r2.d, z, R2.b.gh, .inl (hx.mono S2), hy, ez, fun v hv => q3 v G2 H2 R2 (Same.refl _) hv⟩
  | some i =>
    have ea' : a = .nm i := by
      cases a <;> first | (cases hn; done) | skip
      cases hn
      rfl
    subst ea'
    obtain ⟨x, px, rfl, hnm⟩ := nm_inv h1
    refine ⟨rfl, tOp (rIxD aw K) (tVar i) tb', fun X C => ?_, noLc rfl, fun G0 H0 G H σ sl w Q R p => ?_⟩
    · have z := pe_ix (ix_D (X := X) (aw := aw)) (pe_nm (pos := px) hnm C) (b1 X C) (chk_ix h2) (pos := pos)
      rw [C.K] at z
      exact z
    · have p' : Post aw ag K exA exF W (rrV aw ag K H0 σ sl) G0 H0 G σ sl Q ((slotP i sl w).bnd fun x _ => ((sem cl b).v sl w).bnd fun y w => (ofO (ixD x y.d) w).map .val) := p
      cases hs : sl[i]? with
      | none =>
        unfold slotP at p'
        rw [hs] at p'
        exact p'.elim
      | some st =>
        cases st with
        | no =>
          unfold slotP at p'
          rw [hs] at p'
          exact p'.elim
        | val d =>
          unfold slotP at p'
          rw [hs] at p'
          obtain ⟨v, e1, e2⟩ := R.val i d hs
          refine ⟨v, e1, ?_⟩
          refine SE.still b3 R p' fun r2 w2 y G2 H2 R2 S2 hy q => ?_
          obtain ⟨z, ez, q3⟩ := Post.ofOm q
          exact ⟨G2, d, r2.d, z, R2.b.gh, .inl (e2.mono S2), hy, ez, fun v hv => q3 v G2 H2 R2 (Same.refl _) hv⟩
        | own ds =>
          unfold slotP at p'
          rw [hs] at p'
          obtain ⟨a0, vs, e1, _⟩ := R.own i ds hs
          refine ⟨.ref a0, e1, ?_⟩
          refine SE.still b3 R p' fun r2 w2 y G2 H2 R2 S2 hy q => ?_
          obtain ⟨z, ez, q3⟩ := Post.ofOm q
          obtain ⟨a', vs', f1, f2, f3, f4, f5, f6, f7, f8⟩ := R2.own i ds hs
          rw [e1] at f1
          cases f1
          exact ⟨G2, .list ds, r2.d, z, R2.b.gh, .inr ⟨a0, vs', ds, rfl, rfl, f2, f7, f8⟩, hy, ez, fun v hv => q3 v G2 H2 R2 (Same.refl _) hv⟩
theorem so_of {v : List Slt → Wl → Rz Got} {te : TE} {W : WX} (h : SE aw ag K exA exF W v te) : SO aw ag K exA exF W (fun sl w => (v sl w).bnd fun x w => (intR x.d w).map some) (tPart te) := fun G0 H0 G H σ sl w Q R p => by
  refine SE.still h R p fun r w1 x G1 H1 R1 S1 hx q => ?_
  obtain ⟨i, ed, q2⟩ := Post.int q
  rw [ed] at hx
  cases hx.int_inv
  exact ⟨i, rfl, q2 _ G1 H1 R1 (Same.refl _) rfl⟩
/-- what a part's o is -/
theorem sem_o (t : T) {c : CkC} {e : Expr} (h : chkE tb t c e = true) : (sem cl t).o = fun sl w => ((sem cl t).v sl w).bnd fun x w => (intR x.d w).map some := by
  cases t <;> first | rfl | (exfalso; cases e <;> simp [chkE] at h; done) | skip
theorem part_ok {t : T} {c : CkC} {W : WX} {o : Option Expr} (h : (match t, o with | .nil, none => true | .nil, some _ => false | _, some e => chkE tb t c e | _, none => false) = true) (ht : Ok P wd K mg base tb aw ag exA exF cl lv t) :
    ∃ to, (∀ X, Ctx P wd K mg base lv W c X → PO X o to) ∧ SO aw ag K exA exF W (sem cl t).o to := by
  cases o with
  | none =>
    have e : t = .nil := by cases t <;> first | rfl | (cases h; done)
    subst e
    exact ⟨tNoPart, fun X _ => po_none, fun G0 H0 G H σ sl w Q R p => p none G H R (Same.refl _) rfl⟩
  | some e =>
    have h' : chkE tb t c e = true := by
      cases t <;> first | exact h | (cases h; done)
    obtain ⟨te, t1, _, t3, _⟩ := ht.e c W e h'
    rw [sem_o t h']
    exact ⟨tPart te, fun X C => po_some (t1 X C), so_of t3⟩
theorem ok_slc {a lo hi : T} (ha : Ok P wd K mg base tb aw ag exA exF cl lv a) (hlo : Ok P wd K mg base tb aw ag exA exF cl lv lo) (hhi : Ok P wd K mg base tb aw ag exA exF cl lv hi) : Ok P wd K mg base tb aw ag exA exF cl lv (.slc a lo hi) := mkEx rfl (chkL_no rfl) fun c W e h => by
  cases e <;> first | (simp [chkE] at h; done) | skip
  rename_i ea es pos
  cases es <;> first | (simp [chkE] at h; done) | skip
  rename_i el eh est pos2
  cases est <;> first | (simp [chkE] at h; done) | skip
  simp only [chkE] at h
  obtain ⟨h12, h3⟩ := Bool.and_eq_true_iff.mp h
  obtain ⟨h1, h2⟩ := Bool.and_eq_true_iff.mp h12
  obtain ⟨ta, a1, _, a3, _⟩ := ha.e c W ea h1
  obtain ⟨tl, l1, l3⟩ := part_ok (W := W) h2 hlo
  obtain ⟨th, i1, i3⟩ := part_ok (W := W) h3 hhi
  · refine ⟨rfl, tSl (rSlD aw K) ta tl th, fun X C => ?_, noLc rfl, fun G0 H0 G H σ sl w Q R p => ?_⟩
    · have z := pe_slice (sl_D (X := X) (aw := aw)) (a1 X C) (l1 X C) (i1 X C) (pos := pos) (p2 := pos2)
      rw [C.K] at z
      exact z
    · refine SE.still a3 R p fun r w1 x G1 H1 R1 S1 hx q => ?_
      refine l3 G0 H0 G1 H1 σ sl w1 _ R1 (Post.bnd q fun l w2 l' G2 H2 _ R2 S2 hl q2 => ?_)
      refine i3 G0 H0 G2 H2 σ sl w2 _ R2 (Post.bnd q2 fun k w3 k' G3 H3 _ R3 S3 hk q3 => ?_)
      cases hl
      cases hk
      obtain ⟨z, ez, q4⟩ := Post.ofO q3
      exact ⟨G3, r.d, z, R3.b.gh, .inl ((hx.mono S2).mono S3), ez, outR R3 q4⟩
end
end Rx
set_option Elab.async false
set_option linter.all false
set_option maxRecDepth 100000
set_option maxHeartbeats 2000000
namespace Rx
open PySem PySem.Spec PyProof.Rows L2
section
variable {P : Program} {wd : World} {K : PySem.W.Frag} {mg : Str → Option Value} {base : Heap} {tb : Tab} {aw ag : Addr} {exA : Nat → Addr} {exF : Nat → List Str} {cl : Nat → List PyData → Wl → Rz PyData} {lv : Nat}
/-! ### calls of built-in functions -/
theorem call_inv {es : List Expr} (h : (!es.isEmpty) = true) : ∃ e r, es = e :: r := by
  cases es with
  | nil => simp at h
  | cons e r => exact ⟨e, r, rfl⟩
theorem pe_bi {W : WX} {c : CkC} {X : Cx} {l : T} {e : Expr} {es : List Expr} {ta : TA} {p pos : Pos} (g : Glo P wd K mg base tb aw ag exA exF cl lv) (C : Ctx P wd K mg base lv W c X) (f : BI) (hf : f ≠ .gcd ∨ tb.gcd = true) (hg : glOk c f.nm = true)
    (hl : chkL tb l c (e :: es) = true) (ha : PA X (e :: es) ta) : PE X (.Call (.Name f.nm p) (e :: es) [] pos) (tCB (rBi aw K f) ta) := by
  have z := cr_bi (X := X) (aw := aw) f C.calm (units_of C)
  rw [C.K] at z
  obtain ⟨gl, hd⟩ := gl_of C hg
  have hc : ∃ a r, l = .cons a r ∧ chkE tb a c e = true ∧ chkL tb r c es = true := by
    cases l <;> first | (simp [chkL] at hl; done) | skip
    rename_i a r
    simp only [chkL, Bool.and_eq_true] at hl
    exact ⟨a, r, rfl, hl.1, hl.2⟩
  obtain ⟨a, r, rfl, h1, h2⟩ := hc
  have s1 := chk_star h1 es X.env
  have s2 := chk_nostar h2 X.env pos
  have m : f ≠ .gcd → X.mg f.nm = none := fun h => by rw [C.mg]; exact g.bi f h
  cases f
  case gcd =>
    have hm : X.mg "gcd" = some (.builtin "math.gcd") := by
      rw [C.mg]
      exact g.gcd (hf.resolve_left fun z => z rfl)
    exact pe_callBfun z gl hm ha hd s1 s2
  all_goals first
    | exact pe_callB z gl (m (by decide)) (by decide +kernel) ha (by decide) hd s1 s2
    | exact pe_callTy z gl (m (by decide)) (by decide +kernel) ha (by decide) hd s1 s2
theorem ok_bi (g : Glo P wd K mg base tb aw ag exA exF cl lv) (f : BI) {l : T} (hl : Ok P wd K mg base tb aw ag exA exF cl lv l) : Ok P wd K mg base tb aw ag exA exF cl lv (.bi f l) := mkEx rfl (chkL_no rfl) fun c W e h => by
  cases e <;> first | (simp [chkE] at h; done) | skip
  rename_i fe es kws pos
  cases fe <;> first | (simp [chkE] at h; done) | skip
  cases kws <;> first | (simp [chkE] at h; done) | skip
  rename_i x px
  simp only [chkE, Bool.and_eq_true, decide_eq_true_eq, Bool.or_eq_true] at h
  obtain ⟨⟨⟨⟨h1, h2⟩, h3⟩, h4⟩, h5⟩ := h
  subst h1
  obtain ⟨e, r, rfl⟩ := call_inv h5
  obtain ⟨ta, a1, _, _, a4⟩ := hl.l c W _ h4
  refine ⟨rfl, tCB (rBi aw K f) ta, fun X C => pe_bi g C f h2 h3 h4 (a1 X C), noLc rfl, fun G0 H0 G H σ sl w Q R p => ?_⟩
  refine a4 G0 H0 G H σ sl w _ R (Post.bnd p fun ds w1 vs G1 H1 _ R1 S1 hv q => ?_)
  obtain ⟨z, ez, q2⟩ := Post.ofO q
  exact ⟨G1, ds, z, R1.b.gh, hv, ez, outR R1 q2⟩
theorem ok_isi (g : Glo P wd K mg base tb aw ag exA exF cl lv) (t : Ty) {a : T} (ha : Ok P wd K mg base tb aw ag exA exF cl lv a) : Ok P wd K mg base tb aw ag exA exF cl lv (.isi a t) := mkEx rfl (chkL_no rfl) fun c W e h => by
  cases e <;> first | (simp [chkE] at h; done) | skip
  rename_i fe es kws pos
  cases fe <;> first | (simp [chkE] at h; done) | skip
  rename_i x px
  rcases es with _ | ⟨ea, _ | ⟨e2, _ | ⟨_, _⟩⟩⟩ <;> first | (simp [chkE] at h; done) | (cases kws <;> simp [chkE] at h; done) | skip
  cases e2 <;> first | (simp [chkE] at h; done) | (cases kws <;> simp [chkE] at h; done) | skip
  cases kws <;> first | (simp [chkE] at h; done) | skip
  rename_i y py
  simp only [chkE, Bool.and_eq_true, decide_eq_true_eq] at h
  obtain ⟨⟨⟨⟨h1, h2⟩, h3⟩, h4⟩, h5⟩ := h
  subst h1
  subst h2
  obtain ⟨ta, a1, _, _, a4⟩ := ha.e c W ea h5
  refine ⟨rfl, tCB (rIsiD aw K t) (tCons ta (tCons (tC (.ty t.nm)) tNil)), fun X C => ?_, noLc rfl, fun G0 H0 G H σ sl w Q R p => ?_⟩
  · have z := cr_isi (X := X) (aw := aw) t
    rw [C.K] at z
    obtain ⟨gl, hd⟩ := gl_of C h3
    obtain ⟨gl2, hd2⟩ := gl_of C h4
    have m2 : X.mg (t.nm : Str) = none := by rw [C.mg]; exact g.tys t
    have hb : PE X (.Name (t.nm : Str) py) (tC (.ty t.nm)) := by
      refine pe_bltn gl2 m2 (u := .type t.nm) ?_ rfl ?_ hd2
      · cases t <;> decide +kernel
      · cases t <;> decide
    exact pe_callB z gl (by rw [C.mg]; exact g.isi) (by decide +kernel) (pa_cons (a1 X C) (pa_cons hb pa_nil (by rfl)) (chk_star h5 _ _)) (by decide) hd (chk_star h5 _ _) (by rfl)
  · refine a4 G0 H0 G H σ sl w _ R (Post.bnd p fun d w1 v G1 H1 _ R1 S1 hv q => ?_)
    obtain ⟨z, ez, q2⟩ := Post.ofOm q
    exact ⟨G1, v, d, z, rfl, R1.b.gh, hv, ez, q2 _ G1 H1 R1 (Same.refl _) (.bl z)⟩
theorem ok_lset (g : Glo P wd K mg base tb aw ag exA exF cl lv) {a : T} (ha : Ok P wd K mg base tb aw ag exA exF cl lv a) : Ok P wd K mg base tb aw ag exA exF cl lv (.lset a) := mkEx rfl (chkL_no rfl) fun c W e h => by
  cases e <;> first | (simp [chkE] at h; done) | skip
  rename_i fe es kws pos
  cases fe <;> first | (simp [chkE] at h; done) | skip
  rename_i x px
  rcases es with _ | ⟨e1, _ | ⟨_, _⟩⟩ <;> first | (simp [chkE] at h; done) | (cases kws <;> simp [chkE] at h; done) | skip
  cases e1 <;> first | (simp [chkE] at h; done) | (cases kws <;> simp [chkE] at h; done) | skip
  rename_i fe2 es2 kws2 pos2
  cases fe2 <;> first | (simp [chkE] at h; done) | (cases kws <;> simp [chkE] at h; done) | skip
  rename_i y py
  rcases es2 with _ | ⟨ea, _ | ⟨_, _⟩⟩ <;> first | (simp [chkE] at h; done) | (cases kws <;> simp [chkE] at h; done) | skip
  cases kws2 <;> first | (simp [chkE] at h; done) | (cases kws <;> simp [chkE] at h; done) | skip
  cases kws <;> first | (simp [chkE] at h; done) | skip
  simp only [chkE, Bool.and_eq_true, decide_eq_true_eq] at h
  obtain ⟨⟨⟨⟨h1, h2⟩, h3⟩, h4⟩, h5⟩ := h
  subst h1
  subst h2
  obtain ⟨ta, a1, _, a3, _⟩ := ha.e c W ea h5
  refine ⟨rfl, tLset aw K ta, fun X C => ?_, noLc rfl, fun G0 H0 G H σ sl w Q R p => ?_⟩
  · have z := pe_lset (X := X) (aw := aw) (p := px) (p2 := py) (q := pos2) (pos := pos) C.calm (gl_of C h3).1 (by rw [C.mg]; exact g.bi .len (by decide)) (gl_of C h4).1 (by rw [C.mg]; exact g.set) (a1 X C) (chk_star h5 _ _)
    rw [C.K] at z
    exact z
  · refine SE.still a3 R p fun r w1 x G1 H1 R1 S1 hx q => ?_
    obtain ⟨z, ez, q2⟩ := Post.ofOm q
    exact ⟨G1, r.d, z, R1.b.gh, hx, ez, fun v hv => q2 v G1 H1 R1 (Same.refl _) hv⟩
theorem rg_ok {n : Int} {ds : List PyData} (h : rngD 0 n = some ds) : RgOk 0 n ∧ (∀ aw K G, Rps aw K G (rgV 0 n) ds) ∧ (rgV 0 n).length ≤ sizeLine := by
  obtain ⟨⟨h1, h2, h3, h4⟩, e⟩ := rng_len h
  refine ⟨?_, fun aw K G => ?_, ?_⟩
  · unfold RgOk
    omega
  · subst e
    unfold rgV
    generalize List.range (n - 0).toNat = l
    induction l with
    | nil => exact .nil
    | cons i r ih => exact .cons (.int _) ih
  · rw [rgV_length, sizeLine_eq]
    omega
theorem ok_lrng (g : Glo P wd K mg base tb aw ag exA exF cl lv) {a : T} (ha : Ok P wd K mg base tb aw ag exA exF cl lv a) : Ok P wd K mg base tb aw ag exA exF cl lv (.lrng a) := mkEx rfl (chkL_no rfl) fun c W e h => by
  cases e <;> first | (simp [chkE] at h; done) | skip
  rename_i fe es kws pos
  cases fe <;> first | (simp [chkE] at h; done) | skip
  rename_i x px
  rcases es with _ | ⟨e1, _ | ⟨_, _⟩⟩ <;> first | (simp [chkE] at h; done) | (cases kws <;> simp [chkE] at h; done) | skip
  cases e1 <;> first | (simp [chkE] at h; done) | (cases kws <;> simp [chkE] at h; done) | skip
  rename_i fe2 es2 kws2 pos2
  cases fe2 <;> first | (simp [chkE] at h; done) | (cases kws <;> simp [chkE] at h; done) | skip
  rename_i y py
  rcases es2 with _ | ⟨ea, _ | ⟨_, _⟩⟩ <;> first | (simp [chkE] at h; done) | (cases kws <;> simp [chkE] at h; done) | skip
  cases kws2 <;> first | (simp [chkE] at h; done) | (cases kws <;> simp [chkE] at h; done) | skip
  cases kws <;> first | (simp [chkE] at h; done) | skip
  simp only [chkE, Bool.and_eq_true, decide_eq_true_eq] at h
  obtain ⟨⟨⟨⟨h1, h2⟩, h3⟩, h4⟩, h5⟩ := h
  subst h1
  subst h2
  obtain ⟨ta, a1, _, a3, _⟩ := ha.e c W ea h5
  refine ⟨rfl, tLstRg (tRg1 ta), fun X C => ?_, noLc rfl, fun G0 H0 G H σ sl w Q R p => ?_⟩
  · exact pe_listRg C.calm (gl_of C h3).1 (by rw [C.mg]; exact g.tys .lst) (prg_1 (gl_of C h4).1 (by rw [C.mg]; exact g.rng) (a1 X C) (chk_star h5 _ _)) (by rfl)
  · refine SE.still a3 R p fun r w1 x G1 H1 R1 S1 hx q => ?_
    obtain ⟨n, en, q2⟩ := Post.int q
    rw [en] at hx
    cases hx.int_inv
    obtain ⟨ds, ed, q3⟩ := Post.ofOm q2
    obtain ⟨k1, k2, k3⟩ := rg_ok ed
    exact ⟨n, rfl, k1, fun p hp => outR R1 q3 p _ hp (k2 _ _ _) k3⟩
theorem ok_trng (g : Glo P wd K mg base tb aw ag exA exF cl lv) {a : T} (ha : Ok P wd K mg base tb aw ag exA exF cl lv a) : Ok P wd K mg base tb aw ag exA exF cl lv (.trng a) := mkEx rfl (chkL_no rfl) fun c W e h => by
  cases e <;> first | (simp [chkE] at h; done) | skip
  rename_i fe es kws pos
  cases fe <;> first | (simp [chkE] at h; done) | skip
  rename_i x px
  rcases es with _ | ⟨e1, _ | ⟨_, _⟩⟩ <;> first | (simp [chkE] at h; done) | (cases kws <;> simp [chkE] at h; done) | skip
  cases e1 <;> first | (simp [chkE] at h; done) | (cases kws <;> simp [chkE] at h; done) | skip
  rename_i fe2 es2 kws2 pos2
  cases fe2 <;> first | (simp [chkE] at h; done) | (cases kws <;> simp [chkE] at h; done) | skip
  rename_i y py
  rcases es2 with _ | ⟨ea, _ | ⟨_, _⟩⟩ <;> first | (simp [chkE] at h; done) | (cases kws <;> simp [chkE] at h; done) | skip
  cases kws2 <;> first | (simp [chkE] at h; done) | (cases kws <;> simp [chkE] at h; done) | skip
  cases kws <;> first | (simp [chkE] at h; done) | skip
  simp only [chkE, Bool.and_eq_true, decide_eq_true_eq] at h
  obtain ⟨⟨⟨⟨h1, h2⟩, h3⟩, h4⟩, h5⟩ := h
  subst h1
  subst h2
  obtain ⟨ta, a1, _, a3, _⟩ := ha.e c W ea h5
  refine ⟨rfl, tTupRg (tRg1 ta), fun X C => ?_, noLc rfl, fun G0 H0 G H σ sl w Q R p => ?_⟩
  · exact pe_tupRg C.calm (gl_of C h3).1 (by rw [C.mg]; exact g.tys .tup) (prg_1 (gl_of C h4).1 (by rw [C.mg]; exact g.rng) (a1 X C) (chk_star h5 _ _)) (by rfl)
  · refine SE.still a3 R p fun r w1 x G1 H1 R1 S1 hx q => ?_
    obtain ⟨n, en, q2⟩ := Post.int q
    rw [en] at hx
    cases hx.int_inv
    obtain ⟨ds, ed, q3⟩ := Post.ofOm q2
    obtain ⟨k1, k2, k3⟩ := rg_ok ed
    exact ⟨n, rfl, k1, fun p hp => (outR R1 q3).2 ds rfl p _ hp (k2 _ _ _) k3⟩
/-! ### ranges as what is walked -/
theorem rng_size {a b : Int} {ds : List PyData} (h : rngD a b = some ds) : ds.length ≤ sizeLine := by
  obtain ⟨h1, e⟩ := rng_len h
  subst e
  rw [List.length_map, List.length_range, sizeLine_eq]
  omega
theorem rng1_inv {a : T} {c : CkC} {e : Expr} (h : chkE tb (.rng1 a) c e = true) : ∃ ea p pos, e = .Call (.Name "range" p) [ea] [] pos ∧ glOk c "range" = true ∧ chkE tb a c ea = true := by
  cases e <;> first | (simp [chkE] at h; done) | skip
  rename_i fe es kws pos
  cases fe <;> first | (simp [chkE] at h; done) | skip
  rename_i x px
  rcases es with _ | ⟨ea, _ | ⟨_, _⟩⟩ <;> first | (simp [chkE] at h; done) | (cases kws <;> simp [chkE] at h; done) | skip
  cases kws <;> first | (simp [chkE] at h; done) | skip
  simp only [chkE, Bool.and_eq_true, decide_eq_true_eq] at h
  obtain ⟨⟨h1, h2⟩, h3⟩ := h
  subst h1
  exact ⟨ea, px, pos, rfl, h2, h3⟩
theorem rng2_inv {a b : T} {c : CkC} {e : Expr} (h : chkE tb (.rng2 a b) c e = true) : ∃ ea eb p pos, e = .Call (.Name "range" p) [ea, eb] [] pos ∧ glOk c "range" = true ∧ chkE tb a c ea = true ∧ chkE tb b c eb = true := by
  cases e <;> first | (simp [chkE] at h; done) | skip
  rename_i fe es kws pos
  cases fe <;> first | (simp [chkE] at h; done) | skip
  rename_i x px
  rcases es with _ | ⟨ea, _ | ⟨eb, _ | ⟨_, _⟩⟩⟩ <;> first | (simp [chkE] at h; done) | (cases kws <;> simp [chkE] at h; done) | skip
  cases kws <;> first | (simp [chkE] at h; done) | skip
  simp only [chkE, Bool.and_eq_true, decide_eq_true_eq] at h
  obtain ⟨⟨⟨h1, h2⟩, h3⟩, h4⟩ := h
  subst h1
  exact ⟨ea, eb, px, pos, rfl, h2, h3, h4⟩
theorem ok_rng1 (g : Glo P wd K mg base tb aw ag exA exF cl lv) {a : T} (ha : Ok P wd K mg base tb aw ag exA exF cl lv a) : Ok P wd K mg base tb aw ag exA exF cl lv (.rng1 a) where
  e := fun c W e h => by
    obtain ⟨ea, p, pos, rfl, h2, h3⟩ := rng1_inv h
    exact ⟨fun _ _ _ => False, fun X C => ⟨fun _ _ _ _ _ _ z => z.elim⟩, noLc rfl, fun G0 H0 G H σ sl w Q R p => p.elim, fun G0 H0 G H σ sl w Q R p => p.elim⟩
  ts := fun c W e h => ⟨fun _ _ _ => False, fun X C => ⟨fun _ _ _ _ _ _ z => z.elim⟩, fun G0 H0 G H σ sl w Q R p => p.elim⟩
  i := fun c W e h => by
    obtain ⟨ea, p, pos, rfl, h2, h3⟩ := rng1_inv h
    obtain ⟨ta, a1, _, a3, _⟩ := ha.e c W ea h3
    refine ⟨L2.iRng1 (tCons ta tNil), fun X tg C => pi_range1 (gl_of C h2).1 (by rw [C.mg]; exact g.rng) (pa_cons (a1 X C) pa_nil (chk_star h3 _ _)) (chk_star h3 _ _), fun G0 H0 G H σ sl w Q R p => ?_⟩
    refine SE.still a3 R p fun r w1 x G1 H1 R1 S1 hx q => ?_
    obtain ⟨n, en, q2⟩ := Post.int q
    rw [en] at hx
    cases hx.int_inv
    obtain ⟨ds, ed, q3⟩ := Post.ofO q2
    obtain ⟨h1, h2, h3, h4⟩ := (rng_len ed).1
    refine ⟨n, rfl, by omega, by omega, q3 _ G1 H1 R1 (Same.refl _) ?_⟩
    have z := itr_ok (aw := aw) (K := K) (G := G1) ed
    rw [Int.sub_zero] at z
    exact ⟨z, rng_size ed⟩
  l := fun c W es h => by rw [chkL_no rfl] at h; cases h
  ao := fun c W es h => by rw [chkL_no rfl] at h; cases h
  aot := fun c W es h => by rw [chkL_no rfl] at h; cases h
theorem ok_rng2 (g : Glo P wd K mg base tb aw ag exA exF cl lv) {a b : T} (ha : Ok P wd K mg base tb aw ag exA exF cl lv a) (hb : Ok P wd K mg base tb aw ag exA exF cl lv b) : Ok P wd K mg base tb aw ag exA exF cl lv (.rng2 a b) where
  e := fun c W e h => by
    obtain ⟨ea, eb, p, pos, rfl, h2, h3, h4⟩ := rng2_inv h
    exact ⟨fun _ _ _ => False, fun X C => ⟨fun _ _ _ _ _ _ z => z.elim⟩, noLc rfl, fun G0 H0 G H σ sl w Q R p => p.elim, fun G0 H0 G H σ sl w Q R p => p.elim⟩
  ts := fun c W e h => ⟨fun _ _ _ => False, fun X C => ⟨fun _ _ _ _ _ _ z => z.elim⟩, fun G0 H0 G H σ sl w Q R p => p.elim⟩
  i := fun c W e h => by
    obtain ⟨ea, eb, p, pos, rfl, h2, h3, h4⟩ := rng2_inv h
    obtain ⟨ta, a1, _, a3, _⟩ := ha.e c W ea h3
    obtain ⟨tb', b1, _, b3, _⟩ := hb.e c W eb h4
    have s2 : ∀ env, starEach [eb] env = [(false, eval eb env)] := fun env => chk_star h4 [] env
    have s1 : ∀ env, starEach [ea, eb] env = [(false, eval ea env), (false, eval eb env)] := fun env => (chk_star h3 [eb] env).trans (by rw [s2])
    refine ⟨L2.iRng2 (tCons ta (tCons tb' tNil)), fun X tg C => pi_range2 (gl_of C h2).1 (by rw [C.mg]; exact g.rng) (pa_cons (a1 X C) (pa_cons (b1 X C) pa_nil (chk_star h4 _ _)) (chk_star h3 _ _)) (s1 _) (s2 _), fun G0 H0 G H σ sl w Q R p => ?_⟩
    refine SE.still a3 R p fun r w1 x G1 H1 R1 S1 hx q => ?_
    refine SE.still b3 R1 q fun r2 w2 y G2 H2 R2 S2 hy q => ?_
    obtain ⟨n, en, q2⟩ := Post.int q
    obtain ⟨m, em, q2⟩ := Post.int q2
    rw [en] at hx
    rw [em] at hy
    cases hx.int_inv
    cases hy.int_inv
    obtain ⟨ds, ed, q3⟩ := Post.ofO q2
    obtain ⟨h1, h2, h3, h4⟩ := (rng_len ed).1
    exact ⟨n, m, rfl, by omega, q3 _ G2 H2 R2 (Same.refl _) ⟨itr_ok ed, rng_size ed⟩⟩
  l := fun c W es h => by rw [chkL_no rfl] at h; cases h
  ao := fun c W es h => by rw [chkL_no rfl] at h; cases h
  aot := fun c W es h => by rw [chkL_no rfl] at h; cases h
/-! ### calls of defs -/
theorem Post.callR {W : WX} {g : List PyData → Wl → Rz PyData} {ds : List PyData} {vs : List V} {n : Nat} {G0 H0 G1 H1 : Hp} {σ : L2.St} {sl : List Slt} {w1 : Wl} {Q : VK} (R1 : Rel aw ag K G0 H0 G1 H1 σ sl w1) (hv : Rps aw K G1 vs ds) (hn : vs.length = n)
    (q : Post aw ag K exA exF W (rrV aw ag K H0 σ sl) G0 H0 G1 σ sl Q ((g ds w1).map Got.val)) : spF aw ag K exA exF g n vs H1 Q (WE W σ) := by
  refine ⟨hn, G1, ds, w1, R1.b.self, hv, ?_⟩
  cases hg : g ds w1 with
  | ok d w2 =>
    rw [hg] at q
    exact fun v G2 H2 B r => q v G2 H2 (R1.call B) B.g0 r
  | exc c fs w2 =>
    rw [hg] at q
    exact fun dd vs2 G2 H2 B e l r => q dd vs2 G2 H2 (R1.b.trans B) B.g0 e l r
  | stuck =>
    rw [hg] at q
    exact q.elim
theorem cons_inv {l : T} {c : CkC} {e : Expr} {r : List Expr} (h : chkL tb l c (e :: r) = true) : ∃ a r', chkE tb a c e = true ∧ chkL tb r' c r = true := by
  cases l <;> first | (simp [chkL] at h; done) | skip
  rename_i a r'
  simp only [chkL, Bool.and_eq_true] at h
  exact ⟨a, r', h.1, h.2⟩
theorem map_stuck {α β : Type} {f : α → β} {m : Rz α} (h : m = .stuck) : m.map f = .stuck := by rw [h]; rfl
theorem ok_call (g : Glo P wd K mg base tb aw ag exA exF cl lv) (f : Nat) {l : T} (hl : Ok P wd K mg base tb aw ag exA exF cl lv l) : Ok P wd K mg base tb aw ag exA exF cl lv (.call f l) := mkEx rfl (chkL_no rfl) fun c W e h => by
  cases e <;> first | (simp [chkE] at h; done) | skip
  rename_i fe es kws pos
  cases fe <;> first | (simp [chkE] at h; done) | skip
  rename_i x px
  cases kws <;> first | (simp [chkE] at h; done) | skip
  simp only [chkE, Bool.and_eq_true, decide_eq_true_eq] at h
  obtain ⟨⟨⟨h1, h2⟩, h3⟩, h4⟩ := h
  obtain ⟨e, r, rfl⟩ := call_inv h4
  obtain ⟨⟨x', ps⟩, hf, e1⟩ := Option.map_eq_some_iff.mp h1
  cases e1
  obtain ⟨fa, fd, k1, k2, k3, k4, k5⟩ := g.fn f _ ps hf
  obtain ⟨ta, a1, _, a3, _⟩ := hl.l c W _ h3
  refine ⟨rfl, tCallS (spF aw ag K exA exF (cl f) ps.length) (WE W) ta, fun X C => ?_, noLc rfl, fun G0 H0 G H σ sl w Q R p => ?_⟩
  · have F : FnOk X.prog X.w X.K X.mg X.base (L2.CX X.prog X.w) lv fa fd ps (spF aw ag K exA exF (cl f) ps.length) := by
      rw [C.P, C.wd, C.K, C.mg, C.base]
      exact k5
    obtain ⟨a, r', c1, c2⟩ := cons_inv h3
    exact pe_callS F C.room (gl_of C h2).1 (by rw [C.mg]; exact k1) (by rw [C.K]; exact k2) (by rw [C.K]; exact k3) (fun σ => passAt C.takes σ) (a1 X C) (gl_of C h2).2 (chk_star c1 _ _) (chk_nostar c2 _ _)
  · refine a3 G0 H0 G H σ sl w _ R (Post.bnd p fun ds w1 vs G1 H1 _ R1 S1 hv q => ?_)
    by_cases hn : ds.length = ps.length
    · exact Post.callR R1 hv (by rw [hv.length]; exact hn) q
    · exfalso
      rw [map_stuck (g.ln f _ ps hf ds w1 hn)] at q
      exact q
theorem sem_l_len (t : T) : ∀ (c : CkC) (es : List Expr), chkL tb t c es = true → ∀ sl w ds w', (sem cl t).l sl w = .ok ds w' → ds.length = es.length := by
  induction t
  case nil =>
    intro c es h sl w ds w' e
    cases es with
    | nil => cases e; rfl
    | cons _ _ => exact absurd (show false = true from h) Bool.false_ne_true
  case cons a r _ ihr =>
    intro c es h sl w ds w' e
    cases es with
    | nil => simp [chkL] at h
    | cons e0 es =>
      simp only [chkL, Bool.and_eq_true] at h
      have e' : ((sem cl a).v sl w).bnd (fun x w => ((sem cl r).l sl w).map fun ds => x.d :: ds) = .ok ds w' := e
      cases ha : (sem cl a).v sl w with
      | ok x w1 =>
        rw [ha] at e'
        have e2 : ((sem cl r).l sl w1).map (fun ds => x.d :: ds) = .ok ds w' := e'
        cases hr : (sem cl r).l sl w1 with
        | ok ds2 w2 =>
          rw [hr] at e2
          cases e2
          rw [List.length_cons, List.length_cons, ihr c es h.2 sl w1 ds2 w' hr]
        | exc _ _ _ => rw [hr] at e2; cases e2
        | stuck => rw [hr] at e2; cases e2
      | exc _ _ _ => rw [ha] at e'; cases e'
      | stuck => rw [ha] at e'; cases e'
  all_goals (intro c es h; rw [chkL_no rfl] at h; cases h)
/-! calls with keywords alone -/
theorem kw_names (pos : Pos) (env : Env) : ∀ kws : List Keyword, (backToKw pos (keywordEach kws env)).map (·.1) = kws.map (·.arg)
  | [] => rfl
  | ⟨nm, v, p⟩ :: r => by
    show nm :: (backToKw pos (keywordEach r env)).map (·.1) = nm :: r.map (·.arg)
    rw [kw_names pos env r]
theorem filterMap_fst {α β : Type} : ∀ l : List (Option α × β), l.filterMap (·.1) = (l.map (·.1)).filterMap id
  | [] => rfl
  | (none, b) :: r => by
    show r.filterMap (·.1) = (r.map (·.1)).filterMap id
    exact filterMap_fst r
  | (some a, b) :: r => by
    show a :: r.filterMap (·.1) = a :: (r.map (·.1)).filterMap id
    rw [filterMap_fst r]
theorem all_fst {α β : Type} (l : List (Option α × β)) : l.all (·.1.isSome) = (l.map (·.1)).all (·.isSome) := by rw [List.all_map]; rfl
theorem any_none {α β : Type} : ∀ {l : List (Option α × β)}, l.all (·.1.isSome) = true → l.any (·.1.isNone) = false
  | [], _ => rfl
  | (none, b) :: r, h => by simp at h
  | (some a, b) :: r, h => by
    have h' : r.all (·.1.isSome) = true := by simpa using h
    show (false || r.any (·.1.isNone)) = false
    rw [any_none h']
    rfl
theorem Vals.getD {vs : List V} {us : List Value} (r : Vals vs us) (i : Nat) : RelV (vs.getD i .non) (us.getD i .none) := by
  rw [List.getD_eq_getElem?_getD, List.getD_eq_getElem?_getD]
  cases h : vs[i]? with
  | none =>
    rw [Vals.none_of r h]
    rfl
  | some x =>
    obtain ⟨u, e1, e2⟩ := r.get h
    rw [e1]
    exact e2
theorem Vals.byKs {vs : List V} {us : List Value} (r : Vals vs us) (ks : List Nat) : Vals (Rx.byKs .non ks vs) (Rx.byKs .none ks us) := by
  unfold Rx.byKs
  generalize List.range ks.length = l
  induction l with
  | nil => exact .nil
  | cons j t ih => exact .cons (Vals.getD r _) ih
def tCallKS (sp : Sp) (ks : List Nat) (E : L2.St → XK) (tk : TA) : TE := fun σ H Q => tk σ H fun zs H1 => zs.length = ks.length ∧ sp (byKs .non ks zs) H1 Q (E σ)
theorem pe_callKS {X : Cx} {CX : CXT} {k : Nat} {f : Addr} {fd : FuncData} {ps : List Str} {ks : List Nat} {sp : Sp} {E : L2.St → XK} {x : Str} {p pos : Pos} {kws : List Keyword} {tk : TA}
    (F : FnOk X.prog X.w X.K X.mg X.base CX k f fd ps sp) (hr : Room k X.A) (hg : Gl X x) (hm : X.mg x = some (.ref f)) (hk : PySem.W.keepIn X.K (.ref f) = true) (hb : KwB X.K fd ps ks) (hx : ∀ σ, PassesAt CX X σ (E σ))
    (hkw : PK X kws tk) (hdb : (x == ("__debug__" : Str)) = false) (hall : (backToKw pos (keywordEach kws X.env)).all (·.1.isSome) = true) (hks : (backToKw pos (keywordEach kws X.env)).filterMap (·.1) = ks.filterMap fun k => ps[k]?) :
    PE X (.Call (.Name x p) [] kws pos) (tCallKS sp ks E tk) := by
  refine ⟨fun pins s σ H Q I h => ?_⟩
  refine wpAny_Call_Name_kw (ld_glob I hg hm ?_ hdb)
  have hpl : ((backTo pos (starEach [] X.env)).any (·.1) || (backToKw pos (keywordEach kws X.env)).any (·.1.isNone)) = false := by
    rw [any_none hall]
    rfl
  refine PySem.W.callWith_KW0 (h₀ := X.base) I.ok.mod.kin hk hall (thn (hkw.run pos pins s σ H _ I h) fun ws s2 ⟨zs, H2, I2, rz, hlz, q2⟩ => ⟨I2.kIn, ?_⟩) hpl
  rw [hks]
  have r2 := Vals.byKs rz ks
  refine wpAny_call (codeAny_mono (F.run X.A X.stack s2 H2 ⟨[], (ks.filterMap fun k => ps[k]?).zip ws⟩ (byKs .none ks ws) (byKs .non ks zs) Q (E σ) hr I2.env0 (hb s2 ws I2.kIn (by rw [← rz.length]; exact hlz)) r2 q2) fun r s' hq => ?_)
  cases r with
  | error e => exact hx σ pins H2 s2 e s' I2 hq
  | ok fl =>
    cases fl with
    | ret u => exact I2.after hq
    | next => exact False.elim hq
    | brk => exact False.elim hq
    | cont => exact False.elim hq
theorem Rps.getD {G : Hp} {vs : List V} {ds : List PyData} (r : Rps aw K G vs ds) (i : Nat) : Rp aw K G (vs.getD i .non) (ds.getD i .none) := by
  rw [List.getD_eq_getElem?_getD, List.getD_eq_getElem?_getD]
  cases h : ds[i]? with
  | none =>
    have : vs[i]? = none := by
      rw [List.getElem?_eq_none_iff] at h ⊢
      rw [r.length]
      exact h
    rw [this]
    exact .non
  | some d =>
    obtain ⟨v, e1, e2⟩ := r.get h
    rw [e1]
    exact e2
theorem Rps.byKeys {G : Hp} {vs : List V} {ds : List PyData} (r : Rps aw K G vs ds) (ks : List Nat) : Rps aw K G (byKs .non ks vs) (Rx.byKeys ks ds) := by
  unfold Rx.byKeys byKs
  generalize List.range ks.length = l
  induction l with
  | nil => exact .nil
  | cons j t ih => exact .cons (r.getD _) ih
theorem filterMap_map_id {α β : Type} (f : α → Option β) : ∀ l : List α, (l.map f).filterMap id = l.filterMap f
  | [] => rfl
  | a :: r => by
    rw [List.map_cons, List.filterMap_cons, List.filterMap_cons, filterMap_map_id f r]
    rfl
theorem ok_callk (g : Glo P wd K mg base tb aw ag exA exF cl lv) (f : Nat) (ks : List Nat) {l : T} (hl : Ok P wd K mg base tb aw ag exA exF cl lv l) : Ok P wd K mg base tb aw ag exA exF cl lv (.callk f ks l) := mkEx rfl (chkL_no rfl) fun c W e h => by
  cases e <;> first | (simp [chkE] at h; done) | skip
  rename_i fe es kws pos
  cases fe <;> first | (simp [chkE] at h; done) | skip
  rename_i x px
  cases es <;> first | (simp [chkE] at h; done) | skip
  simp only [chkE] at h
  split at h
  case h_2 => simp at h
  rename_i y ps hf
  simp only [Bool.and_eq_true, decide_eq_true_eq] at h
  obtain ⟨⟨⟨⟨⟨⟨h1, h2⟩, h3⟩, h4⟩, h5⟩, h6⟩, h7⟩ := h
  subst h1
  obtain ⟨fa, fd, k1, k2, k3, k4, k5⟩ := g.fn f _ ps hf
  obtain ⟨ta, _, a2, a3, _⟩ := hl.l c W _ h7
  refine ⟨rfl, tCallKS (spF aw ag K exA exF (cl f) ps.length) ks (WE W) ta, fun X C => ?_, noLc rfl, fun G0 H0 G H σ sl w Q R p => ?_⟩
  · have F : FnOk X.prog X.w X.K X.mg X.base (L2.CX X.prog X.w) lv fa fd ps (spF aw ag K exA exF (cl f) ps.length) := by
      rw [C.P, C.wd, C.K, C.mg, C.base]
      exact k5
    have hall : (backToKw pos (keywordEach kws X.env)).all (·.1.isSome) = true := by
      rw [all_fst, kw_names, List.all_map]
      exact h5
    have hks : (backToKw pos (keywordEach kws X.env)).filterMap (·.1) = ks.filterMap fun k => ps[k]? := by
      rw [filterMap_fst, kw_names, h2, filterMap_map_id]
    exact pe_callKS F C.room (gl_of C h6).1 (by rw [C.mg]; exact k1) (by rw [C.K]; exact k2) (by rw [C.K]; exact k4 ks h3) (fun σ => passAt C.takes σ) (a2 X C kws rfl) (gl_of C h6).2 hall hks
  · refine a3 G0 H0 G H σ sl w _ R (Post.bnd p fun ds w1 vs G1 H1 hm R1 S1 hv q => ?_)
    have e1 := sem_l_len l c _ h7 sl w ds w1 hm
    have e2 := congrArg List.length h2
    rw [List.length_map, List.length_map] at e2
    rw [List.length_map] at e1
    refine ⟨by rw [hv.length, e1, e2], ?_⟩
    by_cases hn : (byKeys ks ds).length = ps.length
    · exact Post.callR R1 (hv.byKeys ks) (by rw [(hv.byKeys ks).length]; exact hn) q
    · exfalso
      rw [map_stuck (g.ln f _ ps hf _ w1 hn)] at q
      exact q
end
end Rx
set_option Elab.async false
set_option linter.all false
set_option maxRecDepth 100000
set_option maxHeartbeats 2000000
namespace Rx
open PySem PySem.Spec PyProof.Rows L2
/-! ### slots forgotten -/
theorem wipe_get (σ : L2.St) : ∀ (vs : List Nat) (j : Nat), (wipe σ vs)[j]? = if j ∈ vs then (σ[j]?).map fun _ => none else σ[j]?
  | [], j => by simp [wipe]
  | v :: r, j => by
    unfold wipe
    rw [List.getElem?_set, wipe_length, wipe_get σ r j]
    by_cases hv : v = j
    · subst hv
      simp only [if_true, List.mem_cons, true_or]
      by_cases hl : v < σ.length
      · rw [if_pos hl, List.getElem?_eq_getElem hl]
        rfl
      · rw [if_neg hl, List.getElem?_eq_none (by omega)]
        rfl
    · rw [if_neg hv]
      have : (j ∈ v :: r) = (j ∈ r) := by
        simp only [List.mem_cons, eq_iff_iff, or_iff_right_iff_imp]
        exact fun e => absurd e.symm hv
      simp only [this]
theorem wipeS_length (sl : List Slt) : ∀ vs : List Nat, (wipeS sl vs).length = sl.length
  | [] => rfl
  | v :: r => by unfold wipeS; rw [List.length_set, wipeS_length sl r]
theorem wipeS_get (sl : List Slt) : ∀ (vs : List Nat) (j : Nat), (wipeS sl vs)[j]? = if j ∈ vs then (sl[j]?).map fun _ => .no else sl[j]?
  | [], j => by simp [wipeS]
  | v :: r, j => by
    unfold wipeS
    rw [List.getElem?_set, wipeS_length, wipeS_get sl r j]
    by_cases hv : v = j
    · subst hv
      simp only [if_true, List.mem_cons, true_or]
      by_cases hl : v < sl.length
      · rw [if_pos hl, List.getElem?_eq_getElem hl]
        rfl
      · rw [if_neg hl, List.getElem?_eq_none (by omega)]
        rfl
    · rw [if_neg hv]
      have : (j ∈ v :: r) = (j ∈ r) := by
        simp only [List.mem_cons, eq_iff_iff, or_iff_right_iff_imp]
        exact fun e => absurd e.symm hv
      simp only [this]
theorem wipe_set {σ : L2.St} {vs : List Nat} {i : Nat} {x : Option V} (h : i ∈ vs) : wipe (σ.set i x) vs = wipe σ vs := by
  refine List.ext_getElem? fun j => ?_
  rw [wipe_get, wipe_get]
  by_cases hj : j ∈ vs
  · rw [if_pos hj, if_pos hj, List.getElem?_set]
    by_cases e : i = j
    · subst e
      rw [if_pos rfl]
      by_cases hl : i < σ.length
      · rw [if_pos hl, List.getElem?_eq_getElem hl]
        rfl
      · rw [if_neg hl, List.getElem?_eq_none (by omega)]
    · rw [if_neg e]
  · rw [if_neg hj, if_neg hj, List.getElem?_set_ne (fun (e : i = j) => hj (e ▸ h))]
theorem wipeS_set {sl : List Slt} {vs : List Nat} {i : Nat} {x : Slt} (h : i ∈ vs) : wipeS (sl.set i x) vs = wipeS sl vs := by
  refine List.ext_getElem? fun j => ?_
  rw [wipeS_get, wipeS_get]
  by_cases hj : j ∈ vs
  · rw [if_pos hj, if_pos hj, List.getElem?_set]
    by_cases e : i = j
    · subst e
      rw [if_pos rfl]
      by_cases hl : i < sl.length
      · rw [if_pos hl, List.getElem?_eq_getElem hl]
        rfl
      · rw [if_neg hl, List.getElem?_eq_none (by omega)]
    · rw [if_neg e]
  · rw [if_neg hj, if_neg hj, List.getElem?_set_ne (fun (e : i = j) => hj (e ▸ h))]
section
variable {aw ag : Addr} {K : PySem.W.Frag} {G0 H0 G H G1 H1 : Hp} {σ : L2.St} {sl : List Slt} {w w1 : Wl} {v : V} {d : PyData}
theorem Rel.setVal (R : Rel aw ag K G0 H0 G H σ sl w) (r : Rp aw K G v d) (i : Nat) : Rel aw ag K G0 H0 G H (σ.set i (some v)) (sl.set i (.val d)) w := by
  have own' : ∀ (j : Nat) ds, (sl.set i (.val d))[j]? = some (.own ds) → i ≠ j ∧ sl[j]? = some (.own ds) := fun j ds e => by
    rw [List.getElem?_set] at e
    by_cases h : i = j
    · rw [if_pos h] at e
      split at e <;> cases e
    · rw [if_neg h] at e
      exact ⟨h, e⟩
  refine ⟨R.b, fun j e h => ?_, fun j ds h => ?_, fun j k ds es a h1 h2 h3 h4 => ?_, by rw [List.length_set, List.length_set, R.len]⟩
  · rw [List.getElem?_set] at h
    by_cases hj : i = j
    · rw [if_pos hj] at h
      split at h
      · rename_i hl
        cases h
        subst hj
        exact ⟨v, by rw [List.getElem?_set_self (by rw [R.len]; exact hl)], r⟩
      · cases h
    · rw [if_neg hj] at h
      rw [List.getElem?_set_ne hj]
      exact R.val j e h
  · obtain ⟨n, e⟩ := own' j ds h
    rw [List.getElem?_set_ne n]
    exact R.own j ds e
  · obtain ⟨n1, e1⟩ := own' j ds h1
    obtain ⟨n2, e2⟩ := own' k es h2
    rw [List.getElem?_set_ne n1] at h3
    rw [List.getElem?_set_ne n2] at h4
    exact R.inj j k ds es a e1 e2 h3 h4
theorem Rel.wipe (R : Rel aw ag K G0 H0 G H σ sl w) (vs : List Nat) : Rel aw ag K G0 H0 G H (L2.wipe σ vs) (wipeS sl vs) w := by
  have go : ∀ (j : Nat) s, s ≠ Slt.no → (wipeS sl vs)[j]? = some s → j ∉ vs ∧ sl[j]? = some s := fun j s n e => by
    rw [wipeS_get] at e
    split at e
    · cases q : sl[j]? with
      | none => rw [q] at e; cases e
      | some s' => rw [q] at e; cases e; exact absurd rfl n
    · exact ⟨by assumption, e⟩
  have at' : ∀ j, j ∉ vs → (L2.wipe σ vs)[j]? = σ[j]? := fun j h => by rw [wipe_get, if_neg h]
  refine ⟨R.b, fun j e h => ?_, fun j ds h => ?_, fun j k ds es a h1 h2 h3 h4 => ?_, by rw [wipe_length, wipeS_length, R.len]⟩
  · obtain ⟨n, h⟩ := go j _ (by simp) h
    rw [at' j n]
    exact R.val j e h
  · obtain ⟨n, h⟩ := go j _ (by simp) h
    rw [at' j n]
    exact R.own j ds h
  · obtain ⟨n1, h1⟩ := go j _ (by simp) h1
    obtain ⟨n2, h2⟩ := go k _ (by simp) h2
    rw [at' j n1] at h3
    rw [at' k n2] at h4
    exact R.inj j k ds es a h1 h2 h3 h4
/-- the forgotten slots come back -/
theorem Rel.unwipe {vs : List Nat} {H0' : Hp} (R : Rel aw ag K G0 H0' G H σ sl w) (no : noOwn vs sl = true) (R1 : Rel aw ag K G0 H0 G1 H1 (L2.wipe σ vs) (wipeS sl vs) w1) (S : Same G G1) : Rel aw ag K G0 H0 G1 H1 σ sl w1 := by
  have at' : ∀ j, j ∉ vs → (L2.wipe σ vs)[j]? = σ[j]? := fun j h => by rw [wipe_get, if_neg h]
  have ats : ∀ j, j ∉ vs → (wipeS sl vs)[j]? = sl[j]? := fun j h => by rw [wipeS_get, if_neg h]
  have nm : ∀ j ds, sl[j]? = some (.own ds) → j ∉ vs := fun j ds h hm => by
    unfold noOwn at no
    rw [List.all_eq_true] at no
    have z := no j hm
    rw [h] at z
    cases z
  refine ⟨R1.b, fun j e h => ?_, fun j ds h => ?_, fun j k ds es a h1 h2 h3 h4 => ?_, R.len⟩
  · obtain ⟨v, q1, q2⟩ := R.val j e h
    exact ⟨v, q1, q2.mono S⟩
  · have n := nm j ds h
    rw [← at' j n]
    exact R1.own j ds (by rw [ats j n]; exact h)
  · have n1 := nm j ds h1
    have n2 := nm k es h2
    exact R1.inj j k ds es a (by rw [ats j n1]; exact h1) (by rw [ats k n2]; exact h2) (by rw [at' j n1]; exact h3) (by rw [at' k n2]; exact h4)
/-- an object that is held besides -/
theorem Rel.hold {D : Addr} {o : HO} (R : Rel aw ag K G0 H0 G H σ sl w) (hD : H D = some o) (h0 : H0 D = none) (hG : G D = none) (n1 : D ≠ aw) (n2 : D ≠ ag) (no : ∀ (i : Nat) es, sl[i]? = some (.own es) → σ[i]? ≠ some (some (.ref D))) : Rel aw ag K G0 (upd H0 D o) G H σ sl w := by
  refine ⟨⟨R.b.gh, R.b.g0, fun a u e m1 m2 => ?_, fun a e1 e2 => ?_, R.b.hw, R.b.hg, R.b.gw, R.b.gg⟩, R.val, fun i ds e => ?_, R.inj, R.len⟩
  · by_cases ha : a = D
    · subst ha
      rw [upd_same] at e
      cases e
      exact hD
    · rw [upd_ne ha] at e
      exact R.b.fr a u e m1 m2
  · by_cases ha : a = D
    · subst ha
      exact hG
    · rw [upd_ne ha] at e1
      exact R.b.old a e1 e2
  · obtain ⟨a, vs, q1, q2, q3, q4, q5⟩ := R.own i ds e
    have ha : a ≠ D := fun z => no i ds e (z ▸ q1)
    exact ⟨a, vs, q1, q2, q3, by rw [upd_ne ha]; exact q4, q5⟩
theorem Rel.free {D : Addr} {o : HO} (R : Rel aw ag K G0 (upd H0 D o) G H σ sl w) (h0 : H0 D = none) : Rel aw ag K G0 H0 G H σ sl w ∧ (D ≠ aw → D ≠ ag → H D = some o) ∧ (G0 D = none → G D = none) ∧ (∀ (i : Nat) es, sl[i]? = some (.own es) → σ[i]? ≠ some (some (.ref D))) := by
  refine ⟨⟨⟨R.b.gh, R.b.g0, fun a u e m1 m2 => ?_, fun a e1 e2 => ?_, R.b.hw, R.b.hg, R.b.gw, R.b.gg⟩, R.val, fun i ds e => ?_, R.inj, R.len⟩, fun n1 n2 => R.b.fr D o upd_same n1 n2, fun e => R.b.old D (by rw [upd_same]; exact fun z => by cases z) e, fun i es e z => ?_⟩
  · have ha : a ≠ D := fun z => by rw [z, h0] at e; cases e
    exact R.b.fr a u (by rw [upd_ne ha]; exact e) m1 m2
  · have ha : a ≠ D := fun z => e1 (z ▸ h0)
    exact R.b.old a (by rw [upd_ne ha]; exact e1) e2
  · obtain ⟨a, vs, q1, q2, q3, q4, q5⟩ := R.own i ds e
    have ha : a ≠ D := fun z => by rw [z, upd_same] at q4; cases q4
    rw [upd_ne ha] at q4
    exact ⟨a, vs, q1, q2, q3, q4, q5⟩
  · obtain ⟨a, vs, q1, q2, q3, q4, q5⟩ := R.own i es e
    rw [q1] at z
    cases z
    rw [upd_same] at q4
    cases q4
/-- the held object is written -/
theorem Rel.write {D : Addr} {o u : HO} (R : Rel aw ag K G0 (upd H0 D o) G H σ sl w) (h0 : H0 D = none) (g0 : G0 D = none) (n1 : D ≠ aw) (n2 : D ≠ ag) : Rel aw ag K G0 (upd H0 D u) G (upd H D u) σ sl w := by
  obtain ⟨R1, hD, hG, hno⟩ := R.free h0
  have gD := hG g0
  refine ⟨⟨fun a x e => ?_, R.b.g0, fun a x e m1 m2 => ?_, fun a e1 e2 => ?_, ?_, ?_, R.b.gw, R.b.gg⟩, R.val, fun i ds e => ?_, R.inj, R.len⟩
  · have ha : a ≠ D := fun z => by rw [z, gD] at e; cases e
    rw [upd_ne ha]
    exact R.b.gh a x e
  · by_cases ha : a = D
    · subst ha
      rw [upd_same] at e ⊢
      exact e
    · rw [upd_ne ha] at e ⊢
      exact R1.b.fr a x e m1 m2
  · by_cases ha : a = D
    · subst ha
      exact gD
    · rw [upd_ne ha] at e1
      exact R1.b.old a e1 e2
  · rw [upd_ne (Ne.symm n1)]
    exact R.b.hw
  · rw [upd_ne (Ne.symm n2)]
    exact R.b.hg
  · obtain ⟨a, vs, q1, q2, q3, q4, q5⟩ := R1.own i ds e
    have ha : a ≠ D := fun z => hno i ds e (z ▸ q1)
    exact ⟨a, vs, q1, by rw [upd_ne ha]; exact q2, q3, by rw [upd_ne ha]; exact q4, q5⟩
theorem Rel.yield {x : V} {H' : Hp} (R : Rel aw ag K G0 H0 G H σ sl w) (y : Yields aw K G H x H' d) : ∃ G', Rel aw ag K G0 H0 G' H' σ sl w ∧ Same G G' ∧ Rp aw K G' x d := by
  rcases y with ⟨rfl, r⟩ | ⟨p, vs, ds, hp, rfl, rfl, rfl, r, hl⟩
  · exact ⟨G, R, Same.refl G, r⟩
  · obtain ⟨R1, S1, r1⟩ := tupR R hp r hl
    exact ⟨_, R1, S1, r1⟩
end
/-! ### targets -/
section
variable (aw ag : Addr) (K : PySem.W.Frag)
def SG (g : T) (tg : TG) : Prop := ∀ G0 H0 G H σ sl sl' w v d (Q : L2.St → Hp → Prop), Rel aw ag K G0 H0 G H σ sl w → asgG g d sl = some sl' → Rp aw K G v d →
  (∀ σ', Rel aw ag K G0 H0 G H σ' sl' w → (∀ vs, tgIn vs g = true → wipe σ' vs = wipe σ vs ∧ wipeS sl' vs = wipeS sl vs) → Q σ' H) → tg v σ H Q
def SGs (g : T) (tg : TGs) : Prop := ∀ G0 H0 G H σ sl sl' w v d (Q : L2.St → Hp → Prop), Rel aw ag K G0 H0 G H σ sl w → asgGs g d sl = some sl' → Rps aw K G v d →
  (∀ σ', Rel aw ag K G0 H0 G H σ' sl' w → (∀ vs, tgIn vs g = true → wipe σ' vs = wipe σ vs ∧ wipeS sl' vs = wipeS sl vs) → Q σ' H) → tg v σ H Q
end
section
variable {P : Program} {wd : World} {K : PySem.W.Frag} {mg : Str → Option Value} {base : Heap} {tb : Tab} {aw ag : Addr} {exA : Nat → Addr} {exF : Nat → List Str} {cl : Nat → List PyData → Wl → Rz PyData} {lv : Nat}
theorem loc_of {W : WX} {c : CkC} {X : Cx} {i : Nat} {x : Str} (C : Ctx P wd K mg base lv W c X) (h : stOk c i x = true) : X.N[i]? = some x ∧ Loc X.env.scope x ∧ (X.fn x = true ∨ X.env.scope.names.lookup x = some .local) := by
  unfold stOk at h
  simp only [Bool.and_eq_true, decide_eq_true_eq] at h
  obtain ⟨h1, h2⟩ := h
  unfold locB at h2
  simp only [Bool.or_eq_true, Bool.and_eq_true, decide_eq_true_eq] at h2
  refine ⟨by rw [C.N]; exact h1, ?_, ?_⟩
  · show X.env.scope.names.lookup x = _ ∨ _
    rw [C.sc]
    rcases h2 with h2 | h2
    · exact .inl h2
    · exact .inr h2.1
  · rw [C.sc, C.st]
    rcases h2 with h2 | h2
    · exact .inr h2
    · exact .inl h2.2
theorem asgGs_len : ∀ {l : T} {ds : List PyData} {sl sl' : List Slt} {c : CkC} {es : List Expr}, asgGs l ds sl = some sl' → chkGs l c es = true → ds.length = es.length
  | .nil, [], _, _, _, [], _, _ => rfl
  | .nil, [], _, _, _, _ :: _, _, h => by simp [chkGs] at h
  | .nil, _ :: _, _, _, _, _, h, _ => by simp [asgGs] at h
  | .cons a r, [], _, _, _, _, h, _ => by simp [asgGs] at h
  | .cons a r, d :: ds, sl, sl', c, [], _, h => by simp [chkGs] at h
  | .cons a r, d :: ds, sl, sl', c, e :: es, h, h' => by
    simp only [chkGs, Bool.and_eq_true] at h'
    simp only [asgGs] at h
    split at h
    · rw [List.length_cons, List.length_cons, asgGs_len h h'.2]
    · cases h
theorem chkG_each {g : T} {c : CkC} {e : Expr} (h : chkG g c e = true) (es : List Expr) (env : Env) : assignEach (e :: es) env = (false, assign e env) :: assignEach es env := by
  cases e <;> first | rfl | (exfalso; cases g <;> simp [chkG] at h)
theorem chkGs_each : ∀ {l : T} {c : CkC} {es : List Expr}, chkGs l c es = true → ∀ env, (assignEach es env).length = es.length ∧ (assignEach es env).findIdx? (·.1) = none
  | .nil, _, [], _, _ => ⟨rfl, rfl⟩
  | .nil, _, _ :: _, h, _ => by simp [chkGs] at h
  | .cons a r, _, [], h, _ => by simp [chkGs] at h
  | .cons a r, c, e :: es, h, env => by
    simp only [chkGs, Bool.and_eq_true] at h
    obtain ⟨h1, h2⟩ := chkGs_each h.2 env
    rw [chkG_each h.1]
    refine ⟨by rw [List.length_cons, List.length_cons, h1], ?_⟩
    rw [List.findIdx?_cons, h2]
    rfl
theorem g_ok (g : T) : (∀ c eg, chkG g c eg = true → ∃ tg, (∀ W X, Ctx P wd K mg base lv W c X → PG X eg tg) ∧ SG aw ag K g tg) ∧ (∀ c es, chkGs g c es = true → ∃ tg, (∀ W X, Ctx P wd K mg base lv W c X → PGs X es tg) ∧ SGs aw ag K g tg) := by
  induction g
  case nm i =>
    refine ⟨fun c eg h => ?_, fun c es h => by cases es <;> simp [chkGs] at h⟩
    cases eg <;> first | (simp [chkG] at h; done) | skip
    rename_i x pos
    simp only [chkG] at h
    refine ⟨gName i, fun W X C => ?_, fun G0 H0 G H σ sl sl' w v d Q R h1 r q => ?_⟩
    · obtain ⟨h1, h2, h3⟩ := loc_of C h
      exact pg_name (by rw [C.N]; exact C.nd) h1 h2 h3
    · have h1' : (if i < sl.length then some (sl.set i (.val d)) else none) = some sl' := by simpa [asgG] using h1
      split at h1'
      · cases h1'
        refine q _ (R.setVal r i) fun vs hv => ?_
        have hi : i ∈ vs := by simpa [tgIn] using hv
        exact ⟨wipe_set hi, wipeS_set hi⟩
      · cases h1'
  case tup l ih =>
    refine ⟨fun c eg h => ?_, fun c es h => by cases es <;> simp [chkGs] at h⟩
    cases eg <;> first | (simp [chkG] at h; done) | skip
    rename_i es k pos
    simp only [chkG] at h
    obtain ⟨tg, t1, t2⟩ := ih.2 c es h
    refine ⟨gTup K es.length tg, fun W X C => ?_, fun G0 H0 G H σ sl sl' w v d Q R h1 r q => ?_⟩
    · have z := chkGs_each h X.env
      rw [← C.K]
      exact pg_tup C.calm (t1 W X C) z.1 z.2
    · cases d <;> first | (simp [asgG] at h1; done) | skip
      rename_i ds
      have h1' : asgGs l ds sl = some sl' := by simpa [asgG] using h1
      obtain ⟨a, vs, rfl, e1, e2, e3⟩ := r.tup_inv
      exact ⟨a, vs, rfl, Same.sqt R.b.gh e1, by rw [e3.length]; exact asgGs_len h1' h, t2 G0 H0 G H σ sl sl' w vs ds Q R h1' e3 q⟩
  case nil =>
    refine ⟨fun c eg h => by cases eg <;> simp [chkG] at h, fun c es h => ?_⟩
    cases es <;> first | (simp [chkGs] at h; done) | skip
    refine ⟨gNil, fun W X C => pgs_nil, fun G0 H0 G H σ sl sl' w v d Q R h1 r q => ?_⟩
    cases d with
    | cons _ _ => simp [asgGs] at h1
    | nil =>
      simp only [asgGs, Option.some.injEq] at h1
      subst h1
      cases r
      exact ⟨rfl, q σ R fun vs _ => ⟨rfl, rfl⟩⟩
  case cons a r iha ihr =>
    refine ⟨fun c eg h => by cases eg <;> simp [chkG] at h, fun c es h => ?_⟩
    cases es with
    | nil => simp [chkGs] at h
    | cons e es =>
      simp only [chkGs, Bool.and_eq_true] at h
      obtain ⟨tg, t1, t2⟩ := iha.1 c e h.1
      obtain ⟨tr, r1, r2⟩ := ihr.2 c es h.2
      refine ⟨gCons tg tr, fun W X C => pgs_cons (t1 W X C) (r1 W X C) (by rw [chkG_each h.1]; rfl), fun G0 H0 G H σ sl sl' w v d Q R h1 rp q => ?_⟩
      cases d with
      | nil => simp [asgGs] at h1
      | cons d ds =>
        have h1' := h1
        simp only [asgGs] at h1'
        split at h1'
        · rename_i sl1 hs
          cases rp with
          | cons rv rr =>
            refine ⟨_, _, rfl, t2 G0 H0 G H σ sl sl1 w _ d _ R hs rv fun σ1 R1 k1 => ?_⟩
            refine r2 G0 H0 G H σ1 sl1 sl' w _ ds _ R1 h1' rr fun σ2 R2 k2 => ?_
            refine q σ2 R2 fun vs hv => ?_
            simp only [tgIn, Bool.and_eq_true] at hv
            obtain ⟨a1, a2⟩ := k1 vs hv.1
            obtain ⟨b1, b2⟩ := k2 vs hv.2
            exact ⟨b1.trans a1, b2.trans a2⟩
        · cases h1'
  all_goals exact ⟨fun c eg h => by cases eg <;> simp [chkG] at h, fun c es h => by cases es <;> simp [chkGs] at h⟩
end
end Rx
set_option Elab.async false
set_option linter.all false
set_option maxRecDepth 100000
set_option maxHeartbeats 2000000
/-! Rx: comprehensions. -/
namespace Rx
open PySem PySem.Spec PyProof.Rows L2
theorem wipe_wipe (σ : L2.St) (vs : List Nat) : wipe (wipe σ vs) vs = wipe σ vs := by
  refine List.ext_getElem? fun j => ?_
  rw [wipe_get, wipe_get]
  split
  · cases σ[j]? <;> rfl
  · rfl
theorem wipeS_wipe (sl : List Slt) (vs : List Nat) : wipeS (wipeS sl vs) vs = wipeS sl vs := by
  refine List.ext_getElem? fun j => ?_
  rw [wipeS_get, wipeS_get]
  split
  · cases sl[j]? <;> rfl
  · rfl
theorem bnd_map {α β γ : Type} (m : Rz α) (f : α → Wl → Rz β) (g : β → γ) : (m.bnd f).map g = m.bnd fun a w => (f a w).map g := by cases m <;> rfl
theorem Yields.mono {aw : Addr} {K : PySem.W.Frag} {G G' H H' : Hp} {x : V} {d : PyData} (S : Same G G') (h : Yields aw K G H x H' d) : Yields aw K G' H x H' d := by
  rcases h with ⟨e, r⟩ | ⟨p, vs, es, a1, a2, a3, a4, a5, a6⟩
  · exact .inl ⟨e, r.mono S⟩
  · exact .inr ⟨p, vs, es, a1, a2, a3, a4, a5.mono S, a6⟩
/-- what is walked gives the items wherever the slots are as they are -/
def Walks (aw ag : Addr) (K : PySem.W.Frag) (G0 : Hp) (σ : L2.St) (sl : List Slt) (G1 : Hp) (J : It) (items : List PyData) : Prop :=
  ∀ (i : Nat) G' H0' H' w', Rel aw ag K G0 H0' G' H' σ sl w' → Same G1 G' → (∀ d, items[i]? = some d → J.go i H' ∧ ∀ x H'', J.yld i H' x H'' → Yields aw K G' H' x H'' d) ∧ (i = items.length → J.stop i H')
def rrW (aw ag : Addr) (K : PySem.W.Frag) (G0 : Hp) (σ : L2.St) (sl : List Slt) (G1 H1 : Hp) (J : It) (items : List PyData) : Prop := Walks aw ag K G0 σ sl G1 J items ∧ items.length ≤ sizeLine
section
variable {aw ag : Addr} {K : PySem.W.Frag} {exA : Nat → Addr} {exF : Nat → List Str} {W : WX} {G0 H0 G G1 H H1 : Hp} {σ : L2.St} {sl : List Slt} {w : Wl}
theorem walks_of {J : It} {ds : List PyData} (h : ItOk aw K G1 J ds) : Walks aw ag K G0 σ sl G1 J ds := fun i G' H0' H' w' R S =>
  ⟨fun d hd => ⟨((h i H' (S.trans R.b.gh)).1 d hd).1, fun x H'' y => (((h i H' (S.trans R.b.gh)).1 d hd).2 x H'' y).mono S⟩, (h i H' (S.trans R.b.gh)).2⟩
theorem walks_own {i : Nat} {a : Addr} {ds : List PyData} (hs : sl[i]? = some (.own ds)) (ha : σ[i]? = some (some (.ref a))) : Walks aw ag K G0 σ sl G1 (Itl K a) ds := fun j G' H0' H' w' R S => by
  obtain ⟨a', vs, q1, q2, q3, q4, q5, q6, q7, q8⟩ := R.own i ds hs
  rw [ha] at q1
  cases q1
  refine ⟨fun d hd => ?_, fun e => ⟨vs, SqL.of q2, by rw [q7.length, e]; exact Nat.le_refl _⟩⟩
  obtain ⟨v, e1, e2⟩ := q7.get hd
  refine ⟨⟨vs, v, SqL.of q2, e1⟩, fun x H'' y => ?_⟩
  obtain ⟨e, y⟩ := y
  have z := y vs (SqL.of q2)
  rw [e1] at z
  cases z
  exact .inl ⟨e, e2⟩
theorem Post.imp {α β : Type} {Rr Rr' : Hp → Hp → β → α → Prop} {Q : β → Hp → Prop} {m : Rz α} (h : Post aw ag K exA exF W Rr' G0 H0 G σ sl Q m) (k : ∀ G H b a, Rr G H b a → Rr' G H b a) : Post aw ag K exA exF W Rr G0 H0 G σ sl Q m := by
  cases m with
  | ok a w1 => exact fun b G1 H1 R S r => h b G1 H1 R S (k _ _ _ _ r)
  | exc c fs w1 => exact h
  | stuck => exact h
end
section
variable (aw ag : Addr) (K : PySem.W.Frag) (exA : Nat → Addr) (exF : Nat → List Str) (W : WX)
def SW (v : List Slt → Wl → Rz (List PyData)) (wi : TI) : Prop := ∀ G0 H0 G H σ sl w Q, Rel aw ag K G0 H0 G H σ sl w → Post aw ag K exA exF W (rrW aw ag K G0 σ sl) G0 H0 G σ sl Q (v sl w) → wi σ H Q
end
/-- what is walked: a name is looked at -/
def itV (n : Option Nat) (a : Sm) : List Slt → Wl → Rz (List PyData) := fun sl w =>
  match n with
  | some i => (slotP i sl w).bnd fun x w => ofO (itemsD x) w
  | none => a.i sl w
def noW : WX := fun _ _ _ _ => False
section
variable {P : Program} {wd : World} {K : PySem.W.Frag} {mg : Str → Option Value} {base : Heap} {tb : Tab} {aw ag : Addr} {exA : Nat → Addr} {exF : Nat → List Str} {cl : Nat → List PyData → Wl → Rz PyData} {lv : Nat}
theorem it_ok {t : T} (ht : Ok P wd K mg base tb aw ag exA exF cl lv t) (c : CkC) (W : WX) (e : Expr) (h : chkE tb t c e = true) : ∃ wi, (∀ X tg, Ctx P wd K mg base lv W c X → PI X tg e wi) ∧ SW aw ag K exA exF W (itV (isNm t) (sem cl t)) wi := by
  cases hn : isNm t with
  | none =>
    obtain ⟨wi, h1, h2⟩ := ht.i c W e h
    exact ⟨wi, h1, fun G0 H0 G H σ sl w Q R p => h2 G0 H0 G H σ sl w Q R (p.imp fun _ _ _ _ r => ⟨walks_of r.1, r.2⟩)⟩
  | some i =>
    have ea : t = .nm i := by
      cases t <;> first | (cases hn; done) | skip
      cases hn
      rfl
    subst ea
    obtain ⟨x, px, rfl, hnm⟩ := nm_inv h
    refine ⟨iSeq K (tVar i), fun X tg C => ?_, fun G0 H0 G H σ sl w Q R p => ?_⟩
    · have z := pi_seq (tg := tg) (pe_nm (pos := px) hnm C)
      rw [C.K] at z
      exact z
    · have p' : Post aw ag K exA exF W (rrW aw ag K G0 σ sl) G0 H0 G σ sl Q ((slotP i sl w).bnd fun x w => ofO (itemsD x) w) := p
      cases hs : sl[i]? with
      | none =>
        unfold slotP at p'
        rw [hs] at p'
        exact p'.elim
      | some st =>
        cases st with
        | no =>
          unfold slotP at p'
          rw [hs] at p'
          exact p'.elim
        | val d =>
          unfold slotP at p'
          rw [hs] at p'
          obtain ⟨v, e1, e2⟩ := R.val i d hs
          refine ⟨v, e1, ?_⟩
          obtain ⟨ds, ek, q2⟩ := Post.ofO p'
          cases d with
          | list xs =>
            cases ek
            obtain ⟨a, vs, rfl, f1, f2, f3⟩ := e2.lst_inv
            exact ⟨a, rfl, .inl ⟨⟨vs, SqL.of (R.b.gh _ _ f1)⟩, q2 _ G H R (Same.refl _) ⟨walks_of (itl_ok f1 f3), by rw [← f3.length]; exact f2⟩⟩⟩
          | tuple xs =>
            cases ek
            obtain ⟨a, vs, rfl, f1, f2, f3⟩ := e2.tup_inv
            exact ⟨a, rfl, .inr ⟨⟨vs, Same.sqt R.b.gh f1⟩, q2 _ G H R (Same.refl _) ⟨walks_of (itt_ok f1 f3), by rw [← f3.length]; exact f2⟩⟩⟩
          | _ => cases ek
        | own ds =>
          unfold slotP at p'
          rw [hs] at p'
          obtain ⟨a, vs, q1, q2, q3, q4, q5, q6, q7, q8⟩ := R.own i ds hs
          refine ⟨.ref a, q1, ?_⟩
          exact ⟨a, rfl, .inl ⟨⟨vs, SqL.of q2⟩, p' _ G H R (Same.refl _) ⟨walks_own hs q1, by rw [← q7.length]; exact q8⟩⟩⟩
theorem sem_f (t : T) {c : CkC} {e : Expr} (h : chkE tb t c e = true) : (sem cl t).f = (sem cl t).b := by
  cases t <;> first | rfl | (exfalso; cases e <;> simp [chkE] at h; done)
theorem tests_ok {t : T} {c : CkC} {W : WX} {ef : List Expr} (h : (match t, ef with | .nil, [] => true | .nil, _ :: _ => false | _, [e] => chkE tb t c e | _, _ => false) = true) (ht : Ok P wd K mg base tb aw ag exA exF cl lv t) :
    ∃ tt, (∀ X, Ctx P wd K mg base lv W c X → PTs X ef tt) ∧ SB aw ag K exA exF W (sem cl t).f tt := by
  cases ef with
  | nil =>
    have e : t = .nil := by cases t <;> first | rfl | (cases h; done)
    subst e
    exact ⟨tYes, fun X _ => pts_nil, fun G0 H0 G H σ sl w Q R p => p true G H R (Same.refl _) rfl⟩
  | cons e r =>
    have h' : r = [] ∧ chkE tb t c e = true := by
      cases r with
      | nil => exact ⟨rfl, by cases t <;> first | exact h | (cases h; done)⟩
      | cons _ _ => exfalso; cases t <;> cases h
    obtain ⟨rfl, h2⟩ := h'
    obtain ⟨tt, t1, t3⟩ := ht.ts c W e h2
    rw [sem_f t h2]
    exact ⟨tt, fun X C => pts_one (t1 X C), t3⟩
theorem Ctx.blk {W : WX} {c : CkC} {X : Cx} (C : Ctx P wd K mg base lv W c X) {scope : Scope} (hk : scope.kind = .function) (s : Shared) (H : Hp) (C0 : Addr) (cs : List (Str × Addr)) (fp : List Addr) :
    Ctx P wd K mg base lv noW { c with sc := relS scope c.sc, st := fun x => scope.names.lookup x == some .cell } (X.blk s H scope (compEnvC scope cs C0 X.env) fp) where
  P := C.P
  wd := C.wd
  K := C.K
  mg := C.mg
  base := C.base
  calm := C.calm
  N := C.N
  sc := by
    show relS scope X.env.scope = relS scope c.sc
    rw [C.sc]
  st := rfl
  nd := C.nd
  kind := hk
  room := C.room
  takes := takes0
end
end Rx
set_option Elab.async false
set_option linter.all false
set_option maxRecDepth 100000
set_option maxHeartbeats 2000000
namespace Rx
open PySem PySem.Spec PyProof.Rows L2
section
variable {P : Program} {wd : World} {K : PySem.W.Frag} {mg : Str → Option Value} {base : Heap} {tb : Tab} {aw ag : Addr} {exA : Nat → Addr} {exF : Nat → List Str} {cl : Nat → List PyData → Wl → Rz PyData} {lv : Nat}
theorem turnLc_some {vs : List Nat} {g : T} {t e : Sm} {sl sl1 : List Slt} {d : PyData} (hs : asgG g d (wipeS sl vs) = some sl1) (w : Wl) : turnLc vs g t e sl d w = noExc ((t.f sl1 w).bnd fun b w => if b = true then (e.v sl1 w).map fun x => some x.d else .ok none w) := by
  unfold turnLc
  rw [hs]
theorem turnLc_none {vs : List Nat} {g : T} {t e : Sm} {sl : List Slt} {d : PyData} (hs : asgG g d (wipeS sl vs) = none) (w : Wl) : turnLc vs g t e sl d w = .stuck := by
  unfold turnLc
  rw [hs]
  rfl
theorem lc_turn {W : WX} {D : Addr} {vs : List Nat} {g : T} {t e : Sm} {G0 H0 G1 G2 H'' : Hp} {σ : L2.St} {sl : List Slt} {d : PyData} {v : V} {w' : Wl} {tg : TG} {tt : TT} {te : TE} {acc : List V} {accd rest : List PyData} {Q : VK} {Nx : Hp → Prop} {n : Nat}
    (hg : SG aw ag K g tg) (hgt : tgIn vs g = true) (ht : SB aw ag K exA exF noW t.f tt) (he : SE aw ag K exA exF noW e.v te)
    (no : noOwn vs sl = true) (n1 : D ≠ aw) (n2 : D ≠ ag) (h1 : H0 D = none) (g0 : G0 D = none)
    (R2 : Rel aw ag K G0 (upd H0 D (.lst acc)) G2 H'' σ sl w') (S2 : Same G1 G2) (rv : Rp aw K G2 v d) (rp : Rps aw K G2 acc accd) (hl : acc.length ≤ n) (hn : n < sizeLine)
    (q : Post aw ag K exA exF W (rrV aw ag K H0 σ sl) G0 H0 G2 σ sl Q ((((turnLc vs g t e sl) d w').bnd fun o w => compF (turnLc vs g t e sl) rest (accd ++ o.toList) w).map .fresh))
    (nx : ∀ G5 H5 acc5 accd5 w5, Rel aw ag K G0 (upd H0 D (.lst acc5)) G5 H5 σ sl w5 → Same G1 G5 → Rps aw K G5 acc5 accd5 → acc5.length ≤ n + 1 → Post aw ag K exA exF W (rrV aw ag K H0 σ sl) G0 H0 G5 σ sl Q ((compF (turnLc vs g t e sl) rest accd5 w5).map .fresh) → Nx H5) :
    tg v (wipe σ vs) H'' fun σ2 H2 => wipe σ2 vs = wipe σ vs ∧ tt σ2 H2 fun b H3 =>
      if b = true then te σ2 H3 fun y H4 => ∃ acc, H4 D = some (.lst acc) ∧ acc.length < sizeLine ∧ Nx (upd H4 D (.lst (acc ++ [y]))) else Nx H3 := by
  have Rw := R2.wipe vs
  cases hs : asgG g d (wipeS sl vs) with
  | none =>
    exfalso
    rw [turnLc_none hs] at q
    exact q
  | some sl1 =>
    refine hg G0 _ G2 H'' _ _ sl1 w' v d _ Rw hs rv fun σ2 R3 k3 => ?_
    obtain ⟨k31, k32⟩ := k3 vs hgt
    rw [wipe_wipe] at k31
    rw [wipeS_wipe] at k32
    refine ⟨k31, ?_⟩
    have back : ∀ {G5 H5 : Hp} {o : HO} {w5 : Wl}, Rel aw ag K G0 (upd H0 D o) G5 H5 σ2 sl1 w5 → Same G2 G5 → Rel aw ag K G0 (upd H0 D o) G5 H5 σ sl w5 := fun R5 S5 => by
      have z := R5.wipe vs
      rw [k31, k32] at z
      exact R2.unwipe no z S5
    refine ht G0 _ G2 H'' σ2 sl1 w' _ R3 ?_
    rw [turnLc_some hs] at q
    cases hb : t.f sl1 w' with
    | stuck =>
      rw [hb] at q
      exact q
    | exc c fs w2 =>
      rw [hb] at q
      exact q.elim
    | ok b w2 =>
      rw [hb] at q
      intro b' G3 H3 R4 S4 eb
      cases eb
      cases b with
      | false =>
        show Nx H3
        have q2 : Post aw ag K exA exF W (rrV aw ag K H0 σ sl) G0 H0 G2 σ sl Q ((compF (turnLc vs g t e sl) rest (accd ++ []) w2).map .fresh) := q
        rw [List.append_nil] at q2
        exact nx G3 H3 acc accd w2 (back R4 S4) (S2.trans S4) (rp.mono S4) (by omega) (Post.mono S4 q2)
      | true =>
        show te σ2 H3 _
        refine he G0 _ G3 H3 σ2 sl1 w2 _ R4 ?_
        cases hx : e.v sl1 w2 with
        | stuck =>
          have q2 : Post aw ag K exA exF W (rrV aw ag K H0 σ sl) G0 H0 G2 σ sl Q (((noExc ((e.v sl1 w2).map fun x => some x.d)).bnd fun o w => compF (turnLc vs g t e sl) rest (accd ++ o.toList) w).map .fresh) := q
          rw [hx] at q2
          exact q2
        | exc c fs w3 =>
          have q2 : Post aw ag K exA exF W (rrV aw ag K H0 σ sl) G0 H0 G2 σ sl Q (((noExc ((e.v sl1 w2).map fun x => some x.d)).bnd fun o w => compF (turnLc vs g t e sl) rest (accd ++ o.toList) w).map .fresh) := q
          rw [hx] at q2
          exact q2.elim
        | ok x w3 =>
          have q2 : Post aw ag K exA exF W (rrV aw ag K H0 σ sl) G0 H0 G2 σ sl Q (((noExc ((e.v sl1 w2).map fun x => some x.d)).bnd fun o w => compF (turnLc vs g t e sl) rest (accd ++ o.toList) w).map .fresh) := q
          rw [hx] at q2
          have q3 : Post aw ag K exA exF W (rrV aw ag K H0 σ sl) G0 H0 G2 σ sl Q ((compF (turnLc vs g t e sl) rest (accd ++ [x.d]) w3).map .fresh) := q2
          intro y G4 H4 R5 S5 hv
          obtain ⟨G5, R6, S6, r6⟩ := esc R5 hv
          have hD := (R6.free h1).2.1 n1 n2
          have SS := S4.trans (S5.trans S6)
          refine ⟨acc, hD, by omega, ?_⟩
          refine nx G5 _ (acc ++ [y]) (accd ++ [x.d]) w3 ((back R6 SS).write h1 g0 n1 n2) (S2.trans SS) ((rp.mono SS).append (Rps.one r6)) (by rw [List.length_append]; simp only [List.length_cons, List.length_nil]; omega) (Post.mono SS q3)
theorem lc_se {W : WX} {vs : List Nat} {g : T} {it t e : Sm} {nm : Option Nat} {wi : TI} {tg : TG} {tt : TT} {te : TE}
    (hi : SW aw ag K exA exF W (itV nm it) wi) (hg : SG aw ag K g tg) (hgt : tgIn vs g = true) (ht : SB aw ag K exA exF noW t.f tt) (he : SE aw ag K exA exF noW e.v te) :
    SE aw ag K exA exF W (vLc vs g it t e nm) (tLc wi tg tt te vs) := fun G0 H0 G H σ sl w Q R p => by
  have p0 : Post aw ag K exA exF W (rrV aw ag K H0 σ sl) G0 H0 G σ sl Q (if noOwn vs sl = true then ((itV nm it sl w).bnd fun items w => compF (turnLc vs g t e sl) items [] w).map .fresh else .stuck) := p
  by_cases no : noOwn vs sl = true
  case neg =>
    rw [if_neg no] at p0
    exact p0.elim
  rw [if_pos no, bnd_map] at p0
  refine hi G0 H0 G H σ sl w _ R (Post.bnd p0 fun items w1 J G1 H1 _ R1 S1 hJ q => ?_)
  obtain ⟨hw, hz⟩ := hJ
  intro D hD
  obtain ⟨n1, n2, g1, h1⟩ := R1.b.newNe hD
  have g0 : G0 D = none := by
    cases hh : G0 D with
    | none => rfl
    | some o => rw [R1.b.g0 D o hh] at g1; cases g1
  have noD : ∀ (i : Nat) es, sl[i]? = some (.own es) → σ[i]? ≠ some (some (.ref D)) := fun i es e z => by
    obtain ⟨a, vs, q1, q2, _⟩ := R1.own i es e
    rw [q1] at z
    cases z
    rw [hD] at q2
    cases q2
  refine ⟨fun i m H' => m = items.length - i ∧ i ≤ items.length ∧ ∃ G' acc accd w', Rel aw ag K G0 (upd H0 D (.lst acc)) G' H' σ sl w' ∧ Same G1 G' ∧ Rps aw K G' acc accd ∧ acc.length ≤ i ∧
    Post aw ag K exA exF W (rrV aw ag K H0 σ sl) G0 H0 G' σ sl Q ((compF (turnLc vs g t e sl) (items.drop i) accd w').map .fresh), ⟨items.length, rfl, Nat.zero_le _, G1, [], [], w1, ?_, Same.refl _, .nil, Nat.le_refl _, q⟩, ?_⟩
  · exact (R1.lay (o := .lst []) hD).hold upd_same h1 g1 n1 n2 noD
  · rintro i m H' ⟨rfl, hi', G', acc, accd, w', R', S', rp, hl, q'⟩
    have hwk := hw i G' _ H' w' R' S'
    by_cases hlt : i < items.length
    · right
      have hd : items[i]? = some items[i] := List.getElem?_eq_getElem hlt
      obtain ⟨go, yl⟩ := hwk.1 _ hd
      rw [List.drop_eq_getElem_cons hlt] at q'
      refine ⟨go, fun H5 => i + 1 ≤ items.length ∧ ∃ G' acc accd w', Rel aw ag K G0 (upd H0 D (.lst acc)) G' H5 σ sl w' ∧ Same G1 G' ∧ Rps aw K G' acc accd ∧ acc.length ≤ i + 1 ∧
        Post aw ag K exA exF W (rrV aw ag K H0 σ sl) G0 H0 G' σ sl Q ((compF (turnLc vs g t e sl) (items.drop (i + 1)) accd w').map .fresh), fun H5 h5 => ⟨items.length - (i + 1), by omega, rfl, h5.1, h5.2⟩, fun x H'' y => ?_⟩
      obtain ⟨G2, R2, S2, r2⟩ := R'.yield (yl x H'' y)
      exact lc_turn (n := i) (G1 := G1) hg hgt ht he no n1 n2 h1 g0 R2 (S'.trans S2) r2 (rp.mono S2) hl (by omega) (Post.mono S2 q') fun G5 H5 acc5 accd5 w5 a1 a2 a3 a4 a5 => ⟨hlt, G5, acc5, accd5, w5, a1, a2, a3, a4, a5⟩
    · left
      have ei : i = items.length := by omega
      refine ⟨hwk.2 ei, ?_⟩
      rw [List.drop_eq_nil_of_le (by omega)] at q'
      obtain ⟨R3, k1, k2, k3⟩ := R'.free h1
      refine q' (.ref D) G' H' R3 (Same.refl _) ⟨D, acc, rfl, k1 n1 n2, k2 g0, h1, n1, n2, k3, rp, ?_⟩
      omega
theorem ok_lc (own : List (Str × Nat)) (g : T) {it t e : T} (hit : Ok P wd K mg base tb aw ag exA exF cl lv it) (ht : Ok P wd K mg base tb aw ag exA exF cl lv t) (he : Ok P wd K mg base tb aw ag exA exF cl lv e) : Ok P wd K mg base tb aw ag exA exF cl lv (.lc own g it t e) := mkEx rfl (chkL_no rfl) fun c W ex h => by
  cases ex <;> first | (simp [chkE] at h; done) | skip
  rename_i ee gens scope pos
  rcases gens with _ | ⟨⟨eg, ei, ef, as⟩, _ | ⟨_, _⟩⟩ <;> first | (simp [chkE] at h; done) | skip
  by_cases has : as = 0
  case neg => exfalso; simp [chkE, has] at h
  subst has
  have h : (blkC c.N c.sc scope own && !isLc ei && chkE tb it c ei && tgIn (own.map (·.2)) g && chkG g { c with sc := relS scope c.sc, st := fun x => scope.names.lookup x == some .cell } eg
      && (match (generalizing := false) t, ef with | .nil, [] => true | .nil, _ :: _ => false | _, [e] => chkE tb t { c with sc := relS scope c.sc, st := fun x => scope.names.lookup x == some .cell } e | _, _ => false) && chkE tb e { c with sc := relS scope c.sc, st := fun x => scope.names.lookup x == some .cell } ee) = true := h
  obtain ⟨h, h7⟩ := Bool.and_eq_true_iff.mp h
  obtain ⟨h, h6⟩ := Bool.and_eq_true_iff.mp h
  obtain ⟨h, h5⟩ := Bool.and_eq_true_iff.mp h
  obtain ⟨h, h4⟩ := Bool.and_eq_true_iff.mp h
  obtain ⟨h, h3⟩ := Bool.and_eq_true_iff.mp h
  obtain ⟨h1, h2⟩ := Bool.and_eq_true_iff.mp h
  have ok := blkOk_by h1
  obtain ⟨wi, i1, i2⟩ := it_ok hit c W ei h3
  obtain ⟨tg, g1, g2⟩ := (g_ok (P := P) (wd := wd) (K := K) (mg := mg) (base := base) (aw := aw) (ag := ag) (lv := lv) g).1 _ eg h5
  obtain ⟨tt, t1, t2⟩ := tests_ok (W := noW) h6 ht
  obtain ⟨te, e1, _, e3, _⟩ := he.e _ noW ee h7
  refine ⟨rfl, tLc wi tg tt te (own.map (·.2)), fun X C => ?_, fun X C i y py spos _ hy hyl hsw => ?_, lc_se i2 g2 h4 t2 e3⟩
  · exact pe_lc C.calm (by rw [C.N]; exact C.nd) (i1 X eg C) (by rw [C.N, C.sc]; exact ok) (fun s H C0 cs fp => g1 _ _ (C.blk ok.kind s H C0 cs fp)) (fun s H C0 cs fp => t1 _ (C.blk ok.kind s H C0 cs fp)) (fun s H C0 cs fp => e1 _ (C.blk ok.kind s H C0 cs fp)) (fun x => chk_fold h3 _ x)
  · exact ps_setLc C.calm (by rw [C.N]; exact C.nd) hy hyl hsw (i1 X eg C) (by rw [C.N, C.sc]; exact ok) (fun s H C0 cs fp => g1 _ _ (C.blk ok.kind s H C0 cs fp)) (fun s H C0 cs fp => t1 _ (C.blk ok.kind s H C0 cs fp)) (fun s H C0 cs fp => e1 _ (C.blk ok.kind s H C0 cs fp)) (fun x => chk_fold h3 _ x)
end
end Rx
set_option Elab.async false
set_option linter.all false
set_option maxRecDepth 100000
set_option maxHeartbeats 2000000
/-! Rx: statements. -/
namespace Rx
open PySem PySem.Spec PyProof.Rows L2
structure CtxS (P : Program) (wd : World) (K : PySem.W.Frag) (mg : Str → Option Value) (base : Heap) (lv : Nat) (W : WX) (c : CkC) (X : Cx) : Prop where
  c : Ctx P wd K mg base lv W c X
  pass : PassesOwn (model X.prog X.w) X.A X.env X.xe
  stk : X.stack = X.env :: X.outer
  frm : X.env.frame = some X.env.locals
section
variable {aw ag : Addr} {K : PySem.W.Frag} {exA : Nat → Addr} {exF : Nat → List Str}
/-- what is wanted behind a statement that the evaluator runs -/
def PostS (aw ag : Addr) (K : PySem.W.Frag) (exA : Nat → Addr) (exF : Nat → List Str) (W : WX) (G0 H0 G : Hp) (n : Nat) (D : Ends) : Xr → Prop
  | .ok .nx sl' w' => ∀ σ' G' H', Rel aw ag K G0 H0 G' H' σ' sl' w' → Same G G' → D.nx σ' H'
  | .ok (.ret d) _ w' => ∀ v G' H', Base aw ag G0 H0 G' H' w' → Same G G' → Rp aw K G' v d → D.rt v H'
  | .ok .brk sl' w' => ∀ σ' G' H', Rel aw ag K G0 H0 G' H' σ' sl' w' → Same G G' → D.bk σ' H'
  | .ok .cnt sl' w' => ∀ σ' G' H', Rel aw ag K G0 H0 G' H' σ' sl' w' → Same G G' → D.ct σ' H'
  | .exc c fs w' => ∀ σ', σ'.length = n → ExcP aw ag K exA exF W G0 H0 G σ' c fs w'
  | .stuck => False
variable {W : WX} {G0 H0 G G' G1 H H1 : Hp} {σ : L2.St} {sl : List Slt} {w w1 : Wl} {n : Nat} {D : Ends} {m : Xr}
theorem PostS.mono (S : Same G G') (h : PostS aw ag K exA exF W G0 H0 G n D m) : PostS aw ag K exA exF W G0 H0 G' n D m := by
  cases m with
  | ok f sl w1 =>
    cases f with
    | nx => exact fun σ' G1 H1 R S1 => h σ' G1 H1 R (S.trans S1)
    | ret d => exact fun v G1 H1 R S1 => h v G1 H1 R (S.trans S1)
    | brk => exact fun σ' G1 H1 R S1 => h σ' G1 H1 R (S.trans S1)
    | cnt => exact fun σ' G1 H1 R S1 => h σ' G1 H1 R (S.trans S1)
  | exc c fs w1 => exact fun σ' hl => ExcP.mono S (h σ' hl)
  | stuck => exact h
theorem PostS.x {α β : Type} {Rr : Hp → Hp → β → α → Prop} {Q : β → Hp → Prop} {v : Rz α} {f : α → Wl → Xr} (hn : σ.length = n) (p : PostS aw ag K exA exF W G0 H0 G n D (v.x f))
    (k : ∀ a w1 b G1 H1, v = .ok a w1 → Rel aw ag K G0 H0 G1 H1 σ sl w1 → Same G G1 → Rr G1 H1 b a → PostS aw ag K exA exF W G0 H0 G1 n D (f a w1) → Q b H1) : Post aw ag K exA exF W Rr G0 H0 G σ sl Q v := by
  cases v with
  | ok a w1 => exact fun b G1 H1 R S r => k a w1 b G1 H1 rfl R S r (PostS.mono S p)
  | exc c fs w1 => exact p σ hn
  | stuck => exact p
theorem SE.stillX {v : List Slt → Wl → Rz Got} {te : TE} (h : SE aw ag K exA exF W v te) {f : Got → Wl → Xr} {Q : VK} (R : Rel aw ag K G0 H0 G H σ sl w) (hn : σ.length = n)
    (p : PostS aw ag K exA exF W G0 H0 G n D ((v sl w).x f))
    (k : ∀ r w1 x G1 H1, Rel aw ag K G0 H0 G1 H1 σ sl w1 → Same G G1 → Rp aw K G1 x r.d → PostS aw ag K exA exF W G0 H0 G1 n D (f r w1) → Q x H1) : te σ H Q :=
  h G0 H0 G H σ sl w Q R (PostS.x hn p fun r w1 x G1 H1 _ R1 S1 hr q => by
    obtain ⟨G2, R2, S2, r2⟩ := esc R1 hr
    exact k r w1 x G2 H1 R2 (S1.trans S2) r2 (PostS.mono S2 q))
/-- a result goes into a slot -/
theorem Rel.setGot {v : V} {r : Got} (R : Rel aw ag K G0 H0 G H σ sl w) (h : RpR aw ag K H0 G H σ sl v r) (i : Nat) : Rel aw ag K G0 H0 G H (σ.set i (some v)) (sl.set i r.slot) w := by
  cases r with
  | val d => exact R.setVal h i
  | fresh ds =>
    obtain ⟨p, vs, rfl, h1, h2, h3, h4, h5, h6, h7, h8⟩ := h
    have at_ : ∀ (j : Nat) s, (sl.set i (Got.fresh ds).slot)[j]? = some s → (i = j ∧ i < sl.length ∧ s = .own ds) ∨ (i ≠ j ∧ sl[j]? = some s) := fun j s e => by
      rw [List.getElem?_set] at e
      by_cases hj : i = j
      · rw [if_pos hj] at e
        split at e
        · rename_i hl
          cases e
          exact .inl ⟨hj, hl, rfl⟩
        · cases e
      · rw [if_neg hj] at e
        exact .inr ⟨hj, e⟩
    refine ⟨R.b, fun j e h => ?_, fun j es h => ?_, fun j k es fs a e1 e2 e3 e4 => ?_, by rw [List.length_set, List.length_set, R.len]⟩
    · rcases at_ j _ h with ⟨_, _, z⟩ | ⟨z, h⟩
      · cases z
      · rw [List.getElem?_set_ne z]
        exact R.val j e h
    · rcases at_ j _ h with ⟨z, hl, e⟩ | ⟨z, h⟩
      · cases e
        subst z
        exact ⟨p, vs, by rw [List.getElem?_set_self (by rw [R.len]; exact hl)], h1, h2, h3, h4, h5, h7, h8⟩
      · rw [List.getElem?_set_ne z]
        exact R.own j es h
    · rcases at_ j _ e1 with ⟨z1, l1, f1⟩ | ⟨z1, f1⟩ <;> rcases at_ k _ e2 with ⟨z2, l2, f2⟩ | ⟨z2, f2⟩
      · exact z1.symm.trans z2
      · subst z1
        rw [List.getElem?_set_self (by rw [R.len]; exact l1)] at e3
        rw [List.getElem?_set_ne z2] at e4
        cases e3
        exact absurd e4 (h6 k _ f2)
      · subst z2
        rw [List.getElem?_set_self (by rw [R.len]; exact l2)] at e4
        rw [List.getElem?_set_ne z1] at e3
        cases e4
        exact absurd e3 (h6 j _ f1)
      · rw [List.getElem?_set_ne z1] at e3
        rw [List.getElem?_set_ne z2] at e4
        exact R.inj j k _ _ a f1 f2 e3 e4
/-- a list that is held alone is written -/
theorem Rel.writeOwn {i : Nat} {ds ds' : List PyData} {a : Addr} {vs' : List V} (R : Rel aw ag K G0 H0 G H σ sl w) (hs : sl[i]? = some (.own ds)) (ha : σ[i]? = some (some (.ref a))) (r : Rps aw K G vs' ds') (hl : vs'.length ≤ sizeLine) :
    Rel aw ag K G0 H0 G (upd H a (.lst vs')) σ (sl.set i (.own ds')) w := by
  obtain ⟨a', vs, q1, q2, q3, q4, q5, q6, q7, q8⟩ := R.own i ds hs
  rw [ha] at q1
  cases q1
  have hi : i < sl.length := (List.getElem?_eq_some_iff.mp hs).1
  have at_ : ∀ (j : Nat) s, (sl.set i (.own ds'))[j]? = some s → (i = j ∧ s = .own ds') ∨ (i ≠ j ∧ sl[j]? = some s) := fun j s e => by
    rw [List.getElem?_set] at e
    by_cases hj : i = j
    · rw [if_pos hj, if_pos hi] at e
      cases e
      exact .inl ⟨hj, rfl⟩
    · rw [if_neg hj] at e
      exact .inr ⟨hj, e⟩
  have og : ∀ (j : Nat) es, (sl.set i (.own ds'))[j]? = some (.own es) → ∃ fs, sl[j]? = some (.own fs) := fun j es e => by
    rcases at_ j _ e with ⟨z, _⟩ | ⟨_, z⟩
    · exact ⟨ds, z ▸ hs⟩
    · exact ⟨es, z⟩
  refine ⟨⟨fun b o e => ?_, R.b.g0, fun b o e n1 n2 => ?_, R.b.old, ?_, ?_, R.b.gw, R.b.gg⟩, fun j e h => ?_, fun j es h => ?_, fun j k es fs b e1 e2 e3 e4 => ?_, by rw [List.length_set, R.len]⟩
  · have hb : b ≠ a := fun z => by rw [z, q3] at e; cases e
    rw [upd_ne hb]
    exact R.b.gh b o e
  · have hb : b ≠ a := fun z => by rw [z, q4] at e; cases e
    rw [upd_ne hb]
    exact R.b.fr b o e n1 n2
  · rw [upd_ne (Ne.symm q5)]
    exact R.b.hw
  · rw [upd_ne (Ne.symm q6)]
    exact R.b.hg
  · rcases at_ j _ h with ⟨_, z⟩ | ⟨_, h⟩
    · cases z
    · exact R.val j e h
  · rcases at_ j _ h with ⟨z, e⟩ | ⟨z, h⟩
    · cases e
      subst z
      exact ⟨a, vs', ha, upd_same, q3, q4, q5, q6, r, hl⟩
    · obtain ⟨b, us, f1, f2, f3⟩ := R.own j es h
      have hb : b ≠ a := fun e => z (R.inj i j ds es a hs h ha (e ▸ f1))
      exact ⟨b, us, f1, by rw [upd_ne hb]; exact f2, f3⟩
  · obtain ⟨x1, y1⟩ := og j es e1
    obtain ⟨x2, y2⟩ := og k fs e2
    exact R.inj j k x1 x2 b y1 y2 e3 e4
/-- a list that is held alone begins to stand still -/
theorem Rel.freeze (R : Rel aw ag K G0 H0 G H σ sl w) (i : Nat) : ∃ G1, Rel aw ag K G0 H0 G1 H σ (frzS i sl) w ∧ Same G G1 := by
  unfold frzS
  cases hs : sl[i]? with
  | none => exact ⟨G, R, Same.refl _⟩
  | some st =>
    cases st with
    | no => exact ⟨G, R, Same.refl _⟩
    | val d => exact ⟨G, R, Same.refl _⟩
    | own ds =>
      obtain ⟨a, vs, q1, q2, q3, q4, q5, q6, q7, q8⟩ := R.own i ds hs
      have S := same_upd (o := .lst vs) q3
      have hi : i < sl.length := (List.getElem?_eq_some_iff.mp hs).1
      refine ⟨upd G a (.lst vs), ⟨R.b.still q2 q4 q3 q5 q6, fun j e h => ?_, fun j es h => ?_, fun j k es fs b e1 e2 e3 e4 => ?_, by rw [List.length_set, R.len]⟩, S⟩
      · rw [List.getElem?_set] at h
        by_cases hj : i = j
        · rw [if_pos hj, if_pos hi] at h
          cases h
          subst hj
          exact ⟨.ref a, q1, .lst upd_same q8 (q7.mono S)⟩
        · rw [if_neg hj] at h
          obtain ⟨v, f1, f2⟩ := R.val j e h
          exact ⟨v, f1, f2.mono S⟩
      · rw [List.getElem?_set] at h
        by_cases hj : i = j
        · rw [if_pos hj, if_pos hi] at h
          cases h
        · rw [if_neg hj] at h
          obtain ⟨b, us, f1, f2, f3, f4, f5, f6, f7, f8⟩ := R.own j es h
          have hb : b ≠ a := fun e => hj (R.inj i j ds es a hs h q1 (e ▸ f1))
          exact ⟨b, us, f1, f2, by rw [upd_ne hb]; exact f3, f4, f5, f6, f7.mono S, f8⟩
      · have og : ∀ (j : Nat) es, (sl.set i (.val (.list ds)))[j]? = some (.own es) → sl[j]? = some (.own es) := fun j es h => by
          rw [List.getElem?_set] at h
          by_cases hj : i = j
          · rw [if_pos hj, if_pos hi] at h
            cases h
          · rw [if_neg hj] at h
            exact h
        exact R.inj j k es fs b (og j es e1) (og k fs e2) e3 e4
end
/-! ### the slots' number stays -/
def LenX (n : Nat) : Xr → Prop
  | .ok _ sl _ => sl.length = n
  | _ => True
theorem LenX.x {α : Type} {n : Nat} {m : Rz α} {f : α → Wl → Xr} (h : ∀ a w, LenX n (f a w)) : LenX n (m.x f) := by
  cases m with
  | ok a w => exact h a w
  | exc _ _ _ => trivial
  | stuck => trivial
theorem LenX.seq {n : Nat} {m : Xr} {f : List Slt → Wl → Xr} (h : LenX n m) (k : ∀ sl w, sl.length = n → LenX n (f sl w)) : LenX n (m.seq f) := by
  cases m with
  | ok fl sl w =>
    cases fl with
    | nx => exact k sl w h
    | ret _ => exact h
    | brk => exact h
    | cnt => exact h
  | exc _ _ _ => trivial
  | stuck => trivial
mutual
theorem asgG_len : ∀ {g : T} {d : PyData} {sl sl' : List Slt}, asgG g d sl = some sl' → sl'.length = sl.length
  | .nm i, d, sl, sl', h => by
    simp only [asgG] at h
    split at h
    · cases h
      rw [List.length_set]
    · cases h
  | .tup l, .tuple ds, sl, sl', h => asgGs_len2 (by simpa only [asgG] using h)
  | .tup _, .none, _, _, h => by simp [asgG] at h
  | .tup _, .bool _, _, _, h => by simp [asgG] at h
  | .tup _, .int _, _, _, h => by simp [asgG] at h
  | .tup _, .str _, _, _, h => by simp [asgG] at h
  | .tup _, .list _, _, _, h => by simp [asgG] at h
  | .tup _, .dict _, _, _, h => by simp [asgG] at h
  | .nil, _, _, _, h | .cons .., _, _, _, h | .kI .., _, _, _, h | .kS .., _, _, _, h | .kB .., _, _, _, h | .kN, _, _, _, h | .bin .., _, _, _, h | .neg .., _, _, _, h | .cmp .., _, _, _, h | .cmp2 .., _, _, _, h
  | .band .., _, _, _, h | .bor .., _, _, _, h | .not .., _, _, _, h | .ife .., _, _, _, h | .lst .., _, _, _, h | .ix .., _, _, _, h | .slc .., _, _, _, h | .isi .., _, _, _, h | .bi .., _, _, _, h | .lset .., _, _, _, h
  | .lrng .., _, _, _, h | .trng .., _, _, _, h | .call .., _, _, _, h | .callk .., _, _, _, h | .lc .., _, _, _, h | .rng1 .., _, _, _, h | .rng2 .., _, _, _, h | .asg .., _, _, _, h | .asgT .., _, _, _, h | .aug .., _, _, _, h
  | .setI .., _, _, _, h | .app .., _, _, _, h | .ins .., _, _, _, h | .popS .., _, _, _, h | .rev .., _, _, _, h | .ret .., _, _, _, h | .drop .., _, _, _, h | .ifs .., _, _, _, h | .for_ .., _, _, _, h | .wh .., _, _, _, h | .brk, _, _, _, h
  | .cnt, _, _, _, h | .pas, _, _, _, h | .rse .., _, _, _, h | .tryR .., _, _, _, h | .frz .., _, _, _, h => by simp [asgG] at h
theorem asgGs_len2 : ∀ {g : T} {d : List PyData} {sl sl' : List Slt}, asgGs g d sl = some sl' → sl'.length = sl.length
  | .nil, [], sl, sl', h => by
    simp only [asgGs, Option.some.injEq] at h
    rw [h]
  | .nil, _ :: _, _, _, h => by simp [asgGs] at h
  | .cons a r, [], _, _, h => by simp [asgGs] at h
  | .cons a r, d :: ds, sl, sl', h => by
    simp only [asgGs] at h
    split at h
    · rename_i sl1 h1
      rw [asgGs_len2 h, asgG_len h1]
    · cases h
  | .nm .., _, _, _, h | .tup .., _, _, _, h | .kI .., _, _, _, h | .kS .., _, _, _, h | .kB .., _, _, _, h | .kN, _, _, _, h | .bin .., _, _, _, h | .neg .., _, _, _, h | .cmp .., _, _, _, h | .cmp2 .., _, _, _, h
  | .band .., _, _, _, h | .bor .., _, _, _, h | .not .., _, _, _, h | .ife .., _, _, _, h | .lst .., _, _, _, h | .ix .., _, _, _, h | .slc .., _, _, _, h | .isi .., _, _, _, h | .bi .., _, _, _, h | .lset .., _, _, _, h
  | .lrng .., _, _, _, h | .trng .., _, _, _, h | .call .., _, _, _, h | .callk .., _, _, _, h | .lc .., _, _, _, h | .rng1 .., _, _, _, h | .rng2 .., _, _, _, h | .asg .., _, _, _, h | .asgT .., _, _, _, h | .aug .., _, _, _, h
  | .setI .., _, _, _, h | .app .., _, _, _, h | .ins .., _, _, _, h | .popS .., _, _, _, h | .rev .., _, _, _, h | .ret .., _, _, _, h | .drop .., _, _, _, h | .ifs .., _, _, _, h | .for_ .., _, _, _, h | .wh .., _, _, _, h | .brk, _, _, _, h
  | .cnt, _, _, _, h | .pas, _, _, _, h | .rse .., _, _, _, h | .tryR .., _, _, _, h | .frz .., _, _, _, h => by simp [asgGs] at h
end
theorem loopF_len {n : Nat} {body : PyData → List Slt → Wl → Xr} (hb : ∀ d sl w, sl.length = n → LenX n (body d sl w)) : ∀ (items : List PyData) (sl : List Slt) (w : Wl), sl.length = n → LenX n (loopF body items sl w)
  | [], sl, w, h => h
  | d :: r, sl, w, h => by
    have z := hb d sl w h
    unfold loopF
    cases hm : body d sl w with
    | ok f sl1 w1 =>
      rw [hm] at z
      cases f with
      | nx => exact loopF_len hb r sl1 w1 z
      | cnt => exact loopF_len hb r sl1 w1 z
      | brk => exact z
      | ret _ => exact z
    | exc _ _ _ => trivial
    | stuck => trivial
theorem whileF_len {n : Nat} {t : List Slt → Wl → Rz Bool} {body : List Slt → Wl → Xr} (hb : ∀ sl w, sl.length = n → LenX n (body sl w)) : ∀ (k : Nat) (sl : List Slt) (w : Wl), sl.length = n → LenX n (whileF t body k sl w)
  | 0, _, _, _ => trivial
  | k + 1, sl, w, h => by
    unfold whileF
    refine LenX.x fun b w1 => ?_
    cases b with
    | false => exact h
    | true =>
      have z := hb sl w1 h
      show LenX n (match body sl w1 with
        | .ok .nx sl w => whileF t body k sl w
        | .ok .cnt sl w => whileF t body k sl w
        | .ok .brk sl w => .ok .nx sl w
        | m => m)
      cases hm : body sl w1 with
      | ok f sl1 w2 =>
        rw [hm] at z
        cases f with
        | nx => exact whileF_len hb k sl1 w2 z
        | cnt => exact whileF_len hb k sl1 w2 z
        | brk => exact z
        | ret _ => exact z
      | exc _ _ _ => trivial
      | stuck => trivial
theorem ownAt_len {n i : Nat} {sl : List Slt} {f : List PyData → Xr} (h : ∀ ds, LenX n (f ds)) : LenX n (ownAt i sl f) := by
  unfold ownAt
  split
  · exact h _
  · trivial
theorem frzS_len (i : Nat) (sl : List Slt) : (frzS i sl).length = sl.length := by
  unfold frzS
  split
  · rw [List.length_set]
  · rfl
theorem run_len {cl : Nat → List PyData → Wl → Rz PyData} {wf : Nat} (t : T) : ∀ (sl : List Slt) (w : Wl), LenX sl.length (run cl wf t sl w) := by
  induction t
  case nil => exact fun sl w => rfl
  case cons s r ihs ihr => exact fun sl w => LenX.seq (ihs sl w) fun sl1 w1 h => by have z := ihr sl1 w1; rw [h] at z; exact z
  case frz i r ih => exact fun sl w => by have z := ih (frzS i sl) w; rw [frzS_len] at z; exact z
  case asg i e _ =>
    exact fun sl w => LenX.x fun x w => by
      show LenX _ (storeS i x.slot sl w)
      unfold storeS
      split
      · exact List.length_set
      · trivial
  case asgT g e _ _ =>
    exact fun sl w => LenX.x fun x w => by
      show LenX _ (match asgG g x.d sl with | some sl => .ok .nx sl w | none => .stuck)
      split
      · rename_i h
        exact asgG_len h
      · trivial
  case aug i o e _ =>
    exact fun sl w => by
      show LenX _ (match sl[i]? with
      | some (.val (.int a)) => ((sem cl e).v sl w).x fun y w => match y.d with
        | .int b => (match binD o (.int a) (.int b) with
          | some z => .ok .nx (sl.set i z.slot) w
          | none => .stuck)
        | _ => .stuck
      | _ => .stuck)
      split
      · refine LenX.x fun y w => ?_
        split
        · split
          · exact List.length_set
          · trivial
        · trivial
      · trivial
  case setI i j e _ _ =>
    exact fun sl w => ownAt_len fun ds => LenX.x fun x w => LenX.x fun y w => by
      split
      · split
        · exact List.length_set
        · trivial
      · trivial
  case app i e _ =>
    exact fun sl w => ownAt_len fun ds => LenX.x fun x w => by
      split
      · exact List.length_set
      · trivial
  case ins i a b _ _ =>
    exact fun sl w => ownAt_len fun ds => LenX.x fun x w => LenX.x fun y w => by
      split
      · split
        · exact List.length_set
        · trivial
      · trivial
  case popS i a _ =>
    exact fun sl w => ownAt_len fun ds => LenX.x fun x w => by
      split
      · split
        · exact List.length_set
        · trivial
      · trivial
  case rev i => exact fun sl w => ownAt_len fun ds => List.length_set
  case ret e _ => exact fun sl w => LenX.x fun x w => rfl
  case drop e _ => exact fun sl w => LenX.x fun x w => rfl
  case ifs t a b _ iha ihb =>
    exact fun sl w => LenX.x fun k w => by
      cases k with
      | true => exact iha sl w
      | false => exact ihb sl w
  case for_ g it b _ _ ihb =>
    exact fun sl w => LenX.x fun items w => loopF_len (fun d sl1 w1 h => by
      split
      · rename_i sl2 hs
        have z := ihb sl2 w1
        rw [asgG_len hs, h] at z
        exact z
      · trivial) items sl w rfl
  case wh t b _ ihb => exact fun sl w => whileF_len (fun sl1 w1 h => by have z := ihb sl1 w1; rw [h] at z; exact z) wf sl w rfl
  case brk => exact fun sl w => rfl
  case cnt => exact fun sl w => rfl
  case pas => exact fun sl w => rfl
  case rse c l _ => exact fun sl w => LenX.x fun ds w => trivial
  case tryR c i fs b ih =>
    exact fun sl w => by
      have z := ih sl w
      show LenX _ (match run cl wf b sl w with
      | .exc c' ds w => if c' = c ∧ i < sl.length then .ok (.ret (.tuple (.bool false :: fs.map fun j => ds.getD j .none))) sl w else .stuck
      | m => m)
      split
      · split
        · rfl
        · trivial
      · exact z
  all_goals exact fun sl w => trivial
end Rx
set_option Elab.async false
set_option linter.all false
set_option maxRecDepth 100000
set_option maxHeartbeats 2000000
/-! Rx: statements, one by one. -/
namespace Rx
open PySem PySem.Spec PyProof.Rows L2
def SS (aw ag : Addr) (K : PySem.W.Frag) (exA : Nat → Addr) (exF : Nat → List Str) (W : WX) (r : List Slt → Wl → Xr) (ts : TS) : Prop :=
  ∀ G0 H0 G H σ sl w D, Rel aw ag K G0 H0 G H σ sl w → PostS aw ag K exA exF W G0 H0 G sl.length D (r sl w) → ts D σ H
section
variable (P : Program) (wd : World) (K : PySem.W.Frag) (mg : Str → Option Value) (base : Heap) (tb : Tab) (aw ag : Addr) (exA : Nat → Addr) (exF : Nat → List Str) (cl : Nat → List PyData → Wl → Rz PyData) (lv wf : Nat)
/-- what is shown of a statement's term, of a block's -/
structure OkS (t : T) : Prop where
  s : ∀ c W st, chkS tb t c st = true → ∃ ts, (∀ X, CtxS P wd K mg base lv W c X → PS X st ts) ∧ SS aw ag K exA exF W (run cl wf t) ts
  b : ∀ c W ss, chkB tb t c ss = true → ∃ ts, (∀ X, CtxS P wd K mg base lv W c X → PSs X ss ts) ∧ SS aw ag K exA exF W (run cl wf t) ts
end
section
variable {P : Program} {wd : World} {K : PySem.W.Frag} {mg : Str → Option Value} {base : Heap} {tb : Tab} {aw ag : Addr} {exA : Nat → Addr} {exF : Nat → List Str} {cl : Nat → List PyData → Wl → Rz PyData} {lv wf : Nat}
theorem chkB_no {t : T} (h : (match t with | .nil => false | .cons .. => false | .frz .. => false | _ => true) = true) (c : CkC) (ss : List Stmt) : chkB tb t c ss = false := by
  cases t <;> first | (cases h; done) | rfl
theorem mkS {t : T} (hb : (match t with | .nil => false | .cons .. => false | .frz .. => false | _ => true) = true)
    (h : ∀ c W st, chkS tb t c st = true → ∃ ts, (∀ X, CtxS P wd K mg base lv W c X → PS X st ts) ∧ SS aw ag K exA exF W (run cl wf t) ts) : OkS P wd K mg base tb aw ag exA exF cl lv wf t :=
  ⟨h, fun c W ss z => by rw [chkB_no hb] at z; cases z⟩
theorem oks_pas : OkS P wd K mg base tb aw ag exA exF cl lv wf .pas := mkS rfl fun c W st h => by
  have h : cPas st = true := h
  unfold cPas at h
  split at h
  · exact ⟨tNext, fun X C => ps_pass, fun G0 H0 G H σ sl w D R p => p σ G H R (Same.refl _)⟩
  · cases h
theorem oks_brk : OkS P wd K mg base tb aw ag exA exF cl lv wf .brk := mkS rfl fun c W st h => by
  have h : cBrk st = true := h
  unfold cBrk at h
  split at h
  · exact ⟨tBreak, fun X C => ps_break, fun G0 H0 G H σ sl w D R p => p σ G H R (Same.refl _)⟩
  · cases h
theorem oks_cnt : OkS P wd K mg base tb aw ag exA exF cl lv wf .cnt := mkS rfl fun c W st h => by
  have h : cCnt st = true := h
  unfold cCnt at h
  split at h
  · exact ⟨tCont, fun X C => ps_continue, fun G0 H0 G H σ sl w D R p => p σ G H R (Same.refl _)⟩
  · cases h
theorem oks_ret {e : T} (he : Ok P wd K mg base tb aw ag exA exF cl lv e) : OkS P wd K mg base tb aw ag exA exF cl lv wf (.ret e) := mkS rfl fun c W st h => by
  replace h : cRet (chkE tb e c) st = true := h
  unfold cRet at h
  split at h
  · rename_i ee pos
    obtain ⟨te, e1, _, e3, _⟩ := he.e c W ee h
    exact ⟨tRet te, fun X C => ps_ret (e1 X C.c), fun G0 H0 G H σ sl w D R p => SE.stillX e3 R R.len p fun r w1 x G1 H1 R1 S1 hx q => q x G1 H1 R1.b (Same.refl _) hx⟩
  · cases h
theorem oks_drop {e : T} (he : Ok P wd K mg base tb aw ag exA exF cl lv e) : OkS P wd K mg base tb aw ag exA exF cl lv wf (.drop e) := mkS rfl fun c W st h => by
  replace h : cDrop (chkE tb e c) st = true := h
  unfold cDrop at h
  split at h
  · rename_i ee pos
    simp only [Bool.and_eq_true, Bool.not_eq_true'] at h
    obtain ⟨te, e1, _, e3, _⟩ := he.e c W ee h.2
    exact ⟨tDrop te, fun X C => ps_expr (e1 X C.c) (chk_slice h.2 h.1 _ _ _), fun G0 H0 G H σ sl w D R p => e3 G0 H0 G H σ sl w _ R (PostS.x R.len p fun r w1 v G1 H1 _ R1 S1 hr q => q σ G1 H1 R1 (Same.refl _))⟩
  · cases h
theorem sw_of {W : WX} {c : CkC} {X : Cx} {x : Str} {py : Pos} {e : Expr} {l : Nat} {t : T} (C : CtxS P wd K mg base lv W c X) (h : chkE tb t c e = true) : swapsWith e (some (.Name x py)) l X.env = pure (swapB c x py e) := by
  by_cases hl : isLc e = true
  · cases e <;> first | (cases hl; done) | skip
    · rename_i ee gs scope pos
      have hk : X.env.scope.kind = .function := by rw [C.c.sc]; exact C.c.kind
      unfold swapsWith swapB
      have hb : X.env.blockKind = .function := by unfold Env.blockKind; rw [hk]; rfl
      have hq : X.env.kindOf x = c.sc.names.lookup x := by
        show X.env.scope.names.lookup x = _
        rw [C.c.sc]
      simp only [hb, hq, Expr.pos]
      show (pure _ : Sem Bool) = _
      congr 1
      cases c.sc.names.lookup x with
      | none => rfl
      | some k => cases k <;> first | rfl | simp
    all_goals (have f := chk_form h; cases f)
  · have hl' : isLc e = false := by simpa using hl
    rw [chk_slice h hl']
    congr 1
    cases e <;> first | rfl | (cases hl'; done)
theorem oks_asg (i : Nat) {e : T} (he : Ok P wd K mg base tb aw ag exA exF cl lv e) : OkS P wd K mg base tb aw ag exA exF cl lv wf (.asg i e) := mkS rfl fun c W st h => by
  replace h : cAsg c i (chkE tb e c) st = true := h
  unfold cAsg at h
  split at h
  · rename_i x py ee pos
    obtain ⟨h1, h2⟩ := Bool.and_eq_true_iff.mp h
    obtain ⟨te, e1, e2, e3, _⟩ := he.e c W ee h2
    refine ⟨tAsg te (gName i), fun X C => ?_, fun G0 H0 G H σ sl w D R p => ?_⟩
    · obtain ⟨l1, l2, l3⟩ := loc_of C.c h1
      have hsw := sw_of (x := x) (py := py) (l := pos.line) C h2
      cases hb : swapB c x py ee with
      | false =>
        rw [hb] at hsw
        exact ps_set (by rw [C.c.N]; exact C.c.nd) l1 l2 (e1 X C.c) hsw l3
      | true =>
        rw [hb] at hsw
        have hz : X.env.scope.names.lookup x = some .local ∧ isLc ee = true := by
          rw [C.c.sc]
          unfold swapB at hb
          split at hb
          · simp only [Bool.and_eq_true, decide_eq_true_eq] at hb
            exact ⟨hb.1.1, rfl⟩
          · cases hb
        exact e2 X C.c i x py pos hz.2 l1 hz.1 hsw
    · refine e3 G0 H0 G H σ sl w _ R (PostS.x R.len p fun r w1 v G1 H1 _ R1 S1 hr q => ?_)
      have q' : PostS aw ag K exA exF W G0 H0 G1 sl.length D (storeS i r.slot sl w1) := q
      unfold storeS at q'
      split at q'
      · exact q' _ G1 H1 (R1.setGot hr i) (Same.refl _)
      · exact q'.elim
  · cases h
theorem sw_sole {e t : Expr} {l : Nat} {env : Env} (h : swapsWith e (some t) l env = pure false) : swapsWithSole [t] e l env = pure false := h
theorem oks_asgT (g : T) {e : T} (he : Ok P wd K mg base tb aw ag exA exF cl lv e) : OkS P wd K mg base tb aw ag exA exF cl lv wf (.asgT g e) := mkS rfl fun c W st h => by
  replace h : cAsgT c g (chkE tb e c) st = true := h
  unfold cAsgT at h
  split at h
  · rename_i es k py ee pos
    simp only [Bool.and_eq_true, Bool.not_eq_true'] at h
    obtain ⟨⟨⟨h1, h2⟩, h3⟩, h4⟩ := h
    obtain ⟨te, e1, e2, e3, _⟩ := he.e c W ee h4
    obtain ⟨tg, g1, g2⟩ := (g_ok (P := P) (wd := wd) (K := K) (mg := mg) (base := base) (aw := aw) (ag := ag) (lv := lv) g).1 _ _ h1
    refine ⟨tAsg te tg, fun X C => ?_, fun G0 H0 G H σ sl w D R p => ?_⟩
    · exact ps_asg (e1 X C.c) (g1 W X C.c) (sw_sole (chk_slice h4 h3 _ _ _)) (by cases ee <;> first | rfl | (cases h2; done)) rfl
    · refine SE.stillX e3 R R.len p fun r w1 x G1 H1 R1 S1 hx q => ?_
      have q' : PostS aw ag K exA exF W G0 H0 G1 sl.length D (match asgG g r.d sl with | some sl => .ok .nx sl w1 | none => .stuck) := q
      split at q'
      · rename_i sl1 hs
        exact g2 G0 H0 G1 H1 σ sl sl1 w1 x r.d D.nx R1 hs hx fun σ2 R2 _ => q' σ2 G1 H1 R2 (Same.refl _)
      · exact q'.elim
  · cases h
def augF : BO → Int → Int → Int
  | .add => fun a b => a + b
  | .sub => fun a b => a - b
  | .bor => Builtin.bitOr
  | .band => Builtin.bitAnd
  | .bxor => Builtin.bitXor
  | _ => fun _ _ => 0
theorem ip_or {X : Cx} : PIp X .BitOr (ipI Builtin.bitOr) := by
  intro pins s σ H x y v u Q I r1 r2 h
  obtain ⟨i, j, rfl, rfl, q⟩ := h
  obtain ⟨t, rfl⟩ := r1
  obtain ⟨t', rfl⟩ := r2
  exact ior_int ⟨.int _, H, I.tok _, ⟨_, rfl⟩, q⟩
theorem ip_and {X : Cx} : PIp X .BitAnd (ipI Builtin.bitAnd) := by
  intro pins s σ H x y v u Q I r1 r2 h
  obtain ⟨i, j, rfl, rfl, q⟩ := h
  obtain ⟨t, rfl⟩ := r1
  obtain ⟨t', rfl⟩ := r2
  exact iand_int ⟨.int _, H, I.tok _, ⟨_, rfl⟩, q⟩
theorem ip_xor {X : Cx} : PIp X .BitXor (ipI Builtin.bitXor) := by
  intro pins s σ H x y v u Q I r1 r2 h
  obtain ⟨i, j, rfl, rfl, q⟩ := h
  obtain ⟨t, rfl⟩ := r1
  obtain ⟨t', rfl⟩ := r2
  exact ixor_int ⟨.int _, H, I.tok _, ⟨_, rfl⟩, q⟩
theorem ip_of {X : Cx} {o : BO} (h : augB o = true) : PIp X o.op (ipI (augF o)) := by
  cases o <;> first | (cases h; done) | exact ip_add | exact ip_sub | exact ip_or | exact ip_and | exact ip_xor
theorem aug_D {o : BO} (h : augB o = true) (a b : Int) : binD o (.int a) (.int b) = some (.val (.int (augF o a b))) := by
  cases o <;> first | (cases h; done) | rfl
theorem oks_aug (i : Nat) (o : BO) {e : T} (he : Ok P wd K mg base tb aw ag exA exF cl lv e) : OkS P wd K mg base tb aw ag exA exF cl lv wf (.aug i o e) := mkS rfl fun c W st h => by
  replace h : cAug c i o (chkE tb e c) st = true := h
  unfold cAug at h
  split at h
  · rename_i x py eo ee pos
    simp only [Bool.and_eq_true, decide_eq_true_eq] at h
    obtain ⟨⟨⟨⟨h1, h2⟩, h3⟩, h4⟩, h5⟩ := h
    subst h4
    obtain ⟨te, e1, e2, e3, _⟩ := he.e c W ee h5
    refine ⟨tAug i te (ipI (augF o)), fun X C => ?_, fun G0 H0 G H σ sl w D R p => ?_⟩
    · obtain ⟨l1, l2, l3⟩ := loc_of C.c h1
      exact ps_aug (by rw [C.c.N]; exact C.c.nd) l1 l2 (e1 X C.c) (ip_of h3) l3
    · have p' : PostS aw ag K exA exF W G0 H0 G sl.length D (match sl[i]? with
        | some (.val (.int a)) => ((sem cl e).v sl w).x fun y w => match y.d with
          | .int b => (match binD o (.int a) (.int b) with
            | some z => .ok .nx (sl.set i z.slot) w
            | none => .stuck)
          | _ => .stuck
        | _ => .stuck) := p
      split at p'
      · rename_i a ha
        obtain ⟨v, q1, q2⟩ := R.val i _ ha
        cases q2.int_inv
        refine ⟨.int a, q1, ?_⟩
        refine SE.stillX e3 R R.len p' fun r w1 y G1 H1 R1 S1 hy q => ?_
        cases hd : r.d with
        | int b =>
          rw [hd] at hy q
          cases hy.int_inv
          have q2 : PostS aw ag K exA exF W G0 H0 G1 sl.length D (match binD o (.int a) (.int b) with
            | some z => .ok .nx (sl.set i z.slot) w1
            | none => .stuck) := q
          rw [aug_D h3] at q2
          exact ⟨a, b, rfl, rfl, q2 _ G1 H1 (R1.setVal (.int _) i) (Same.refl _)⟩
        | _ => rw [hd] at q; exact q.elim
      · exact p'.elim
  · cases h
theorem own_st {i : Nat} {sl : List Slt} {f : List PyData → Xr} {G0 H0 G : Hp} {W : WX} {n : Nat} {D : Ends} (p : PostS aw ag K exA exF W G0 H0 G n D (ownAt i sl f)) : ∃ ds, sl[i]? = some (.own ds) ∧ PostS aw ag K exA exF W G0 H0 G n D (f ds) := by
  unfold ownAt at p
  split at p
  · exact ⟨_, by assumption, p⟩
  · exact p.elim
theorem oks_setI (i : Nat) {j e : T} (hj : Ok P wd K mg base tb aw ag exA exF cl lv j) (he : Ok P wd K mg base tb aw ag exA exF cl lv e) : OkS P wd K mg base tb aw ag exA exF cl lv wf (.setI i j e) := mkS rfl fun c W st h => by
  replace h : cSetI c i (chkE tb j c) (chkE tb e c) st = true := h
  unfold cSetI at h
  split at h
  · rename_i x py ej spos ee pos
    simp only [Bool.and_eq_true, Bool.not_eq_true'] at h
    obtain ⟨⟨⟨h1, h2⟩, h3⟩, h4⟩ := h
    obtain ⟨tj, j1, _, j3, _⟩ := hj.e c W ej h2
    obtain ⟨te, e1, _, e3, _⟩ := he.e c W ee h4
    refine ⟨tAsg te (gSub (tVar i) tj rSetL), fun X C => ?_, fun G0 H0 G H σ sl w D R p => ?_⟩
    · exact ps_asg (e1 X C.c) (pg_sub (pe_nm h1 C.c) (j1 X C.c) set_list (by have f := chk_form h2; intro v; cases ej <;> first | rfl | (cases f; done))) (sw_sole (chk_slice h4 h3 _ _ _)) rfl rfl
    · obtain ⟨ds, hs, p⟩ := own_st p
      refine SE.stillX e3 R R.len p fun r w1 x G1 H1 R1 S1 hx q => ?_
      obtain ⟨a, vs, f1, _⟩ := R1.own i ds hs
      refine ⟨.ref a, f1, SE.stillX j3 R1 R1.len q fun r2 w2 y G2 H2 R2 S2 hy q => ?_⟩
      obtain ⟨a', vs', f1', f2, f3, f4, f5, f6, f7, f8⟩ := R2.own i ds hs
      rw [f1] at f1'
      cases f1'
      cases hd : r2.d with
      | int k =>
        rw [hd] at hy q
        cases hy.int_inv
        have q2 : PostS aw ag K exA exF W G0 H0 G2 sl.length D (match ixN ds.length k with
          | some n => .ok .nx (sl.set i (.own (ds.set n r.d))) w2
          | none => .stuck) := q
        cases hn : ixN ds.length k with
        | none => rw [hn] at q2; exact q2.elim
        | some n =>
          rw [hn] at q2
          exact ⟨a, vs', k, n, rfl, rfl, f2, by rw [f7.length]; exact hn, q2 σ G2 _ (R2.writeOwn hs f1 (f7.set n (hx.mono S2)) (by rw [List.length_set]; exact f8)) (Same.refl _)⟩
      | _ => rw [hd] at q; exact q.elim
  · cases h
theorem few_of {c : CkC} {l : T} {es : List Expr} {env : Env} {pos : Pos} (h : chkL tb l c es = true) (hl : es.length < 20) : ((backTo pos (starEach es env)).all (fun x => !x.1) && (backToKw pos (keywordEach [] env)).all (fun x => x.1.isSome)
      && decide (es.length + ([] : List Keyword).length + (if ([] : List Keyword).isEmpty then 0 else 1) < 30)) = true := by
  have h1 : (backTo pos (starEach es env)).all (fun x => !x.1) = true := by
    have z := chk_nostar h env pos
    rw [List.any_eq_false] at z
    rw [List.all_eq_true]
    intro x hx
    simpa using z x hx
  rw [h1]
  simp only [Bool.true_and, Bool.and_eq_true, decide_eq_true_eq]
  exact ⟨rfl, by simp; omega⟩
theorem chkL_one {a : T} {c : CkC} {es : List Expr} (h : chkL tb (.cons a .nil) c es = true) : ∃ e, es = [e] ∧ chkE tb a c e = true := by
  rcases es with _ | ⟨e, _ | ⟨e2, r⟩⟩
  · exact absurd (show false = true from h) Bool.false_ne_true
  · exact ⟨e, rfl, (Bool.and_eq_true_iff.mp (show (chkE tb a c e && true) = true from h)).1⟩
  · exact absurd (Bool.and_eq_true_iff.mp (show (chkE tb a c e && false) = true from h)).2 Bool.false_ne_true
theorem chkL_two {a b : T} {c : CkC} {es : List Expr} (h : chkL tb (.cons a (.cons b .nil)) c es = true) : ∃ e f, es = [e, f] ∧ chkE tb a c e = true ∧ chkE tb b c f = true := by
  rcases es with _ | ⟨e, r⟩
  · exact absurd (show false = true from h) Bool.false_ne_true
  · obtain ⟨h1, h2⟩ := Bool.and_eq_true_iff.mp (show (chkE tb a c e && chkL tb (.cons b .nil) c r) = true from h)
    obtain ⟨f, rfl, h3⟩ := chkL_one h2
    exact ⟨e, f, rfl, h1, h3⟩
theorem meth_inv {c : CkC} {i : Nat} {m : Str} {fl : List Expr → Bool} {st : Stmt} (h : cMeth c i m fl st = true) : ∃ x xp ap es cp pos, st = .Expr (.Call (.Attribute (.Name x xp) m ap) es [] cp) pos ∧ (ap.endLine == cp.line) = true ∧ nmOk c i x = true ∧ fl es = true ∧ es.length < 20 := by
  unfold cMeth at h
  split at h
  · simp only [Bool.and_eq_true, decide_eq_true_eq] at h
    obtain ⟨⟨⟨⟨h0, h1⟩, h2⟩, h3⟩, h4⟩ := h
    subst h1
    exact ⟨_, _, _, _, _, _, rfl, h0, h2, h3, h4⟩
  · cases h
theorem oks_app (i : Nat) {e : T} (he : Ok P wd K mg base tb aw ag exA exF cl lv e) : OkS P wd K mg base tb aw ag exA exF cl lv wf (.app i e) := mkS rfl fun c W st h => by
  obtain ⟨x, xp, ap, es, cp, pos, rfl, h0, h2, h3, h4⟩ := meth_inv (show cMeth c i "append" (chkL tb (.cons e .nil) c) st = true from h)
  obtain ⟨ee, rfl, h5⟩ := chkL_one h3
  obtain ⟨te, e1, _, e3, _⟩ := he.e c W ee h5
  refine ⟨tDrop (tBM K "list" rAppend (tVar i) (tCons te tNil)), fun X C => ?_, fun G0 H0 G H σ sl w D R p => ?_⟩
  · have z := pe_bm (X := X) (apos := ap) (cpos := cp) PySem.F.plainAttrs_list PySem.F.slot_list_append PySem.F.type_list_append mt_append (pe_nm (pos := xp) h2 C.c) (pa_cons (e1 X C.c) pa_nil (chk_star h5 _ _)) rfl (few_of h3 h4) h0 (chk_star h5 _ _) rfl
    rw [C.c.K] at z
    exact ps_expr z
  · obtain ⟨ds, hs, p⟩ := own_st p
    obtain ⟨a, vs, f1, f2, _⟩ := R.own i ds hs
    refine ⟨.ref a, f1, .inl ⟨rfl, _, SqL.of f2⟩, ?_⟩
    refine SE.stillX e3 R R.len p fun r w1 y G1 H1 R1 S1 hy q => ?_
    obtain ⟨a', vs', f1', f2', f3, f4, f5, f6, f7, f8⟩ := R1.own i ds hs
    rw [f1] at f1'
    cases f1'
    split at q
    · rename_i hz
      have e := f7.length
      exact ⟨a, vs', y, rfl, rfl, f2', by omega, q σ G1 _ (R1.writeOwn hs f1 (f7.append (Rps.one hy)) (by rw [List.length_append]; simp only [List.length_cons, List.length_nil]; omega)) (Same.refl _)⟩
    · exact q.elim
def rIns : V → List V → Hp → VK → Prop := fun x vs H Q => ∃ (l : Addr) (xs : List V) (i : Int) (y : V), x = .ref l ∧ vs = [.int i, y] ∧ H l = some (.lst xs) ∧ xs.length < sizeLine ∧ 0 ≤ i ∧ i < 2 ^ 63 ∧
    Q .non (upd H l (.lst (xs.take i.toNat ++ [y] ++ xs.drop i.toNat)))
theorem oks_ins (i : Nat) {e b : T} (he : Ok P wd K mg base tb aw ag exA exF cl lv e) (hb : Ok P wd K mg base tb aw ag exA exF cl lv b) : OkS P wd K mg base tb aw ag exA exF cl lv wf (.ins i e b) := mkS rfl fun c W st h => by
  obtain ⟨x, xp, ap, es, cp, pos, rfl, h0, h2, h3, h4⟩ := meth_inv (show cMeth c i "insert" (chkL tb (.cons e (.cons b .nil)) c) st = true from h)
  obtain ⟨ee, eb, rfl, h5, h6⟩ := chkL_two h3
  obtain ⟨te, e1, _, e3, _⟩ := he.e c W ee h5
  obtain ⟨tb', b1, _, b3, _⟩ := hb.e c W eb h6
  have hl2 : chkL tb (.cons b .nil) c [eb] = true := (show (chkE tb b c eb && true) = true by rw [h6]; rfl)
  refine ⟨tDrop (tBM K "list" rIns (tVar i) (tCons te (tCons tb' tNil))), fun X C => ?_, fun G0 H0 G H σ sl w D R p => ?_⟩
  · have z := pe_bm (X := X) (apos := ap) (cpos := cp) (r := rIns) PySem.F.plainAttrs_list PySem.F.slot_list_insert PySem.F.type_list_insert mt_insert (pe_nm (pos := xp) h2 C.c) (pa_cons (e1 X C.c) (pa_cons (b1 X C.c) pa_nil (chk_star h6 _ _)) (chk_star h5 _ _)) rfl (few_of h3 h4) h0 (chk_star h5 _ _) (chk_nostar hl2 _ _)
    rw [C.c.K] at z
    exact ps_expr z
  · obtain ⟨ds, hs, p⟩ := own_st p
    obtain ⟨a, vs, f1, f2, _⟩ := R.own i ds hs
    refine ⟨.ref a, f1, .inl ⟨rfl, _, SqL.of f2⟩, ?_⟩
    refine SE.stillX e3 R R.len p fun r w1 x G1 H1 R1 S1 hx q => ?_
    refine SE.stillX b3 R1 R1.len q fun r2 w2 y G2 H2 R2 S2 hy q => ?_
    obtain ⟨a', vs', f1', f2', f3, f4, f5, f6, f7, f8⟩ := R2.own i ds hs
    rw [f1] at f1'
    cases f1'
    cases hd : r.d with
    | int k =>
      rw [hd] at hx q
      cases hx.int_inv
      have q2 : PostS aw ag K exA exF W G0 H0 G2 sl.length D (if 0 ≤ k ∧ k < 2 ^ 62 ∧ ds.length < sizeLine then .ok .nx (sl.set i (.own (ds.take k.toNat ++ [r2.d] ++ ds.drop k.toNat))) w2 else .stuck) := q
      split at q2
      · rename_i hz
        have e := f7.length
        exact ⟨a, vs', k, y, rfl, rfl, f2', by omega, hz.1, by omega, q2 σ G2 _ (R2.writeOwn hs f1 (((f7.take _).append (Rps.one hy)).append (f7.drop _)) (by simp only [List.length_append, List.length_take, List.length_drop, List.length_cons, List.length_nil]; omega)) (Same.refl _)⟩
      · exact q2.elim
    | _ => rw [hd] at q; exact q.elim
theorem oks_popS (i : Nat) {e : T} (he : Ok P wd K mg base tb aw ag exA exF cl lv e) : OkS P wd K mg base tb aw ag exA exF cl lv wf (.popS i e) := mkS rfl fun c W st h => by
  obtain ⟨x, xp, ap, es, cp, pos, rfl, h0, h2, h3, h4⟩ := meth_inv (show cMeth c i "pop" (chkL tb (.cons e .nil) c) st = true from h)
  obtain ⟨ee, rfl, h5⟩ := chkL_one h3
  obtain ⟨te, e1, _, e3, _⟩ := he.e c W ee h5
  refine ⟨tDrop (tBM K "list" rPopAt (tVar i) (tCons te tNil)), fun X C => ?_, fun G0 H0 G H σ sl w D R p => ?_⟩
  · have z := pe_bm (X := X) (apos := ap) (cpos := cp) PySem.F.plainAttrs_list PySem.F.slot_list_pop PySem.F.type_list_pop mt_popAt (pe_nm (pos := xp) h2 C.c) (pa_cons (e1 X C.c) pa_nil (chk_star h5 _ _)) rfl (few_of h3 h4) h0 (chk_star h5 _ _) rfl
    rw [C.c.K] at z
    exact ps_expr z
  · obtain ⟨ds, hs, p⟩ := own_st p
    obtain ⟨a, vs, f1, f2, _⟩ := R.own i ds hs
    refine ⟨.ref a, f1, .inl ⟨rfl, _, SqL.of f2⟩, ?_⟩
    refine SE.stillX e3 R R.len p fun r w1 y G1 H1 R1 S1 hy q => ?_
    obtain ⟨a', vs', f1', f2', f3, f4, f5, f6, f7, f8⟩ := R1.own i ds hs
    rw [f1] at f1'
    cases f1'
    cases hd : r.d with
    | int k =>
      rw [hd] at hy q
      cases hy.int_inv
      have q2 : PostS aw ag K exA exF W G0 H0 G1 sl.length D (if 0 ≤ k ∧ k < ds.length then .ok .nx (sl.set i (.own (ds.eraseIdx k.toNat))) w1 else .stuck) := q
      split at q2
      · rename_i hz
        have e := f7.length
        have hk2 : k.toNat < vs'.length := by omega
        have f8' := f8
        rw [sizeLine_eq] at f8
        exact ⟨a, vs', k, k.toNat, vs'[k.toNat], rfl, rfl, f2', by omega, by omega, seqIndex_of hz.1 (by omega), List.getElem?_eq_getElem hk2, q2 σ G1 _ (R1.writeOwn hs f1 (f7.eraseIdx _) (Nat.le_trans (List.length_eraseIdx_le vs' k.toNat) f8')) (Same.refl _)⟩
      · exact q2.elim
    | _ => rw [hd] at q; exact q.elim
theorem oks_rev (i : Nat) : OkS P wd K mg base tb aw ag exA exF cl lv wf (.rev i) := mkS rfl fun c W st h => by
  obtain ⟨x, xp, ap, es, cp, pos, rfl, h0, h2, h3, h4⟩ := meth_inv (show cMeth c i "reverse" (chkL tb .nil c) st = true from h)
  have e : es = [] := by
    cases es with
    | nil => rfl
    | cons _ _ => exact absurd (show false = true from h3) Bool.false_ne_true
  subst e
  refine ⟨tDrop (tBM0 K "list" rReverse (tVar i)), fun X C => ?_, fun G0 H0 G H σ sl w D R p => ?_⟩
  · have z := pe_bm0 (X := X) (apos := ap) (cpos := cp) PySem.F.plainAttrs_list PySem.F.slot_list_reverse PySem.F.type_list_reverse mt_reverse (pe_nm (pos := xp) h2 C.c) rfl h0
    rw [C.c.K] at z
    exact ps_expr z
  · obtain ⟨ds, hs, p⟩ := own_st p
    obtain ⟨a, vs, f1, f2, f3, f4, f5, f6, f7, f8⟩ := R.own i ds hs
    exact ⟨.ref a, f1, .inl ⟨rfl, _, SqL.of f2⟩, a, vs, rfl, rfl, f2, p σ G _ (R.writeOwn hs f1 f7.reverse (by rw [List.length_reverse]; exact f8)) (Same.refl _)⟩
end
end Rx
set_option Elab.async false
set_option linter.all false
set_option maxRecDepth 100000
set_option maxHeartbeats 2000000
/-! Rx: statements that hold blocks; raise, try. -/
namespace Rx
open PySem PySem.Spec PyProof.Rows L2
section
variable {P : Program} {wd : World} {K : PySem.W.Frag} {mg : Str → Option Value} {base : Heap} {tb : Tab} {aw ag : Addr} {exA : Nat → Addr} {exF : Nat → List Str} {cl : Nat → List PyData → Wl → Rz PyData} {lv wf : Nat}
theorem oks_ifs {t a b : T} (ht : Ok P wd K mg base tb aw ag exA exF cl lv t) (ha : OkS P wd K mg base tb aw ag exA exF cl lv wf a) (hb : OkS P wd K mg base tb aw ag exA exF cl lv wf b) : OkS P wd K mg base tb aw ag exA exF cl lv wf (.ifs t a b) := mkS rfl fun c W st h => by
  replace h : cIfs (chkE tb t c) (fun ss => chkB tb a c ss) (fun ss => chkB tb b c ss) st = true := h
  unfold cIfs at h
  split at h
  case h_2 => cases h
  rename_i et sa sb pos
  simp only [Bool.and_eq_true] at h
  obtain ⟨⟨h1, h2⟩, h3⟩ := h
  obtain ⟨tt, t1, t2⟩ := ht.ts c W et h1
  obtain ⟨ta, a1, a2⟩ := ha.b c W sa h2
  obtain ⟨tb', b1, b2⟩ := hb.b c W sb h3
  refine ⟨tIfS tt ta tb', fun X C => ps_if (t1 X C.c) (a1 X C) (b1 X C), fun G0 H0 G H σ sl w D R p => ?_⟩
  refine t2 G0 H0 G H σ sl w _ R (PostS.x R.len p fun k w1 k' G1 H1 _ R1 S1 hk q => ?_)
  cases hk
  cases k with
  | true => exact a2 G0 H0 G1 H1 σ sl w1 D R1 q
  | false => exact b2 G0 H0 G1 H1 σ sl w1 D R1 q
theorem oks_nil : OkS P wd K mg base tb aw ag exA exF cl lv wf .nil where
  s := fun c W st h => absurd (show false = true from h) Bool.false_ne_true
  b := fun c W ss h => by
    cases ss with
    | nil => exact ⟨tNext, fun X C => pss_nil, fun G0 H0 G H σ sl w D R p => p σ G H R (Same.refl _)⟩
    | cons _ _ => exact absurd (show false = true from h) Bool.false_ne_true
theorem oks_cons {s r : T} (hs : OkS P wd K mg base tb aw ag exA exF cl lv wf s) (hr : OkS P wd K mg base tb aw ag exA exF cl lv wf r) : OkS P wd K mg base tb aw ag exA exF cl lv wf (.cons s r) where
  s := fun c W st h => absurd (show false = true from h) Bool.false_ne_true
  b := fun c W ss h => by
    cases ss with
    | nil => exact absurd (show false = true from h) Bool.false_ne_true
    | cons st ss =>
      have h := Bool.and_eq_true_iff.mp (show (chkS tb s c st && chkB tb r c ss) = true from h)
      obtain ⟨ts, s1, s2⟩ := hs.s c W st h.1
      obtain ⟨tr, r1, r2⟩ := hr.b c W ss h.2
      refine ⟨tSeq ts tr, fun X C => pss_cons (s1 X C) (r1 X C), fun G0 H0 G H σ sl w D R p => ?_⟩
      refine s2 G0 H0 G H σ sl w _ R ?_
      have p' : PostS aw ag K exA exF W G0 H0 G sl.length D ((run cl wf s sl w).seq (run cl wf r)) := p
      have hl := run_len (cl := cl) (wf := wf) s sl w
      cases hm : run cl wf s sl w with
      | ok f sl1 w1 =>
        rw [hm] at p' hl
        cases f with
        | nx =>
          have p2 : PostS aw ag K exA exF W G0 H0 G sl.length D (run cl wf r sl1 w1) := p'
          have hl2 : sl1.length = sl.length := hl
          exact fun σ' G1 H1 R1 S1 => r2 G0 H0 G1 H1 σ' sl1 w1 D R1 (by rw [hl2]; exact PostS.mono S1 p2)
        | ret d => exact p'
        | brk => exact p'
        | cnt => exact p'
      | exc c' fs w1 =>
        rw [hm] at p'
        exact p'
      | stuck =>
        rw [hm] at p'
        exact p'
theorem oks_frz (i : Nat) {r : T} (hr : OkS P wd K mg base tb aw ag exA exF cl lv wf r) : OkS P wd K mg base tb aw ag exA exF cl lv wf (.frz i r) where
  s := fun c W st h => absurd (show false = true from h) Bool.false_ne_true
  b := fun c W ss h => by
    have h' : chkB tb r c ss = true := by
      cases ss <;> exact h
    obtain ⟨tr, r1, r2⟩ := hr.b c W ss h'
    refine ⟨tr, r1, fun G0 H0 G H σ sl w D R p => ?_⟩
    obtain ⟨G1, R1, S1⟩ := R.freeze i
    have p' : PostS aw ag K exA exF W G0 H0 G sl.length D (run cl wf r (frzS i sl) w) := p
    exact r2 G0 H0 G1 H σ _ w D R1 (by rw [frzS_len]; exact PostS.mono S1 p')
theorem oks_for (g : T) {it b : T} (hi : Ok P wd K mg base tb aw ag exA exF cl lv it) (hb : OkS P wd K mg base tb aw ag exA exF cl lv wf b) : OkS P wd K mg base tb aw ag exA exF cl lv wf (.for_ g it b) := mkS rfl fun c W st h => by
  replace h : cFor c g (chkE tb it c) (fun ss => chkB tb b c ss) st = true := h
  unfold cFor at h
  split at h
  case h_2 => cases h
  rename_i eg ei sb pos
  simp only [Bool.and_eq_true, Bool.not_eq_true'] at h
  obtain ⟨⟨⟨h1, h2⟩, h3⟩, h4⟩ := h
  obtain ⟨tg, g1, g2⟩ := (g_ok (P := P) (wd := wd) (K := K) (mg := mg) (base := base) (aw := aw) (ag := ag) (lv := lv) g).1 _ _ h1
  obtain ⟨wi, i1, i2⟩ := hi.i c W ei h2
  obtain ⟨tb', b1, b2⟩ := hb.b c W sb h4
  refine ⟨tFor wi tg tb', fun X C => ps_for C.pass C.c.calm (i1 X eg C.c) (g1 W X C.c) (b1 X C) (fun x => chk_fold h2 _ x), fun G0 H0 G H σ sl w D R p => ?_⟩
  refine i2 G0 H0 G H σ sl w _ R (PostS.x R.len p fun items w1 J G1 H1 _ R1 S1 hJ q => ?_)
  obtain ⟨hw, hz⟩ := hJ
  let body : PyData → List Slt → Wl → Xr := fun d sl w => match asgG g d sl with
    | some sl => run cl wf b sl w
    | none => .stuck
  have q0 : PostS aw ag K exA exF W G0 H0 G1 sl.length D (loopF body items sl w1) := q
  refine ⟨fun i m σ' H' => m = items.length - i ∧ i ≤ items.length ∧ ∃ G' sl' w', Rel aw ag K G0 H0 G' H' σ' sl' w' ∧ Same G1 G' ∧ sl'.length = sl.length ∧ PostS aw ag K exA exF W G0 H0 G' sl.length D (loopF body (items.drop i) sl' w'),
    ⟨items.length, rfl, Nat.zero_le _, G1, sl, w1, R1, Same.refl _, rfl, q0⟩, ?_⟩
  rintro i m σ' H' ⟨rfl, hi', G', sl', w', R', S', hl, q'⟩
  have hwk := hw i H' (S'.trans R'.b.gh)
  by_cases hlt : i < items.length
  · right
    have hd : items[i]? = some items[i] := List.getElem?_eq_getElem hlt
    obtain ⟨go, yl⟩ := hwk.1 _ hd
    rw [List.drop_eq_getElem_cons hlt] at q'
    refine ⟨go, fun σ5 H5 => i + 1 ≤ items.length ∧ ∃ G' sl' w', Rel aw ag K G0 H0 G' H5 σ5 sl' w' ∧ Same G1 G' ∧ sl'.length = sl.length ∧ PostS aw ag K exA exF W G0 H0 G' sl.length D (loopF body (items.drop (i + 1)) sl' w'),
      fun σ5 H5 h5 => ⟨items.length - (i + 1), by omega, rfl, h5.1, h5.2⟩, fun x H'' y => ?_⟩
    obtain ⟨G2, R2, S2, r2⟩ := R'.yield ((yl x H'' y).mono S')
    have q2 : PostS aw ag K exA exF W G0 H0 G2 sl.length D (match body items[i] sl' w' with
      | .ok .nx sl w => loopF body (items.drop (i + 1)) sl w
      | .ok .cnt sl w => loopF body (items.drop (i + 1)) sl w
      | .ok .brk sl w => .ok .nx sl w
      | m => m) := PostS.mono S2 q'
    have hbd : body items[i] sl' w' = match asgG g items[i] sl' with
      | some sl => run cl wf b sl w'
      | none => .stuck := rfl
    cases hs : asgG g items[i] sl' with
    | none =>
      exfalso
      rw [hbd, hs] at q2
      exact q2
    | some sl1 =>
      rw [hbd, hs] at q2
      refine g2 G0 H0 G2 H'' σ' sl' sl1 w' x _ _ R2 hs r2 fun σ2 R3 _ => ?_
      have hl1 : sl1.length = sl.length := (asgG_len hs).trans hl
      have hrl := run_len (cl := cl) (wf := wf) b sl1 w'
      refine b2 G0 H0 G2 H'' σ2 sl1 w' _ R3 ?_
      rw [hl1]
      rw [hl1] at hrl
      have q3 : PostS aw ag K exA exF W G0 H0 G2 sl.length D (match run cl wf b sl1 w' with
        | .ok .nx sl w => loopF body (items.drop (i + 1)) sl w
        | .ok .cnt sl w => loopF body (items.drop (i + 1)) sl w
        | .ok .brk sl w => .ok .nx sl w
        | m => m) := q2
      cases hm : run cl wf b sl1 w' with
      | ok f sl2 w2 =>
        rw [hm] at q3 hrl
        cases f with
        | nx => exact fun σ5 G5 H5 R5 S5 => ⟨hlt, G5, sl2, w2, R5, S'.trans (S2.trans S5), hrl, PostS.mono S5 q3⟩
        | cnt => exact fun σ5 G5 H5 R5 S5 => ⟨hlt, G5, sl2, w2, R5, S'.trans (S2.trans S5), hrl, PostS.mono S5 q3⟩
        | brk => exact q3
        | ret d => exact q3
      | exc c' fs w2 =>
        rw [hm] at q3
        exact q3
      | stuck =>
        rw [hm] at q3
        exact q3
  · left
    have ei : i = items.length := by omega
    rw [List.drop_eq_nil_of_le (by omega)] at q'
    exact ⟨hwk.2 ei, q' σ' G' H' R' (Same.refl _)⟩
theorem oks_wh {t b : T} (ht : Ok P wd K mg base tb aw ag exA exF cl lv t) (hb : OkS P wd K mg base tb aw ag exA exF cl lv wf b) : OkS P wd K mg base tb aw ag exA exF cl lv wf (.wh t b) := mkS rfl fun c W st h => by
  replace h : cWh (chkE tb t c) (fun ss => chkB tb b c ss) st = true := h
  unfold cWh at h
  split at h
  case h_2 => cases h
  rename_i et sb pos
  simp only [Bool.and_eq_true] at h
  obtain ⟨h1, h2⟩ := h
  obtain ⟨tt, t1, t2⟩ := ht.ts c W et h1
  obtain ⟨tb', b1, b2⟩ := hb.b c W sb h2
  refine ⟨tWhile tt tb', fun X C => ps_while C.pass (t1 X C.c) (b1 X C), fun G0 H0 G H σ sl w D R p => ?_⟩
  have p0 : PostS aw ag K exA exF W G0 H0 G sl.length D (whileF (sem cl t).b (run cl wf b) wf sl w) := p
  refine ⟨fun m σ' H' => ∃ G' sl' w', Rel aw ag K G0 H0 G' H' σ' sl' w' ∧ Same G G' ∧ sl'.length = sl.length ∧ PostS aw ag K exA exF W G0 H0 G' sl.length D (whileF (sem cl t).b (run cl wf b) m sl' w'),
    ⟨wf, G, sl, w, R, Same.refl _, rfl, p0⟩, ?_⟩
  rintro m σ' H' ⟨G', sl', w', R', S', hl, q'⟩
  cases m with
  | zero => exact q'.elim
  | succ m =>
    have q1 : PostS aw ag K exA exF W G0 H0 G' sl.length D (((sem cl t).b sl' w').x fun b' w => if b' = true then (match run cl wf b sl' w with
      | .ok .nx sl w => whileF (sem cl t).b (run cl wf b) m sl w
      | .ok .cnt sl w => whileF (sem cl t).b (run cl wf b) m sl w
      | .ok .brk sl w => .ok .nx sl w
      | m => m) else .ok .nx sl' w) := q'
    refine t2 G0 H0 G' H' σ' sl' w' _ R' (PostS.x (by rw [R'.len, hl]) q1 fun k w1 k' G1 H1 _ R1 S1 hk q => ?_)
    cases hk
    cases k with
    | false => exact q σ' G1 H1 R1 (Same.refl _)
    | true =>
      refine ⟨fun σ5 H5 => ∃ G' sl' w', Rel aw ag K G0 H0 G' H5 σ5 sl' w' ∧ Same G G' ∧ sl'.length = sl.length ∧ PostS aw ag K exA exF W G0 H0 G' sl.length D (whileF (sem cl t).b (run cl wf b) m sl' w'),
        fun σ5 H5 h5 => ⟨m, Nat.lt_succ_self m, h5⟩, ?_⟩
      have hrl := run_len (cl := cl) (wf := wf) b sl' w1
      refine b2 G0 H0 G1 H1 σ' sl' w1 _ R1 ?_
      rw [hl] at hrl ⊢
      have q3 : PostS aw ag K exA exF W G0 H0 G1 sl.length D (match run cl wf b sl' w1 with
        | .ok .nx sl w => whileF (sem cl t).b (run cl wf b) m sl w
        | .ok .cnt sl w => whileF (sem cl t).b (run cl wf b) m sl w
        | .ok .brk sl w => .ok .nx sl w
        | m => m) := q
      cases hm : run cl wf b sl' w1 with
      | ok f sl2 w2 =>
        rw [hm] at q3 hrl
        cases f with
        | nx => exact fun σ5 G5 H5 R5 S5 => ⟨G5, sl2, w2, R5, S'.trans (S1.trans S5), hrl, PostS.mono S5 q3⟩
        | cnt => exact fun σ5 G5 H5 R5 S5 => ⟨G5, sl2, w2, R5, S'.trans (S1.trans S5), hrl, PostS.mono S5 q3⟩
        | brk => exact q3
        | ret d => exact q3
      | exc c' fs w2 =>
        rw [hm] at q3
        exact q3
      | stuck =>
        rw [hm] at q3
        exact q3
/-! ### raise -/
theorem oks_rse (g : Glo P wd K mg base tb aw ag exA exF cl lv) (hlv : 2 ≤ lv) (k : Nat) {l : T} (hl : Ok P wd K mg base tb aw ag exA exF cl lv l) : OkS P wd K mg base tb aw ag exA exF cl lv wf (.rse k l) := mkS rfl fun c W st h => by
  replace h : cRse tb c k (chkL tb l c) st = true := h
  unfold cRse at h
  split at h
  case h_2 => cases h
  rename_i x xp es cp pos
  simp only [Bool.and_eq_true, decide_eq_true_eq] at h
  obtain ⟨⟨⟨⟨⟨h1, h2⟩, h3⟩, h4⟩, h5⟩, h6⟩ := h
  obtain ⟨e, r, rfl⟩ := call_inv h5
  obtain ⟨⟨x', fl⟩, hf, e1⟩ := Option.map_eq_some_iff.mp h1
  cases e1
  rw [hf] at h2
  have hfl : fl.length = (e :: r).length := by simpa using h2
  obtain ⟨m1, m2, m3, m4, m5, m6, fI, fd, m7, m8, m9, m10⟩ := g.ex k _ fl hf
  obtain ⟨ta, a1, _, a3, _⟩ := hl.l c W _ h4
  obtain ⟨a, r', c1, c2⟩ := cons_inv h4
  let sp : Sp := fun vs H Q _ => ∃ a C ws, vs = .ref a :: ws ∧ ws.length = fl.length ∧ H a = some (exo a C none) ∧ C = exA k ∧
        ∀ dx, H dx = none → dx ≠ a → Q .non (upd (upd H dx (exd dx (fl.zip ws))) a (exo a C (some dx)))
  refine ⟨fun _ σ H => tMkO (exA k) sp [] ta σ H fun cls d H' => W cls d σ H', fun X C => ?_, fun G0 H0 G H σ sl w D R p => ?_⟩
  · have F : FnOk X.prog X.w X.K X.mg X.base (L2.CX X.prog X.w) 1 fI fd ("self" :: fl) sp := by
      rw [C.c.P, C.c.wd, C.c.K, C.c.mg, C.c.base]
      exact m10
    exact ps_raise C.c.calm C.c.takes (pmk_oex (by rw [C.c.K]; exact m3) (by rw [C.c.K]; exact m7) (by rw [C.c.K]; exact m8) F (C.c.room.mono hlv) (by rw [C.c.K]; exact m9) .nil passL (gl_of C.c h3).1 (by rw [C.c.mg]; exact m2) (a1 X C.c) (gl_of C.c h3).2 (chk_star c1 _ _) (chk_nostar c2 _ _))
  · refine a3 G0 H0 G H σ sl w _ R (PostS.x R.len p fun ds w1 vs G1 H1 hm R1 S1 hv q => ?_)
    have e1 := sem_l_len l c _ h4 sl w ds w1 hm
    have e2 := hv.length
    refine ⟨by omega, fun a ha => ⟨a, exA k, vs ++ [], rfl, by rw [List.append_nil]; omega, upd_same, rfl, fun dx hdx hne => ⟨rfl, dx, fl.zip (vs ++ []), upd_same, ?_, ?_, ?_⟩⟩⟩
    · rw [upd_ne hne, upd_same]
    · rw [upd_ne hne] at hdx
      exact hdx
    · rw [upd_ne hne] at hdx
      rw [List.append_nil]
      have eH : upd (del (upd (upd (upd H1 a (exo a (exA k) none)) dx (exd dx (fl.zip vs))) a (exo a (exA k) (some dx))) a) dx (.xd (fl.zip vs)) = upd H1 dx (.xd (fl.zip vs)) := by
        funext b
        by_cases hb : b = dx
        · rw [hb, upd_same, upd_same]
        · rw [upd_ne hb, upd_ne hb]
          by_cases hba : b = a
          · rw [hba, del_same, ha]
          · rw [del_ne hba, upd_ne hba, upd_ne hb, upd_ne hba]
      rw [eH]
      exact q σ R1.len dx vs G1 _ (R1.b.lay hdx) (Same.refl _) (by rw [upd_same, m1]) (by rw [m1]; omega) hv
/-! ### try -/
/-- the fields of a held exception -/
def tFlds (a : Addr) (cls : Value) (d : Option Addr) (C : Addr) (i : Nat) : List Str → TA
  | [] => tNil
  | f :: r => tCons (tXf a cls d C f (tVar i)) (tFlds a cls d C i r)
def fldNames (flds : List Str) (fs : List Nat) : List Str := fs.map fun j => flds.getD j ""
theorem chkFl_cons {c : CkC} {flds : List Str} {n : Str} {j : Nat} {fs : List Nat} {e : Expr} {es : List Expr} (h : chkFl c flds n (j :: fs) (e :: es) = true) : ∃ p f q, e = .Attribute (.Name n p) f q ∧ flds[j]? = some f ∧ chkFl c flds n fs es = true := by
  cases e <;> first | exact absurd (show false = true from h) Bool.false_ne_true | skip
  rename_i o f q
  cases o <;> first | exact absurd (show false = true from h) Bool.false_ne_true | skip
  rename_i y p
  replace h := show (decide (y = n) && decide (flds[j]? = some f) && chkFl c flds n fs es) = true from h
  simp only [Bool.and_eq_true, decide_eq_true_eq] at h
  obtain ⟨⟨h1, h2⟩, h3⟩ := h
  subst h1
  exact ⟨p, f, q, rfl, h2, h3⟩
theorem flds_pa {X : Cx} {a C : Addr} {oe : Obj} {cls : Value} {d : Option Addr} {pn : List (Addr × Obj)} {c : CkC} {flds : List Str} {n : Str} {i : Nat} (T : XfC X.K C) (hno : ∀ f ∈ flds, PySem.W.findIn X.K (.ref C) f = some none) (hz : Zc cls d oe) (hf : ∃ vs, oe.data = .fields vs)
    (hv : ∀ pos, PE (X.suite a ((a, oe) :: pn)) (.Name n pos) (tVar i)) : ∀ (fs : List Nat) (es : List Expr), chkFl c flds n fs es = true → PA (X.suite a ((a, oe) :: pn)) es (tFlds a cls d C i (fldNames flds fs))
  | [], [], _ => pa_nil
  | [], _ :: _, h => absurd (show false = true from h) Bool.false_ne_true
  | _ :: _, [], h => absurd (show false = true from h) Bool.false_ne_true
  | j :: fs, e :: es, h => by
    obtain ⟨p, f, q, rfl, h2, h3⟩ := chkFl_cons h
    have hn : flds.getD j "" = f := by rw [List.getD_eq_getElem?_getD, h2]; rfl
    show PA _ _ (tCons (tXf a cls d C (flds.getD j "") (tVar i)) (tFlds a cls d C i (fldNames flds fs)))
    rw [hn]
    exact pa_cons (pe_xf T (hno f (List.mem_of_getElem? h2)) hz hf (hv p)) (flds_pa T hno hz hf hv fs es h3) (by rfl)
theorem zip_lookup {f : Str} {v : V} : ∀ {fl : List Str} {vs : List V} {j : Nat}, fl.Nodup → fl[j]? = some f → vs[j]? = some v → (fl.zip vs).lookup f = some v
  | [], _, _, _, h, _ => by simp at h
  | _ :: _, [], _, _, _, h => by simp at h
  | g :: fl, u :: vs, 0, _, h1, h2 => by
    simp at h1 h2
    subst h1
    subst h2
    simp [List.lookup]
  | g :: fl, u :: vs, j + 1, nd, h1, h2 => by
    simp at h1 h2
    have hne : (f == g) = false := by
      have z := (List.nodup_cons.mp nd).1
      exact beq_eq_false_iff_ne.mpr fun e => z (e ▸ List.mem_of_getElem? h1)
    show (((g, u) :: fl.zip vs).lookup f) = some v
    rw [List.lookup_cons, hne]
    exact zip_lookup (List.nodup_cons.mp nd).2 h1 h2
theorem flds_run {a dd C : Addr} {σ : L2.St} {H : Hp} {i : Nat} {flds : List Str} {vs : List V} {c : CkC} {n : Str} (hi : σ[i]? = some (some (.ref a))) (hd : H dd = some (.xd (flds.zip vs))) (nd : flds.Nodup) (hl : vs.length = flds.length) : ∀ (fs : List Nat) (es : List Expr) (Q : List V → Hp → Prop), chkFl c flds n fs es = true →
    Q (fs.map fun j => vs.getD j .non) H → tFlds a (.ref C) (some dd) C i (fldNames flds fs) σ H Q
  | [], _, Q, _, q => q
  | j :: fs, [], Q, h, _ => absurd (show false = true from h) Bool.false_ne_true
  | j :: fs, e :: es, Q, h, q => by
    obtain ⟨p, f, q', rfl, h2, h3⟩ := chkFl_cons h
    have hn : flds.getD j "" = f := by rw [List.getD_eq_getElem?_getD, h2]; rfl
    have hj : j < vs.length := by
      have := (List.getElem?_eq_some_iff.mp h2).1
      omega
    have hv : vs[j]? = some vs[j] := List.getElem?_eq_getElem hj
    have hg : vs.getD j .non = vs[j] := by rw [List.getD_eq_getElem?_getD, hv]; rfl
    refine ⟨.ref a, hi, rfl, rfl, dd, _, vs.getD j .non, rfl, hd, ?_, ?_⟩
    · show List.lookup (flds.getD j "") (flds.zip vs) = some (vs.getD j .non)
      rw [hn, hg]
      exact zip_lookup nd h2 hv
    · exact flds_run hi hd nd hl fs es (fun xs H2 => Q (vs.getD j .non :: xs) H2) h3 q
theorem Rps.getDs {G : Hp} {vs : List V} {ds : List PyData} (r : Rps aw K G vs ds) : ∀ fs : List Nat, Rps aw K G (fs.map fun j => vs.getD j .non) (fs.map fun j => ds.getD j .none)
  | [] => .nil
  | j :: fs => .cons (r.getD j) (r.getDs fs)
theorem Base.tup {G0 H0 G H : Hp} {w : Wl} {p : Addr} {vs : List V} {ds : List PyData} (B : Base aw ag G0 H0 G H w) (hp : H p = none) (r : Rps aw K G vs ds) (hl : vs.length ≤ sizeLine) :
    ∃ G1, Base aw ag G0 H0 G1 (upd H p (.tup vs)) w ∧ Same G G1 ∧ Rp aw K G1 (.ref p) (.tuple ds) := by
  obtain ⟨h1, h2, h3, h4⟩ := B.newNe hp
  have S := same_upd (o := .tup vs) h3
  exact ⟨upd G p (.tup vs), (B.lay hp).still upd_same h4 h3 h1 h2, S, .tup (.inl (.inl upd_same)) hl (r.mono S)⟩
theorem oks_tryR (g : Glo P wd K mg base tb aw ag exA exF cl lv) (k i : Nat) (fs : List Nat) {b : T} (hb : OkS P wd K mg base tb aw ag exA exF cl lv wf b) : OkS P wd K mg base tb aw ag exA exF cl lv wf (.tryR k i fs b) := mkS rfl fun c W st h => by
  replace h : cTry tb c k i fs (fun ss => chkB tb b c ss) st = true := h
  unfold cTry at h
  split at h
  case h_2 => cases h
  rename_i sb x xp n cp bp ef tk tp rp hp pos
  simp only [Bool.and_eq_true, decide_eq_true_eq] at h
  obtain ⟨⟨⟨⟨⟨h1, h2⟩, h3⟩, h4⟩, h5⟩, h6⟩ := h
  split at h5
  case h_2 => cases h5
  rename_i y flds hx
  simp only [Bool.and_eq_true, decide_eq_true_eq] at h5
  obtain ⟨⟨⟨h51, h52⟩, h53⟩, h54⟩ := h5
  subst h51
  obtain ⟨m1, m2, m3, m4, m5, m6, _⟩ := g.ex k _ flds hx
  have hW := fun W' => hb.b c W' sb h6
  let tbW : WX → TS := fun W' => Classical.choose (hW W')
  have spec : ∀ W', (∀ X, CtxS P wd K mg base lv W' c X → PSs X sb (tbW W')) ∧ SS aw ag K exA exF W' (run cl wf b) (tbW W') := fun W' => Classical.choose_spec (hW W')
  let ts : Addr → Value → Option Addr → TS := fun a cls d => tRet (tTup (tCons (tC (.bl false)) (tFlds a cls d (exA k) i (fldNames flds fs))))
  refine ⟨fun D σ H => tbW (wAs K (.ref (exA k)) i ts W D) D σ H, fun X C => ?_, fun G0 H0 G H σ sl w D R p => ?_⟩
  · have hn : X.env.scope.names.lookup n = some .local := by rw [C.c.sc]; exact h2
    have z := ps_try_as (X := X) (x := y) (n := n) (c := .ref (exA k)) (i := i) (body := sb) (np := xp) (pos := pos) (pos' := hp) (tb := tbW) (ts := ts) (Wout := W) C.stk C.frm (by rw [C.c.N]; exact C.c.nd) (by rw [C.c.N]; exact h1) hn ⟨(gl_of C.c h4).1, (gl_of C.c h4).2, .inl (by rw [C.c.mg]; exact m2)⟩ C.c.takes
      (fun W' pn xe tk' pass => (spec W').1 (X.tr pn xe) ⟨⟨C.c.P, C.c.wd, C.c.K, C.c.mg, C.c.base, C.c.calm, C.c.N, C.c.sc, C.c.st, C.c.nd, C.c.kind, C.c.room, tk'⟩, pass, C.stk, C.frm⟩)
      (b₀ := .Return (some (.Tuple (.Constant (.bool false) cp bp :: ef) tk tp)) rp) (suite := [])
      (fun a oe cls d pn hz hf => pss_one (ps_ret (pe_tup (pa_cons pe_bl (flds_pa (by rw [C.c.K]; exact m4) (by rw [C.c.K]; exact m5) hz hf (fun pos => pe_var (by rw [C.c.N]; exact h1) (.inl hn) (dbg_of h3).1 (dbg_of h3).2) fs ef h53) (by rfl)))))
    rw [C.c.K] at z
    exact z
  · refine (spec _).2 G0 H0 G H σ sl w D R ?_
    have p' : PostS aw ag K exA exF W G0 H0 G sl.length D (match run cl wf b sl w with
      | .exc c' ds w => if c' = k ∧ i < sl.length then .ok (.ret (.tuple (.bool false :: fs.map fun j => ds.getD j .none))) sl w else .stuck
      | m => m) := p
    cases hm : run cl wf b sl w with
    | ok f sl1 w1 =>
      rw [hm] at p'
      cases f <;> exact p'
    | stuck =>
      rw [hm] at p'
      exact p'
    | exc c' ds w1 =>
      rw [hm] at p'
      have p2 : PostS aw ag K exA exF W G0 H0 G sl.length D (if c' = k ∧ i < sl.length then .ok (.ret (.tuple (.bool false :: fs.map fun j => ds.getD j .none))) sl w1 else .stuck) := p'
      split at p2
      · rename_i hc
        obtain ⟨rfl, hi⟩ := hc
        intro σ' hl dd vs' G' H' B S e hl' hr
        rw [m1] at e hl'
        refine ⟨true, m6, fun _ a ha => ?_, fun z => nomatch z⟩
        have q := flds_run (C := exA c') (c := c) (n := n) (a := a) (σ := σ'.set i (some (.ref a))) (i := i) (by rw [List.getElem?_set_self (by omega)]) e h52 hl' fs ef (fun xs H1 => (V.bl false :: xs).length ≤ sizeLine ∧ ∀ p, H1 p = none → D.rt (.ref p) (upd H1 p (.tup (.bl false :: xs)))) h53 ?_
        · exact q
        · have hfl : ∀ (fs : List Nat) (es : List Expr), chkFl c flds n fs es = true → fs.length = es.length := by
            intro fs
            induction fs with
            | nil =>
              intro es h
              cases es with
              | nil => rfl
              | cons _ _ => exact absurd (show false = true from h) Bool.false_ne_true
            | cons j fs ih =>
              intro es h
              cases es with
              | nil => exact absurd (show false = true from h) Bool.false_ne_true
              | cons e es =>
                obtain ⟨_, _, _, _, _, h3⟩ := chkFl_cons h
                rw [List.length_cons, List.length_cons, ih es h3]
          have hlen := hfl fs ef h53
          have hsz : (V.bl false :: fs.map fun j => vs'.getD j .non).length ≤ sizeLine := by
            rw [List.length_cons, List.length_map, sizeLine_eq]
            omega
          refine ⟨hsz, fun p hp => ?_⟩
          have rr : Rps aw K G' (V.bl false :: fs.map fun j => vs'.getD j .non) (.bool false :: fs.map fun j => ds.getD j .none) := by
            exact .cons (.bl false) (hr.getDs fs)
          obtain ⟨G1, B1, S1, r1⟩ := B.tup hp rr hsz
          exact p2 _ G1 _ B1 (S.trans S1) r1
      · exact p2.elim
/-! ### blocks of all kinds, from terms of all kinds -/
theorem ok_stmt {t : T} (h1 : ∀ c e, chkE tb t c e = false) (h2 : ∀ c es, chkL tb t c es = false) : Ok P wd K mg base tb aw ag exA exF cl lv t where
  e := fun c W e h => by rw [h1] at h; cases h
  ts := fun c W e h => by rw [h1] at h; cases h
  i := fun c W e h => by rw [h1] at h; cases h
  l := fun c W e h => by rw [h2] at h; cases h
  ao := fun c W e h => by rw [h2] at h; cases h
  aot := fun c W e h => by rw [h2] at h; cases h
theorem ok_all (g : Glo P wd K mg base tb aw ag exA exF cl lv) (t : T) : Ok P wd K mg base tb aw ag exA exF cl lv t := by
  induction t
  case nil => exact ok_nil
  case cons a r ha hr => exact ok_cons ha hr
  case nm i => exact ok_nm i
  case kI i => exact ok_kI i
  case kS i => exact ok_kS i
  case kB i => exact ok_kB i
  case kN => exact ok_kN
  case bin o a b ha hb => exact ok_bin o ha hb
  case neg a ha => exact ok_neg ha
  case cmp o a b ha hb => exact ok_cmp o ha hb
  case cmp2 o p a b c ha hb hc => exact ok_cmp2 o p ha hb hc
  case band l hl => exact ok_band hl
  case bor l hl => exact ok_bor hl
  case not a ha => exact ok_not ha
  case ife c a b hc ha hb => exact ok_ife hc ha hb
  case tup l hl => exact ok_tup hl
  case lst l hl => exact ok_lst hl
  case ix a b ha hb => exact ok_ix ha hb
  case slc a lo hi ha hlo hhi => exact ok_slc ha hlo hhi
  case isi a t ha => exact ok_isi g t ha
  case bi f l hl => exact ok_bi g f hl
  case lset a ha => exact ok_lset g ha
  case lrng a ha => exact ok_lrng g ha
  case trng a ha => exact ok_trng g ha
  case call f l hl => exact ok_call g f hl
  case callk f ks l hl => exact ok_callk g f ks hl
  case lc own gg it c e hg hit hc he => exact ok_lc own gg hit hc he
  case rng1 a ha => exact ok_rng1 g ha
  case rng2 a b ha hb => exact ok_rng2 g ha hb
  all_goals exact ok_stmt (fun c e => by cases e <;> simp [chkE]) (chkL_no rfl)
theorem oks_none {t : T} (h1 : ∀ c st, chkS tb t c st = false) (h2 : ∀ c ss, chkB tb t c ss = false) : OkS P wd K mg base tb aw ag exA exF cl lv wf t where
  s := fun c W st h => by rw [h1] at h; cases h
  b := fun c W ss h => by rw [h2] at h; cases h
theorem oks_all (g : Glo P wd K mg base tb aw ag exA exF cl lv) (hlv : 2 ≤ lv) (t : T) : OkS P wd K mg base tb aw ag exA exF cl lv wf t := by
  induction t
  case nil => exact oks_nil
  case cons a r ha hr => exact oks_cons ha hr
  case asg i e _ => exact oks_asg i (ok_all g e)
  case asgT gg e _ _ => exact oks_asgT gg (ok_all g e)
  case aug i o e _ => exact oks_aug i o (ok_all g e)
  case setI i j e _ _ => exact oks_setI i (ok_all g j) (ok_all g e)
  case app i e _ => exact oks_app i (ok_all g e)
  case ins i a b _ _ => exact oks_ins i (ok_all g a) (ok_all g b)
  case popS i a _ => exact oks_popS i (ok_all g a)
  case rev i => exact oks_rev i
  case ret e _ => exact oks_ret (ok_all g e)
  case drop e _ => exact oks_drop (ok_all g e)
  case ifs t a b _ ha hb => exact oks_ifs (ok_all g t) ha hb
  case for_ gg it b _ _ hb => exact oks_for gg (ok_all g it) hb
  case wh t b _ hb => exact oks_wh (ok_all g t) hb
  case brk => exact oks_brk
  case cnt => exact oks_cnt
  case pas => exact oks_pas
  case rse k l _ => exact oks_rse g hlv k (ok_all g l)
  case tryR k i fs b hb => exact oks_tryR g k i fs hb
  case frz i r hr => exact oks_frz i hr
  all_goals exact oks_none (fun _ _ => rfl) (fun _ _ => chkB_no rfl _ _)
end
end Rx
set_option Elab.async false
set_option linter.all false
set_option maxRecDepth 100000
set_option maxHeartbeats 2000000
/-! Rx: a def keeps the promise that the evaluator tells; all defs of a table. -/
namespace Rx
open PySem PySem.Spec PyProof.Rows L2
section
variable {P : Program} {wd : World} {K : PySem.W.Frag} {mg : Str → Option Value} {base : Heap} {tb : Tab} {aw ag : Addr} {exA : Nat → Addr} {exF : Nat → List Str} {cl : Nat → List PyData → Wl → Rz PyData} {lv wf : Nat}
theorem rel_start {G H : Hp} {w : Wl} {N : List Str} {vs : List V} {ds : List PyData} (B : Base aw ag G H G H w) (r : Rps aw K G vs ds) : Rel aw ag K G H G H (L2.start N vs) (startS N.length ds) w := by
  have hl := r.length
  have at_ : ∀ (i : Nat) s, (startS N.length ds)[i]? = some s → (∃ d, ds[i]? = some d ∧ s = .val d) ∨ s = .no := fun i s e => by
    unfold startS at e
    by_cases hi : i < ds.length
    · rw [List.getElem?_append_left (by rw [List.length_map]; exact hi), List.getElem?_map] at e
      cases hd : ds[i]? with
      | none => rw [hd] at e; cases e
      | some d => rw [hd] at e; cases e; exact .inl ⟨d, rfl, rfl⟩
    · rw [List.getElem?_append_right (by rw [List.length_map]; omega), List.getElem?_replicate] at e
      split at e
      · cases e; exact .inr rfl
      · cases e
  refine ⟨B, fun i d e => ?_, fun i es e => ?_, fun i j es fs a e1 _ _ _ => ?_, ?_⟩
  · rcases at_ i _ e with ⟨d', h1, h2⟩ | z
    · cases h2
      obtain ⟨v, h3, h4⟩ := r.get h1
      have hi : i < vs.length := (List.getElem?_eq_some_iff.mp h3).1
      refine ⟨v, ?_, h4⟩
      unfold L2.start
      rw [List.getElem?_append_left (by rw [List.length_map]; exact hi), List.getElem?_map, h3]
      rfl
    · cases z
  · rcases at_ i _ e with ⟨d', h1, h2⟩ | z
    · cases h2
    · cases z
  · rcases at_ i _ e1 with ⟨d', h1, h2⟩ | z
    · cases h2
    · cases z
  · unfold L2.start startS
    rw [List.length_append, List.length_append, List.length_map, List.length_map, List.length_replicate, List.length_replicate, hl]
/-- what a def gives -/
def fnG (cl : Nat → List PyData → Wl → Rz PyData) (wf : Nat) (N : List Str) (np : Nat) (body : T) (ds : List PyData) (w : Wl) : Rz PyData := if ds.length = np then fin (run cl wf body (startS N.length ds) w) else .stuck
theorem post_fin {G0 H0 G : Hp} {n : Nat} {Q : VK} {E : XK} {m : Xr} (h : match fin m with
    | .ok d w' => ∀ v G' H', Base aw ag G0 H0 G' H' w' → Rp aw K G' v d → Q v H'
    | .exc c fs w' => ∀ dd vs' G' H', Base aw ag G0 H0 G' H' w' → H' dd = some (.xd ((exF c).zip vs')) → vs'.length = (exF c).length → Rps aw K G' vs' fs → E (.ref (exA c)) (some dd) H'
    | .stuck => False) : PostS aw ag K exA exF (fun cls d _ H => E cls d H) G0 H0 G n { nx := fun _ H' => Q .non H', rt := Q } m := by
  cases m with
  | ok f sl w' =>
    cases f with
    | nx => exact fun σ' G' H' R S => h .non G' H' R.b .non
    | ret d => exact fun v G' H' B S r => h v G' H' B r
    | brk => exact h.elim
    | cnt => exact h.elim
  | exc c fs w' => exact fun σ' _ dd vs' G' H' B S e l r => h dd vs' G' H' B e l r
  | stuck => exact h.elim
theorem ctx_of {x : Str} {st : Stmt} {f : Addr} {N ps : List Str} {k : Nat} (S : FnScope N ps (defScope st)) {cdv : Value} {A : Around} {outer : List Env} {s : Shared} {H : Hp} {E : XK}
    (hr : Room k (A.deeper (envOfC x (defScope st) s.heap.objs.size f cdv))) : CtxS P wd K mg base k (fun cls d _ H => E cls d H) ⟨N, defScope st, fun _ => true⟩ (cxOf (L2.CX P wd) P wd K mg base N x (defScope st) f cdv A outer s H E) :=
  ⟨⟨rfl, rfl, rfl, rfl, rfl, rfl, rfl, rfl, rfl, S.nd, S.kind, hr, takes_of rfl rfl rfl rfl⟩, passes_of rfl, rfl, rfl⟩
theorem fn_run {x : Str} {st : Stmt} {f : Addr} {fd : FuncData} {N ps : List Str} {body : T} (g : Glo P wd K mg base tb aw ag exA exF cl lv) (hlv : 2 ≤ lv) (F : Fun K x x st f fd) (S : FnScope N ps (defScope st)) (hc : chkB tb body ⟨N, defScope st, fun _ => true⟩ (defBody st) = true) :
    FnOk P wd K mg base (L2.CX P wd) (lv + 1) f fd ps (spF aw ag K exA exF (fnG cl wf N ps.length body) ps.length) := by
  refine F.okX S (fun vs H Q E h => h.1) fun cdv A outer s H vs Q E hr h => ?_
  obtain ⟨ts, t1, t2⟩ := (oks_all (wf := wf) g hlv body).b _ (fun cls d _ H => E cls d H) _ hc
  refine ⟨ts, t1 _ (ctx_of S hr), ?_⟩
  obtain ⟨hn, G, ds, w, B, r, q⟩ := h
  refine t2 G H G H _ _ w _ (rel_start (N := N) B r) (post_fin ?_)
  unfold fnG at q
  rw [if_pos (by rw [← r.length]; exact hn)] at q
  exact q
end
/-! ### all defs of a table -/
structure FnT (K : PySem.W.Frag) (mg : Str → Option Value) (tb : Tab) (i : Nat) (x : Str) (ps : List Str) (F : Fn) : Prop where
  to : ∃ f fd st, mg x = some (.ref f) ∧ Fun K x x st f fd ∧ FnScope F.N ps (defScope st) ∧ chkB tb F.body ⟨F.N, defScope st, fun _ => true⟩ (defBody st) = true ∧ Binds K fd ps [] ∧ ∀ ks, (i, ks) ∈ tb.kws → KwB K fd ps ks
structure PrT (P : Program) (wd : World) (K : PySem.W.Frag) (mg : Str → Option Value) (base : Heap) (tb : Tab) (aw ag : Addr) (exA : Nat → Addr) (exF : Nat → List Str) (i : Nat) (x : Str) (ps : List Str) (g : List PyData → Wl → Rz PyData) : Prop where
  to : ∃ f fd, mg x = some (.ref f) ∧ PySem.W.keepIn K (.ref f) = true ∧ Binds K fd ps [] ∧ (∀ ks, (i, ks) ∈ tb.kws → KwB K fd ps ks) ∧ FnOk P wd K mg base (L2.CX P wd) 2 f fd ps (spF aw ag K exA exF g ps.length)
structure GloT (P : Program) (wd : World) (K : PySem.W.Frag) (mg : Str → Option Value) (base : Heap) (tb : Tab) (fns : List Fn) (aw ag : Addr) (exA : Nat → Addr) (exF : Nat → List Str) : Prop where
  bi : ∀ f : BI, f ≠ .gcd → mg f.nm = none
  gcd : tb.gcd = true → mg "gcd" = some (.builtin "math.gcd")
  isi : mg "isinstance" = none
  rng : mg "range" = none
  set : mg "set" = none
  tys : ∀ t : Ty, mg (t.nm : Str) = none
  fn : ∀ (i : Nat) x ps, tb.fns[i]? = some (x, ps) → ∃ F, fns[i]? = some F ∧ F.np = ps.length ∧ ((F.prim = none ∧ FnT K mg tb i x ps F) ∨ ∃ g, F.prim = some g ∧ PrT P wd K mg base tb aw ag exA exF i x ps g)
  ex : ∀ (c : Nat) x fl, tb.exs[c]? = some (x, fl) → exF c = fl ∧ mg x = some (.ref (exA c)) ∧ OexC K (exA c) ∧ XfC K (exA c) ∧ (∀ f ∈ fl, PySem.W.findIn K (.ref (exA c)) f = some none) ∧ PySem.W.exmOne K (.ref (exA c)) (.ref (exA c)) = some true ∧
    ∃ fI fd, PySem.W.findIn K (.ref (exA c)) "__init__" = some (some (.ref fI)) ∧ PySem.W.typeIn K (.ref fI) = some (.type "function") ∧ Binds K fd ("self" :: fl) [] ∧
      FnOk P wd K mg base (L2.CX P wd) 1 fI fd ("self" :: fl) (fun vs H Q _ => ∃ a C ws, vs = .ref a :: ws ∧ ws.length = fl.length ∧ H a = some (exo a C none) ∧ C = exA c ∧
        ∀ dx, H dx = none → dx ≠ a → Q .non (upd (upd H dx (exd dx (fl.zip ws))) a (exo a C (some dx))))
section
variable {P : Program} {wd : World} {K : PySem.W.Frag} {mg : Str → Option Value} {base : Heap} {tb : Tab} {fns : List Fn} {aw ag : Addr} {exA : Nat → Addr} {exF : Nat → List Str} {wf : Nat}
theorem callF_succ {k i : Nat} {F : Fn} (h : fns[i]? = some F) (ds : List PyData) (w : Wl) : callF fns wf (k + 1) i ds w = if ds.length = F.np then (match F.prim with
    | some g => g ds w
    | none => fin (run (callF fns wf k) wf F.body (startS F.N.length ds) w)) else .stuck := by
  show (match fns[i]? with
    | none => Rz.stuck
    | some F => if ds.length = F.np then (match F.prim with
      | some g => g ds w
      | none => fin (run (callF fns wf k) wf F.body (startS F.N.length ds) w)) else Rz.stuck) = _
  rw [h]
theorem glo_all (T : GloT P wd K mg base tb fns aw ag exA exF) : ∀ k, Glo P wd K mg base tb aw ag exA exF (callF fns wf k) (k + 2)
  | 0 => {
      bi := T.bi, gcd := T.gcd, isi := T.isi, rng := T.rng, set := T.set, tys := T.tys, ex := T.ex
      ln := fun i x ps h ds w hn => rfl
      fn := fun i x ps h => by
        obtain ⟨F, h1, h2, h3⟩ := T.fn i x ps h
        have triv : ∀ f fd, FnOk P wd K mg base (L2.CX P wd) 2 f fd ps (spF aw ag K exA exF (callF fns wf 0 i) ps.length) := fun f fd =>
          ⟨fun vs H Q E h => h.1, fun A outer s H args us vs Q E _ _ _ _ h => by
            obtain ⟨_, _, _, _, _, _, z⟩ := h
            exact z.elim⟩
        rcases h3 with ⟨_, ⟨f, fd, st, e1, e2, e3, e4, e5, e6⟩⟩ | ⟨g, _, ⟨f, fd, e1, e2, e3, e4, e5⟩⟩
        · exact ⟨f, fd, e1, e2.kp, e5, e6, triv f fd⟩
        · exact ⟨f, fd, e1, e2, e3, e4, triv f fd⟩ }
  | k + 1 => {
      bi := T.bi, gcd := T.gcd, isi := T.isi, rng := T.rng, set := T.set, tys := T.tys, ex := T.ex
      ln := fun i x ps h ds w hn => by
        obtain ⟨F, h1, h2, h3⟩ := T.fn i x ps h
        rw [callF_succ h1, if_neg (by rw [h2]; exact hn)]
      fn := fun i x ps h => by
        obtain ⟨F, h1, h2, h3⟩ := T.fn i x ps h
        rcases h3 with ⟨hp, ⟨f, fd, st, e1, e2, e3, e4, e5, e6⟩⟩ | ⟨g, hp, ⟨f, fd, e1, e2, e3, e4, e5⟩⟩
        · refine ⟨f, fd, e1, e2.kp, e5, e6, ?_⟩
          have z := fn_run (wf := wf) (glo_all T k) (Nat.le_add_left 2 k) e2 e3 e4
          have eq : fnG (callF fns wf k) wf F.N ps.length F.body = callF fns wf (k + 1) i := by
            funext ds w
            rw [callF_succ h1, h2, hp]
            rfl
          rw [eq] at z
          exact z
        · refine ⟨f, fd, e1, e2, e3, e4, (e5.mono (by omega)).imp fun vs H Q E h => ?_⟩
          obtain ⟨hn, G, ds, w, B, r, q⟩ := h
          refine ⟨hn, G, ds, w, B, r, ?_⟩
          rw [callF_succ h1, if_pos (by rw [h2, ← r.length]; exact hn), hp] at q
          exact q }
end
end Rx
set_option Elab.async false
set_option linter.all false
set_option maxRecDepth 100000
set_option maxHeartbeats 4000000
/-! k00: the law's well, by hand. -/
namespace K00
open PySem PySem.Spec PyProof.Rows L2 Rx
def top (i : Nat) : Stmt := PySem.Challenge.pw_alikeclash_k00_kinds_and_quotients.main.body.getD i (.Pass ⟨0, 0, 0, 0⟩)
abbrev sWell : Stmt := top 32
abbrev sPick : Stmt := top 33
def pickF (m : Int) (w : Wl) : Int × Wl :=
  match w.1 with
  | c :: r => (c.fmod m, (if c.fdiv m = 0 then r else c.fdiv m :: r, w.2))
  | [] => ((((w.2 * 48271 + 11).fmod 2147483647 * 16807 + 31).fmod 2147483587).fdiv 5 |>.fmod m, ([], (w.2 * 48271 + 11).fmod 2147483647))
def wOk (w : Wl) : Prop := 0 ≤ w.2 ∧ w.2 < 2147483648 ∧ w.1.length ≤ 1000
instance (w : Wl) : Decidable (wOk w) := by unfold wOk; infer_instance
def pickD (ds : List PyData) (w : Wl) : Rz PyData :=
  match ds with
  | [.dict [], .int m] => if (0 < m ∧ m < 1000000000000000) ∧ wOk w then .ok (.int (pickF m w).1) (pickF m w).2 else .stuck
  | _ => .stuck
theorem rb_int {aw : Addr} {K : PySem.W.Frag} {o : BO} {i j r : Int} {H : Hp} {Q : VK} (h : binD o (.int i) (.int j) = some (.val (.int r))) (q : Q (.int r) H) : rBin aw K o (.int i) (.int j) H Q :=
  ⟨H, _, _, _, Same.refl _, .int i, .inl (.int j), h, fun v hv => by cases hv.int_inv; exact q, fun ds e => by cases e⟩
theorem bd_mul {i j : Int} (h1 : i.natAbs < 2 ^ 2000) (h2 : j.natAbs < 2 ^ 2000) : binD .mul (.int i) (.int j) = some (.val (.int (i * j))) := by
  show (if wideB i j = true then some (Got.val (.int (i * j))) else none) = _
  rw [if_pos (by unfold wideB; simp only [Bool.and_eq_true, decide_eq_true_eq]; exact ⟨h1, h2⟩)]
theorem bd_fdiv {i j : Int} (h0 : j ≠ 0) (h2 : j.natAbs < 2 ^ 2000) : binD .fdiv (.int i) (.int j) = some (.val (.int (i.fdiv j))) := by
  show (if j ≠ 0 ∧ j.natAbs < 2 ^ 2000 then some (Got.val (.int (i.fdiv j))) else none) = _
  rw [if_pos ⟨h0, h2⟩]
theorem bd_mod {i j : Int} (h0 : j ≠ 0) : binD .mod (.int i) (.int j) = some (.val (.int (i.fmod j))) := by
  show (if j ≠ 0 then some (Got.val (.int (i.fmod j))) else none) = _
  rw [if_pos h0]
theorem p64 {i : Int} (h : i.natAbs < 2 ^ 64) : i.natAbs < 2 ^ 2000 := Nat.lt_of_lt_of_le h (Nat.pow_le_pow_right (by decide) (by decide))
theorem scW : FnScope ["_law_script", "_law_great", "_law_seed", "_law_cell"] ["_law_script"] (defScope sWell) := ⟨rfl, rfl, rfl, by decide +kernel, rfl, by decide +kernel, by decide +kernel⟩
theorem scP : FnScope ["_law_well_here", "_law_many", "_law_great", "_law_cell", "_law_mixed"] ["_law_well_here", "_law_many"] (defScope sPick) := ⟨rfl, rfl, rfl, by decide +kernel, rfl, by decide +kernel, by decide +kernel⟩
section
variable {P : Program} {wd : World} {K : PySem.W.Frag} {mg : Str → Option Value} {base : Heap}
/-! ### drawing -/
def rInt1 : List V → Hp → VK → Prop := fun xs H Q => (∃ i, xs = [.int i] ∧ Q (.int i) H) ∨ ∃ k, xs = [.bl k] ∧ Q (.int (if k then 1 else 0)) H
def tInt (te : TE) : TE := tCB rInt1 (tCons te tNil)
def tIx0 (K : PySem.W.Frag) (i : Nat) (k : Int) : TE := tOp (rIxL K) (tVar i) (tC (.int k))
def tBin (aw : Addr) (K : PySem.W.Frag) (o : BO) (a b : TE) : TE := tOp (rBin aw K o) a b
def t_pick (aw : Addr) (K : PySem.W.Frag) : TS :=
  tSeq (tAsg (tIx0 K 0 0) (gName 2))
  (tSeq (tIfS (fun σ H Q => tVar 2 σ H fun x H' => ∃ k, TruV K x H' k ∧ Q k H')
    (tSeq (tAsg (tInt (tIx0 K 2 0)) (gName 3))
    (tSeq (tAsg (tBin aw K .fdiv (tVar 3) (tVar 1)) (gSub (tVar 2) (tC (.int 0)) rSetL))
    (tSeq (tIfS (tTest (tOp rEq (tIx0 K 2 0) (tC (.int 0)))) (tDrop (tBM K "list" rPopAt (tVar 2) (tCons (tC (.int 0)) tNil))) tNext)
    (tRet (tBin aw K .mod (tInt (tVar 3)) (tVar 1)))))) tNext)
  (tSeq (tAsg (tBin aw K .mod (tInt (tBin aw K .add (tBin aw K .mul (tIx0 K 0 1) (tC (.int 48271))) (tC (.int 11)))) (tC (.int 2147483647))) (gSub (tVar 0) (tC (.int 1)) rSetL))
  (tSeq (tAsg (tBin aw K .mod (tInt (tBin aw K .add (tBin aw K .mul (tIx0 K 0 1) (tC (.int 16807))) (tC (.int 31)))) (tC (.int 2147483587))) (gName 4))
  (tRet (tBin aw K .mod (tInt (tBin aw K .fdiv (tVar 4) (tC (.int 5)))) (tVar 1))))))
end
end K00
set_option Elab.async false
set_option linter.all false
set_option maxRecDepth 100000
set_option maxHeartbeats 4000000
namespace K00
open PySem PySem.Spec PyProof.Rows L2 Rx
theorem ifT {c : Bool} {A B : Prop} (hc : c = true) (h : A) : if c = true then A else B := by rw [if_pos hc]; exact h
theorem ifF {c : Bool} {A B : Prop} (hc : c = false) (h : B) : if c = true then A else B := by rw [hc, if_neg Bool.false_ne_true]; exact h
theorem ixN_nat {n j : Nat} (hj : j < n) : ixN n (j : Int) = some j := by
  unfold ixN
  rw [if_pos (by omega), if_pos (by omega)]
  rfl
theorem fmod_rng {a m : Int} (h : 0 < m) : 0 ≤ a.fmod m ∧ a.fmod m < m := ⟨Int.fmod_nonneg_of_pos a h, Int.fmod_lt_of_pos a h⟩
section
variable {P : Program} {wd : World} {K : PySem.W.Frag} {mg : Str → Option Value} {base : Heap} {aw ag : Addr} {exA : Nat → Addr} {exF : Nat → List Str}
/-- the well's items are written -/
theorem Base.wrW {G0 H0 G H : Hp} {w w' : Wl} (B : Base aw ag G0 H0 G H w) (hne : aw ≠ ag) {xs : List V} (e : w'.1 = w.1) (ex : xs = [.ref ag, .int w'.2]) : Base aw ag G0 H0 G (upd H aw (.lst xs)) w' := by
  subst ex
  refine ⟨fun a o h => ?_, B.g0, fun a o h n1 n2 => ?_, B.old, upd_same, ?_, B.gw, B.gg⟩
  · have ha : a ≠ aw := fun z => by rw [z, B.gw] at h; cases h
    rw [upd_ne ha]
    exact B.gh a o h
  · rw [upd_ne n1]
    exact B.fr a o h n1 n2
  · rw [upd_ne (Ne.symm hne), e]
    exact B.hg
theorem Base.wrG {G0 H0 G H : Hp} {w w' : Wl} (B : Base aw ag G0 H0 G H w) (hne : aw ≠ ag) {xs : List V} (e : w'.2 = w.2) (ex : xs = w'.1.map V.int) : Base aw ag G0 H0 G (upd H ag (.lst xs)) w' := by
  subst ex
  refine ⟨fun a o h => ?_, B.g0, fun a o h n1 n2 => ?_, B.old, ?_, upd_same, B.gw, B.gg⟩
  · have ha : a ≠ ag := fun z => by rw [z, B.gg] at h; cases h
    rw [upd_ne ha]
    exact B.gh a o h
  · rw [upd_ne n2]
    exact B.fr a o h n1 n2
  · rw [upd_ne hne, e]
    exact B.hw
theorem aw_ne {G0 H0 G H : Hp} {w : Wl} (B : Base aw ag G0 H0 G H w) (hl : w.1.length ≠ 2 ∨ True) : aw ≠ ag := fun z => by
  have h1 := B.hw
  rw [z, B.hg] at h1
  have h2 : w.1.map V.int = [.ref ag, .int w.2] := by
    have := Option.some.inj h1
    injection this
  cases hw : w.1 with
  | nil => rw [hw] at h2; cases h2
  | cons c r => rw [hw] at h2; cases h2
theorem pick_cases (ds : List PyData) (w : Wl) : pickD ds w = .stuck ∨ ∃ m, ds = [.dict [], .int m] ∧ ((0 < m ∧ m < 1000000000000000) ∧ wOk w) ∧ pickD ds w = .ok (.int (pickF m w).1) (pickF m w).2 := by
  unfold pickD
  split
  · rename_i m
    split
    · exact .inr ⟨m, rfl, by assumption, rfl⟩
    · exact .inl rfl
  · exact .inl rfl
theorem pure_pick (vs : List V) (H : Hp) (Q : VK) (E : XK) (h : spF aw ag K exA exF pickD 2 vs H Q E) : t_pick aw K { nx := fun _ H' => Q .non H', rt := Q } (L2.start ["_law_well_here", "_law_many", "_law_great", "_law_cell", "_law_mixed"] vs) H := by
  obtain ⟨hn, G, ds, w, B, r, q⟩ := h
  rcases pick_cases ds w with z | ⟨m, rfl, hc, z⟩
  · rw [z] at q
    exact q.elim
  rw [z] at q
  cases r with
  | cons r0 t =>
  cases t with
  | cons r1 t2 =>
  cases t2
  cases r0
  cases r1
  obtain ⟨⟨hm0, hm1⟩, hw0, hw1, hw2⟩ := hc
  have hne := aw_ne B (.inr trivial)
  have hmm : m.natAbs < 2 ^ 2000 := p64 (by omega)
  refine ⟨_, rfl, aw, _, 0, .ref ag, rfl, rfl, SqL.of B.hw, rfl, ?_⟩
  refine ⟨.ref ag, rfl, _, .inl ⟨_, SqL.of B.hg, rfl⟩, ?_⟩
  obtain ⟨gs, sd⟩ := w
  cases gs with
  | cons c gs =>
    refine ifT rfl ?_
    -- _law_cell = int(_law_great[0])
    refine ⟨.ref ag, rfl, ag, _, 0, .int c, rfl, rfl, SqL.of B.hg, atI_nat (j := 0) rfl, .inl ⟨c, rfl, ?_⟩⟩
    -- _law_great[0] = _law_cell // _law_many
    refine ⟨.int c, rfl, .int m, rfl, rb_int (bd_fdiv (by omega) hmm) ?_⟩
    refine ⟨.ref ag, rfl, ag, _, 0, 0, rfl, rfl, B.hg, ixN_nat (j := 0) (by simp), ?_⟩
    -- if _law_great[0] == 0
    have hg1 : upd H ag (.lst (((c :: gs).map V.int).set 0 (.int (c.fdiv m)))) ag = some (.lst ((c.fdiv m :: gs).map V.int)) := upd_same
    refine ⟨.ref ag, rfl, ag, _, 0, .int (c.fdiv m), rfl, rfl, SqL.of hg1, atI_nat (j := 0) rfl, rfl, _, rfl, ?_⟩
    have fin : ∀ H' gs', Base aw ag G H G H' (gs', sd) → gs' = (if c.fdiv m = 0 then gs else c.fdiv m :: gs) →
        tRet (tBin aw K .mod (tInt (tVar 3)) (tVar 1)) { nx := fun _ H' => Q .non H', rt := Q } [some (.ref aw), some (.int m), some (.ref ag), some (.int c), none] H' := fun H' gs' B' e => by
      refine ⟨.int c, rfl, .inl ⟨c, rfl, .int m, rfl, rb_int (bd_mod (by omega)) ?_⟩⟩
      refine q _ G H' ?_ (.int _)
      rw [e] at B'
      exact B'
    have B1 : Base aw ag G H G (upd H ag (.lst (((c :: gs).map V.int).set 0 (.int (c.fdiv m))))) (c.fdiv m :: gs, sd) := Base.wrG (w' := (c.fdiv m :: gs, sd)) B hne rfl rfl
    by_cases h0 : c.fdiv m = 0
    · refine ifT (by rw [dec_int, h0]; rfl) ?_
      refine ⟨.ref ag, rfl, .inl ⟨rfl, _, SqL.of hg1⟩, ag, _, 0, 0, .int (c.fdiv m), rfl, rfl, hg1, by decide, by decide, seqIndex_of (by decide) (by rw [List.length_map, List.length_cons]; omega), rfl, ?_⟩
      refine fin _ gs ?_ (by rw [if_pos h0])
      exact Base.wrG (w' := (gs, sd)) B1 hne rfl rfl
    · refine ifF (by rw [dec_int]; exact decide_eq_false h0) ?_
      exact fin _ (c.fdiv m :: gs) B1 (by rw [if_neg h0])
  | nil =>
    refine ifF rfl ?_
    -- the seed
    have hs : sd.natAbs < 2 ^ 2000 := p64 (by have : (0 : Int) ≤ sd := hw0; have : sd < 2147483648 := hw1; omega)
    have B0 : Base aw ag G H G H ([], sd) := B
    refine ⟨.ref aw, rfl, aw, _, 1, .int sd, rfl, rfl, SqL.of B0.hw, rfl, rb_int (bd_mul hs (p64 (by decide))) ?_⟩
    refine rb_int rfl (.inl ⟨_, rfl, rb_int (bd_mod (by decide)) ?_⟩)
    refine ⟨.ref aw, rfl, aw, _, 1, 1, rfl, rfl, B0.hw, rfl, ?_⟩
    obtain ⟨z1, z2⟩ := fmod_rng (a := sd * 48271 + 11) (m := 2147483647) (by decide)
    have B1 : Base aw ag G H G (upd H aw (.lst (([.ref ag, .int sd] : List V).set 1 (.int ((sd * 48271 + 11).fmod 2147483647))))) ([], (sd * 48271 + 11).fmod 2147483647) := Base.wrW (w' := ([], (sd * 48271 + 11).fmod 2147483647)) B0 hne rfl rfl
    generalize hsd : (sd * 48271 + 11).fmod 2147483647 = s1 at z1 z2 B1
    refine ⟨.ref aw, rfl, aw, _, 1, .int s1, rfl, rfl, SqL.of B1.hw, rfl, rb_int (bd_mul (p64 (by omega)) (p64 (by decide))) ?_⟩
    refine rb_int rfl (.inl ⟨_, rfl, rb_int (bd_mod (by decide)) ?_⟩)
    refine ⟨.int ((s1 * 16807 + 31).fmod 2147483587), rfl, rb_int (bd_fdiv (by decide) (p64 (by decide))) (.inl ⟨_, rfl, .int m, rfl, rb_int (bd_mod (by omega)) ?_⟩)⟩
    refine q _ G _ ?_ ?_
    · have e : (pickF m ([], sd)).2 = ([], s1) := by unfold pickF; rw [← hsd]
      rw [e]
      exact B1
    · have e : (pickF m ([], sd)).1 = (((s1 * 16807 + 31).fmod 2147483587).fdiv 5).fmod m := by unfold pickF; rw [← hsd]
      rw [e]
      exact .int _
theorem pick_ok {f : Addr} {fd : FuncData} (F : Fun K "_law_pick" "_law_pick" sPick f fd) (zi : mg "int" = none) : FnOk P wd K mg base (L2.CX P wd) 2 f fd ["_law_well_here", "_law_many"] (spF aw ag K exA exF pickD 2) := by
  refine F.okX scP (fun vs H Q E h => h.1) fun cdv A outer s H vs Q E hr h => ⟨t_pick aw K, ?_, pure_pick vs H Q E h⟩
  have oi : ∀ o, OpR (cxOf (L2.CX P wd) P wd K mg base ["_law_well_here", "_law_many", "_law_great", "_law_cell", "_law_mixed"] "_law_pick" (defScope sPick) f cdv A outer s H E) (binaryOp o.op) (rBin aw K o) := fun o => op_bin o
  exact pss_cons (ps_set (i := 2) scP.nd rfl (.inl rfl) (pe_ix ix_list (pv 0) pe_int (fun _ _ => rfl)))
    (pss_cons (ps_if (pt_truth (pv 2) (by intro _; rfl))
      (pss_cons (ps_set (i := 3) scP.nd rfl (.inl rfl) (pe_callTy call_int1 (by rfl) zi (by decide +kernel) (pa_cons (pe_ix ix_list (pv 2) pe_int (fun _ _ => rfl)) pa_nil)))
      (pss_cons (ps_asg (pe_op (oi .fdiv) (pv 3) (pv 1)) (pg_sub (pv 2) pe_int set_list))
      (pss_cons (ps_if (pt_cmpR op_eq (pe_ix ix_list (pv 2) pe_int (fun _ _ => rfl)) pe_int (nomark _))
        (pss_one (ps_expr (pe_bm PySem.F.plainAttrs_list PySem.F.slot_list_pop PySem.F.type_list_pop mt_popAt (pv 2) (pa_cons pe_int pa_nil)))) pss_nil)
      (pss_one (ps_ret (pe_op (oi .mod) (pe_callTy call_int1 (by rfl) zi (by decide +kernel) (pa_cons (pv 3) pa_nil)) (pv 1))))))) pss_nil)
    (pss_cons (ps_asg (pe_op (oi .mod) (pe_callTy call_int1 (by rfl) zi (by decide +kernel) (pa_cons (pe_op (oi .add) (pe_op (oi .mul) (pe_ix ix_list (pv 0) pe_int (fun _ _ => rfl)) pe_int) pe_int) pa_nil)) pe_int) (pg_sub (pv 0) pe_int set_list))
    (pss_cons (ps_set (i := 4) scP.nd rfl (.inl rfl) (pe_op (oi .mod) (pe_callTy call_int1 (by rfl) zi (by decide +kernel) (pa_cons (pe_op (oi .add) (pe_op (oi .mul) (pe_ix ix_list (pv 0) pe_int (fun _ _ => rfl)) pe_int) pe_int) pa_nil)) pe_int))
    (pss_one (ps_ret (pe_op (oi .mod) (pe_callTy call_int1 (by rfl) zi (by decide +kernel) (pa_cons (pe_op (oi .fdiv) (pv 4) pe_int) pa_nil)) (pv 1)))))))
end
end K00
set_option Elab.async false
set_option linter.all false
set_option maxRecDepth 100000
set_option maxHeartbeats 4000000
namespace K00
open PySem PySem.Spec PyProof.Rows L2 Rx
def tb : Tab := ⟨[(PySem.Str.ofString "need", [PySem.Str.ofString "holds", PySem.Str.ofString "word"]), (PySem.Str.ofString "is_tuple_of", [PySem.Str.ofString "many", PySem.Str.ofString "thing"]), (PySem.Str.ofString "ascends", [PySem.Str.ofString "things"]), (PySem.Str.ofString "is_integer", [PySem.Str.ofString "thing"]), (PySem.Str.ofString "is_number", [PySem.Str.ofString "thing"]), (PySem.Str.ofString "is_word", [PySem.Str.ofString "thing"]), (PySem.Str.ofString "is_quotient", [PySem.Str.ofString "thing"]), (PySem.Str.ofString "is_lot", [PySem.Str.ofString "size", PySem.Str.ofString "thing"]), (PySem.Str.ofString "is_dependence", [PySem.Str.ofString "size", PySem.Str.ofString "thing"]), (PySem.Str.ofString "is_group", [PySem.Str.ofString "many", PySem.Str.ofString "thing"]), (PySem.Str.ofString "is_sequence", [PySem.Str.ofString "many", PySem.Str.ofString "thing"]), (PySem.Str.ofString "is_weights", [PySem.Str.ofString "many", PySem.Str.ofString "thing"]), (PySem.Str.ofString "is_shares", [PySem.Str.ofString "many", PySem.Str.ofString "thing"]), (PySem.Str.ofString "are_numbers_below", [PySem.Str.ofString "limit", PySem.Str.ofString "thing"]), (PySem.Str.ofString "quotient_of", [PySem.Str.ofString "top", PySem.Str.ofString "bottom"]), (PySem.Str.ofString "plus", [PySem.Str.ofString "one", PySem.Str.ofString "another"]), (PySem.Str.ofString "minus", [PySem.Str.ofString "one", PySem.Str.ofString "another"]), (PySem.Str.ofString "times", [PySem.Str.ofString "one", PySem.Str.ofString "another"]), (PySem.Str.ofString "over", [PySem.Str.ofString "one", PySem.Str.ofString "another"]), (PySem.Str.ofString "at_most", [PySem.Str.ofString "one", PySem.Str.ofString "another"]), (PySem.Str.ofString "rounded_up", [PySem.Str.ofString "one"]), (PySem.Str.ofString "need_two", [PySem.Str.ofString "one", PySem.Str.ofString "another"]), (PySem.Str.ofString "lowest", [PySem.Str.ofString "top", PySem.Str.ofString "bottom"]), (PySem.Str.ofString "_law_pick", [PySem.Str.ofString "_law_well_here", PySem.Str.ofString "_law_many"]), (PySem.Str.ofString "_law_whole", [PySem.Str.ofString "_law_thing_here"]), (PySem.Str.ofString "_law_lowest", [PySem.Str.ofString "_law_thing_here"]), (PySem.Str.ofString "_law_stands", [PySem.Str.ofString "_law_told", PySem.Str.ofString "_law_top_here", PySem.Str.ofString "_law_bottom"]), (PySem.Str.ofString "_law_ascending", [PySem.Str.ofString "_law_thing_here", PySem.Str.ofString "_law_many"]), (PySem.Str.ofString "_law_pair", [PySem.Str.ofString "_law_size", PySem.Str.ofString "_law_thing_here"]), (PySem.Str.ofString "_law_once", [PySem.Str.ofString "_law_many", PySem.Str.ofString "_law_thing_here"]), (PySem.Str.ofString "_law_each", [PySem.Str.ofString "_law_many", PySem.Str.ofString "_law_thing_here", PySem.Str.ofString "_law_way"]), (PySem.Str.ofString "_law_odd", [PySem.Str.ofString "_law_well_here"]), (PySem.Str.ofString "_law_columns", [PySem.Str.ofString "_law_well_here", PySem.Str.ofString "_law_size"]), (PySem.Str.ofString "_law_thing", [PySem.Str.ofString "_law_well_here", PySem.Str.ofString "_law_way", PySem.Str.ofString "_law_size", PySem.Str.ofString "_law_many"]), (PySem.Str.ofString "_law_kinds", [PySem.Str.ofString "_law_well_here"]), (PySem.Str.ofString "_law_ask", [PySem.Str.ofString "_law_which", PySem.Str.ofString "_law_one", PySem.Str.ofString "_law_another"]), (PySem.Str.ofString "_law_refused", [PySem.Str.ofString "_law_told", PySem.Str.ofString "_law_name"]), (PySem.Str.ofString "_law_refusals", [PySem.Str.ofString "_law_well_here", PySem.Str.ofString "_law_one", PySem.Str.ofString "_law_another"]), (PySem.Str.ofString "_law_each_word", [PySem.Str.ofString "_law_words", PySem.Str.ofString "_law_dues"]), (PySem.Str.ofString "_law_sums", [PySem.Str.ofString "_law_a", PySem.Str.ofString "_law_b", PySem.Str.ofString "_law_c", PySem.Str.ofString "_law_d"]), (PySem.Str.ofString "_law_top", [PySem.Str.ofString "_law_well_here"])],
  [("NotUsable", [PySem.Str.ofString "word", PySem.Str.ofString "at"])], [(8, [1, 0]), (9, [1, 0]), (14, [1, 0]), (16, [1, 0]), (19, [1, 0]), (18, [1, 0])], true⟩
def N_need : List Str := [PySem.Str.ofString "holds", PySem.Str.ofString "word"]
def b_need : T := (.cons (.ifs (.not (.nm 0)) (.cons (.rse 0 (.cons (.nm 1) (.cons (.neg (.kI 1)) .nil))) .nil) .nil) .nil)
def N_is_tuple_of : List Str := [PySem.Str.ofString "many", PySem.Str.ofString "thing"]
def b_is_tuple_of : T := (.cons (.ret (.band (.cons (.isi (.nm 1) .tup) (.cons (.cmp .eq (.bi .len (.cons (.nm 1) .nil)) (.nm 0)) .nil)))) .nil)
def N_ascends : List Str := [PySem.Str.ofString "things", PySem.Str.ofString "k"]
def b_ascends : T := (.cons (.ret (.bi .all (.cons (.lc [("k", 1)] (.nm 1) (.rng1 (.bin .sub (.bi .len (.cons (.nm 0) .nil)) (.kI 1))) .nil (.cmp .lt (.ix (.nm 0) (.nm 1)) (.ix (.nm 0) (.bin .add (.nm 1) (.kI 1))))) .nil))) .nil)
def N_is_integer : List Str := [PySem.Str.ofString "thing"]
def b_is_integer : T := (.cons (.ret (.band (.cons (.isi (.nm 0) .int) (.cons (.not (.isi (.nm 0) .bool)) .nil)))) .nil)
def N_is_number : List Str := [PySem.Str.ofString "thing"]
def b_is_number : T := (.cons (.ret (.band (.cons (.call 3 (.cons (.nm 0) .nil)) (.cons (.cmp .ge (.nm 0) (.kI 0)) .nil)))) .nil)
def N_is_word : List Str := [PySem.Str.ofString "thing"]
def b_is_word : T := (.cons (.ret (.isi (.nm 0) .bool)) .nil)
def N_is_quotient : List Str := [PySem.Str.ofString "thing", PySem.Str.ofString "part"]
def b_is_quotient : T := (.cons (.ifs (.bor (.cons (.not (.call 1 (.cons (.kI 2) (.cons (.nm 0) .nil)))) (.cons (.not (.bi .all (.cons (.lc [("part", 1)] (.nm 1) (.nm 0) .nil (.call 3 (.cons (.nm 1) .nil))) .nil))) .nil))) (.cons (.ret (.kB false)) .nil) .nil) (.cons (.ret (.band (.cons (.cmp .ge (.ix (.nm 0) (.kI 1)) (.kI 1)) (.cons (.cmp .eq (.bi .gcd (.cons (.ix (.nm 0) (.kI 0)) (.cons (.ix (.nm 0) (.kI 1)) .nil))) (.kI 1)) .nil)))) .nil))
def N_is_lot : List Str := [PySem.Str.ofString "size", PySem.Str.ofString "thing"]
def b_is_lot : T := (.cons (.ret (.band (.cons (.call 13 (.cons (.nm 0) (.cons (.nm 1) .nil))) (.cons (.call 2 (.cons (.nm 1) .nil)) .nil)))) .nil)
def N_is_dependence : List Str := [PySem.Str.ofString "size", PySem.Str.ofString "thing", PySem.Str.ofString "part"]
def b_is_dependence : T := (.cons (.ret (.band (.cons (.call 1 (.cons (.kI 2) (.cons (.nm 1) .nil))) (.cons (.bi .all (.cons (.lc [("part", 2)] (.nm 2) (.nm 1) .nil (.call 7 (.cons (.nm 0) (.cons (.nm 2) .nil)))) .nil)) .nil)))) .nil)
def N_is_group : List Str := [PySem.Str.ofString "many", PySem.Str.ofString "thing"]
def b_is_group : T := (.cons (.ret (.band (.cons (.call 13 (.cons (.nm 0) (.cons (.nm 1) .nil))) (.cons (.call 2 (.cons (.nm 1) .nil)) .nil)))) .nil)
def N_is_sequence : List Str := [PySem.Str.ofString "many", PySem.Str.ofString "thing"]
def b_is_sequence : T := (.cons (.ifs (.bor (.cons (.not (.call 1 (.cons (.nm 0) (.cons (.nm 1) .nil)))) (.cons (.not (.call 13 (.cons (.nm 0) (.cons (.nm 1) .nil)))) .nil))) (.cons (.ret (.kB false)) .nil) .nil) (.cons (.ret (.cmp .eq (.lset (.nm 1)) (.bi .len (.cons (.nm 1) .nil)))) .nil))
def N_is_weights : List Str := [PySem.Str.ofString "many", PySem.Str.ofString "thing", PySem.Str.ofString "weight"]
def b_is_weights : T := (.cons (.ret (.band (.cons (.call 1 (.cons (.nm 0) (.cons (.nm 1) .nil))) (.cons (.bi .all (.cons (.lc [("weight", 2)] (.nm 2) (.nm 1) .nil (.call 4 (.cons (.nm 2) .nil))) .nil)) .nil)))) .nil)
def N_is_shares : List Str := [PySem.Str.ofString "many", PySem.Str.ofString "thing", PySem.Str.ofString "share"]
def b_is_shares : T := (.cons (.ifs (.not (.call 1 (.cons (.nm 0) (.cons (.nm 1) .nil)))) (.cons (.ret (.kB false)) .nil) .nil) (.cons (.ret (.bi .all (.cons (.lc [("share", 2)] (.nm 2) (.nm 1) .nil (.band (.cons (.call 6 (.cons (.nm 2) .nil)) (.cons (.cmp .ge (.ix (.nm 2) (.kI 0)) (.kI 0)) .nil)))) .nil))) .nil))
def N_are_numbers_below : List Str := [PySem.Str.ofString "limit", PySem.Str.ofString "thing", PySem.Str.ofString "part"]
def b_are_numbers_below : T := (.cons (.ret (.band (.cons (.isi (.nm 1) .tup) (.cons (.bi .all (.cons (.lc [("part", 2)] (.nm 2) (.nm 1) .nil (.band (.cons (.call 4 (.cons (.nm 2) .nil)) (.cons (.cmp .lt (.nm 2) (.nm 0)) .nil)))) .nil)) .nil)))) .nil)
def N_quotient_of : List Str := [PySem.Str.ofString "top", PySem.Str.ofString "bottom"]
def b_quotient_of : T := (.cons (.drop (.call 0 (.cons (.call 3 (.cons (.nm 0) .nil)) (.cons (.kS "top") .nil)))) (.cons (.drop (.call 0 (.cons (.band (.cons (.call 3 (.cons (.nm 1) .nil)) (.cons (.cmp .ne (.nm 1) (.kI 0)) .nil))) (.cons (.kS "bottom") .nil)))) (.cons (.ret (.call 22 (.cons (.nm 0) (.cons (.nm 1) .nil)))) .nil)))
def N_plus : List Str := [PySem.Str.ofString "one", PySem.Str.ofString "another"]
def b_plus : T := (.cons (.drop (.call 21 (.cons (.nm 0) (.cons (.nm 1) .nil)))) (.cons (.ret (.call 22 (.cons (.bin .add (.bin .mul (.ix (.nm 0) (.kI 0)) (.ix (.nm 1) (.kI 1))) (.bin .mul (.ix (.nm 1) (.kI 0)) (.ix (.nm 0) (.kI 1)))) (.cons (.bin .mul (.ix (.nm 0) (.kI 1)) (.ix (.nm 1) (.kI 1))) .nil)))) .nil))
def N_minus : List Str := [PySem.Str.ofString "one", PySem.Str.ofString "another"]
def b_minus : T := (.cons (.drop (.call 21 (.cons (.nm 0) (.cons (.nm 1) .nil)))) (.cons (.ret (.call 22 (.cons (.bin .sub (.bin .mul (.ix (.nm 0) (.kI 0)) (.ix (.nm 1) (.kI 1))) (.bin .mul (.ix (.nm 1) (.kI 0)) (.ix (.nm 0) (.kI 1)))) (.cons (.bin .mul (.ix (.nm 0) (.kI 1)) (.ix (.nm 1) (.kI 1))) .nil)))) .nil))
def N_times : List Str := [PySem.Str.ofString "one", PySem.Str.ofString "another"]
def b_times : T := (.cons (.drop (.call 21 (.cons (.nm 0) (.cons (.nm 1) .nil)))) (.cons (.ret (.call 22 (.cons (.bin .mul (.ix (.nm 0) (.kI 0)) (.ix (.nm 1) (.kI 0))) (.cons (.bin .mul (.ix (.nm 0) (.kI 1)) (.ix (.nm 1) (.kI 1))) .nil)))) .nil))
def N_over : List Str := [PySem.Str.ofString "one", PySem.Str.ofString "another"]
def b_over : T := (.cons (.drop (.call 0 (.cons (.call 6 (.cons (.nm 0) .nil)) (.cons (.kS "one") .nil)))) (.cons (.drop (.call 0 (.cons (.band (.cons (.call 6 (.cons (.nm 1) .nil)) (.cons (.cmp .ne (.ix (.nm 1) (.kI 0)) (.kI 0)) .nil))) (.cons (.kS "another") .nil)))) (.cons (.ret (.call 22 (.cons (.bin .mul (.ix (.nm 0) (.kI 0)) (.ix (.nm 1) (.kI 1))) (.cons (.bin .mul (.ix (.nm 0) (.kI 1)) (.ix (.nm 1) (.kI 0))) .nil)))) .nil)))
def N_at_most : List Str := [PySem.Str.ofString "one", PySem.Str.ofString "another"]
def b_at_most : T := (.cons (.drop (.call 21 (.cons (.nm 0) (.cons (.nm 1) .nil)))) (.cons (.ret (.cmp .le (.bin .mul (.ix (.nm 0) (.kI 0)) (.ix (.nm 1) (.kI 1))) (.bin .mul (.ix (.nm 1) (.kI 0)) (.ix (.nm 0) (.kI 1))))) .nil))
def N_rounded_up : List Str := [PySem.Str.ofString "one"]
def b_rounded_up : T := (.cons (.drop (.call 0 (.cons (.call 6 (.cons (.nm 0) .nil)) (.cons (.kS "one") .nil)))) (.cons (.ret (.neg (.bin .fdiv (.neg (.ix (.nm 0) (.kI 0))) (.ix (.nm 0) (.kI 1))))) .nil))
def N_need_two : List Str := [PySem.Str.ofString "one", PySem.Str.ofString "another"]
def b_need_two : T := (.cons (.drop (.call 0 (.cons (.call 6 (.cons (.nm 0) .nil)) (.cons (.kS "one") .nil)))) (.cons (.drop (.call 0 (.cons (.call 6 (.cons (.nm 1) .nil)) (.cons (.kS "another") .nil)))) .nil))
def N_lowest : List Str := [PySem.Str.ofString "top", PySem.Str.ofString "bottom", PySem.Str.ofString "divisor"]
def b_lowest : T := (.cons (.asg 2 (.bi .gcd (.cons (.nm 0) (.cons (.nm 1) .nil)))) (.cons (.ifs (.cmp .lt (.nm 1) (.kI 0)) (.cons (.asg 2 (.neg (.nm 2))) .nil) .nil) (.cons (.ret (.tup (.cons (.bin .fdiv (.nm 0) (.nm 2)) (.cons (.bin .fdiv (.nm 1) (.nm 2)) .nil)))) .nil)))
def N__law_pick : List Str := [PySem.Str.ofString "_law_well_here", PySem.Str.ofString "_law_many", PySem.Str.ofString "_law_great", PySem.Str.ofString "_law_cell", PySem.Str.ofString "_law_mixed"]
def N__law_whole : List Str := [PySem.Str.ofString "_law_thing_here"]
def b__law_whole : T := (.cons (.ret (.band (.cons (.isi (.nm 0) .int) (.cons (.not (.isi (.nm 0) .bool)) .nil)))) .nil)
def N__law_lowest : List Str := [PySem.Str.ofString "_law_thing_here", PySem.Str.ofString "_law_one", PySem.Str.ofString "_law_other", PySem.Str.ofString "_law_k", PySem.Str.ofString "_law_rest"]
def b__law_lowest : T := (.cons (.ifs (.bor (.cons (.not (.isi (.nm 0) .tup)) (.cons (.cmp .ne (.bi .len (.cons (.nm 0) .nil)) (.kI 2)) .nil))) (.cons (.ret (.kB false)) .nil) .nil) (.cons (.ifs (.bor (.cons (.not (.call 24 (.cons (.ix (.nm 0) (.kI 0)) .nil))) (.cons (.not (.call 24 (.cons (.ix (.nm 0) (.kI 1)) .nil))) (.cons (.cmp .lt (.ix (.nm 0) (.kI 1)) (.kI 1)) .nil)))) (.cons (.ret (.kB false)) .nil) .nil) (.cons (.asg 1 (.bi .abs (.cons (.ix (.nm 0) (.kI 0)) .nil))) (.cons (.asg 2 (.ix (.nm 0) (.kI 1))) (.cons (.for_ (.nm 3) (.rng1 (.kI 400)) (.cons (.ifs (.cmp .eq (.nm 2) (.kI 0)) (.cons (.ret (.cmp .eq (.nm 1) (.kI 1))) .nil) .nil) (.cons (.asg 4 (.bin .mod (.bi .int (.cons (.nm 1) .nil)) (.nm 2))) (.cons (.asg 1 (.nm 2)) (.cons (.asg 2 (.nm 4)) .nil))))) (.cons (.ret (.kB false)) .nil))))))
def N__law_stands : List Str := [PySem.Str.ofString "_law_told", PySem.Str.ofString "_law_top_here", PySem.Str.ofString "_law_bottom"]
def b__law_stands : T := (.cons (.ret (.band (.cons (.call 25 (.cons (.nm 0) .nil)) (.cons (.cmp .eq (.bin .mul (.ix (.nm 0) (.kI 0)) (.nm 2)) (.bin .mul (.nm 1) (.ix (.nm 0) (.kI 1)))) .nil)))) .nil)
def N__law_ascending : List Str := [PySem.Str.ofString "_law_thing_here", PySem.Str.ofString "_law_many", PySem.Str.ofString "_law_last", PySem.Str.ofString "_law_entry"]
def b__law_ascending : T := (.cons (.ifs (.not (.isi (.nm 0) .tup)) (.cons (.ret (.kB false)) .nil) .nil) (.cons (.asg 2 (.neg (.kI 1))) (.cons (.for_ (.nm 3) (.nm 0) (.cons (.ifs (.bor (.cons (.not (.call 24 (.cons (.nm 3) .nil))) (.cons (.cmp .le (.nm 3) (.nm 2)) (.cons (.cmp .ge (.nm 3) (.nm 1)) .nil)))) (.cons (.ret (.kB false)) .nil) .nil) (.cons (.asg 2 (.nm 3)) .nil))) (.cons (.ret (.kB true)) .nil))))
def N__law_pair : List Str := [PySem.Str.ofString "_law_size", PySem.Str.ofString "_law_thing_here"]
def b__law_pair : T := (.cons (.ifs (.bor (.cons (.not (.isi (.nm 1) .tup)) (.cons (.cmp .ne (.bi .len (.cons (.nm 1) .nil)) (.kI 2)) .nil))) (.cons (.ret (.kB false)) .nil) .nil) (.cons (.ret (.band (.cons (.call 27 (.cons (.ix (.nm 1) (.kI 0)) (.cons (.nm 0) .nil))) (.cons (.call 27 (.cons (.ix (.nm 1) (.kI 1)) (.cons (.nm 0) .nil))) .nil)))) .nil))
def N__law_once : List Str := [PySem.Str.ofString "_law_many", PySem.Str.ofString "_law_thing_here", PySem.Str.ofString "_law_entry"]
def b__law_once : T := (.cons (.ifs (.bor (.cons (.not (.isi (.nm 1) .tup)) (.cons (.cmp .ne (.bi .len (.cons (.nm 1) .nil)) (.nm 0)) .nil))) (.cons (.ret (.kB false)) .nil) .nil) (.cons (.for_ (.nm 2) (.nm 1) (.cons (.ifs (.not (.call 24 (.cons (.nm 2) .nil))) (.cons (.ret (.kB false)) .nil) .nil) .nil)) (.cons (.ret (.cmp .eq (.bi .sorted (.cons (.nm 1) .nil)) (.lrng (.nm 0)))) .nil)))
def N__law_each : List Str := [PySem.Str.ofString "_law_many", PySem.Str.ofString "_law_thing_here", PySem.Str.ofString "_law_way", PySem.Str.ofString "_law_entry"]
def b__law_each : T := (.cons (.ifs (.bor (.cons (.not (.isi (.nm 1) .tup)) (.cons (.cmp .ne (.bi .len (.cons (.nm 1) .nil)) (.nm 0)) .nil))) (.cons (.ret (.kB false)) .nil) .nil) (.cons (.for_ (.nm 3) (.nm 1) (.cons (.ifs (.cmp .eq (.nm 2) (.kI 0)) (.cons (.ifs (.bor (.cons (.not (.call 24 (.cons (.nm 3) .nil))) (.cons (.cmp .lt (.nm 3) (.kI 0)) .nil))) (.cons (.ret (.kB false)) .nil) .nil) .nil) (.cons (.ifs (.bor (.cons (.not (.call 25 (.cons (.nm 3) .nil))) (.cons (.cmp .lt (.ix (.nm 3) (.kI 0)) (.kI 0)) .nil))) (.cons (.ret (.kB false)) .nil) .nil) .nil)) .nil)) (.cons (.ret (.kB true)) .nil)))
def N__law_odd : List Str := [PySem.Str.ofString "_law_well_here", PySem.Str.ofString "_law_odd_here"]
def b__law_odd : T := (.cons (.asg 1 (.tup (.cons (.kB true) (.cons (.kB false) (.cons .kN (.cons (.neg (.kI 1)) (.cons (.kS "0") (.cons (.tup .nil) (.cons (.lst .nil) (.cons (.tup (.cons (.kI 0) .nil)) (.cons (.lst (.cons (.kI 0) .nil)) (.cons (.tup (.cons (.kI 1) (.cons (.kI 2) .nil))) (.cons (.tup (.cons (.kI 2) (.cons (.kI 4) .nil))) (.cons (.tup (.cons (.kI 0) (.cons (.kI 1) .nil))) (.cons (.tup (.cons (.kI 1) (.cons (.kB true) .nil))) (.cons (.tup (.cons (.kB true) (.cons (.kI 2) .nil))) (.cons (.lst (.cons (.kI 1) (.cons (.kI 2) .nil))) (.cons (.tup (.cons (.kI 3) (.cons (.kI 0) .nil))) (.cons (.tup (.cons (.kI 1) (.cons (.neg (.kI 2)) .nil))) (.cons (.tup (.cons (.kI 0) (.cons (.kI 2) .nil))) (.cons (.bin .pow (.kI 10) (.kI 30)) (.cons (.tup (.cons (.bin .pow (.kI 10) (.kI 30)) (.cons (.kI 3) .nil))) (.cons (.tup (.cons (.tup (.cons (.kI 1) (.cons (.kI 2) .nil))) (.cons (.kI 1) .nil))) (.cons (.kS "") (.cons (.kI 1) (.cons (.kI 0) (.cons (.tup (.cons (.kI 1) .nil)) (.cons (.tup (.cons (.kI 1) (.cons (.kI 2) (.cons (.kI 3) .nil)))) (.cons (.tup (.cons (.neg (.kI 3)) (.cons (.kI 2) .nil))) (.cons (.tup (.cons (.kB false) (.cons (.kI 1) .nil))) .nil)))))))))))))))))))))))))))))) (.cons (.ret (.ix (.nm 1) (.call 23 (.cons (.nm 0) (.cons (.kI 28) .nil))))) .nil))
def N__law_columns : List Str := [PySem.Str.ofString "_law_well_here", PySem.Str.ofString "_law_size", PySem.Str.ofString "_law_row", PySem.Str.ofString "_law_column", PySem.Str.ofString "_law_part"]
def b__law_columns : T := (.cons (.asg 2 (.lst .nil)) (.cons (.for_ (.nm 3) (.rng1 (.bin .add (.nm 1) (.kI 1))) (.cons (.asg 4 (.call 23 (.cons (.nm 0) (.cons (.kI 9) .nil)))) (.cons (.ifs (.bor (.cons (.band (.cons (.cmp .lt (.nm 4) (.kI 4)) (.cons (.cmp .lt (.nm 3) (.nm 1)) .nil))) (.cons (.cmp .eq (.nm 4) (.kI 0)) .nil))) (.cons (.app 2 (.nm 3)) .nil) .nil) .nil))) (.cons (.ret (.bi .tuple (.cons (.nm 2) .nil))) .nil)))
def N__law_thing : List Str := [PySem.Str.ofString "_law_well_here", PySem.Str.ofString "_law_way", PySem.Str.ofString "_law_size", PySem.Str.ofString "_law_many", PySem.Str.ofString "_law_row", PySem.Str.ofString "_law_k", PySem.Str.ofString "_law_quotients", PySem.Str.ofString "_law_spoil"]
def b__law_thing : T := (.cons (.asg 4 (.lst .nil)) (.cons (.ifs (.cmp .eq (.nm 1) (.kI 0)) (.cons (.asg 4 (.bi .list (.cons (.call 32 (.cons (.nm 0) (.cons (.nm 2) .nil))) .nil))) .nil) (.cons (.ifs (.cmp .eq (.nm 1) (.kI 4)) (.cons (.asg 4 (.lst (.cons (.call 32 (.cons (.nm 0) (.cons (.nm 2) .nil))) (.cons (.call 32 (.cons (.nm 0) (.cons (.nm 2) .nil))) .nil)))) .nil) (.cons (.for_ (.nm 5) (.rng1 (.nm 3)) (.cons (.ifs (.cmp .eq (.nm 1) (.kI 1)) (.cons (.ins 4 (.call 23 (.cons (.nm 0) (.cons (.bin .add (.nm 5) (.kI 1)) .nil))) (.nm 5)) .nil) (.cons (.ifs (.cmp .eq (.nm 1) (.kI 2)) (.cons (.app 4 (.bin .add (.ix (.tup (.cons (.kI 0) (.cons (.kI 1) (.cons (.bin .sub (.bin .pow (.kI 10) (.kI 12)) (.kI 9)) (.cons (.bin .pow (.kI 10) (.kI 30)) .nil))))) (.call 23 (.cons (.nm 0) (.cons (.kI 4) .nil)))) (.call 23 (.cons (.nm 0) (.cons (.kI 9) .nil))))) .nil) (.cons (.asg 6 (.tup (.cons (.tup (.cons (.kI 0) (.cons (.kI 1) .nil))) (.cons (.tup (.cons (.kI 1) (.cons (.kI 2) .nil))) (.cons (.tup (.cons (.kI 3) (.cons (.kI 4) .nil))) (.cons (.tup (.cons (.kI 5) (.cons (.kI 1) .nil))) (.cons (.tup (.cons (.kI 7) (.cons (.kI 6) .nil))) (.cons (.tup (.cons (.bin .pow (.kI 10) (.kI 12)) (.cons (.kI 7) .nil))) (.cons (.tup (.cons (.kI 1) (.cons (.kI 60) .nil))) (.cons (.tup (.cons (.neg (.kI 1)) (.cons (.kI 2) .nil))) .nil)))))))))) (.cons (.app 4 (.ix (.nm 6) (.call 23 (.cons (.nm 0) (.cons (.kI 8) .nil))))) .nil))) .nil)) .nil)) .nil)) .nil)) (.cons (.asg 7 (.call 23 (.cons (.nm 0) (.cons (.kI 10) .nil)))) (.cons (.ifs (.band (.cons (.cmp .eq (.nm 7) (.kI 0)) (.cons (.nm 4) .nil))) (.cons (.setI 4 (.call 23 (.cons (.nm 0) (.cons (.bi .len (.cons (.nm 4) .nil)) .nil))) (.call 31 (.cons (.nm 0) .nil))) .nil) (.cons (.ifs (.cmp .eq (.nm 7) (.kI 1)) (.cons (.app 4 (.call 31 (.cons (.nm 0) .nil))) .nil) (.cons (.ifs (.cmp .eq (.nm 7) (.kI 2)) (.frz 4 (.cons (.ret (.nm 4)) .nil)) (.cons (.ifs (.cmp .eq (.nm 7) (.kI 3)) (.cons (.rev 4) .nil) (.cons (.ifs (.band (.cons (.cmp .eq (.nm 7) (.kI 4)) (.cons (.nm 4) .nil))) (.cons (.app 4 (.ix (.nm 4) (.kI 0))) .nil) (.cons (.ifs (.band (.cons (.cmp .eq (.nm 7) (.kI 5)) (.cons (.nm 4) .nil))) (.cons (.popS 4 (.call 23 (.cons (.nm 0) (.cons (.bi .len (.cons (.nm 4) .nil)) .nil)))) .nil) (.cons (.ifs (.band (.cons (.cmp .eq (.nm 7) (.kI 6)) (.cons (.nm 4) .nil))) (.cons (.setI 4 (.call 23 (.cons (.nm 0) (.cons (.bi .len (.cons (.nm 4) .nil)) .nil))) (.ix (.nm 4) (.call 23 (.cons (.nm 0) (.cons (.bi .len (.cons (.nm 4) .nil)) .nil))))) .nil) .nil) .nil)) .nil)) .nil)) .nil)) .nil)) .nil)) (.cons (.ret (.bi .tuple (.cons (.nm 4) .nil))) .nil)))))
def N__law_kinds : List Str := [PySem.Str.ofString "_law_well_here", PySem.Str.ofString "_law_size", PySem.Str.ofString "_law_many", PySem.Str.ofString "_law_things", PySem.Str.ofString "_law_k", PySem.Str.ofString "_law_way", PySem.Str.ofString "_law_thing_here", PySem.Str.ofString "_law_whole_here", PySem.Str.ofString "_law_told", PySem.Str.ofString "_law_due"]
def b__law_kinds : T := (.cons (.asg 1 (.call 23 (.cons (.nm 0) (.cons (.kI 6) .nil)))) (.cons (.asg 2 (.call 23 (.cons (.nm 0) (.cons (.kI 5) .nil)))) (.cons (.asg 3 (.lc [("_law_k", 4)] (.nm 4) (.rng1 (.kI 6)) .nil (.call 31 (.cons (.nm 0) .nil)))) (.cons (.for_ (.nm 5) (.rng1 (.kI 5)) (.cons (.app 3 (.call 33 (.cons (.nm 0) (.cons (.nm 5) (.cons (.nm 1) (.cons (.nm 2) .nil)))))) .nil)) (.frz 3 (.cons (.for_ (.nm 6) (.nm 3) (.cons (.asg 7 (.call 24 (.cons (.nm 6) .nil))) (.cons (.asg 8 (.lst (.cons (.call 3 (.cons (.nm 6) .nil)) (.cons (.call 4 (.cons (.nm 6) .nil)) (.cons (.call 5 (.cons (.nm 6) .nil)) (.cons (.call 6 (.cons (.nm 6) .nil)) (.cons (.call 7 (.cons (.nm 1) (.cons (.nm 6) .nil))) (.cons (.callk 8 [1, 0] (.cons (.nm 6) (.cons (.nm 1) .nil))) (.cons (.callk 9 [1, 0] (.cons (.nm 6) (.cons (.nm 2) .nil))) (.cons (.call 10 (.cons (.nm 2) (.cons (.nm 6) .nil))) (.cons (.call 11 (.cons (.nm 2) (.cons (.nm 6) .nil))) (.cons (.call 12 (.cons (.nm 2) (.cons (.nm 6) .nil))) .nil)))))))))))) (.cons (.asg 9 (.lst (.cons (.nm 7) (.cons (.band (.cons (.nm 7) (.cons (.cmp .ge (.nm 6) (.kI 0)) .nil))) (.cons (.isi (.nm 6) .bool) (.cons (.call 25 (.cons (.nm 6) .nil)) (.cons (.call 27 (.cons (.nm 6) (.cons (.nm 1) .nil))) (.cons (.call 28 (.cons (.nm 1) (.cons (.nm 6) .nil))) (.cons (.call 27 (.cons (.nm 6) (.cons (.nm 2) .nil))) (.cons (.call 29 (.cons (.nm 2) (.cons (.nm 6) .nil))) (.cons (.call 30 (.cons (.nm 2) (.cons (.nm 6) (.cons (.kI 0) .nil)))) (.cons (.call 30 (.cons (.nm 2) (.cons (.nm 6) (.cons (.kI 1) .nil)))) .nil)))))))))))) (.cons (.for_ (.nm 4) (.rng1 (.kI 10)) (.cons (.ifs (.bor (.cons (.not (.isi (.ix (.nm 8) (.nm 4)) .bool)) (.cons (.cmp .ne (.ix (.nm 8) (.nm 4)) (.ix (.nm 9) (.nm 4))) .nil))) (.cons (.ret (.kB false)) .nil) .nil) .nil)) .nil))))) (.cons (.ret (.kB true)) .nil)))))))
def N__law_ask : List Str := [PySem.Str.ofString "_law_which", PySem.Str.ofString "_law_one", PySem.Str.ofString "_law_another", PySem.Str.ofString "e"]
def b__law_ask : T := (.cons (.tryR 0 3 [0, 1] (.cons (.ifs (.cmp .eq (.nm 0) (.kI 0)) (.cons (.ret (.tup (.cons (.kB true) (.cons (.call 15 (.cons (.nm 1) (.cons (.nm 2) .nil))) .nil)))) .nil) .nil) (.cons (.ifs (.cmp .eq (.nm 0) (.kI 1)) (.cons (.ret (.tup (.cons (.kB true) (.cons (.call 16 (.cons (.nm 1) (.cons (.nm 2) .nil))) .nil)))) .nil) .nil) (.cons (.ifs (.cmp .eq (.nm 0) (.kI 2)) (.cons (.ret (.tup (.cons (.kB true) (.cons (.call 17 (.cons (.nm 1) (.cons (.nm 2) .nil))) .nil)))) .nil) .nil) (.cons (.ifs (.cmp .eq (.nm 0) (.kI 3)) (.cons (.ret (.tup (.cons (.kB true) (.cons (.call 18 (.cons (.nm 1) (.cons (.nm 2) .nil))) .nil)))) .nil) .nil) (.cons (.ifs (.cmp .eq (.nm 0) (.kI 4)) (.cons (.ret (.tup (.cons (.kB true) (.cons (.call 19 (.cons (.nm 1) (.cons (.nm 2) .nil))) .nil)))) .nil) .nil) (.cons (.ifs (.cmp .eq (.nm 0) (.kI 5)) (.cons (.ret (.tup (.cons (.kB true) (.cons (.call 20 (.cons (.nm 1) .nil)) .nil)))) .nil) .nil) (.cons (.ret (.tup (.cons (.kB true) (.cons (.call 14 (.cons (.nm 1) (.cons (.nm 2) .nil))) .nil)))) .nil)))))))) .nil)
def N__law_refused : List Str := [PySem.Str.ofString "_law_told", PySem.Str.ofString "_law_name"]
def b__law_refused : T := (.cons (.ifs (.bor (.cons (.ix (.nm 0) (.kI 0)) (.cons (.not (.isi (.ix (.nm 0) (.kI 1)) .str)) (.cons (.cmp .ne (.ix (.nm 0) (.kI 1)) (.nm 1)) .nil)))) (.cons (.ret (.kB false)) .nil) .nil) (.cons (.ret (.band (.cons (.call 24 (.cons (.ix (.nm 0) (.kI 2)) .nil)) (.cons (.cmp .eq (.ix (.nm 0) (.kI 2)) (.neg (.kI 1))) .nil)))) .nil))
def N__law_refusals : List Str := [PySem.Str.ofString "_law_well_here", PySem.Str.ofString "_law_one", PySem.Str.ofString "_law_another", PySem.Str.ofString "_law_bad", PySem.Str.ofString "_law_first", PySem.Str.ofString "_law_second", PySem.Str.ofString "_law_number", PySem.Str.ofString "_law_which"]
def b__law_refusals : T := (.cons (.asg 3 (.tup (.cons (.kB true) (.cons .kN (.cons (.kI 5) (.cons (.kS "1/2") (.cons (.lst (.cons (.kI 1) (.cons (.kI 2) .nil))) (.cons (.tup (.cons (.kI 1) .nil)) (.cons (.tup (.cons (.kI 1) (.cons (.kI 2) (.cons (.kI 3) .nil)))) (.cons (.tup (.cons (.kI 2) (.cons (.kI 4) .nil))) (.cons (.tup (.cons (.kI 0) (.cons (.kI 2) .nil))) (.cons (.tup (.cons (.kI 3) (.cons (.kI 0) .nil))) (.cons (.tup (.cons (.kI 1) (.cons (.neg (.kI 2)) .nil))) (.cons (.tup (.cons (.kB true) (.cons (.kI 2) .nil))) (.cons (.tup (.cons (.kI 1) (.cons (.kB true) .nil))) (.cons (.tup (.cons (.neg (.kI 2)) (.cons (.neg (.kI 4)) .nil))) (.cons (.tup (.cons (.tup (.cons (.kI 1) (.cons (.kI 2) .nil))) (.cons (.kI 1) .nil))) (.cons (.tup (.cons (.kI 1) (.cons .kN .nil))) .nil)))))))))))))))))) (.cons (.asg 4 (.ix (.nm 3) (.call 23 (.cons (.nm 0) (.cons (.kI 16) .nil))))) (.cons (.asg 5 (.ix (.nm 3) (.call 23 (.cons (.nm 0) (.cons (.kI 16) .nil))))) (.cons (.asg 6 (.ix (.tup (.cons (.kB true) (.cons .kN (.cons (.kS "3") (.cons (.tup (.cons (.kI 3) .nil)) (.cons (.lst (.cons (.kI 3) .nil)) (.cons (.kB false) .nil))))))) (.call 23 (.cons (.nm 0) (.cons (.kI 6) .nil))))) (.cons (.for_ (.nm 7) (.rng1 (.kI 5)) (.cons (.ifs (.not (.call 36 (.cons (.call 35 (.cons (.nm 7) (.cons (.nm 4) (.cons (.nm 2) .nil)))) (.cons (.kS "one") .nil)))) (.cons (.ret (.kB false)) .nil) .nil) (.cons (.ifs (.not (.call 36 (.cons (.call 35 (.cons (.nm 7) (.cons (.nm 1) (.cons (.nm 5) .nil)))) (.cons (.kS "another") .nil)))) (.cons (.ret (.kB false)) .nil) .nil) (.cons (.ifs (.not (.call 36 (.cons (.call 35 (.cons (.nm 7) (.cons (.nm 4) (.cons (.nm 5) .nil)))) (.cons (.kS "one") .nil)))) (.cons (.ret (.kB false)) .nil) .nil) .nil)))) (.cons (.ifs (.bor (.cons (.not (.call 36 (.cons (.call 35 (.cons (.kI 5) (.cons (.nm 4) (.cons (.kI 0) .nil)))) (.cons (.kS "one") .nil)))) (.cons (.not (.call 36 (.cons (.call 35 (.cons (.kI 3) (.cons (.nm 1) (.cons (.tup (.cons (.kI 0) (.cons (.kI 1) .nil))) .nil)))) (.cons (.kS "another") .nil)))) .nil))) (.cons (.ret (.kB false)) .nil) .nil) (.cons (.ifs (.bor (.cons (.not (.call 36 (.cons (.call 35 (.cons (.kI 6) (.cons (.nm 6) (.cons (.kI 0) .nil)))) (.cons (.kS "top") .nil)))) (.cons (.not (.call 36 (.cons (.call 35 (.cons (.kI 6) (.cons (.kI 5) (.cons (.nm 6) .nil)))) (.cons (.kS "bottom") .nil)))) .nil))) (.cons (.ret (.kB false)) .nil) .nil) (.cons (.ret (.call 36 (.cons (.call 35 (.cons (.kI 6) (.cons (.kI 7) (.cons (.kI 0) .nil)))) (.cons (.kS "bottom") .nil)))) .nil))))))))
def N__law_each_word : List Str := [PySem.Str.ofString "_law_words", PySem.Str.ofString "_law_dues", PySem.Str.ofString "_law_k"]
def b__law_each_word : T := (.cons (.for_ (.nm 2) (.rng1 (.bi .len (.cons (.nm 1) .nil))) (.cons (.ifs (.bor (.cons (.not (.isi (.ix (.nm 0) (.nm 2)) .bool)) (.cons (.cmp .ne (.ix (.nm 0) (.nm 2)) (.ix (.nm 1) (.nm 2))) .nil))) (.cons (.ret (.kB false)) .nil) .nil) .nil)) (.cons (.ret (.kB true)) .nil))
def N__law_sums : List Str := [PySem.Str.ofString "_law_a", PySem.Str.ofString "_law_b", PySem.Str.ofString "_law_c", PySem.Str.ofString "_law_d", PySem.Str.ofString "_law_one", PySem.Str.ofString "_law_another", PySem.Str.ofString "_law_both", PySem.Str.ofString "_law_gap", PySem.Str.ofString "_law_area", PySem.Str.ofString "_law_square", PySem.Str.ofString "_law_less", PySem.Str.ofString "_law_near", PySem.Str.ofString "_law_sign", PySem.Str.ofString "_law_part", PySem.Str.ofString "_law_words", PySem.Str.ofString "_law_told", PySem.Str.ofString "_law_top_here", PySem.Str.ofString "_law_bottom"]
def b__law_sums : T := (.cons (.asg 4 (.call 14 (.cons (.nm 0) (.cons (.nm 1) .nil)))) (.cons (.asg 5 (.callk 14 [1, 0] (.cons (.nm 3) (.cons (.nm 2) .nil)))) (.cons (.ifs (.bor (.cons (.not (.call 26 (.cons (.nm 4) (.cons (.nm 0) (.cons (.nm 1) .nil))))) (.cons (.not (.call 26 (.cons (.nm 5) (.cons (.nm 2) (.cons (.nm 3) .nil))))) .nil))) (.cons (.ret (.kB false)) .nil) .nil) (.cons (.ifs (.bor (.cons (.not (.call 26 (.cons (.call 14 (.cons (.neg (.nm 0)) (.cons (.neg (.nm 1)) .nil))) (.cons (.nm 0) (.cons (.nm 1) .nil))))) (.cons (.not (.call 26 (.cons (.call 14 (.cons (.nm 0) (.cons (.neg (.nm 1)) .nil))) (.cons (.neg (.nm 0)) (.cons (.nm 1) .nil))))) .nil))) (.cons (.ret (.kB false)) .nil) .nil) (.cons (.asg 6 (.call 15 (.cons (.nm 4) (.cons (.nm 5) .nil)))) (.cons (.asg 7 (.callk 16 [1, 0] (.cons (.nm 5) (.cons (.nm 4) .nil)))) (.cons (.asg 8 (.call 17 (.cons (.nm 4) (.cons (.nm 5) .nil)))) (.cons (.ifs (.bor (.cons (.not (.call 26 (.cons (.nm 6) (.cons (.bin .add (.bin .mul (.nm 0) (.nm 3)) (.bin .mul (.nm 2) (.nm 1))) (.cons (.bin .mul (.nm 1) (.nm 3)) .nil))))) (.cons (.not (.call 26 (.cons (.nm 7) (.cons (.bin .sub (.bin .mul (.nm 0) (.nm 3)) (.bin .mul (.nm 2) (.nm 1))) (.cons (.bin .mul (.nm 1) (.nm 3)) .nil))))) .nil))) (.cons (.ret (.kB false)) .nil) .nil) (.cons (.ifs (.not (.call 26 (.cons (.nm 8) (.cons (.bin .mul (.nm 0) (.nm 2)) (.cons (.bin .mul (.nm 1) (.nm 3)) .nil))))) (.cons (.ret (.kB false)) .nil) .nil) (.cons (.asg 9 (.call 17 (.cons (.nm 8) (.cons (.nm 8) .nil)))) (.cons (.asg 10 (.call 16 (.cons (.nm 9) (.cons (.tup (.cons (.kI 1) (.cons (.kI 60) .nil))) .nil)))) (.cons (.ifs (.not (.call 26 (.cons (.nm 9) (.cons (.bin .mul (.bin .mul (.bin .mul (.nm 0) (.nm 0)) (.nm 2)) (.nm 2)) (.cons (.bin .mul (.bin .mul (.bin .mul (.nm 1) (.nm 1)) (.nm 3)) (.nm 3)) .nil))))) (.cons (.ret (.kB false)) .nil) .nil) (.cons (.asg 11 (.lst (.cons (.call 19 (.cons (.nm 8) (.cons (.call 16 (.cons (.nm 8) (.cons (.tup (.cons (.kI 1) (.cons (.kI 60) .nil))) .nil))) .nil))) (.cons (.call 19 (.cons (.nm 9) (.cons (.nm 10) .nil))) (.cons (.callk 19 [1, 0] (.cons (.nm 9) (.cons (.nm 10) .nil))) .nil))))) (.frz 11 (.cons (.ifs (.not (.call 38 (.cons (.nm 11) (.cons (.lst (.cons (.kB false) (.cons (.kB false) (.cons (.kB true) .nil)))) .nil)))) (.cons (.ret (.kB false)) .nil) .nil) (.cons (.ifs (.bor (.cons (.not (.call 26 (.cons (.call 15 (.cons (.nm 6) (.cons (.nm 7) .nil))) (.cons (.bin .mul (.kI 2) (.nm 0)) (.cons (.nm 1) .nil))))) (.cons (.not (.call 26 (.cons (.call 16 (.cons (.nm 6) (.cons (.nm 7) .nil))) (.cons (.bin .mul (.kI 2) (.nm 2)) (.cons (.nm 3) .nil))))) .nil))) (.cons (.ret (.kB false)) .nil) .nil) (.cons (.ifs (.cmp .ne (.nm 2) (.kI 0)) (.cons (.asg 12 (.ife (.cmp .gt (.nm 2) (.kI 0)) (.kI 1) (.neg (.kI 1)))) (.cons (.asg 13 (.call 18 (.cons (.nm 4) (.cons (.nm 5) .nil)))) (.cons (.ifs (.bor (.cons (.not (.call 26 (.cons (.nm 13) (.cons (.bin .mul (.bin .mul (.nm 12) (.nm 0)) (.nm 3)) (.cons (.bin .mul (.bin .mul (.nm 12) (.nm 1)) (.nm 2)) .nil))))) (.cons (.not (.call 26 (.cons (.call 17 (.cons (.nm 13) (.cons (.nm 5) .nil))) (.cons (.nm 0) (.cons (.nm 1) .nil))))) .nil))) (.cons (.ret (.kB false)) .nil) .nil) (.cons (.ifs (.not (.call 26 (.cons (.callk 18 [1, 0] (.cons (.nm 5) (.cons (.nm 8) .nil))) (.cons (.nm 0) (.cons (.nm 1) .nil))))) (.cons (.ret (.kB false)) .nil) .nil) .nil)))) .nil) (.cons (.asg 14 (.lst (.cons (.call 19 (.cons (.nm 4) (.cons (.nm 5) .nil))) (.cons (.call 19 (.cons (.nm 5) (.cons (.nm 4) .nil))) (.cons (.call 19 (.cons (.nm 4) (.cons (.nm 4) .nil))) (.cons (.callk 19 [1, 0] (.cons (.nm 6) (.cons (.nm 7) .nil))) .nil)))))) (.frz 14 (.cons (.ifs (.not (.call 38 (.cons (.nm 14) (.cons (.lst (.cons (.cmp .le (.bin .mul (.nm 0) (.nm 3)) (.bin .mul (.nm 2) (.nm 1))) (.cons (.cmp .le (.bin .mul (.nm 2) (.nm 1)) (.bin .mul (.nm 0) (.nm 3))) (.cons (.kB true) (.cons (.cmp .ge (.nm 2) (.kI 0)) .nil))))) .nil)))) (.cons (.ret (.kB false)) .nil) .nil) (.cons (.for_ (.tup (.cons (.nm 15) (.cons (.nm 16) (.cons (.nm 17) .nil)))) (.tup (.cons (.tup (.cons (.call 20 (.cons (.nm 4) .nil)) (.cons (.nm 0) (.cons (.nm 1) .nil)))) (.cons (.tup (.cons (.call 20 (.cons (.nm 5) .nil)) (.cons (.nm 2) (.cons (.nm 3) .nil)))) (.cons (.tup (.cons (.call 20 (.cons (.nm 6) .nil)) (.cons (.bin .add (.bin .mul (.nm 0) (.nm 3)) (.bin .mul (.nm 2) (.nm 1))) (.cons (.bin .mul (.nm 1) (.nm 3)) .nil)))) (.cons (.tup (.cons (.call 20 (.cons (.nm 8) .nil)) (.cons (.bin .mul (.nm 0) (.nm 2)) (.cons (.bin .mul (.nm 1) (.nm 3)) .nil)))) (.cons (.tup (.cons (.call 20 (.cons (.nm 9) .nil)) (.cons (.bin .mul (.bin .mul (.bin .mul (.nm 0) (.nm 0)) (.nm 2)) (.nm 2)) (.cons (.bin .mul (.bin .mul (.bin .mul (.nm 1) (.nm 1)) (.nm 3)) (.nm 3)) .nil)))) .nil)))))) (.cons (.ifs (.bor (.cons (.not (.call 24 (.cons (.nm 15) .nil))) (.cons (.not (.cmp2 .lt .le (.bin .mul (.bin .sub (.nm 15) (.kI 1)) (.nm 17)) (.nm 16) (.bin .mul (.nm 15) (.nm 17)))) .nil))) (.cons (.ret (.kB false)) .nil) .nil) .nil)) (.cons (.ret (.kB true)) .nil))))))))))))))))))))))
def N__law_top : List Str := [PySem.Str.ofString "_law_well_here", PySem.Str.ofString "_law_reach"]
def b__law_top : T := (.cons (.asg 1 (.ix (.tup (.cons (.kI 12) (.cons (.kI 120) (.cons (.bin .pow (.kI 10) (.kI 12)) .nil)))) (.call 23 (.cons (.nm 0) (.cons (.kI 3) .nil))))) (.cons (.ret (.bin .sub (.call 23 (.cons (.nm 0) (.cons (.bin .add (.bin .mul (.kI 2) (.nm 1)) (.kI 1)) .nil))) (.nm 1))) .nil))
def fns : List Fn := [⟨PySem.Str.ofString "need", N_need, 2, b_need, none⟩,
  ⟨PySem.Str.ofString "is_tuple_of", N_is_tuple_of, 2, b_is_tuple_of, none⟩,
  ⟨PySem.Str.ofString "ascends", N_ascends, 1, b_ascends, none⟩,
  ⟨PySem.Str.ofString "is_integer", N_is_integer, 1, b_is_integer, none⟩,
  ⟨PySem.Str.ofString "is_number", N_is_number, 1, b_is_number, none⟩,
  ⟨PySem.Str.ofString "is_word", N_is_word, 1, b_is_word, none⟩,
  ⟨PySem.Str.ofString "is_quotient", N_is_quotient, 1, b_is_quotient, none⟩,
  ⟨PySem.Str.ofString "is_lot", N_is_lot, 2, b_is_lot, none⟩,
  ⟨PySem.Str.ofString "is_dependence", N_is_dependence, 2, b_is_dependence, none⟩,
  ⟨PySem.Str.ofString "is_group", N_is_group, 2, b_is_group, none⟩,
  ⟨PySem.Str.ofString "is_sequence", N_is_sequence, 2, b_is_sequence, none⟩,
  ⟨PySem.Str.ofString "is_weights", N_is_weights, 2, b_is_weights, none⟩,
  ⟨PySem.Str.ofString "is_shares", N_is_shares, 2, b_is_shares, none⟩,
  ⟨PySem.Str.ofString "are_numbers_below", N_are_numbers_below, 2, b_are_numbers_below, none⟩,
  ⟨PySem.Str.ofString "quotient_of", N_quotient_of, 2, b_quotient_of, none⟩,
  ⟨PySem.Str.ofString "plus", N_plus, 2, b_plus, none⟩,
  ⟨PySem.Str.ofString "minus", N_minus, 2, b_minus, none⟩,
  ⟨PySem.Str.ofString "times", N_times, 2, b_times, none⟩,
  ⟨PySem.Str.ofString "over", N_over, 2, b_over, none⟩,
  ⟨PySem.Str.ofString "at_most", N_at_most, 2, b_at_most, none⟩,
  ⟨PySem.Str.ofString "rounded_up", N_rounded_up, 1, b_rounded_up, none⟩,
  ⟨PySem.Str.ofString "need_two", N_need_two, 2, b_need_two, none⟩,
  ⟨PySem.Str.ofString "lowest", N_lowest, 2, b_lowest, none⟩,
  ⟨PySem.Str.ofString "_law_pick", N__law_pick, 2, .nil, some pickD⟩,
  ⟨PySem.Str.ofString "_law_whole", N__law_whole, 1, b__law_whole, none⟩,
  ⟨PySem.Str.ofString "_law_lowest", N__law_lowest, 1, b__law_lowest, none⟩,
  ⟨PySem.Str.ofString "_law_stands", N__law_stands, 3, b__law_stands, none⟩,
  ⟨PySem.Str.ofString "_law_ascending", N__law_ascending, 2, b__law_ascending, none⟩,
  ⟨PySem.Str.ofString "_law_pair", N__law_pair, 2, b__law_pair, none⟩,
  ⟨PySem.Str.ofString "_law_once", N__law_once, 2, b__law_once, none⟩,
  ⟨PySem.Str.ofString "_law_each", N__law_each, 3, b__law_each, none⟩,
  ⟨PySem.Str.ofString "_law_odd", N__law_odd, 1, b__law_odd, none⟩,
  ⟨PySem.Str.ofString "_law_columns", N__law_columns, 2, b__law_columns, none⟩,
  ⟨PySem.Str.ofString "_law_thing", N__law_thing, 4, b__law_thing, none⟩,
  ⟨PySem.Str.ofString "_law_kinds", N__law_kinds, 1, b__law_kinds, none⟩,
  ⟨PySem.Str.ofString "_law_ask", N__law_ask, 3, b__law_ask, none⟩,
  ⟨PySem.Str.ofString "_law_refused", N__law_refused, 2, b__law_refused, none⟩,
  ⟨PySem.Str.ofString "_law_refusals", N__law_refusals, 3, b__law_refusals, none⟩,
  ⟨PySem.Str.ofString "_law_each_word", N__law_each_word, 2, b__law_each_word, none⟩,
  ⟨PySem.Str.ofString "_law_sums", N__law_sums, 4, b__law_sums, none⟩,
  ⟨PySem.Str.ofString "_law_top", N__law_top, 1, b__law_top, none⟩]
theorem ck_need : chkB tb b_need ⟨N_need, defScope (top 6), fun _ => true⟩ (defBody (top 6)) = true := by decide +kernel
theorem sc_need : FnScope N_need [PySem.Str.ofString "holds", PySem.Str.ofString "word"] (defScope (top 6)) := ⟨rfl, rfl, rfl, by decide +kernel, rfl, by decide +kernel, by decide +kernel⟩
theorem ck_is_tuple_of : chkB tb b_is_tuple_of ⟨N_is_tuple_of, defScope (top 7), fun _ => true⟩ (defBody (top 7)) = true := by decide +kernel
theorem sc_is_tuple_of : FnScope N_is_tuple_of [PySem.Str.ofString "many", PySem.Str.ofString "thing"] (defScope (top 7)) := ⟨rfl, rfl, rfl, by decide +kernel, rfl, by decide +kernel, by decide +kernel⟩
theorem ck_ascends : chkB tb b_ascends ⟨N_ascends, defScope (top 8), fun _ => true⟩ (defBody (top 8)) = true := by decide +kernel
theorem sc_ascends : FnScope N_ascends [PySem.Str.ofString "things"] (defScope (top 8)) := ⟨rfl, rfl, rfl, by decide +kernel, rfl, by decide +kernel, by decide +kernel⟩
theorem ck_is_integer : chkB tb b_is_integer ⟨N_is_integer, defScope (top 10), fun _ => true⟩ (defBody (top 10)) = true := by decide +kernel
theorem sc_is_integer : FnScope N_is_integer [PySem.Str.ofString "thing"] (defScope (top 10)) := ⟨rfl, rfl, rfl, by decide +kernel, rfl, by decide +kernel, by decide +kernel⟩
theorem ck_is_number : chkB tb b_is_number ⟨N_is_number, defScope (top 11), fun _ => true⟩ (defBody (top 11)) = true := by decide +kernel
theorem sc_is_number : FnScope N_is_number [PySem.Str.ofString "thing"] (defScope (top 11)) := ⟨rfl, rfl, rfl, by decide +kernel, rfl, by decide +kernel, by decide +kernel⟩
theorem ck_is_word : chkB tb b_is_word ⟨N_is_word, defScope (top 12), fun _ => true⟩ (defBody (top 12)) = true := by decide +kernel
theorem sc_is_word : FnScope N_is_word [PySem.Str.ofString "thing"] (defScope (top 12)) := ⟨rfl, rfl, rfl, by decide +kernel, rfl, by decide +kernel, by decide +kernel⟩
theorem ck_is_quotient : chkB tb b_is_quotient ⟨N_is_quotient, defScope (top 13), fun _ => true⟩ (defBody (top 13)) = true := by decide +kernel
theorem sc_is_quotient : FnScope N_is_quotient [PySem.Str.ofString "thing"] (defScope (top 13)) := ⟨rfl, rfl, rfl, by decide +kernel, rfl, by decide +kernel, by decide +kernel⟩
theorem ck_is_lot : chkB tb b_is_lot ⟨N_is_lot, defScope (top 14), fun _ => true⟩ (defBody (top 14)) = true := by decide +kernel
theorem sc_is_lot : FnScope N_is_lot [PySem.Str.ofString "size", PySem.Str.ofString "thing"] (defScope (top 14)) := ⟨rfl, rfl, rfl, by decide +kernel, rfl, by decide +kernel, by decide +kernel⟩
theorem ck_is_dependence : chkB tb b_is_dependence ⟨N_is_dependence, defScope (top 15), fun _ => true⟩ (defBody (top 15)) = true := by decide +kernel
theorem sc_is_dependence : FnScope N_is_dependence [PySem.Str.ofString "size", PySem.Str.ofString "thing"] (defScope (top 15)) := ⟨rfl, rfl, rfl, by decide +kernel, rfl, by decide +kernel, by decide +kernel⟩
theorem ck_is_group : chkB tb b_is_group ⟨N_is_group, defScope (top 16), fun _ => true⟩ (defBody (top 16)) = true := by decide +kernel
theorem sc_is_group : FnScope N_is_group [PySem.Str.ofString "many", PySem.Str.ofString "thing"] (defScope (top 16)) := ⟨rfl, rfl, rfl, by decide +kernel, rfl, by decide +kernel, by decide +kernel⟩
theorem ck_is_sequence : chkB tb b_is_sequence ⟨N_is_sequence, defScope (top 17), fun _ => true⟩ (defBody (top 17)) = true := by decide +kernel
theorem sc_is_sequence : FnScope N_is_sequence [PySem.Str.ofString "many", PySem.Str.ofString "thing"] (defScope (top 17)) := ⟨rfl, rfl, rfl, by decide +kernel, rfl, by decide +kernel, by decide +kernel⟩
theorem ck_is_weights : chkB tb b_is_weights ⟨N_is_weights, defScope (top 18), fun _ => true⟩ (defBody (top 18)) = true := by decide +kernel
theorem sc_is_weights : FnScope N_is_weights [PySem.Str.ofString "many", PySem.Str.ofString "thing"] (defScope (top 18)) := ⟨rfl, rfl, rfl, by decide +kernel, rfl, by decide +kernel, by decide +kernel⟩
theorem ck_is_shares : chkB tb b_is_shares ⟨N_is_shares, defScope (top 19), fun _ => true⟩ (defBody (top 19)) = true := by decide +kernel
theorem sc_is_shares : FnScope N_is_shares [PySem.Str.ofString "many", PySem.Str.ofString "thing"] (defScope (top 19)) := ⟨rfl, rfl, rfl, by decide +kernel, rfl, by decide +kernel, by decide +kernel⟩
theorem ck_are_numbers_below : chkB tb b_are_numbers_below ⟨N_are_numbers_below, defScope (top 20), fun _ => true⟩ (defBody (top 20)) = true := by decide +kernel
theorem sc_are_numbers_below : FnScope N_are_numbers_below [PySem.Str.ofString "limit", PySem.Str.ofString "thing"] (defScope (top 20)) := ⟨rfl, rfl, rfl, by decide +kernel, rfl, by decide +kernel, by decide +kernel⟩
theorem ck_quotient_of : chkB tb b_quotient_of ⟨N_quotient_of, defScope (top 22), fun _ => true⟩ (defBody (top 22)) = true := by decide +kernel
theorem sc_quotient_of : FnScope N_quotient_of [PySem.Str.ofString "top", PySem.Str.ofString "bottom"] (defScope (top 22)) := ⟨rfl, rfl, rfl, by decide +kernel, rfl, by decide +kernel, by decide +kernel⟩
theorem ck_plus : chkB tb b_plus ⟨N_plus, defScope (top 23), fun _ => true⟩ (defBody (top 23)) = true := by decide +kernel
theorem sc_plus : FnScope N_plus [PySem.Str.ofString "one", PySem.Str.ofString "another"] (defScope (top 23)) := ⟨rfl, rfl, rfl, by decide +kernel, rfl, by decide +kernel, by decide +kernel⟩
theorem ck_minus : chkB tb b_minus ⟨N_minus, defScope (top 24), fun _ => true⟩ (defBody (top 24)) = true := by decide +kernel
theorem sc_minus : FnScope N_minus [PySem.Str.ofString "one", PySem.Str.ofString "another"] (defScope (top 24)) := ⟨rfl, rfl, rfl, by decide +kernel, rfl, by decide +kernel, by decide +kernel⟩
theorem ck_times : chkB tb b_times ⟨N_times, defScope (top 25), fun _ => true⟩ (defBody (top 25)) = true := by decide +kernel
theorem sc_times : FnScope N_times [PySem.Str.ofString "one", PySem.Str.ofString "another"] (defScope (top 25)) := ⟨rfl, rfl, rfl, by decide +kernel, rfl, by decide +kernel, by decide +kernel⟩
theorem ck_over : chkB tb b_over ⟨N_over, defScope (top 26), fun _ => true⟩ (defBody (top 26)) = true := by decide +kernel
theorem sc_over : FnScope N_over [PySem.Str.ofString "one", PySem.Str.ofString "another"] (defScope (top 26)) := ⟨rfl, rfl, rfl, by decide +kernel, rfl, by decide +kernel, by decide +kernel⟩
theorem ck_at_most : chkB tb b_at_most ⟨N_at_most, defScope (top 27), fun _ => true⟩ (defBody (top 27)) = true := by decide +kernel
theorem sc_at_most : FnScope N_at_most [PySem.Str.ofString "one", PySem.Str.ofString "another"] (defScope (top 27)) := ⟨rfl, rfl, rfl, by decide +kernel, rfl, by decide +kernel, by decide +kernel⟩
theorem ck_rounded_up : chkB tb b_rounded_up ⟨N_rounded_up, defScope (top 28), fun _ => true⟩ (defBody (top 28)) = true := by decide +kernel
theorem sc_rounded_up : FnScope N_rounded_up [PySem.Str.ofString "one"] (defScope (top 28)) := ⟨rfl, rfl, rfl, by decide +kernel, rfl, by decide +kernel, by decide +kernel⟩
theorem ck_need_two : chkB tb b_need_two ⟨N_need_two, defScope (top 29), fun _ => true⟩ (defBody (top 29)) = true := by decide +kernel
theorem sc_need_two : FnScope N_need_two [PySem.Str.ofString "one", PySem.Str.ofString "another"] (defScope (top 29)) := ⟨rfl, rfl, rfl, by decide +kernel, rfl, by decide +kernel, by decide +kernel⟩
theorem ck_lowest : chkB tb b_lowest ⟨N_lowest, defScope (top 30), fun _ => true⟩ (defBody (top 30)) = true := by decide +kernel
theorem sc_lowest : FnScope N_lowest [PySem.Str.ofString "top", PySem.Str.ofString "bottom"] (defScope (top 30)) := ⟨rfl, rfl, rfl, by decide +kernel, rfl, by decide +kernel, by decide +kernel⟩
theorem ck__law_whole : chkB tb b__law_whole ⟨N__law_whole, defScope (top 34), fun _ => true⟩ (defBody (top 34)) = true := by decide +kernel
theorem sc__law_whole : FnScope N__law_whole [PySem.Str.ofString "_law_thing_here"] (defScope (top 34)) := ⟨rfl, rfl, rfl, by decide +kernel, rfl, by decide +kernel, by decide +kernel⟩
theorem ck__law_lowest : chkB tb b__law_lowest ⟨N__law_lowest, defScope (top 35), fun _ => true⟩ (defBody (top 35)) = true := by decide +kernel
theorem sc__law_lowest : FnScope N__law_lowest [PySem.Str.ofString "_law_thing_here"] (defScope (top 35)) := ⟨rfl, rfl, rfl, by decide +kernel, rfl, by decide +kernel, by decide +kernel⟩
theorem ck__law_stands : chkB tb b__law_stands ⟨N__law_stands, defScope (top 36), fun _ => true⟩ (defBody (top 36)) = true := by decide +kernel
theorem sc__law_stands : FnScope N__law_stands [PySem.Str.ofString "_law_told", PySem.Str.ofString "_law_top_here", PySem.Str.ofString "_law_bottom"] (defScope (top 36)) := ⟨rfl, rfl, rfl, by decide +kernel, rfl, by decide +kernel, by decide +kernel⟩
theorem ck__law_ascending : chkB tb b__law_ascending ⟨N__law_ascending, defScope (top 37), fun _ => true⟩ (defBody (top 37)) = true := by decide +kernel
theorem sc__law_ascending : FnScope N__law_ascending [PySem.Str.ofString "_law_thing_here", PySem.Str.ofString "_law_many"] (defScope (top 37)) := ⟨rfl, rfl, rfl, by decide +kernel, rfl, by decide +kernel, by decide +kernel⟩
theorem ck__law_pair : chkB tb b__law_pair ⟨N__law_pair, defScope (top 38), fun _ => true⟩ (defBody (top 38)) = true := by decide +kernel
theorem sc__law_pair : FnScope N__law_pair [PySem.Str.ofString "_law_size", PySem.Str.ofString "_law_thing_here"] (defScope (top 38)) := ⟨rfl, rfl, rfl, by decide +kernel, rfl, by decide +kernel, by decide +kernel⟩
theorem ck__law_once : chkB tb b__law_once ⟨N__law_once, defScope (top 39), fun _ => true⟩ (defBody (top 39)) = true := by decide +kernel
theorem sc__law_once : FnScope N__law_once [PySem.Str.ofString "_law_many", PySem.Str.ofString "_law_thing_here"] (defScope (top 39)) := ⟨rfl, rfl, rfl, by decide +kernel, rfl, by decide +kernel, by decide +kernel⟩
theorem ck__law_each : chkB tb b__law_each ⟨N__law_each, defScope (top 40), fun _ => true⟩ (defBody (top 40)) = true := by decide +kernel
theorem sc__law_each : FnScope N__law_each [PySem.Str.ofString "_law_many", PySem.Str.ofString "_law_thing_here", PySem.Str.ofString "_law_way"] (defScope (top 40)) := ⟨rfl, rfl, rfl, by decide +kernel, rfl, by decide +kernel, by decide +kernel⟩
theorem ck__law_odd : chkB tb b__law_odd ⟨N__law_odd, defScope (top 41), fun _ => true⟩ (defBody (top 41)) = true := by decide +kernel
theorem sc__law_odd : FnScope N__law_odd [PySem.Str.ofString "_law_well_here"] (defScope (top 41)) := ⟨rfl, rfl, rfl, by decide +kernel, rfl, by decide +kernel, by decide +kernel⟩
theorem ck__law_columns : chkB tb b__law_columns ⟨N__law_columns, defScope (top 42), fun _ => true⟩ (defBody (top 42)) = true := by decide +kernel
theorem sc__law_columns : FnScope N__law_columns [PySem.Str.ofString "_law_well_here", PySem.Str.ofString "_law_size"] (defScope (top 42)) := ⟨rfl, rfl, rfl, by decide +kernel, rfl, by decide +kernel, by decide +kernel⟩
theorem ck__law_thing : chkB tb b__law_thing ⟨N__law_thing, defScope (top 43), fun _ => true⟩ (defBody (top 43)) = true := by decide +kernel
theorem sc__law_thing : FnScope N__law_thing [PySem.Str.ofString "_law_well_here", PySem.Str.ofString "_law_way", PySem.Str.ofString "_law_size", PySem.Str.ofString "_law_many"] (defScope (top 43)) := ⟨rfl, rfl, rfl, by decide +kernel, rfl, by decide +kernel, by decide +kernel⟩
theorem ck__law_kinds : chkB tb b__law_kinds ⟨N__law_kinds, defScope (top 44), fun _ => true⟩ (defBody (top 44)) = true := by decide +kernel
theorem sc__law_kinds : FnScope N__law_kinds [PySem.Str.ofString "_law_well_here"] (defScope (top 44)) := ⟨rfl, rfl, rfl, by decide +kernel, rfl, by decide +kernel, by decide +kernel⟩
theorem ck__law_ask : chkB tb b__law_ask ⟨N__law_ask, defScope (top 45), fun _ => true⟩ (defBody (top 45)) = true := by decide +kernel
theorem sc__law_ask : FnScope N__law_ask [PySem.Str.ofString "_law_which", PySem.Str.ofString "_law_one", PySem.Str.ofString "_law_another"] (defScope (top 45)) := ⟨rfl, rfl, rfl, by decide +kernel, rfl, by decide +kernel, by decide +kernel⟩
theorem ck__law_refused : chkB tb b__law_refused ⟨N__law_refused, defScope (top 46), fun _ => true⟩ (defBody (top 46)) = true := by decide +kernel
theorem sc__law_refused : FnScope N__law_refused [PySem.Str.ofString "_law_told", PySem.Str.ofString "_law_name"] (defScope (top 46)) := ⟨rfl, rfl, rfl, by decide +kernel, rfl, by decide +kernel, by decide +kernel⟩
theorem ck__law_refusals : chkB tb b__law_refusals ⟨N__law_refusals, defScope (top 47), fun _ => true⟩ (defBody (top 47)) = true := by decide +kernel
theorem sc__law_refusals : FnScope N__law_refusals [PySem.Str.ofString "_law_well_here", PySem.Str.ofString "_law_one", PySem.Str.ofString "_law_another"] (defScope (top 47)) := ⟨rfl, rfl, rfl, by decide +kernel, rfl, by decide +kernel, by decide +kernel⟩
theorem ck__law_each_word : chkB tb b__law_each_word ⟨N__law_each_word, defScope (top 48), fun _ => true⟩ (defBody (top 48)) = true := by decide +kernel
theorem sc__law_each_word : FnScope N__law_each_word [PySem.Str.ofString "_law_words", PySem.Str.ofString "_law_dues"] (defScope (top 48)) := ⟨rfl, rfl, rfl, by decide +kernel, rfl, by decide +kernel, by decide +kernel⟩
theorem ck__law_sums : chkB tb b__law_sums ⟨N__law_sums, defScope (top 49), fun _ => true⟩ (defBody (top 49)) = true := by decide +kernel
theorem sc__law_sums : FnScope N__law_sums [PySem.Str.ofString "_law_a", PySem.Str.ofString "_law_b", PySem.Str.ofString "_law_c", PySem.Str.ofString "_law_d"] (defScope (top 49)) := ⟨rfl, rfl, rfl, by decide +kernel, rfl, by decide +kernel, by decide +kernel⟩
theorem ck__law_top : chkB tb b__law_top ⟨N__law_top, defScope (top 50), fun _ => true⟩ (defBody (top 50)) = true := by decide +kernel
theorem sc__law_top : FnScope N__law_top [PySem.Str.ofString "_law_well_here"] (defScope (top 50)) := ⟨rfl, rfl, rfl, by decide +kernel, rfl, by decide +kernel, by decide +kernel⟩
def N_law : List Str := [PySem.Str.ofString "_law_script", PySem.Str.ofString "_law_well_here", PySem.Str.ofString "_law_a", PySem.Str.ofString "_law_b", PySem.Str.ofString "_law_c", PySem.Str.ofString "_law_d", PySem.Str.ofString "_law_near"]
def b_law : T := (.cons (.asg 2 (.call 40 (.cons (.nm 1) .nil))) (.cons (.asg 3 (.bin .add (.kI 1) (.call 23 (.cons (.nm 1) (.cons (.ix (.tup (.cons (.kI 6) (.cons (.kI 60) .nil))) (.call 23 (.cons (.nm 1) (.cons (.kI 2) .nil)))) .nil))))) (.cons (.asg 4 (.call 40 (.cons (.nm 1) .nil))) (.cons (.asg 5 (.bin .add (.kI 1) (.call 23 (.cons (.nm 1) (.cons (.ix (.tup (.cons (.kI 6) (.cons (.kI 60) .nil))) (.call 23 (.cons (.nm 1) (.cons (.kI 2) .nil)))) .nil))))) (.cons (.asg 6 (.call 23 (.cons (.nm 1) (.cons (.kI 8) .nil)))) (.cons (.ifs (.cmp .lt (.nm 6) (.kI 2)) (.cons (.asg 4 (.ife (.cmp .eq (.nm 6) (.kI 0)) (.nm 2) (.neg (.nm 2)))) (.cons (.asg 5 (.nm 3)) .nil)) (.cons (.ifs (.cmp .eq (.nm 6) (.kI 2)) (.cons (.asg 4 (.kI 0)) .nil) .nil) .nil)) (.cons (.ifs (.bor (.cons (.not (.call 39 (.cons (.nm 2) (.cons (.nm 3) (.cons (.nm 4) (.cons (.nm 5) .nil)))))) (.cons (.not (.call 37 (.cons (.nm 1) (.cons (.call 14 (.cons (.nm 2) (.cons (.nm 3) .nil))) (.cons (.call 14 (.cons (.nm 4) (.cons (.nm 5) .nil))) .nil))))) .nil))) (.cons (.ret (.kB false)) .nil) .nil) (.cons (.ret (.band (.cons (.call 34 (.cons (.nm 1) .nil)) (.cons (.call 39 (.cons (.nm 4) (.cons (.nm 5) (.cons (.nm 2) (.cons (.nm 3) .nil))))) .nil)))) .nil))))))))
theorem ck_law : chkB tb b_law ⟨N_law, defScope (top 51), fun _ => true⟩ ((defBody (top 51)).drop 1) = true := by decide +kernel
theorem sc_law : FnScope N_law [PySem.Str.ofString "_law_script"] (defScope (top 51)) := ⟨rfl, rfl, rfl, by decide +kernel, rfl, by decide +kernel, by decide +kernel⟩
end K00
set_option Elab.async false
set_option linter.all false
set_option maxRecDepth 100000
set_option maxHeartbeats 4000000
namespace K00
open PySem PySem.Spec PyProof.Rows L2 Rx
/-! ### the well is made -/
theorem bd_pow {i j : Int} (h : powB i j = true) : binD .pow (.int i) (.int j) = some (.val (.int (i ^ j.toNat))) := by
  show (if powB i j = true then some (Got.val (.int (i ^ j.toNat))) else none) = _
  rw [if_pos h]
theorem pow18 : binD .pow (.int 10) (.int 18) = some (.val (.int 1000000000000000000)) := bd_pow (by decide +kernel)
def spWell (K : PySem.W.Frag) : Sp := fun vs H Q _ => ∃ (a : Addr) (ns : List Int), vs = [.ref a] ∧ SqL K H a (ns.map V.int) ∧ ns.length ≤ 63 ∧
  ∀ (H' : Hp) (p q : Addr) (gs : List Int) (sd : Int), H p = none → H q = none → p ≠ q → L2.Same H H' → H' p = some (.lst [.ref q, .int sd]) → H' q = some (.lst (gs.map V.int)) → gs.length ≤ 63 → 0 ≤ sd → sd < 2147483629 → Q (.ref p) H'
def rAbs : List V → Hp → VK → Prop := fun xs H Q => ∃ i, xs = [.int i] ∧ Q (.int (if i < 0 then -i else i)) H
def tAbs (te : TE) : TE := tCB rAbs (tCons te tNil)
def t_well (aw : Addr) (K : PySem.W.Frag) : TS :=
  tSeq (tAsg (tLst tNil) (gName 1))
  (tSeq (tAsg (tC (.int 70001)) (gName 2))
  (tSeq (tFor (iList K (tVar 0)) (gName 3)
    (tSeq (tIfS (tTest (tOp (rI0 fun i j => .bl (decide (j ≤ i))) (tAbs (tVar 3)) (tBin aw K .pow (tC (.int 10)) (tC (.int 18))))) (tDrop (tBM K "list" rAppend (tVar 1) (tCons (tAbs (tVar 3)) tNil))) tNext)
    (tAsg (tBin aw K .mod (tInt (tBin aw K .add (tBin aw K .add (tBin aw K .mul (tVar 2) (tC (.int 7919))) (tVar 3)) (tC (.int 17)))) (tC (.int 2147483629))) (gName 2))))
  (tRet (tLst (tCons (tVar 1) (tCons (tVar 2) tNil))))))
theorem upd_mono {H : Hp} {p : Addr} {o : HO} (h : H p = none) : L2.Same H (upd H p o) := fun b x e => by
  rw [upd_ne (ne_of_none e h)]
  exact e
section
variable {P : Program} {wd : World} {K : PySem.W.Frag} {mg : Str → Option Value} {base : Heap} {aw : Addr}
theorem pure_well (vs : List V) (H : Hp) (Q : VK) (E : XK) (h : spWell K vs H Q E) : t_well aw K { nx := fun _ H' => Q .non H', rt := Q } (L2.start ["_law_script", "_law_great", "_law_seed", "_law_cell"] vs) H := by
  obtain ⟨a, ns, rfl, hS, hl, k⟩ := h
  refine ⟨by decide, fun q hq => ?_⟩
  have S1 := upd_mono (o := .lst []) hq
  refine ⟨_, rfl, a, rfl, ⟨_, S1.seq hS⟩, for_list (K := K) (a := a) (xs := ns.map V.int) (fun i σ H' => ∃ gs sd c, σ = [some (.ref a), some (.ref q), some (.int sd), c] ∧ H' = upd H q (.lst ((gs : List Int).map V.int)) ∧ gs.length ≤ i ∧ 0 ≤ sd ∧ sd < 2147483629)
    ⟨[], 70001, none, rfl, rfl, Nat.le_refl _, by decide, by decide⟩ ?_ ?_ ?_⟩
  · rintro i σ H' _ ⟨gs, sd, c, rfl, rfl, _⟩
    exact (upd_mono hq).seq hS
  · rintro i x σ H' hx ⟨gs, sd, c, rfl, rfl, h1, h2, h3⟩
    obtain ⟨z, hz, rfl⟩ : ∃ z, ns[i]? = some z ∧ x = V.int z := by
      rw [List.getElem?_map] at hx
      cases e : ns[i]? with
      | none => rw [e] at hx; cases hx
      | some z => rw [e] at hx; exact ⟨z, rfl, (Option.some.inj hx).symm⟩
    have hi : i < ns.length := (List.getElem?_eq_some_iff.mp hz).1
    have seed : ∀ gs2 : List Int, gs2.length ≤ i + 1 → tAsg (tBin aw K .mod (tInt (tBin aw K .add (tBin aw K .add (tBin aw K .mul (tVar 2) (tC (.int 7919))) (tVar 3)) (tC (.int 17)))) (tC (.int 2147483629))) (gName 2)
        { nx := fun σ H' => ∃ gs sd c, σ = [some (.ref a), some (.ref q), some (.int sd), c] ∧ H' = upd H q (.lst ((gs : List Int).map V.int)) ∧ gs.length ≤ i + 1 ∧ 0 ≤ sd ∧ sd < 2147483629,
          ct := fun σ H' => ∃ gs sd c, σ = [some (.ref a), some (.ref q), some (.int sd), c] ∧ H' = upd H q (.lst ((gs : List Int).map V.int)) ∧ gs.length ≤ i + 1 ∧ 0 ≤ sd ∧ sd < 2147483629,
          bk := fun σ H' => tRet (tLst (tCons (tVar 1) (tCons (tVar 2) tNil))) { nx := fun _ H' => Q .non H', rt := Q } σ H', rt := Q } [some (.ref a), some (.ref q), some (.int sd), some (.int z)] (upd H q (.lst (gs2.map V.int))) := fun gs2 hg => by
      refine ⟨.int sd, rfl, rb_int (bd_mul (p64 (by omega)) (p64 (by decide))) ?_⟩
      refine ⟨.int z, rfl, rb_int rfl (rb_int rfl (.inl ⟨_, rfl, rb_int (bd_mod (by decide)) ?_⟩))⟩
      obtain ⟨z1, z2⟩ := fmod_rng (a := sd * 7919 + z + 17) (m := 2147483629) (by decide)
      exact ⟨gs2, _, _, rfl, rfl, hg, z1, z2⟩
    refine ⟨.int z, rfl, z, rfl, rb_int pow18 ⟨_, _, rfl, rfl, _, rfl, ?_⟩⟩
    generalize hm : (if z < 0 then -z else z) = m
    by_cases hb : (1000000000000000000 : Int) ≤ m
    · refine ifT (decide_eq_true hb) ?_
      refine ⟨.ref q, rfl, .inl ⟨rfl, _, SqL.of upd_same⟩, .int z, rfl, z, rfl, q, _, .int (if z < 0 then -z else z), rfl, rfl, upd_same, ?_, ?_⟩
      · rw [List.length_map, sizeLine_eq]; omega
      · rw [upd_upd]
        have e : gs.map V.int ++ [V.int (if z < 0 then -z else z)] = (gs ++ [if z < 0 then -z else z]).map V.int := by rw [List.map_append]; rfl
        rw [e]
        exact seed _ (by rw [List.length_append]; simp only [List.length_cons, List.length_nil]; omega)
    · refine ifF (decide_eq_false hb) ?_
      exact seed gs (by omega)
  · rintro σ H' ⟨gs, sd, c, rfl, rfl, h1, h2, h3⟩
    rw [List.length_map] at h1
    refine ⟨_, rfl, _, rfl, (by show 2 ≤ sizeLine; decide), fun p hp => ?_⟩
    have hpq : p ≠ q := fun z => by rw [z, upd_same] at hp; cases hp
    rw [upd_ne hpq] at hp
    refine k _ p q gs sd hp hq hpq ((upd_mono hq).trans (upd_mono (by rw [upd_ne hpq]; exact hp))) upd_same ?_ (by omega) h2 h3
    rw [upd_ne (Ne.symm hpq), upd_same]
theorem well_ok {f : Addr} {fd : FuncData} (F : Fun K "_law_well" "_law_well" sWell f fd) (zi : mg "int" = none) (za : mg "abs" = none) : FnOk P wd K mg base (L2.CX P wd) 2 f fd ["_law_script"] (spWell K) := by
  refine F.okX scW (fun vs H Q E h => ?_) fun cdv A outer s H vs Q E hr h => ⟨t_well 0 K, ?_, pure_well vs H Q E h⟩
  · obtain ⟨a, ns, rfl, _⟩ := h
    rfl
  have oi : ∀ o, OpR (cxOf (L2.CX P wd) P wd K mg base ["_law_script", "_law_great", "_law_seed", "_law_cell"] "_law_well" (defScope sWell) f cdv A outer s H E) (binaryOp o.op) (rBin 0 K o) := fun o => op_bin o
  exact pss_cons (ps_set (i := 1) scW.nd rfl (.inl rfl) (pe_lst pa_nil))
    (pss_cons (ps_set (i := 2) scW.nd rfl (.inl rfl) pe_int)
    (pss_cons (ps_for (passes_of rfl) rfl (pi_list (pv 0)) (pg_name (i := 3) scW.nd rfl (.inl rfl))
      (pss_cons (ps_if (pt_cmpR op_ge (pe_callB call_abs (by rfl) za (by decide +kernel) (pa_cons (pv 3) pa_nil)) (pe_op (oi .pow) pe_int pe_int) (nomark _))
        (pss_one (ps_expr (pe_bm PySem.F.plainAttrs_list PySem.F.slot_list_append PySem.F.type_list_append mt_append (pv 1) (pa_cons (pe_callB call_abs (by rfl) za (by decide +kernel) (pa_cons (pv 3) pa_nil)) pa_nil)))) pss_nil)
      (pss_one (ps_set (i := 2) scW.nd rfl (.inl rfl) (pe_op (oi .mod) (pe_callTy call_int1 (by rfl) zi (by decide +kernel) (pa_cons (pe_op (oi .add) (pe_op (oi .add) (pe_op (oi .mul) (pv 2) pe_int) (pv 3)) pe_int) pa_nil)) pe_int)))))
    (pss_one (ps_ret (pe_lst (pa_cons (pv 1) (pa_cons (pv 2) pa_nil)))))))
/-! ### an error of two fields -/
theorem exd_eq {dx : Addr} {fs gs : List (Str × V)} (h : ∀ f, fs.lookup f = gs.lookup f) : exd dx fs = exd dx gs := by
  unfold exd
  simp only [h]
def stInit (c : Stmt) : Stmt := match c with
  | .ClassDef _ _ _ b _ _ _ _ _ _ _ => b.getD 0 (.Pass ⟨0, 0, 0, 0⟩)
  | _ => .Pass ⟨0, 0, 0, 0⟩
def sInit : Stmt := stInit (top 4)
theorem scI : FnScope ["self", "word", "at"] ["self", "word", "at"] (defScope sInit) := ⟨rfl, rfl, rfl, by decide +kernel, rfl, by decide +kernel, by decide +kernel⟩
def spIni (C : Addr) (fl : List Str) : Sp := fun vs H Q _ => ∃ a C' ws, vs = .ref a :: ws ∧ ws.length = fl.length ∧ H a = some (exo a C' none) ∧ C' = C ∧
        ∀ dx, H dx = none → dx ≠ a → Q .non (upd (upd H dx (exd dx (fl.zip ws))) a (exo a C (some dx)))
theorem ini_ok {C : Addr} {f : Addr} {fd : FuncData} (F : Fun K "__init__" "NotUsable.__init__" sInit f fd) (T : OexC K C) (h0 : PySem.W.findIn K (.ref C) "word" = some none) (h1 : PySem.W.findIn K (.ref C) "at" = some none) :
    FnOk P wd K mg base (L2.CX P wd) 1 f fd ["self", "word", "at"] (spIni C ["word", "at"]) := by
  refine F.okX scI (fun vs H Q E h => ?_) fun cdv A outer s H vs Q E hr h => ⟨tSeq (tOst K "word" (tVar 0) (tVar 1)) (tOst K "at" (tVar 0) (tVar 2)), pss_cons (ps_ost (pv 0) (pv 1)) (pss_one (ps_ost (pv 0) (pv 2))), ?_⟩
  · obtain ⟨a, C', ws, rfl, hl, _⟩ := h
    rw [List.length_cons, hl]
    rfl
  · obtain ⟨a, C', ws, rfl, hl, ha, rfl, k⟩ := h
    match ws, hl with
    | [w0, w1], _ =>
      refine ⟨w0, rfl, .ref a, rfl, a, _, rfl, T, h0, .inl ⟨ha, fun dx hdx hne => ?_⟩⟩
      refine ⟨w1, rfl, .ref a, rfl, a, _, rfl, T, h1, .inr ⟨dx, [("word", w0)], upd_same, by rw [upd_ne hne, upd_same], (by show 1 ≤ 900; decide), ?_⟩⟩
      have z := k dx hdx hne
      have e : upd (upd (upd H dx (exd dx [(("word" : Str), w0)])) a (exo a C' (some dx))) dx (exd dx ((("at" : Str), w1) :: [(("word" : Str), w0)])) = upd (upd H dx (exd dx ((["word", "at"] : List Str).zip [w0, w1]))) a (exo a C' (some dx)) := by
        have e2 : exd dx ((("at" : Str), w1) :: [(("word" : Str), w0)]) = exd dx ((["word", "at"] : List Str).zip [w0, w1]) := exd_eq fun f => by
          by_cases h1 : f = "at"
          · subst h1
            rfl
          · by_cases h2 : f = "word"
            · subst h2
              rfl
            · have n1 : (f == ("at" : Str)) = false := beq_eq_false_iff_ne.mpr h1
              have n2 : (f == ("word" : Str)) = false := beq_eq_false_iff_ne.mpr h2
              show List.lookup f [(("at" : Str), w1), (("word" : Str), w0)] = List.lookup f [(("word" : Str), w0), (("at" : Str), w1)]
              simp only [List.lookup_cons, n1, n2, List.lookup_nil]
        rw [e2]
        funext b
        by_cases hb : b = dx
        · rw [hb, upd_same, upd_ne hne, upd_same]
        · rw [upd_ne hb]
          by_cases hba : b = a
          · rw [hba, upd_same, upd_same]
          · rw [upd_ne hba, upd_ne hba, upd_ne hb, upd_ne hb]
      rw [e]
      exact z
end
end K00
set_option Elab.async false
set_option linter.all false
set_option maxRecDepth 100000
set_option maxHeartbeats 4000000
namespace K00
open PySem PySem.Spec PyProof.Rows L2 Rx
/-! the defs as the top leaves them -/
def DefF (K : PySem.W.Frag) (mg : Str → Option Value) (x : Str) (st : Stmt) : Prop := ∃ f fd, mg x = some (.ref f) ∧ Fun K x x st f fd
theorem defF {K : PySem.W.Frag} {h : Heap} {mg : Str → Option Value} {x : Str} {st : Stmt} {f : Addr} {oc kV dc pm cd ct : Value} {od an : Option Addr} {sl : Array (Option Value)} (X : K.In h) (G : h.Ns mainGlobals mg)
    (a : PySem.W.nsIn K mainGlobals x = some (some (.ref f))) (l : K.lookup f = some ⟨oc, od, .func (PySem.W.fnOf x x (defArgs st) (defBody st) (defScope st) .none kV dc pm an cd ct), sl⟩) (c : PySem.W.codeIn K cd x = true) (k : PySem.W.keepIn K (.ref f) = true) : DefF K mg x st :=
  ⟨f, _, PySem.W.mg_of X G a, fun_mk (st := st) l c k⟩
theorem fnT_of {K : PySem.W.Frag} {mg : Str → Option Value} {i : Nat} {x : Str} {ps : List Str} {st : Stmt} {F : Fn} (d : DefF K mg x st) (S : FnScope F.N ps (defScope st)) (ck : chkB tb F.body ⟨F.N, defScope st, fun _ => true⟩ (defBody st) = true)
    (hb : ∀ (kV doc pm : Value) (an : Option Addr) (cdv ct : Value) (us : List Value), us.length = ps.length → bindArgs (PySem.W.fnOf x x (defArgs st) (defBody st) (defScope st) .none kV doc pm an cdv ct) ⟨us, []⟩ = pure (ps.zip us))
    (hk : ∀ ks, (i, ks) ∈ tb.kws → ∀ (kV doc pm : Value) (an : Option Addr) (cdv ct : Value) (ws : List Value), ws.length = ks.length → bindArgs (PySem.W.fnOf x x (defArgs st) (defBody st) (defScope st) .none kV doc pm an cdv ct) ⟨[], (ks.filterMap fun k => ps[k]?).zip ws⟩ = pure (ps.zip (byKs .none ks ws))) : FnT K mg tb i x ps F := by
  obtain ⟨f, fd, h1, h2⟩ := d
  refine ⟨f, fd, st, h1, h2, S, ck, h2.binds hb, fun ks hks s ws _ hl => ?_⟩
  obtain ⟨oc, od, kV, doc, pm, an, cdv, ct, osl, rfl, lk, hcd⟩ := h2.ex
  exact .of_eq (hk ks hks kV doc pm an cdv ct ws hl)
section
variable {K : PySem.W.Frag} {mg : Str → Option Value}
theorem ft_need (d : DefF K mg "need" (top 6)) : FnT K mg tb 0 "need" [PySem.Str.ofString "holds", PySem.Str.ofString "word"] ⟨PySem.Str.ofString "need", N_need, 2, b_need, none⟩ := fnT_of d sc_need ck_need (fun _ _ _ _ _ _ us hl => match us, hl with | [_, _], _ => rfl) (fun ks h => by simp [tb] at h)
theorem ft_is_tuple_of (d : DefF K mg "is_tuple_of" (top 7)) : FnT K mg tb 1 "is_tuple_of" [PySem.Str.ofString "many", PySem.Str.ofString "thing"] ⟨PySem.Str.ofString "is_tuple_of", N_is_tuple_of, 2, b_is_tuple_of, none⟩ := fnT_of d sc_is_tuple_of ck_is_tuple_of (fun _ _ _ _ _ _ us hl => match us, hl with | [_, _], _ => rfl) (fun ks h => by simp [tb] at h)
theorem ft_ascends (d : DefF K mg "ascends" (top 8)) : FnT K mg tb 2 "ascends" [PySem.Str.ofString "things"] ⟨PySem.Str.ofString "ascends", N_ascends, 1, b_ascends, none⟩ := fnT_of d sc_ascends ck_ascends (fun _ _ _ _ _ _ us hl => match us, hl with | [_], _ => rfl) (fun ks h => by simp [tb] at h)
theorem ft_is_integer (d : DefF K mg "is_integer" (top 10)) : FnT K mg tb 3 "is_integer" [PySem.Str.ofString "thing"] ⟨PySem.Str.ofString "is_integer", N_is_integer, 1, b_is_integer, none⟩ := fnT_of d sc_is_integer ck_is_integer (fun _ _ _ _ _ _ us hl => match us, hl with | [_], _ => rfl) (fun ks h => by simp [tb] at h)
theorem ft_is_number (d : DefF K mg "is_number" (top 11)) : FnT K mg tb 4 "is_number" [PySem.Str.ofString "thing"] ⟨PySem.Str.ofString "is_number", N_is_number, 1, b_is_number, none⟩ := fnT_of d sc_is_number ck_is_number (fun _ _ _ _ _ _ us hl => match us, hl with | [_], _ => rfl) (fun ks h => by simp [tb] at h)
theorem ft_is_word (d : DefF K mg "is_word" (top 12)) : FnT K mg tb 5 "is_word" [PySem.Str.ofString "thing"] ⟨PySem.Str.ofString "is_word", N_is_word, 1, b_is_word, none⟩ := fnT_of d sc_is_word ck_is_word (fun _ _ _ _ _ _ us hl => match us, hl with | [_], _ => rfl) (fun ks h => by simp [tb] at h)
theorem ft_is_quotient (d : DefF K mg "is_quotient" (top 13)) : FnT K mg tb 6 "is_quotient" [PySem.Str.ofString "thing"] ⟨PySem.Str.ofString "is_quotient", N_is_quotient, 1, b_is_quotient, none⟩ := fnT_of d sc_is_quotient ck_is_quotient (fun _ _ _ _ _ _ us hl => match us, hl with | [_], _ => rfl) (fun ks h => by simp [tb] at h)
theorem ft_is_lot (d : DefF K mg "is_lot" (top 14)) : FnT K mg tb 7 "is_lot" [PySem.Str.ofString "size", PySem.Str.ofString "thing"] ⟨PySem.Str.ofString "is_lot", N_is_lot, 2, b_is_lot, none⟩ := fnT_of d sc_is_lot ck_is_lot (fun _ _ _ _ _ _ us hl => match us, hl with | [_, _], _ => rfl) (fun ks h => by simp [tb] at h)
theorem ft_is_dependence (d : DefF K mg "is_dependence" (top 15)) : FnT K mg tb 8 "is_dependence" [PySem.Str.ofString "size", PySem.Str.ofString "thing"] ⟨PySem.Str.ofString "is_dependence", N_is_dependence, 2, b_is_dependence, none⟩ := fnT_of d sc_is_dependence ck_is_dependence (fun _ _ _ _ _ _ us hl => match us, hl with | [_, _], _ => rfl) (fun ks h => by
    have e : ks = [1, 0] := by simpa [tb] using h
    subst e
    exact fun _ _ _ _ _ _ ws hl => match ws, hl with | [_, _], _ => rfl)
theorem ft_is_group (d : DefF K mg "is_group" (top 16)) : FnT K mg tb 9 "is_group" [PySem.Str.ofString "many", PySem.Str.ofString "thing"] ⟨PySem.Str.ofString "is_group", N_is_group, 2, b_is_group, none⟩ := fnT_of d sc_is_group ck_is_group (fun _ _ _ _ _ _ us hl => match us, hl with | [_, _], _ => rfl) (fun ks h => by
    have e : ks = [1, 0] := by simpa [tb] using h
    subst e
    exact fun _ _ _ _ _ _ ws hl => match ws, hl with | [_, _], _ => rfl)
theorem ft_is_sequence (d : DefF K mg "is_sequence" (top 17)) : FnT K mg tb 10 "is_sequence" [PySem.Str.ofString "many", PySem.Str.ofString "thing"] ⟨PySem.Str.ofString "is_sequence", N_is_sequence, 2, b_is_sequence, none⟩ := fnT_of d sc_is_sequence ck_is_sequence (fun _ _ _ _ _ _ us hl => match us, hl with | [_, _], _ => rfl) (fun ks h => by simp [tb] at h)
theorem ft_is_weights (d : DefF K mg "is_weights" (top 18)) : FnT K mg tb 11 "is_weights" [PySem.Str.ofString "many", PySem.Str.ofString "thing"] ⟨PySem.Str.ofString "is_weights", N_is_weights, 2, b_is_weights, none⟩ := fnT_of d sc_is_weights ck_is_weights (fun _ _ _ _ _ _ us hl => match us, hl with | [_, _], _ => rfl) (fun ks h => by simp [tb] at h)
theorem ft_is_shares (d : DefF K mg "is_shares" (top 19)) : FnT K mg tb 12 "is_shares" [PySem.Str.ofString "many", PySem.Str.ofString "thing"] ⟨PySem.Str.ofString "is_shares", N_is_shares, 2, b_is_shares, none⟩ := fnT_of d sc_is_shares ck_is_shares (fun _ _ _ _ _ _ us hl => match us, hl with | [_, _], _ => rfl) (fun ks h => by simp [tb] at h)
theorem ft_are_numbers_below (d : DefF K mg "are_numbers_below" (top 20)) : FnT K mg tb 13 "are_numbers_below" [PySem.Str.ofString "limit", PySem.Str.ofString "thing"] ⟨PySem.Str.ofString "are_numbers_below", N_are_numbers_below, 2, b_are_numbers_below, none⟩ := fnT_of d sc_are_numbers_below ck_are_numbers_below (fun _ _ _ _ _ _ us hl => match us, hl with | [_, _], _ => rfl) (fun ks h => by simp [tb] at h)
theorem ft_quotient_of (d : DefF K mg "quotient_of" (top 22)) : FnT K mg tb 14 "quotient_of" [PySem.Str.ofString "top", PySem.Str.ofString "bottom"] ⟨PySem.Str.ofString "quotient_of", N_quotient_of, 2, b_quotient_of, none⟩ := fnT_of d sc_quotient_of ck_quotient_of (fun _ _ _ _ _ _ us hl => match us, hl with | [_, _], _ => rfl) (fun ks h => by
    have e : ks = [1, 0] := by simpa [tb] using h
    subst e
    exact fun _ _ _ _ _ _ ws hl => match ws, hl with | [_, _], _ => rfl)
theorem ft_plus (d : DefF K mg "plus" (top 23)) : FnT K mg tb 15 "plus" [PySem.Str.ofString "one", PySem.Str.ofString "another"] ⟨PySem.Str.ofString "plus", N_plus, 2, b_plus, none⟩ := fnT_of d sc_plus ck_plus (fun _ _ _ _ _ _ us hl => match us, hl with | [_, _], _ => rfl) (fun ks h => by simp [tb] at h)
theorem ft_minus (d : DefF K mg "minus" (top 24)) : FnT K mg tb 16 "minus" [PySem.Str.ofString "one", PySem.Str.ofString "another"] ⟨PySem.Str.ofString "minus", N_minus, 2, b_minus, none⟩ := fnT_of d sc_minus ck_minus (fun _ _ _ _ _ _ us hl => match us, hl with | [_, _], _ => rfl) (fun ks h => by
    have e : ks = [1, 0] := by simpa [tb] using h
    subst e
    exact fun _ _ _ _ _ _ ws hl => match ws, hl with | [_, _], _ => rfl)
theorem ft_times (d : DefF K mg "times" (top 25)) : FnT K mg tb 17 "times" [PySem.Str.ofString "one", PySem.Str.ofString "another"] ⟨PySem.Str.ofString "times", N_times, 2, b_times, none⟩ := fnT_of d sc_times ck_times (fun _ _ _ _ _ _ us hl => match us, hl with | [_, _], _ => rfl) (fun ks h => by simp [tb] at h)
theorem ft_over (d : DefF K mg "over" (top 26)) : FnT K mg tb 18 "over" [PySem.Str.ofString "one", PySem.Str.ofString "another"] ⟨PySem.Str.ofString "over", N_over, 2, b_over, none⟩ := fnT_of d sc_over ck_over (fun _ _ _ _ _ _ us hl => match us, hl with | [_, _], _ => rfl) (fun ks h => by
    have e : ks = [1, 0] := by simpa [tb] using h
    subst e
    exact fun _ _ _ _ _ _ ws hl => match ws, hl with | [_, _], _ => rfl)
theorem ft_at_most (d : DefF K mg "at_most" (top 27)) : FnT K mg tb 19 "at_most" [PySem.Str.ofString "one", PySem.Str.ofString "another"] ⟨PySem.Str.ofString "at_most", N_at_most, 2, b_at_most, none⟩ := fnT_of d sc_at_most ck_at_most (fun _ _ _ _ _ _ us hl => match us, hl with | [_, _], _ => rfl) (fun ks h => by
    have e : ks = [1, 0] := by simpa [tb] using h
    subst e
    exact fun _ _ _ _ _ _ ws hl => match ws, hl with | [_, _], _ => rfl)
theorem ft_rounded_up (d : DefF K mg "rounded_up" (top 28)) : FnT K mg tb 20 "rounded_up" [PySem.Str.ofString "one"] ⟨PySem.Str.ofString "rounded_up", N_rounded_up, 1, b_rounded_up, none⟩ := fnT_of d sc_rounded_up ck_rounded_up (fun _ _ _ _ _ _ us hl => match us, hl with | [_], _ => rfl) (fun ks h => by simp [tb] at h)
theorem ft_need_two (d : DefF K mg "need_two" (top 29)) : FnT K mg tb 21 "need_two" [PySem.Str.ofString "one", PySem.Str.ofString "another"] ⟨PySem.Str.ofString "need_two", N_need_two, 2, b_need_two, none⟩ := fnT_of d sc_need_two ck_need_two (fun _ _ _ _ _ _ us hl => match us, hl with | [_, _], _ => rfl) (fun ks h => by simp [tb] at h)
theorem ft_lowest (d : DefF K mg "lowest" (top 30)) : FnT K mg tb 22 "lowest" [PySem.Str.ofString "top", PySem.Str.ofString "bottom"] ⟨PySem.Str.ofString "lowest", N_lowest, 2, b_lowest, none⟩ := fnT_of d sc_lowest ck_lowest (fun _ _ _ _ _ _ us hl => match us, hl with | [_, _], _ => rfl) (fun ks h => by simp [tb] at h)
theorem ft__law_whole (d : DefF K mg "_law_whole" (top 34)) : FnT K mg tb 24 "_law_whole" [PySem.Str.ofString "_law_thing_here"] ⟨PySem.Str.ofString "_law_whole", N__law_whole, 1, b__law_whole, none⟩ := fnT_of d sc__law_whole ck__law_whole (fun _ _ _ _ _ _ us hl => match us, hl with | [_], _ => rfl) (fun ks h => by simp [tb] at h)
theorem ft__law_lowest (d : DefF K mg "_law_lowest" (top 35)) : FnT K mg tb 25 "_law_lowest" [PySem.Str.ofString "_law_thing_here"] ⟨PySem.Str.ofString "_law_lowest", N__law_lowest, 1, b__law_lowest, none⟩ := fnT_of d sc__law_lowest ck__law_lowest (fun _ _ _ _ _ _ us hl => match us, hl with | [_], _ => rfl) (fun ks h => by simp [tb] at h)
theorem ft__law_stands (d : DefF K mg "_law_stands" (top 36)) : FnT K mg tb 26 "_law_stands" [PySem.Str.ofString "_law_told", PySem.Str.ofString "_law_top_here", PySem.Str.ofString "_law_bottom"] ⟨PySem.Str.ofString "_law_stands", N__law_stands, 3, b__law_stands, none⟩ := fnT_of d sc__law_stands ck__law_stands (fun _ _ _ _ _ _ us hl => match us, hl with | [_, _, _], _ => rfl) (fun ks h => by simp [tb] at h)
theorem ft__law_ascending (d : DefF K mg "_law_ascending" (top 37)) : FnT K mg tb 27 "_law_ascending" [PySem.Str.ofString "_law_thing_here", PySem.Str.ofString "_law_many"] ⟨PySem.Str.ofString "_law_ascending", N__law_ascending, 2, b__law_ascending, none⟩ := fnT_of d sc__law_ascending ck__law_ascending (fun _ _ _ _ _ _ us hl => match us, hl with | [_, _], _ => rfl) (fun ks h => by simp [tb] at h)
theorem ft__law_pair (d : DefF K mg "_law_pair" (top 38)) : FnT K mg tb 28 "_law_pair" [PySem.Str.ofString "_law_size", PySem.Str.ofString "_law_thing_here"] ⟨PySem.Str.ofString "_law_pair", N__law_pair, 2, b__law_pair, none⟩ := fnT_of d sc__law_pair ck__law_pair (fun _ _ _ _ _ _ us hl => match us, hl with | [_, _], _ => rfl) (fun ks h => by simp [tb] at h)
theorem ft__law_once (d : DefF K mg "_law_once" (top 39)) : FnT K mg tb 29 "_law_once" [PySem.Str.ofString "_law_many", PySem.Str.ofString "_law_thing_here"] ⟨PySem.Str.ofString "_law_once", N__law_once, 2, b__law_once, none⟩ := fnT_of d sc__law_once ck__law_once (fun _ _ _ _ _ _ us hl => match us, hl with | [_, _], _ => rfl) (fun ks h => by simp [tb] at h)
theorem ft__law_each (d : DefF K mg "_law_each" (top 40)) : FnT K mg tb 30 "_law_each" [PySem.Str.ofString "_law_many", PySem.Str.ofString "_law_thing_here", PySem.Str.ofString "_law_way"] ⟨PySem.Str.ofString "_law_each", N__law_each, 3, b__law_each, none⟩ := fnT_of d sc__law_each ck__law_each (fun _ _ _ _ _ _ us hl => match us, hl with | [_, _, _], _ => rfl) (fun ks h => by simp [tb] at h)
theorem ft__law_odd (d : DefF K mg "_law_odd" (top 41)) : FnT K mg tb 31 "_law_odd" [PySem.Str.ofString "_law_well_here"] ⟨PySem.Str.ofString "_law_odd", N__law_odd, 1, b__law_odd, none⟩ := fnT_of d sc__law_odd ck__law_odd (fun _ _ _ _ _ _ us hl => match us, hl with | [_], _ => rfl) (fun ks h => by simp [tb] at h)
theorem ft__law_columns (d : DefF K mg "_law_columns" (top 42)) : FnT K mg tb 32 "_law_columns" [PySem.Str.ofString "_law_well_here", PySem.Str.ofString "_law_size"] ⟨PySem.Str.ofString "_law_columns", N__law_columns, 2, b__law_columns, none⟩ := fnT_of d sc__law_columns ck__law_columns (fun _ _ _ _ _ _ us hl => match us, hl with | [_, _], _ => rfl) (fun ks h => by simp [tb] at h)
theorem ft__law_thing (d : DefF K mg "_law_thing" (top 43)) : FnT K mg tb 33 "_law_thing" [PySem.Str.ofString "_law_well_here", PySem.Str.ofString "_law_way", PySem.Str.ofString "_law_size", PySem.Str.ofString "_law_many"] ⟨PySem.Str.ofString "_law_thing", N__law_thing, 4, b__law_thing, none⟩ := fnT_of d sc__law_thing ck__law_thing (fun _ _ _ _ _ _ us hl => match us, hl with | [_, _, _, _], _ => rfl) (fun ks h => by simp [tb] at h)
theorem ft__law_kinds (d : DefF K mg "_law_kinds" (top 44)) : FnT K mg tb 34 "_law_kinds" [PySem.Str.ofString "_law_well_here"] ⟨PySem.Str.ofString "_law_kinds", N__law_kinds, 1, b__law_kinds, none⟩ := fnT_of d sc__law_kinds ck__law_kinds (fun _ _ _ _ _ _ us hl => match us, hl with | [_], _ => rfl) (fun ks h => by simp [tb] at h)
theorem ft__law_ask (d : DefF K mg "_law_ask" (top 45)) : FnT K mg tb 35 "_law_ask" [PySem.Str.ofString "_law_which", PySem.Str.ofString "_law_one", PySem.Str.ofString "_law_another"] ⟨PySem.Str.ofString "_law_ask", N__law_ask, 3, b__law_ask, none⟩ := fnT_of d sc__law_ask ck__law_ask (fun _ _ _ _ _ _ us hl => match us, hl with | [_, _, _], _ => rfl) (fun ks h => by simp [tb] at h)
theorem ft__law_refused (d : DefF K mg "_law_refused" (top 46)) : FnT K mg tb 36 "_law_refused" [PySem.Str.ofString "_law_told", PySem.Str.ofString "_law_name"] ⟨PySem.Str.ofString "_law_refused", N__law_refused, 2, b__law_refused, none⟩ := fnT_of d sc__law_refused ck__law_refused (fun _ _ _ _ _ _ us hl => match us, hl with | [_, _], _ => rfl) (fun ks h => by simp [tb] at h)
theorem ft__law_refusals (d : DefF K mg "_law_refusals" (top 47)) : FnT K mg tb 37 "_law_refusals" [PySem.Str.ofString "_law_well_here", PySem.Str.ofString "_law_one", PySem.Str.ofString "_law_another"] ⟨PySem.Str.ofString "_law_refusals", N__law_refusals, 3, b__law_refusals, none⟩ := fnT_of d sc__law_refusals ck__law_refusals (fun _ _ _ _ _ _ us hl => match us, hl with | [_, _, _], _ => rfl) (fun ks h => by simp [tb] at h)
theorem ft__law_each_word (d : DefF K mg "_law_each_word" (top 48)) : FnT K mg tb 38 "_law_each_word" [PySem.Str.ofString "_law_words", PySem.Str.ofString "_law_dues"] ⟨PySem.Str.ofString "_law_each_word", N__law_each_word, 2, b__law_each_word, none⟩ := fnT_of d sc__law_each_word ck__law_each_word (fun _ _ _ _ _ _ us hl => match us, hl with | [_, _], _ => rfl) (fun ks h => by simp [tb] at h)
theorem ft__law_sums (d : DefF K mg "_law_sums" (top 49)) : FnT K mg tb 39 "_law_sums" [PySem.Str.ofString "_law_a", PySem.Str.ofString "_law_b", PySem.Str.ofString "_law_c", PySem.Str.ofString "_law_d"] ⟨PySem.Str.ofString "_law_sums", N__law_sums, 4, b__law_sums, none⟩ := fnT_of d sc__law_sums ck__law_sums (fun _ _ _ _ _ _ us hl => match us, hl with | [_, _, _, _], _ => rfl) (fun ks h => by simp [tb] at h)
theorem ft__law_top (d : DefF K mg "_law_top" (top 50)) : FnT K mg tb 40 "_law_top" [PySem.Str.ofString "_law_well_here"] ⟨PySem.Str.ofString "_law_top", N__law_top, 1, b__law_top, none⟩ := fnT_of d sc__law_top ck__law_top (fun _ _ _ _ _ _ us hl => match us, hl with | [_], _ => rfl) (fun ks h => by simp [tb] at h)
end
end K00
set_option Elab.async false
set_option linter.all false
set_option maxRecDepth 100000
set_option maxHeartbeats 4000000
namespace K00
open PySem PySem.Spec PyProof.Rows L2 Rx
/-! ### what the kinds' defs give -/
def noD : PyData → Bool
  | .dict _ => false
  | _ => true
def isI : PyData → Bool
  | .int _ => true
  | _ => false
def isN : PyData → Bool
  | .int i => decide (0 ≤ i)
  | _ => false
def isB : PyData → Bool
  | .bool _ => true
  | _ => false
theorem e3 (k : Nat) (d : PyData) (w : Wl) (h : noD d = true) : callF fns 1 (k + 1) 3 [d] w = .ok (.bool (isI d)) w := by
  cases d <;> first | rfl | (cases h; done)
theorem e4 (k : Nat) (d : PyData) (w : Wl) (h : noD d = true) : callF fns 1 (k + 2) 4 [d] w = .ok (.bool (isN d)) w := by
  cases d <;> first | rfl | (cases h; done)
theorem e5 (k : Nat) (d : PyData) (w : Wl) (h : noD d = true) : callF fns 1 (k + 1) 5 [d] w = .ok (.bool (isB d)) w := by
  cases d <;> first | rfl | (cases h; done)
def isT (n : Int) : PyData → Bool
  | .tuple xs => decide ((xs.length : Int) = n)
  | _ => false
theorem e1 (k : Nat) (n : Int) (d : PyData) (w : Wl) (h : noD d = true) : callF fns 1 (k + 1) 1 [.int n, d] w = .ok (.bool (isT n d)) w := by
  cases d <;> first | rfl | (cases h; done)
theorem ix2_0 (x y : PyData) : ixD (.tuple [x, y]) (.int 0) = some x := rfl
theorem ix2_1 (x y : PyData) : ixD (.tuple [x, y]) (.int 1) = some y := rfl
theorem cm_eq (a b : Int) : cmpD .eq (.int a) (.int b) = some (decide (a = b)) := rfl
theorem cm_ne (a b : Int) : cmpD .ne (.int a) (.int b) = some (!decide (a = b)) := rfl
theorem cm_lt (a b : Int) : cmpD .lt (.int a) (.int b) = some (decide (a < b)) := rfl
theorem cm_le (a b : Int) : cmpD .le (.int a) (.int b) = some (decide (a ≤ b)) := rfl
theorem cm_gt (a b : Int) : cmpD .gt (.int a) (.int b) = some (decide (b < a)) := rfl
theorem cm_ge (a b : Int) : cmpD .ge (.int a) (.int b) = some (decide (b ≤ a)) := rfl
theorem bd_add (a b : Int) : binD .add (.int a) (.int b) = some (.val (.int (a + b))) := rfl
theorem bd_sub (a b : Int) : binD .sub (.int a) (.int b) = some (.val (.int (a - b))) := rfl
theorem bi_len_t (xs : List PyData) : biD .len [.tuple xs] = some (.val (.int xs.length)) := rfl
theorem bi_len_l (xs : List PyData) : biD .len [.list xs] = some (.val (.int xs.length)) := rfl
theorem bi_gcd (a b : Int) : biD .gcd [.int a, .int b] = some (.val (.int (Nat.gcd a.natAbs b.natAbs : Nat))) := rfl
theorem tr_bool (b : Bool) : truD (.bool b) = some b := rfl
end K00
set_option Elab.async false
set_option linter.all false
set_option maxRecDepth 100000
set_option maxHeartbeats 4000000
namespace K00
open PySem PySem.Spec PyProof.Rows L2 Rx
/-! ### comprehensions -/
theorem compF_map {f : PyData → Wl → Rz (Option PyData)} {g : PyData → PyData} : ∀ {items : List PyData} (h : ∀ d ∈ items, ∀ w, f d w = .ok (some (g d)) w) (acc : List PyData) (w : Wl), compF f items acc w = .ok (acc ++ items.map g) w
  | [], _, acc, w => by
    show Rz.ok acc w = _
    rw [List.map_nil, List.append_nil]
  | d :: r, h, acc, w => by
    show (f d w).bnd (fun o w => compF f r (acc ++ o.toList) w) = _
    rw [h d List.mem_cons_self w]
    show compF f r (acc ++ [g d]) w = _
    rw [compF_map (fun x hx => h x (List.mem_cons_of_mem _ hx)), List.map_cons, List.append_assoc]
    rfl
theorem boolsOf_m (b : PyData → Bool) (xs : List PyData) : boolsOf (xs.map fun d => .bool (b d)) = some (xs.map b) := by
  have := boolsOf_map (xs.map b)
  rw [List.map_map] at this
  exact this
theorem bi_all (b : PyData → Bool) (xs : List PyData) : biD .all [.list (xs.map fun d => .bool (b d))] = some (.val (.bool (xs.all b))) := by
  show (boolsOf (xs.map fun d => .bool (b d))).map (fun bs => Got.val (.bool (bs.all id))) = _
  rw [boolsOf_m, Option.map_some, List.all_map]
  rfl
/-! ### tame data: no dicts, not long, not deep -/
def tm : Nat → PyData → Bool
  | _, .dict _ => false
  | 0, .list _ => false
  | 0, .tuple _ => false
  | n + 1, .list xs => decide (xs.length ≤ 100) && xs.all (tm n)
  | n + 1, .tuple xs => decide (xs.length ≤ 100) && xs.all (tm n)
  | _, .int i => decide (i.natAbs < 2 ^ 150)
  | _, _ => true
theorem noD_of {n : Nat} {d : PyData} (h : tm n d = true) : noD d = true := by
  cases d <;> first | rfl | (cases n <;> cases h; done)
theorem tm_tup {n : Nat} {xs : List PyData} (h : tm n (.tuple xs) = true) : xs.length ≤ 100 ∧ ∃ m, n = m + 1 ∧ ∀ x ∈ xs, tm m x = true := by
  cases n with
  | zero => cases h
  | succ m =>
    have h' : (decide (xs.length ≤ 100) && xs.all (tm m)) = true := h
    simp only [Bool.and_eq_true, decide_eq_true_eq, List.all_eq_true] at h'
    exact ⟨h'.1, m, rfl, h'.2⟩
theorem tm_up : ∀ {n : Nat} {d : PyData}, tm n d = true → tm (n + 1) d = true
  | 0, d, h => by cases d <;> first | rfl | exact h | (cases h; done)
  | n + 1, .tuple xs, h => by
    have h' : (decide (xs.length ≤ 100) && xs.all (tm n)) = true := h
    show (decide (xs.length ≤ 100) && xs.all (tm (n + 1))) = true
    simp only [Bool.and_eq_true, decide_eq_true_eq, List.all_eq_true] at h' ⊢
    exact ⟨h'.1, fun x hx => tm_up (h'.2 x hx)⟩
  | n + 1, .list xs, h => by
    have h' : (decide (xs.length ≤ 100) && xs.all (tm n)) = true := h
    show (decide (xs.length ≤ 100) && xs.all (tm (n + 1))) = true
    simp only [Bool.and_eq_true, decide_eq_true_eq, List.all_eq_true] at h' ⊢
    exact ⟨h'.1, fun x hx => tm_up (h'.2 x hx)⟩
  | n + 1, .none, _ => rfl
  | n + 1, .bool _, _ => rfl
  | n + 1, .int _, h => h
  | n + 1, .str _, _ => rfl
  | n + 1, .dict _, h => by cases h
/-! ### numbers below -/
def isNb (l : Int) : PyData → Bool
  | .int i => decide (0 ≤ i) && decide (i < l)
  | _ => false
def isNB (l : Int) : PyData → Bool
  | .tuple xs => xs.all (isNb l)
  | _ => false
theorem c13 (k : Nat) (l : Int) (d : PyData) (w : Wl) : callF fns 1 (k + 1) 13 [.int l, d] w = fin (Rx.run (callF fns 1 k) 1 b_are_numbers_below [.val (.int l), .val d, .no] w) := rfl
theorem e13 (k : Nat) (l : Int) (d : PyData) (w : Wl) {n : Nat} (h : tm n d = true) : callF fns 1 (k + 3) 13 [.int l, d] w = .ok (.bool (isNB l d)) w := by
  cases d <;> first | rfl | (cases n <;> cases h; done) | skip
  rename_i xs
  obtain ⟨hl, m, rfl, hx⟩ := tm_tup h
  rw [c13]
  unfold b_are_numbers_below
  simp only [Rx.run, sem, Sm.ex, Sm.tst, Sm.none_, vNot, vBin, vNeg, vCmp, vCmp2, vIfe, vTup, vLst, vIx, vSlc, vIsi, vBi, vLset, vLrng, vTrng, vLc, Rx.iRng1, Rx.iRng2, slotV, slotP, isNil, isNm, Rz.bnd, Rz.map, Rz.x, Xr.seq, asB, boolR, intR, Got.d, Got.slot, storeS, frzS, ownAt, ofO, noOwn, wipeS, asgG, asgGs, itemsD, List.getElem?_cons_zero, List.getElem?_cons_succ, List.set_cons_zero, List.set_cons_succ, List.length_cons, List.length_nil, if_true, if_false, Bool.false_eq_true, Bool.not_false, Bool.not_true, List.all_cons, List.all_nil, Bool.and_true, List.map_cons, List.map_nil, Nat.reduceAdd, Nat.reduceLT, Nat.zero_add, Option.toList, isiD, truD]
  rw [compF_map (g := fun d => .bool (isNb l d))]
  · simp only [List.nil_append, bi_all]
    rfl
  · intro d hd w
    simp only [turnLc, noExc, Rx.run, sem, Sm.ex, Sm.tst, Sm.none_, vNot, vBin, vNeg, vCmp, vCmp2, vIfe, vTup, vLst, vIx, vSlc, vIsi, vBi, vLset, vLrng, vTrng, vLc, Rx.iRng1, Rx.iRng2, slotV, slotP, isNil, isNm, Rz.bnd, Rz.map, Rz.x, Xr.seq, asB, boolR, intR, Got.d, Got.slot, storeS, frzS, ownAt, ofO, noOwn, wipeS, asgG, asgGs, itemsD, List.getElem?_cons_zero, List.getElem?_cons_succ, List.set_cons_zero, List.set_cons_succ, List.length_cons, List.length_nil, if_true, if_false, Bool.false_eq_true, Bool.not_false, Bool.not_true, List.all_cons, List.all_nil, Bool.and_true, List.map_cons, List.map_nil, Nat.reduceAdd, Nat.reduceLT, Nat.zero_add, Option.toList, e4 k d w (noD_of (hx d hd))]
    cases d <;> first | rfl | skip
    rename_i i
    by_cases h0 : 0 ≤ i
    · simp only [isN, isNb, h0, decide_true, Bool.true_and, if_true]
      rfl
    · simp only [isN, isNb, h0, decide_false, Bool.false_and, if_false, Bool.false_eq_true]
end K00
set_option Elab.async false
set_option linter.all false
set_option maxRecDepth 100000
set_option maxHeartbeats 4000000
namespace K00
open PySem PySem.Spec PyProof.Rows L2 Rx
def toI : PyData → Int
  | .int i => i
  | _ => 0
def asc (ns : List Int) : Bool := (List.range (ns.length - 1)).all fun k => decide (ns.getD k 0 < ns.getD (k + 1) 0)
theorem rng_ok {n : Int} (h : -1 ≤ n ∧ n ≤ 1000000) : rngD 0 n = some ((List.range n.toNat).map fun (i : Nat) => PyData.int (0 + (i : Int))) := by
  unfold rngD
  rw [if_pos (by omega), Int.sub_zero]
theorem NB_ints {l : Int} : ∀ {xs : List PyData}, xs.all (isNb l) = true → ∃ ns : List Int, xs = ns.map PyData.int ∧ ∀ i ∈ ns, 0 ≤ i ∧ i < l
  | [], _ => ⟨[], rfl, fun i h => by cases h⟩
  | x :: r, h => by
    simp only [List.all_cons, Bool.and_eq_true] at h
    obtain ⟨ns, e, hn⟩ := NB_ints h.2
    cases x <;> first | (cases h.1; done) | skip
    rename_i i
    have hi : (decide (0 ≤ i) && decide (i < l)) = true := h.1
    simp only [Bool.and_eq_true, decide_eq_true_eq] at hi
    refine ⟨i :: ns, by rw [e]; rfl, fun j hj => ?_⟩
    rcases List.mem_cons.mp hj with z | z
    · rw [z]; exact hi
    · exact hn j z
theorem c2 (k : Nat) (d : PyData) (w : Wl) : callF fns 1 (k + 1) 2 [d] w = fin (Rx.run (callF fns 1 k) 1 b_ascends [.val d, .no] w) := rfl
def ascB (ns : List Int) : PyData → Bool
  | .int i => decide (ns.getD i.toNat 0 < ns.getD (i.toNat + 1) 0)
  | _ => false
theorem ixT {ns : List Int} {j : Nat} (h : j < ns.length) : ixD (.tuple (ns.map PyData.int)) (.int (j : Int)) = some (.int (ns.getD j 0)) := by
  show atI (ns.map PyData.int) (j : Int) = _
  refine atI_nat ?_
  rw [List.getElem?_map, List.getElem?_eq_getElem h, List.getD_eq_getElem?_getD, List.getElem?_eq_getElem h]
  rfl
theorem e2 (k : Nat) (ns : List Int) (w : Wl) (h : ns.length ≤ 100) : callF fns 1 (k + 1) 2 [.tuple (ns.map PyData.int)] w = .ok (.bool (asc ns)) w := by
  rw [c2]
  unfold b_ascends
  have hr := rng_ok (n := ((ns.map PyData.int).length : Int) - 1) (by rw [List.length_map]; omega)
  simp only [Rx.run, sem, Sm.ex, Sm.tst, Sm.none_, vNot, vBin, vNeg, vCmp, vCmp2, vIfe, vTup, vLst, vIx, vSlc, vIsi, vBi, vLset, vLrng, vTrng, vLc, Rx.iRng1, Rx.iRng2, slotV, slotP, isNil, isNm, Rz.bnd, Rz.map, Rz.x, Xr.seq, asB, boolR, intR, Got.d, Got.slot, storeS, frzS, ownAt, ofO, noOwn, wipeS, asgG, asgGs, itemsD, List.getElem?_cons_zero, List.getElem?_cons_succ, List.set_cons_zero, List.set_cons_succ, List.length_cons, List.length_nil, if_true, if_false, Bool.false_eq_true, Bool.not_false, Bool.not_true, List.all_cons, List.all_nil, Bool.and_true, List.map_cons, List.map_nil, Nat.reduceAdd, Nat.reduceLT, Nat.zero_add, Option.toList, bi_len_t, binD, hr]
  rw [compF_map (g := fun d => .bool (ascB ns d))]
  · simp only [List.nil_append, bi_all]
    show Rz.ok (PyData.bool _) w = _
    congr 2
    unfold asc
    rw [List.all_map, show (((ns.map PyData.int).length : Int) - 1).toNat = ns.length - 1 by rw [List.length_map]; omega]
    congr 1
    funext i
    show ascB ns (.int (0 + (i : Int))) = _
    rw [Int.zero_add]
    rfl
  · intro d hd w
    obtain ⟨i, hi, rfl⟩ := List.mem_map.mp hd
    rw [List.mem_range, List.length_map] at hi
    have h1 := ixT (ns := ns) (j := i) (by omega)
    have h2 := ixT (ns := ns) (j := i + 1) (by omega)
    rw [Int.zero_add]
    simp only [turnLc, noExc, Rx.run, sem, Sm.ex, Sm.tst, Sm.none_, vNot, vBin, vNeg, vCmp, vCmp2, vIfe, vTup, vLst, vIx, vSlc, vIsi, vBi, vLset, vLrng, vTrng, vLc, Rx.iRng1, Rx.iRng2, slotV, slotP, isNil, isNm, Rz.bnd, Rz.map, Rz.x, Xr.seq, asB, boolR, intR, Got.d, Got.slot, storeS, frzS, ownAt, ofO, noOwn, wipeS, asgG, asgGs, itemsD, List.getElem?_cons_zero, List.getElem?_cons_succ, List.set_cons_zero, List.set_cons_succ, List.length_cons, List.length_nil, if_true, if_false, Bool.false_eq_true, Bool.not_false, Bool.not_true, List.all_cons, List.all_nil, Bool.and_true, List.map_cons, List.map_nil, Nat.reduceAdd, Nat.reduceLT, Nat.zero_add, Option.toList, binD, h1, show ((i : Int) + 1) = ((i + 1 : Nat) : Int) by omega, h2]
    rfl
def ascD : PyData → Bool
  | .tuple xs => asc (xs.map toI)
  | _ => false
theorem toI_map (ns : List Int) : (ns.map PyData.int).map toI = ns := by
  rw [List.map_map]
  exact List.map_id ns
def isLot (l : Int) (d : PyData) : Bool := isNB l d && ascD d
theorem NB_tup {l : Int} {d : PyData} (h : isNB l d = true) : ∃ ns : List Int, d = .tuple (ns.map PyData.int) ∧ ∀ i ∈ ns, 0 ≤ i ∧ i < l := by
  cases d <;> first | (cases h; done) | skip
  obtain ⟨ns, e, hn⟩ := NB_ints h
  exact ⟨ns, by rw [e], hn⟩
theorem c7 (k : Nat) (l : Int) (d : PyData) (w : Wl) : callF fns 1 (k + 1) 7 [.int l, d] w = fin (Rx.run (callF fns 1 k) 1 b_is_lot [.val (.int l), .val d] w) := rfl
theorem e7 (k : Nat) (l : Int) (d : PyData) (w : Wl) {n : Nat} (h : tm n d = true) : callF fns 1 (k + 4) 7 [.int l, d] w = .ok (.bool (isLot l d)) w := by
  rw [c7]
  unfold b_is_lot isLot
  simp only [Rx.run, sem, Sm.ex, Sm.tst, Sm.none_, vNot, vBin, vNeg, vCmp, vCmp2, vIfe, vTup, vLst, vIx, vSlc, vIsi, vBi, vLset, vLrng, vTrng, vLc, Rx.iRng1, Rx.iRng2, slotV, slotP, isNil, isNm, Rz.bnd, Rz.map, Rz.x, Xr.seq, asB, boolR, intR, Got.d, Got.slot, storeS, frzS, ownAt, ofO, noOwn, wipeS, asgG, asgGs, itemsD, List.getElem?_cons_zero, List.getElem?_cons_succ, List.set_cons_zero, List.set_cons_succ, List.length_cons, List.length_nil, if_true, if_false, Bool.false_eq_true, Bool.not_false, Bool.not_true, List.all_cons, List.all_nil, Bool.and_true, List.map_cons, List.map_nil, Nat.reduceAdd, Nat.reduceLT, Nat.zero_add, Option.toList, e13 k l d w h]
  cases hb : isNB l d with
  | false => rfl
  | true =>
    obtain ⟨ns, rfl, hn⟩ := NB_tup hb
    have hl := (tm_tup h).1
    rw [List.length_map] at hl
    simp only [if_true, e2 (k + 2) ns w hl, ascD, toI_map]
    rfl
theorem c9 (k : Nat) (l : Int) (d : PyData) (w : Wl) : callF fns 1 (k + 1) 9 [.int l, d] w = fin (Rx.run (callF fns 1 k) 1 b_is_group [.val (.int l), .val d] w) := rfl
theorem e9 (k : Nat) (l : Int) (d : PyData) (w : Wl) {n : Nat} (h : tm n d = true) : callF fns 1 (k + 4) 9 [.int l, d] w = .ok (.bool (isLot l d)) w := by
  rw [c9]
  unfold b_is_group isLot
  simp only [Rx.run, sem, Sm.ex, Sm.tst, Sm.none_, vNot, vBin, vNeg, vCmp, vCmp2, vIfe, vTup, vLst, vIx, vSlc, vIsi, vBi, vLset, vLrng, vTrng, vLc, Rx.iRng1, Rx.iRng2, slotV, slotP, isNil, isNm, Rz.bnd, Rz.map, Rz.x, Xr.seq, asB, boolR, intR, Got.d, Got.slot, storeS, frzS, ownAt, ofO, noOwn, wipeS, asgG, asgGs, itemsD, List.getElem?_cons_zero, List.getElem?_cons_succ, List.set_cons_zero, List.set_cons_succ, List.length_cons, List.length_nil, if_true, if_false, Bool.false_eq_true, Bool.not_false, Bool.not_true, List.all_cons, List.all_nil, Bool.and_true, List.map_cons, List.map_nil, Nat.reduceAdd, Nat.reduceLT, Nat.zero_add, Option.toList, e13 k l d w h]
  cases hb : isNB l d with
  | false => rfl
  | true =>
    obtain ⟨ns, rfl, hn⟩ := NB_tup hb
    have hl := (tm_tup h).1
    rw [List.length_map] at hl
    simp only [if_true, e2 (k + 2) ns w hl, ascD, toI_map]
    rfl
def isDep (l : Int) (d : PyData) : Bool := isT 2 d && (match d with | .tuple xs => xs.all (isLot l) | _ => false)
theorem c8 (k : Nat) (l : Int) (d : PyData) (w : Wl) : callF fns 1 (k + 1) 8 [.int l, d] w = fin (Rx.run (callF fns 1 k) 1 b_is_dependence [.val (.int l), .val d, .no] w) := rfl
theorem e8 (k : Nat) (l : Int) (d : PyData) (w : Wl) {n : Nat} (h : tm n d = true) : callF fns 1 (k + 5) 8 [.int l, d] w = .ok (.bool (isDep l d)) w := by
  rw [c8]
  unfold b_is_dependence isDep
  simp only [Rx.run, sem, Sm.ex, Sm.tst, Sm.none_, vNot, vBin, vNeg, vCmp, vCmp2, vIfe, vTup, vLst, vIx, vSlc, vIsi, vBi, vLset, vLrng, vTrng, vLc, Rx.iRng1, Rx.iRng2, slotV, slotP, isNil, isNm, Rz.bnd, Rz.map, Rz.x, Xr.seq, asB, boolR, intR, Got.d, Got.slot, storeS, frzS, ownAt, ofO, noOwn, wipeS, asgG, asgGs, itemsD, List.getElem?_cons_zero, List.getElem?_cons_succ, List.set_cons_zero, List.set_cons_succ, List.length_cons, List.length_nil, if_true, if_false, Bool.false_eq_true, Bool.not_false, Bool.not_true, List.all_cons, List.all_nil, Bool.and_true, List.map_cons, List.map_nil, Nat.reduceAdd, Nat.reduceLT, Nat.zero_add, Option.toList, e1 (k + 3) 2 d w (noD_of h)]
  cases hb : isT 2 d with
  | false => rfl
  | true =>
    cases d <;> first | (cases hb; done) | skip
    rename_i xs
    obtain ⟨hl, m, rfl, hx⟩ := tm_tup h
    simp only [Rx.run, sem, Sm.ex, Sm.tst, Sm.none_, vNot, vBin, vNeg, vCmp, vCmp2, vIfe, vTup, vLst, vIx, vSlc, vIsi, vBi, vLset, vLrng, vTrng, vLc, Rx.iRng1, Rx.iRng2, slotV, slotP, isNil, isNm, Rz.bnd, Rz.map, Rz.x, Xr.seq, asB, boolR, intR, Got.d, Got.slot, storeS, frzS, ownAt, ofO, noOwn, wipeS, asgG, asgGs, itemsD, List.getElem?_cons_zero, List.getElem?_cons_succ, List.set_cons_zero, List.set_cons_succ, List.length_cons, List.length_nil, if_true, if_false, Bool.false_eq_true, Bool.not_false, Bool.not_true, List.all_cons, List.all_nil, Bool.and_true, List.map_cons, List.map_nil, Nat.reduceAdd, Nat.reduceLT, Nat.zero_add, Option.toList]
    rw [compF_map (g := fun d => .bool (isLot l d))]
    · simp only [List.nil_append, bi_all]
      rfl
    · intro d hd w
      simp only [turnLc, noExc, Rx.run, sem, Sm.ex, Sm.tst, Sm.none_, vNot, vBin, vNeg, vCmp, vCmp2, vIfe, vTup, vLst, vIx, vSlc, vIsi, vBi, vLset, vLrng, vTrng, vLc, Rx.iRng1, Rx.iRng2, slotV, slotP, isNil, isNm, Rz.bnd, Rz.map, Rz.x, Xr.seq, asB, boolR, intR, Got.d, Got.slot, storeS, frzS, ownAt, ofO, noOwn, wipeS, asgG, asgGs, itemsD, List.getElem?_cons_zero, List.getElem?_cons_succ, List.set_cons_zero, List.set_cons_succ, List.length_cons, List.length_nil, if_true, if_false, Bool.false_eq_true, Bool.not_false, Bool.not_true, List.all_cons, List.all_nil, Bool.and_true, List.map_cons, List.map_nil, Nat.reduceAdd, Nat.reduceLT, Nat.zero_add, Option.toList, e7 k l d w (hx d hd)]
def isWts (n : Int) (d : PyData) : Bool := isT n d && (match d with | .tuple xs => xs.all isN | _ => false)
theorem c11 (k : Nat) (l : Int) (d : PyData) (w : Wl) : callF fns 1 (k + 1) 11 [.int l, d] w = fin (Rx.run (callF fns 1 k) 1 b_is_weights [.val (.int l), .val d, .no] w) := rfl
theorem e11 (k : Nat) (l : Int) (d : PyData) (w : Wl) {n : Nat} (h : tm n d = true) : callF fns 1 (k + 3) 11 [.int l, d] w = .ok (.bool (isWts l d)) w := by
  rw [c11]
  unfold b_is_weights isWts
  simp only [Rx.run, sem, Sm.ex, Sm.tst, Sm.none_, vNot, vBin, vNeg, vCmp, vCmp2, vIfe, vTup, vLst, vIx, vSlc, vIsi, vBi, vLset, vLrng, vTrng, vLc, Rx.iRng1, Rx.iRng2, slotV, slotP, isNil, isNm, Rz.bnd, Rz.map, Rz.x, Xr.seq, asB, boolR, intR, Got.d, Got.slot, storeS, frzS, ownAt, ofO, noOwn, wipeS, asgG, asgGs, itemsD, List.getElem?_cons_zero, List.getElem?_cons_succ, List.set_cons_zero, List.set_cons_succ, List.length_cons, List.length_nil, if_true, if_false, Bool.false_eq_true, Bool.not_false, Bool.not_true, List.all_cons, List.all_nil, Bool.and_true, List.map_cons, List.map_nil, Nat.reduceAdd, Nat.reduceLT, Nat.zero_add, Option.toList, e1 (k + 1) l d w (noD_of h)]
  cases hb : isT l d with
  | false => rfl
  | true =>
    cases d <;> first | (cases hb; done) | skip
    rename_i xs
    obtain ⟨hl, m, rfl, hx⟩ := tm_tup h
    simp only [Rx.run, sem, Sm.ex, Sm.tst, Sm.none_, vNot, vBin, vNeg, vCmp, vCmp2, vIfe, vTup, vLst, vIx, vSlc, vIsi, vBi, vLset, vLrng, vTrng, vLc, Rx.iRng1, Rx.iRng2, slotV, slotP, isNil, isNm, Rz.bnd, Rz.map, Rz.x, Xr.seq, asB, boolR, intR, Got.d, Got.slot, storeS, frzS, ownAt, ofO, noOwn, wipeS, asgG, asgGs, itemsD, List.getElem?_cons_zero, List.getElem?_cons_succ, List.set_cons_zero, List.set_cons_succ, List.length_cons, List.length_nil, if_true, if_false, Bool.false_eq_true, Bool.not_false, Bool.not_true, List.all_cons, List.all_nil, Bool.and_true, List.map_cons, List.map_nil, Nat.reduceAdd, Nat.reduceLT, Nat.zero_add, Option.toList]
    rw [compF_map (g := fun d => .bool (isN d))]
    · simp only [List.nil_append, bi_all]
      rfl
    · intro d hd w
      simp only [turnLc, noExc, Rx.run, sem, Sm.ex, Sm.tst, Sm.none_, vNot, vBin, vNeg, vCmp, vCmp2, vIfe, vTup, vLst, vIx, vSlc, vIsi, vBi, vLset, vLrng, vTrng, vLc, Rx.iRng1, Rx.iRng2, slotV, slotP, isNil, isNm, Rz.bnd, Rz.map, Rz.x, Xr.seq, asB, boolR, intR, Got.d, Got.slot, storeS, frzS, ownAt, ofO, noOwn, wipeS, asgG, asgGs, itemsD, List.getElem?_cons_zero, List.getElem?_cons_succ, List.set_cons_zero, List.set_cons_succ, List.length_cons, List.length_nil, if_true, if_false, Bool.false_eq_true, Bool.not_false, Bool.not_true, List.all_cons, List.all_nil, Bool.and_true, List.map_cons, List.map_nil, Nat.reduceAdd, Nat.reduceLT, Nat.zero_add, Option.toList, e4 k d w (noD_of (hx d hd))]
/-! ### quotients told -/
def isQ : PyData → Bool
  | .tuple [.int a, .int b] => decide (1 ≤ b) && decide ((Nat.gcd a.natAbs b.natAbs : Int) = 1)
  | _ => false
theorem c6 (k : Nat) (d : PyData) (w : Wl) : callF fns 1 (k + 1) 6 [d] w = fin (Rx.run (callF fns 1 k) 1 b_is_quotient [.val d, .no] w) := rfl
theorem isT22 (x y : PyData) : isT 2 (.tuple [x, y]) = true := rfl
theorem qq (k : Nat) (a b : Int) (w : Wl) : callF fns 1 (k + 2) 6 [.tuple [.int a, .int b]] w = .ok (.bool (decide (1 ≤ b) && decide ((Nat.gcd a.natAbs b.natAbs : Int) = 1))) w := by
  rw [c6]
  unfold b_is_quotient
  simp only [Rx.run, sem, Sm.ex, Sm.tst, Sm.none_, vNot, vBin, vNeg, vCmp, vCmp2, vIfe, vTup, vLst, vIx, vSlc, vIsi, vBi, vLset, vLrng, vTrng, vLc, Rx.iRng1, Rx.iRng2, slotV, slotP, isNil, isNm, Rz.bnd, Rz.map, Rz.x, Xr.seq, asB, boolR, intR, Got.d, Got.slot, storeS, frzS, ownAt, ofO, noOwn, wipeS, asgG, asgGs, itemsD, List.getElem?_cons_zero, List.getElem?_cons_succ, List.set_cons_zero, List.set_cons_succ, List.length_cons, List.length_nil, if_true, if_false, Bool.false_eq_true, Bool.not_false, Bool.not_true, List.all_cons, List.all_nil, Bool.and_true, List.map_cons, List.map_nil, Nat.reduceAdd, Nat.reduceLT, Nat.zero_add, Option.toList, ix2_0, ix2_1, cm_eq, cm_ne, cm_lt, cm_le, cm_gt, cm_ge, bd_add, bd_sub, bi_len_t, bi_len_l, bi_gcd, tr_bool, e1 k 2 (.tuple [.int a, .int b]) w rfl]
  rw [compF_map (g := fun d => .bool (isI d))]
  · simp only [List.nil_append, bi_all]
    simp only [isI, Rx.run, sem, Sm.ex, Sm.tst, Sm.none_, vNot, vBin, vNeg, vCmp, vCmp2, vIfe, vTup, vLst, vIx, vSlc, vIsi, vBi, vLset, vLrng, vTrng, vLc, Rx.iRng1, Rx.iRng2, slotV, slotP, isNil, isNm, Rz.bnd, Rz.map, Rz.x, Xr.seq, asB, boolR, intR, Got.d, Got.slot, storeS, frzS, ownAt, ofO, noOwn, wipeS, asgG, asgGs, itemsD, List.getElem?_cons_zero, List.getElem?_cons_succ, List.set_cons_zero, List.set_cons_succ, List.length_cons, List.length_nil, if_true, if_false, Bool.false_eq_true, Bool.not_false, Bool.not_true, List.all_cons, List.all_nil, Bool.and_true, List.map_cons, List.map_nil, Nat.reduceAdd, Nat.reduceLT, Nat.zero_add, Option.toList, ix2_0, ix2_1, cm_eq, cm_ne, cm_lt, cm_le, cm_gt, cm_ge, bd_add, bd_sub, bi_len_t, bi_len_l, bi_gcd, tr_bool, isT22]
    cases hb : decide (1 ≤ b) with
    | true =>
      simp only [Rx.run, sem, Sm.ex, Sm.tst, Sm.none_, vNot, vBin, vNeg, vCmp, vCmp2, vIfe, vTup, vLst, vIx, vSlc, vIsi, vBi, vLset, vLrng, vTrng, vLc, Rx.iRng1, Rx.iRng2, slotV, slotP, isNil, isNm, Rz.bnd, Rz.map, Rz.x, Xr.seq, asB, boolR, intR, Got.d, Got.slot, storeS, frzS, ownAt, ofO, noOwn, wipeS, asgG, asgGs, itemsD, List.getElem?_cons_zero, List.getElem?_cons_succ, List.set_cons_zero, List.set_cons_succ, List.length_cons, List.length_nil, if_true, if_false, Bool.false_eq_true, Bool.not_false, Bool.not_true, List.all_cons, List.all_nil, Bool.and_true, List.map_cons, List.map_nil, Nat.reduceAdd, Nat.reduceLT, Nat.zero_add, Option.toList, ix2_0, ix2_1, cm_eq, cm_ne, cm_lt, cm_le, cm_gt, cm_ge, bd_add, bd_sub, bi_len_t, bi_len_l, bi_gcd, tr_bool, hb, Bool.true_and]
      rfl
    | false =>
      simp only [Rx.run, sem, Sm.ex, Sm.tst, Sm.none_, vNot, vBin, vNeg, vCmp, vCmp2, vIfe, vTup, vLst, vIx, vSlc, vIsi, vBi, vLset, vLrng, vTrng, vLc, Rx.iRng1, Rx.iRng2, slotV, slotP, isNil, isNm, Rz.bnd, Rz.map, Rz.x, Xr.seq, asB, boolR, intR, Got.d, Got.slot, storeS, frzS, ownAt, ofO, noOwn, wipeS, asgG, asgGs, itemsD, List.getElem?_cons_zero, List.getElem?_cons_succ, List.set_cons_zero, List.set_cons_succ, List.length_cons, List.length_nil, if_true, if_false, Bool.false_eq_true, Bool.not_false, Bool.not_true, List.all_cons, List.all_nil, Bool.and_true, List.map_cons, List.map_nil, Nat.reduceAdd, Nat.reduceLT, Nat.zero_add, Option.toList, ix2_0, ix2_1, cm_eq, cm_ne, cm_lt, cm_le, cm_gt, cm_ge, bd_add, bd_sub, bi_len_t, bi_len_l, bi_gcd, tr_bool, hb, Bool.false_and]
      rfl
  · intro d hd w
    have hn : noD d = true := by
      rcases List.mem_cons.mp hd with rfl | hd
      · rfl
      · rcases List.mem_cons.mp hd with rfl | hd
        · rfl
        · cases hd
    simp only [turnLc, noExc, Rx.run, sem, Sm.ex, Sm.tst, Sm.none_, vNot, vBin, vNeg, vCmp, vCmp2, vIfe, vTup, vLst, vIx, vSlc, vIsi, vBi, vLset, vLrng, vTrng, vLc, Rx.iRng1, Rx.iRng2, slotV, slotP, isNil, isNm, Rz.bnd, Rz.map, Rz.x, Xr.seq, asB, boolR, intR, Got.d, Got.slot, storeS, frzS, ownAt, ofO, noOwn, wipeS, asgG, asgGs, itemsD, List.getElem?_cons_zero, List.getElem?_cons_succ, List.set_cons_zero, List.set_cons_succ, List.length_cons, List.length_nil, if_true, if_false, Bool.false_eq_true, Bool.not_false, Bool.not_true, List.all_cons, List.all_nil, Bool.and_true, List.map_cons, List.map_nil, Nat.reduceAdd, Nat.reduceLT, Nat.zero_add, Option.toList, ix2_0, ix2_1, cm_eq, cm_ne, cm_lt, cm_le, cm_gt, cm_ge, bd_add, bd_sub, bi_len_t, bi_len_l, bi_gcd, tr_bool, e3 k d w hn]
theorem e6 (k : Nat) (d : PyData) (w : Wl) {n : Nat} (h : tm n d = true) : callF fns 1 (k + 2) 6 [d] w = .ok (.bool (isQ d)) w := by
  rw [c6]
  unfold b_is_quotient
  simp only [Rx.run, sem, Sm.ex, Sm.tst, Sm.none_, vNot, vBin, vNeg, vCmp, vCmp2, vIfe, vTup, vLst, vIx, vSlc, vIsi, vBi, vLset, vLrng, vTrng, vLc, Rx.iRng1, Rx.iRng2, slotV, slotP, isNil, isNm, Rz.bnd, Rz.map, Rz.x, Xr.seq, asB, boolR, intR, Got.d, Got.slot, storeS, frzS, ownAt, ofO, noOwn, wipeS, asgG, asgGs, itemsD, List.getElem?_cons_zero, List.getElem?_cons_succ, List.set_cons_zero, List.set_cons_succ, List.length_cons, List.length_nil, if_true, if_false, Bool.false_eq_true, Bool.not_false, Bool.not_true, List.all_cons, List.all_nil, Bool.and_true, List.map_cons, List.map_nil, Nat.reduceAdd, Nat.reduceLT, Nat.zero_add, Option.toList, e1 k 2 d w (noD_of h)]
  cases hb : isT 2 d with
  | false =>
    have hq : isQ d = false := by
      unfold isQ
      split
      · cases hb
      · rfl
    rw [hq]
    rfl
  | true =>
    cases d <;> first | (cases hb; done) | skip
    rename_i xs
    obtain ⟨hl, m, rfl, hx⟩ := tm_tup h
    have hlen : xs.length = 2 := by
      have : decide ((xs.length : Int) = 2) = true := hb
      have := of_decide_eq_true this
      omega
    match xs, hlen with
    | [x, y], _ =>
      have h1 := noD_of (hx x (by simp))
      have h2 := noD_of (hx y (by simp))
      cases x with
      | int a =>
        cases y with
        | int b =>
          exact (c6 (k + 1) _ w).symm.trans (qq k a b w)
        | dict _ => cases h2
        | _ => rfl
      | dict _ => cases h1
      | _ => cases y <;> first | (cases h2; done) | rfl
end K00
set_option Elab.async false
set_option linter.all false
set_option maxRecDepth 100000
set_option maxHeartbeats 4000000
namespace K00
open PySem PySem.Spec PyProof.Rows L2 Rx
/-! ### sequences, shares -/
def isSeq (n : Int) (d : PyData) : Bool := isT n d && isNB n d && (match d with | .tuple xs => decide (((ddI (xs.map toI)).length : Int) = xs.length) | _ => false)
theorem lsetT (ns : List Int) (h : ns.length ≤ 100) : lsetD (.tuple (ns.map PyData.int)) = some (.int (ddI ns).length) := by
  show (match intsOf (ns.map PyData.int) with | some ns => if ns.length ≤ 1000 then some (PyData.int (ddI ns).length) else none | none => none) = _
  rw [intsOf_map]
  show (if ns.length ≤ 1000 then some (PyData.int (ddI ns).length) else none) = _
  rw [if_pos (by omega)]
theorem c10 (k : Nat) (l : Int) (d : PyData) (w : Wl) : callF fns 1 (k + 1) 10 [.int l, d] w = fin (Rx.run (callF fns 1 k) 1 b_is_sequence [.val (.int l), .val d] w) := rfl
theorem e10 (k : Nat) (l : Int) (d : PyData) (w : Wl) {n : Nat} (h : tm n d = true) : callF fns 1 (k + 4) 10 [.int l, d] w = .ok (.bool (isSeq l d)) w := by
  rw [c10]
  unfold b_is_sequence isSeq
  simp only [Rx.run, sem, Sm.ex, Sm.tst, Sm.none_, vNot, vBin, vNeg, vCmp, vCmp2, vIfe, vTup, vLst, vIx, vSlc, vIsi, vBi, vLset, vLrng, vTrng, vLc, Rx.iRng1, Rx.iRng2, slotV, slotP, isNil, isNm, Rz.bnd, Rz.map, Rz.x, Xr.seq, asB, boolR, intR, Got.d, Got.slot, storeS, frzS, ownAt, ofO, noOwn, wipeS, asgG, asgGs, itemsD, List.getElem?_cons_zero, List.getElem?_cons_succ, List.set_cons_zero, List.set_cons_succ, List.length_cons, List.length_nil, if_true, if_false, Bool.false_eq_true, Bool.not_false, Bool.not_true, List.all_cons, List.all_nil, Bool.and_true, List.map_cons, List.map_nil, Nat.reduceAdd, Nat.reduceLT, Nat.zero_add, Option.toList, ix2_0, ix2_1, cm_eq, cm_ne, cm_lt, cm_le, cm_gt, cm_ge, bd_add, bd_sub, bi_len_t, bi_len_l, bi_gcd, tr_bool, e1 (k + 2) l d w (noD_of h), e13 k l d w h]
  cases hb : isT l d with
  | false => rfl
  | true =>
    cases hc : isNB l d with
    | false => rfl
    | true =>
      obtain ⟨ns, rfl, hn⟩ := NB_tup hc
      have hl := (tm_tup h).1
      rw [List.length_map] at hl
      simp only [Rx.run, sem, Sm.ex, Sm.tst, Sm.none_, vNot, vBin, vNeg, vCmp, vCmp2, vIfe, vTup, vLst, vIx, vSlc, vIsi, vBi, vLset, vLrng, vTrng, vLc, Rx.iRng1, Rx.iRng2, slotV, slotP, isNil, isNm, Rz.bnd, Rz.map, Rz.x, Xr.seq, asB, boolR, intR, Got.d, Got.slot, storeS, frzS, ownAt, ofO, noOwn, wipeS, asgG, asgGs, itemsD, List.getElem?_cons_zero, List.getElem?_cons_succ, List.set_cons_zero, List.set_cons_succ, List.length_cons, List.length_nil, if_true, if_false, Bool.false_eq_true, Bool.not_false, Bool.not_true, List.all_cons, List.all_nil, Bool.and_true, List.map_cons, List.map_nil, Nat.reduceAdd, Nat.reduceLT, Nat.zero_add, Option.toList, ix2_0, ix2_1, cm_eq, cm_ne, cm_lt, cm_le, cm_gt, cm_ge, bd_add, bd_sub, bi_len_t, bi_len_l, bi_gcd, tr_bool, lsetT ns hl, toI_map, Bool.true_and]
      rfl
def isSh (x : PyData) : Bool := isQ x && (match x with | .tuple [.int a, .int _] => decide (0 ≤ a) | _ => false)
theorem isQ_inv {x : PyData} (h : isQ x = true) : ∃ a b, x = .tuple [.int a, .int b] := by
  unfold isQ at h
  split at h
  · exact ⟨_, _, rfl⟩
  · cases h
def isShr (n : Int) (d : PyData) : Bool := isT n d && (match d with | .tuple xs => xs.all isSh | _ => false)
theorem c12 (k : Nat) (l : Int) (d : PyData) (w : Wl) : callF fns 1 (k + 1) 12 [.int l, d] w = fin (Rx.run (callF fns 1 k) 1 b_is_shares [.val (.int l), .val d, .no] w) := rfl
theorem e12 (k : Nat) (l : Int) (d : PyData) (w : Wl) {n : Nat} (h : tm n d = true) : callF fns 1 (k + 3) 12 [.int l, d] w = .ok (.bool (isShr l d)) w := by
  rw [c12]
  unfold b_is_shares isShr
  simp only [Rx.run, sem, Sm.ex, Sm.tst, Sm.none_, vNot, vBin, vNeg, vCmp, vCmp2, vIfe, vTup, vLst, vIx, vSlc, vIsi, vBi, vLset, vLrng, vTrng, vLc, Rx.iRng1, Rx.iRng2, slotV, slotP, isNil, isNm, Rz.bnd, Rz.map, Rz.x, Xr.seq, asB, boolR, intR, Got.d, Got.slot, storeS, frzS, ownAt, ofO, noOwn, wipeS, asgG, asgGs, itemsD, List.getElem?_cons_zero, List.getElem?_cons_succ, List.set_cons_zero, List.set_cons_succ, List.length_cons, List.length_nil, if_true, if_false, Bool.false_eq_true, Bool.not_false, Bool.not_true, List.all_cons, List.all_nil, Bool.and_true, List.map_cons, List.map_nil, Nat.reduceAdd, Nat.reduceLT, Nat.zero_add, Option.toList, ix2_0, ix2_1, cm_eq, cm_ne, cm_lt, cm_le, cm_gt, cm_ge, bd_add, bd_sub, bi_len_t, bi_len_l, bi_gcd, tr_bool, e1 (k + 1) l d w (noD_of h)]
  cases hb : isT l d with
  | false => rfl
  | true =>
    cases d <;> first | (cases hb; done) | skip
    rename_i xs
    obtain ⟨hl, m, rfl, hx⟩ := tm_tup h
    simp only [Rx.run, sem, Sm.ex, Sm.tst, Sm.none_, vNot, vBin, vNeg, vCmp, vCmp2, vIfe, vTup, vLst, vIx, vSlc, vIsi, vBi, vLset, vLrng, vTrng, vLc, Rx.iRng1, Rx.iRng2, slotV, slotP, isNil, isNm, Rz.bnd, Rz.map, Rz.x, Xr.seq, asB, boolR, intR, Got.d, Got.slot, storeS, frzS, ownAt, ofO, noOwn, wipeS, asgG, asgGs, itemsD, List.getElem?_cons_zero, List.getElem?_cons_succ, List.set_cons_zero, List.set_cons_succ, List.length_cons, List.length_nil, if_true, if_false, Bool.false_eq_true, Bool.not_false, Bool.not_true, List.all_cons, List.all_nil, Bool.and_true, List.map_cons, List.map_nil, Nat.reduceAdd, Nat.reduceLT, Nat.zero_add, Option.toList, ix2_0, ix2_1, cm_eq, cm_ne, cm_lt, cm_le, cm_gt, cm_ge, bd_add, bd_sub, bi_len_t, bi_len_l, bi_gcd, tr_bool]
    rw [compF_map (g := fun d => .bool (isSh d))]
    · simp only [List.nil_append, bi_all]
      rfl
    · intro d hd w
      simp only [turnLc, noExc, Rx.run, sem, Sm.ex, Sm.tst, Sm.none_, vNot, vBin, vNeg, vCmp, vCmp2, vIfe, vTup, vLst, vIx, vSlc, vIsi, vBi, vLset, vLrng, vTrng, vLc, Rx.iRng1, Rx.iRng2, slotV, slotP, isNil, isNm, Rz.bnd, Rz.map, Rz.x, Xr.seq, asB, boolR, intR, Got.d, Got.slot, storeS, frzS, ownAt, ofO, noOwn, wipeS, asgG, asgGs, itemsD, List.getElem?_cons_zero, List.getElem?_cons_succ, List.set_cons_zero, List.set_cons_succ, List.length_cons, List.length_nil, if_true, if_false, Bool.false_eq_true, Bool.not_false, Bool.not_true, List.all_cons, List.all_nil, Bool.and_true, List.map_cons, List.map_nil, Nat.reduceAdd, Nat.reduceLT, Nat.zero_add, Option.toList, ix2_0, ix2_1, cm_eq, cm_ne, cm_lt, cm_le, cm_gt, cm_ge, bd_add, bd_sub, bi_len_t, bi_len_l, bi_gcd, tr_bool, e6 k d w (hx d hd)]
      cases hq : isQ d with
      | false =>
        unfold isSh
        rw [hq]
        rfl
      | true =>
        obtain ⟨a, b, rfl⟩ := isQ_inv hq
        unfold isSh
        rw [hq]
        rfl
/-! ### the law's own kinds -/
theorem e24 (k : Nat) (d : PyData) (w : Wl) (h : noD d = true) : callF fns 1 (k + 1) 24 [d] w = .ok (.bool (isI d)) w := by
  cases d <;> first | rfl | (cases h; done)
def euc : Nat → Int → Int → Bool
  | 0, _, _ => false
  | n + 1, a, b => if b = 0 then decide (a = 1) else euc n b (a.fmod b)
def lowL : PyData → Bool
  | .tuple [.int a, .int b] => decide (1 ≤ b) && euc 400 (if a < 0 then -a else a) b
  | _ => false
def eucB : T := (.cons (.ifs (.cmp .eq (.nm 2) (.kI 0)) (.cons (.ret (.cmp .eq (.nm 1) (.kI 1))) .nil) .nil) (.cons (.asg 4 (.bin .mod (.bi .int (.cons (.nm 1) .nil)) (.nm 2))) (.cons (.asg 1 (.nm 2)) (.cons (.asg 2 (.nm 4)) .nil))))
theorem loopF_nx {body : PyData → List Slt → Wl → Xr} {d : PyData} {r : List PyData} {sl sl1 : List Slt} {w w1 : Wl} (h : body d sl w = .ok .nx sl1 w1) : loopF body (d :: r) sl w = loopF body r sl1 w1 := by
  show (match body d sl w with
    | .ok .nx sl w => loopF body r sl w
    | .ok .cnt sl w => loopF body r sl w
    | .ok .brk sl w => .ok .nx sl w
    | m => m) = _
  rw [h]
theorem loopF_ret {body : PyData → List Slt → Wl → Xr} {d x : PyData} {r : List PyData} {sl sl1 : List Slt} {w w1 : Wl} (h : body d sl w = .ok (.ret x) sl1 w1) : loopF body (d :: r) sl w = .ok (.ret x) sl1 w1 := by
  show (match body d sl w with
    | .ok .nx sl w => loopF body r sl w
    | .ok .cnt sl w => loopF body r sl w
    | .ok .brk sl w => .ok .nx sl w
    | m => m) = _
  rw [h]
theorem dc_t {p : Prop} [Decidable p] (h : p) : decide p = true := decide_eq_true h
theorem dc_f {p : Prop} [Decidable p] (h : ¬ p) : decide p = false := decide_eq_false h
def eucBody (cl : Nat → List PyData → Wl → Rz PyData) : PyData → List Slt → Wl → Xr := fun d sl w => match asgG (.nm 3) d sl with
  | some sl => Rx.run cl 1 eucB sl w
  | none => .stuck
theorem euc_t (cl : Nat → List PyData → Wl → Rz PyData) (d : PyData) (i a : Int) (s3 s4 : Slt) (w : Wl) : eucBody cl (.int i) [.val d, .val (.int a), .val (.int 0), s3, s4] w = .ok (.ret (PyData.bool (decide (a = 1)))) [.val d, .val (.int a), .val (.int 0), .val (.int i), s4] w := rfl
theorem bd_mod' {i j : Int} (h0 : j ≠ 0) : binD .mod (.int i) (.int j) = some (.val (.int (i.fmod j))) := bd_mod h0
theorem bi_int (i : Int) : biD .int [.int i] = some (.val (.int i)) := rfl
theorem euc_n (cl : Nat → List PyData → Wl → Rz PyData) (d : PyData) (i a b : Int) (hb : b ≠ 0) (s3 s4 : Slt) (w : Wl) : eucBody cl (.int i) [.val d, .val (.int a), .val (.int b), s3, s4] w = .ok .nx [.val d, .val (.int b), .val (.int (a.fmod b)), .val (.int i), .val (.int (a.fmod b))] w := by
  unfold eucBody eucB
  simp only [Rx.run, sem, Sm.ex, Sm.tst, Sm.none_, vNot, vBin, vNeg, vCmp, vCmp2, vIfe, vTup, vLst, vIx, vSlc, vIsi, vBi, vLset, vLrng, vTrng, vLc, Rx.iRng1, Rx.iRng2, slotV, slotP, isNil, isNm, Rz.bnd, Rz.map, Rz.x, Xr.seq, asB, boolR, intR, Got.d, Got.slot, storeS, frzS, ownAt, ofO, noOwn, wipeS, asgG, asgGs, itemsD, List.getElem?_cons_zero, List.getElem?_cons_succ, List.set_cons_zero, List.set_cons_succ, List.length_cons, List.length_nil, if_true, if_false, Bool.false_eq_true, Bool.not_false, Bool.not_true, List.all_cons, List.all_nil, Bool.and_true, List.map_cons, List.map_nil, Nat.reduceAdd, Nat.reduceLT, Nat.zero_add, Option.toList, ix2_0, ix2_1, cm_eq, cm_ne, cm_lt, cm_le, cm_gt, cm_ge, bd_add, bd_sub, bi_len_t, bi_len_l, bi_gcd, tr_bool, dc_f hb, bd_mod' hb, bi_int]
theorem euc_loop (cl : Nat → List PyData → Wl → Rz PyData) (d : PyData) : ∀ (is : List Int) (a b : Int) (s3 s4 : Slt) (w : Wl),
    fin ((loopF (eucBody cl) (is.map PyData.int) [.val d, .val (.int a), .val (.int b), s3, s4] w).seq (Rx.run cl 1 (.cons (.ret (.kB false)) .nil))) = .ok (PyData.bool (euc is.length a b)) w
  | [], a, b, s3, s4, w => rfl
  | i :: is, a, b, s3, s4, w => by
    rw [List.map_cons]
    by_cases hb : b = 0
    · subst hb
      rw [loopF_ret (euc_t cl d i a s3 s4 w)]
      rfl
    · rw [loopF_nx (euc_n cl d i a b hb s3 s4 w), euc_loop cl d is]
      show _ = Rz.ok (PyData.bool (if b = 0 then decide (a = 1) else euc is.length b (a.fmod b))) w
      rw [if_neg hb]
theorem rng400 : rngD 0 400 = some ((List.range 400).map fun (i : Nat) => PyData.int (0 + (i : Int))) := rng_ok (by decide)
theorem run_for {cl : Nat → List PyData → Wl → Rz PyData} {g it b : T} {sl : List Slt} {w w1 : Wl} {items : List PyData} (h : (sem cl it).i sl w = .ok items w1) : Rx.run cl 1 (.for_ g it b) sl w = loopF (fun d sl w => match asgG g d sl with | some sl => Rx.run cl 1 b sl w | none => .stuck) items sl w1 := by
  show ((sem cl it).i sl w).x _ = _
  rw [h]
  rfl
theorem run_cons (cl : Nat → List PyData → Wl → Rz PyData) (s r : T) (sl : List Slt) (w : Wl) : Rx.run cl 1 (.cons s r) sl w = (Rx.run cl 1 s sl w).seq (Rx.run cl 1 r) := rfl
theorem c25 (k : Nat) (d : PyData) (w : Wl) : callF fns 1 (k + 1) 25 [d] w = fin (Rx.run (callF fns 1 k) 1 b__law_lowest [.val d, .no, .no, .no, .no] w) := rfl
theorem bi_abs (i : Int) : biD .abs [.int i] = some (.val (.int (if i < 0 then -i else i))) := rfl
theorem pre25 (k : Nat) (a b : Int) (w : Wl) (rest : T) (hb : 1 ≤ b) : Rx.run (callF fns 1 (k + 1)) 1 (.cons (.ifs (.bor (.cons (.not (.isi (.nm 0) .tup)) (.cons (.cmp .ne (.bi .len (.cons (.nm 0) .nil)) (.kI 2)) .nil))) (.cons (.ret (.kB false)) .nil) .nil) (.cons (.ifs (.bor (.cons (.not (.call 24 (.cons (.ix (.nm 0) (.kI 0)) .nil))) (.cons (.not (.call 24 (.cons (.ix (.nm 0) (.kI 1)) .nil))) (.cons (.cmp .lt (.ix (.nm 0) (.kI 1)) (.kI 1)) .nil)))) (.cons (.ret (.kB false)) .nil) .nil) (.cons (.asg 1 (.bi .abs (.cons (.ix (.nm 0) (.kI 0)) .nil))) (.cons (.asg 2 (.ix (.nm 0) (.kI 1))) rest))))
    [.val (.tuple [.int a, .int b]), .no, .no, .no, .no] w = Rx.run (callF fns 1 (k + 1)) 1 rest [.val (.tuple [.int a, .int b]), .val (.int (if a < 0 then -a else a)), .val (.int b), .no, .no] w := by
  have h1 : ¬ (b < 1) := by omega
  simp only [Rx.run, sem, Sm.ex, Sm.tst, Sm.none_, vNot, vBin, vNeg, vCmp, vCmp2, vIfe, vTup, vLst, vIx, vSlc, vIsi, vBi, vLset, vLrng, vTrng, vLc, Rx.iRng1, Rx.iRng2, slotV, slotP, isNil, isNm, Rz.bnd, Rz.map, Rz.x, Xr.seq, asB, boolR, intR, Got.d, Got.slot, storeS, frzS, ownAt, ofO, noOwn, wipeS, asgG, asgGs, itemsD, List.getElem?_cons_zero, List.getElem?_cons_succ, List.set_cons_zero, List.set_cons_succ, List.length_cons, List.length_nil, if_true, if_false, Bool.false_eq_true, Bool.not_false, Bool.not_true, List.all_cons, List.all_nil, Bool.and_true, List.map_cons, List.map_nil, Nat.reduceAdd, Nat.reduceLT, Nat.zero_add, Option.toList, ix2_0, ix2_1, cm_eq, cm_ne, cm_lt, cm_le, cm_gt, cm_ge, bd_add, bd_sub, bi_len_t, bi_len_l, bi_gcd, tr_bool, isiD, show decide ((((2 : Nat)) : Int) = 2) = true from rfl, e24 k (.int a) w rfl, e24 k (.int b) w rfl, isI, dc_f h1, bi_abs]
theorem pre25f (k : Nat) (a b : Int) (w : Wl) (rest : T) (hb : b < 1) : Rx.run (callF fns 1 (k + 1)) 1 (.cons (.ifs (.bor (.cons (.not (.isi (.nm 0) .tup)) (.cons (.cmp .ne (.bi .len (.cons (.nm 0) .nil)) (.kI 2)) .nil))) (.cons (.ret (.kB false)) .nil) .nil) (.cons (.ifs (.bor (.cons (.not (.call 24 (.cons (.ix (.nm 0) (.kI 0)) .nil))) (.cons (.not (.call 24 (.cons (.ix (.nm 0) (.kI 1)) .nil))) (.cons (.cmp .lt (.ix (.nm 0) (.kI 1)) (.kI 1)) .nil)))) (.cons (.ret (.kB false)) .nil) .nil) rest))
    [.val (.tuple [.int a, .int b]), .no, .no, .no, .no] w = .ok (.ret (.bool false)) [.val (.tuple [.int a, .int b]), .no, .no, .no, .no] w := by
  simp only [Rx.run, sem, Sm.ex, Sm.tst, Sm.none_, vNot, vBin, vNeg, vCmp, vCmp2, vIfe, vTup, vLst, vIx, vSlc, vIsi, vBi, vLset, vLrng, vTrng, vLc, Rx.iRng1, Rx.iRng2, slotV, slotP, isNil, isNm, Rz.bnd, Rz.map, Rz.x, Xr.seq, asB, boolR, intR, Got.d, Got.slot, storeS, frzS, ownAt, ofO, noOwn, wipeS, asgG, asgGs, itemsD, List.getElem?_cons_zero, List.getElem?_cons_succ, List.set_cons_zero, List.set_cons_succ, List.length_cons, List.length_nil, if_true, if_false, Bool.false_eq_true, Bool.not_false, Bool.not_true, List.all_cons, List.all_nil, Bool.and_true, List.map_cons, List.map_nil, Nat.reduceAdd, Nat.reduceLT, Nat.zero_add, Option.toList, ix2_0, ix2_1, cm_eq, cm_ne, cm_lt, cm_le, cm_gt, cm_ge, bd_add, bd_sub, bi_len_t, bi_len_l, bi_gcd, tr_bool, isiD, show decide ((((2 : Nat)) : Int) = 2) = true from rfl, e24 k (.int a) w rfl, e24 k (.int b) w rfl, isI, dc_t hb]
theorem e25_i (k : Nat) (a b : Int) (w : Wl) : callF fns 1 (k + 2) 25 [.tuple [.int a, .int b]] w = .ok (.bool (lowL (.tuple [.int a, .int b]))) w := by
  rw [c25]
  unfold b__law_lowest
  show _ = Rz.ok (PyData.bool (decide (1 ≤ b) && euc 400 (if a < 0 then -a else a) b)) w
  by_cases hb : 1 ≤ b
  · have h0 := euc_loop (callF fns 1 (k + 1)) (.tuple [.int a, .int b]) ((List.range 400).map fun (i : Nat) => 0 + (i : Int)) (if a < 0 then -a else a) b .no .no w
    rw [List.map_map, List.length_map, List.length_range] at h0
    rw [dc_t hb, Bool.true_and, ← h0, pre25 k a b w _ hb, run_cons, run_for (items := (List.range 400).map fun (i : Nat) => PyData.int (0 + (i : Int))) (w1 := w) (by
      show ofO (rngD 0 400) w = _
      rw [rng400]
      rfl)]
    rfl
  · rw [pre25f k a b w _ (by omega), dc_f hb]
    rfl
theorem e25 (k : Nat) (d : PyData) (w : Wl) {n : Nat} (h : tm n d = true) : callF fns 1 (k + 2) 25 [d] w = .ok (.bool (lowL d)) w := by
  cases d <;> first | rfl | (cases n <;> cases h; done) | skip
  rename_i xs
  obtain ⟨hl, m, rfl, hx⟩ := tm_tup h
  by_cases h2 : xs.length = 2
  · match xs, h2 with
    | [x, y], _ =>
      have h1 := noD_of (hx x (by simp))
      have h2 := noD_of (hx y (by simp))
      cases x with
      | int a =>
        cases y with
        | int b => exact e25_i k a b w
        | dict _ => cases h2
        | _ => rfl
      | dict _ => cases h1
      | _ => cases y <;> first | (cases h2; done) | rfl
  · have e : lowL (.tuple xs) = false := by
      unfold lowL
      split
      · rename_i e
        cases e
        exact absurd rfl h2
      · rfl
    rw [e, c25]
    unfold b__law_lowest
    have h3 : ¬ ((xs.length : Int) = 2) := by omega
    rw [run_cons]
    simp only [Rx.run, sem, Sm.ex, Sm.tst, Sm.none_, vNot, vBin, vNeg, vCmp, vCmp2, vIfe, vTup, vLst, vIx, vSlc, vIsi, vBi, vLset, vLrng, vTrng, vLc, Rx.iRng1, Rx.iRng2, slotV, slotP, isNil, isNm, Rz.bnd, Rz.map, Rz.x, Xr.seq, asB, boolR, intR, Got.d, Got.slot, storeS, frzS, ownAt, ofO, noOwn, wipeS, asgG, asgGs, itemsD, List.getElem?_cons_zero, List.getElem?_cons_succ, List.set_cons_zero, List.set_cons_succ, List.length_cons, List.length_nil, if_true, if_false, Bool.false_eq_true, Bool.not_false, Bool.not_true, List.all_cons, List.all_nil, Bool.and_true, List.map_cons, List.map_nil, Nat.reduceAdd, Nat.reduceLT, Nat.zero_add, Option.toList, ix2_0, ix2_1, cm_eq, cm_ne, cm_lt, cm_le, cm_gt, cm_ge, bd_add, bd_sub, bi_len_t, bi_len_l, bi_gcd, tr_bool, isiD, dc_f h3]
    rfl
end K00
set_option Elab.async false
set_option linter.all false
set_option maxRecDepth 100000
set_option maxHeartbeats 4000000
namespace K00
open PySem PySem.Spec PyProof.Rows L2 Rx
/-! ### Euclid -/
def g1 (n : Nat) : Bool := decide (n = 1)
theorem fmodN (a b : Nat) : ((a : Int)).fmod (b : Int) = ((a % b : Nat) : Int) := by
  rw [Int.fmod_eq_emod_of_nonneg _ (Int.natCast_nonneg b), Int.natCast_emod]
theorem eucS (n : Nat) (a b : Nat) (hb : b ≠ 0) : euc (n + 1) a b = euc n b ((a % b : Nat) : Int) := by
  show (if (b : Int) = 0 then decide ((a : Int) = 1) else euc n b ((a : Int).fmod b)) = _
  rw [if_neg (by omega), fmodN]
theorem euc0 (n : Nat) (a : Nat) : euc (n + 1) a ((0 : Nat) : Int) = g1 (Nat.gcd a 0) := by
  show (if (0 : Int) = 0 then decide ((a : Int) = 1) else euc n (0 : Int) _) = _
  rw [if_pos (show (0 : Int) = 0 from rfl), Nat.gcd_zero_right]
  unfold g1
  apply decide_eq_decide.mpr
  omega
theorem euc_gcd : ∀ (n k : Nat) (a b : Nat), b < 2 ^ n → euc (2 * n + 1 + k) (a : Int) (b : Int) = g1 (Nat.gcd a b)
  | 0, k, a, b, h => by
    have hb : b = 0 := by simpa using h
    subst hb
    rw [show 2 * 0 + 1 + k = k + 1 by omega]
    exact euc0 k a
  | n + 1, k, a, b, h => by
    by_cases hb : b = 0
    · subst hb
      rw [show 2 * (n + 1) + 1 + k = (2 * (n + 1) + k) + 1 by omega]
      exact euc0 _ a
    · rw [show 2 * (n + 1) + 1 + k = (2 * n + 1 + k + 1) + 1 by omega, eucS _ a b hb]
      have hr : a % b < b := Nat.mod_lt _ (by omega)
      have hg : Nat.gcd a b = Nat.gcd b (a % b) := by
        rw [Nat.gcd_comm a b, Nat.gcd_rec b a, Nat.gcd_comm]
      by_cases h0 : a % b = 0
      · rw [h0, euc0, hg, h0]
      · rw [eucS _ b (a % b) h0]
        have h1 : b % (a % b) < a % b := Nat.mod_lt _ (by omega)
        have h2 : 2 * (b % (a % b)) < b := by
          have := Nat.div_add_mod b (a % b)
          have h3 : 1 ≤ b / (a % b) := Nat.div_pos (by omega) (by omega)
          have h4 : (a % b) * 1 ≤ (a % b) * (b / (a % b)) := Nat.mul_le_mul_left _ h3
          omega
        rw [euc_gcd n k _ _ (by rw [Nat.pow_succ] at h; omega), hg]
        have hg2 : Nat.gcd b (a % b) = Nat.gcd (a % b) (b % (a % b)) := by
          rw [Nat.gcd_comm b, Nat.gcd_rec (a % b) b, Nat.gcd_comm]
        rw [hg2]
theorem low_i {a b : Int} (h : b.natAbs < 2 ^ 190) : lowL (.tuple [.int a, .int b]) = (decide (1 ≤ b) && decide ((Nat.gcd a.natAbs b.natAbs : Int) = 1)) := by
  show (decide (1 ≤ b) && euc 400 (if a < 0 then -a else a) b) = _
  by_cases hb : 1 ≤ b
  · obtain ⟨m, rfl⟩ := Int.eq_ofNat_of_zero_le (show 0 ≤ b by omega)
    have ha : (if a < 0 then -a else a) = ((a.natAbs : Nat) : Int) := by split <;> omega
    have h4 := euc_gcd 190 19 a.natAbs m h
    rw [ha]
    show (_ && euc (2 * 190 + 1 + 19) _ _) = _
    rw [h4]
    congr 1
    unfold g1
    apply decide_eq_decide.mpr
    simp only [Int.natAbs_natCast]
    omega
  · rw [dc_f hb]
    rfl
theorem low_t {n : Nat} {d : PyData} (h : tm n d = true) : lowL d = isQ d := by
  cases d with
  | tuple xs =>
    obtain ⟨hl, m, rfl, hx⟩ := tm_tup h
    by_cases h2 : ∃ a b, xs = [.int a, .int b]
    · obtain ⟨a, b, rfl⟩ := h2
      have hb : b.natAbs < 2 ^ 150 := by
        have := hx (.int b) (by simp)
        cases m <;> exact of_decide_eq_true this
      rw [low_i (Nat.lt_of_lt_of_le hb (Nat.pow_le_pow_right (by decide) (by decide)))]
      rfl
    · have e1 : lowL (.tuple xs) = false := by
        unfold lowL
        split
        · rename_i e
          cases e
          exact absurd ⟨_, _, rfl⟩ h2
        · rfl
      have e2 : isQ (.tuple xs) = false := by
        unfold isQ
        split
        · rename_i e
          cases e
          exact absurd ⟨_, _, rfl⟩ h2
        · rfl
      rw [e1, e2]
  | _ => rfl
theorem e25q (k : Nat) (d : PyData) (w : Wl) {n : Nat} (h : tm n d = true) : callF fns 1 (k + 2) 25 [d] w = .ok (.bool (isQ d)) w := by
  rw [e25 k d w h, low_t h]
/-! ### the law's ascending, pair -/
def ascL (l : Int) : Int → List PyData → Bool
  | _, [] => true
  | last, .int i :: r => decide (last < i) && decide (i < l) && ascL l i r
  | _, _ => false
def ascB1 : T := (.cons (.ifs (.bor (.cons (.not (.call 24 (.cons (.nm 3) .nil))) (.cons (.cmp .le (.nm 3) (.nm 2)) (.cons (.cmp .ge (.nm 3) (.nm 1)) .nil)))) (.cons (.ret (.kB false)) .nil) .nil) (.cons (.asg 2 (.nm 3)) .nil))
def ascBody (cl : Nat → List PyData → Wl → Rz PyData) : PyData → List Slt → Wl → Xr := fun d sl w => match asgG (.nm 3) d sl with
  | some sl => Rx.run cl 1 ascB1 sl w
  | none => .stuck
theorem asc_b (k : Nat) (x d : PyData) (l last : Int) (s3 : Slt) (w : Wl) (h : noD d = true) : (∃ i, d = .int i ∧ last < i ∧ i < l ∧ ascBody (callF fns 1 (k + 1)) d [.val x, .val (.int l), .val (.int last), s3] w = .ok .nx [.val x, .val (.int l), .val (.int i), .val (.int i)] w) ∨
    (ascL l last (d :: []) = false ∧ ascBody (callF fns 1 (k + 1)) d [.val x, .val (.int l), .val (.int last), s3] w = .ok (.ret (PyData.bool false)) [.val x, .val (.int l), .val (.int last), .val d] w) := by
  cases d with
  | int i =>
    by_cases h1 : i ≤ last
    · refine .inr ⟨?_, ?_⟩
      · show (decide (last < i) && decide (i < l) && true) = false
        rw [dc_f (by omega)]
        rfl
      · unfold ascBody ascB1
        simp only [Rx.run, sem, Sm.ex, Sm.tst, Sm.none_, vNot, vBin, vNeg, vCmp, vCmp2, vIfe, vTup, vLst, vIx, vSlc, vIsi, vBi, vLset, vLrng, vTrng, vLc, Rx.iRng1, Rx.iRng2, slotV, slotP, isNil, isNm, Rz.bnd, Rz.map, Rz.x, Xr.seq, asB, boolR, intR, Got.d, Got.slot, storeS, frzS, ownAt, ofO, noOwn, wipeS, asgG, asgGs, itemsD, List.getElem?_cons_zero, List.getElem?_cons_succ, List.set_cons_zero, List.set_cons_succ, List.length_cons, List.length_nil, if_true, if_false, Bool.false_eq_true, Bool.not_false, Bool.not_true, List.all_cons, List.all_nil, Bool.and_true, List.map_cons, List.map_nil, Nat.reduceAdd, Nat.reduceLT, Nat.zero_add, Option.toList, ix2_0, ix2_1, cm_eq, cm_ne, cm_lt, cm_le, cm_gt, cm_ge, bd_add, bd_sub, bi_len_t, bi_len_l, bi_gcd, tr_bool, e24 k (.int i) w rfl, isI, dc_t h1]
    · by_cases h2 : l ≤ i
      · refine .inr ⟨?_, ?_⟩
        · show (decide (last < i) && decide (i < l) && true) = false
          rw [dc_f (show ¬ i < l by omega), Bool.and_false]
          rfl
        · unfold ascBody ascB1
          simp only [Rx.run, sem, Sm.ex, Sm.tst, Sm.none_, vNot, vBin, vNeg, vCmp, vCmp2, vIfe, vTup, vLst, vIx, vSlc, vIsi, vBi, vLset, vLrng, vTrng, vLc, Rx.iRng1, Rx.iRng2, slotV, slotP, isNil, isNm, Rz.bnd, Rz.map, Rz.x, Xr.seq, asB, boolR, intR, Got.d, Got.slot, storeS, frzS, ownAt, ofO, noOwn, wipeS, asgG, asgGs, itemsD, List.getElem?_cons_zero, List.getElem?_cons_succ, List.set_cons_zero, List.set_cons_succ, List.length_cons, List.length_nil, if_true, if_false, Bool.false_eq_true, Bool.not_false, Bool.not_true, List.all_cons, List.all_nil, Bool.and_true, List.map_cons, List.map_nil, Nat.reduceAdd, Nat.reduceLT, Nat.zero_add, Option.toList, ix2_0, ix2_1, cm_eq, cm_ne, cm_lt, cm_le, cm_gt, cm_ge, bd_add, bd_sub, bi_len_t, bi_len_l, bi_gcd, tr_bool, e24 k (.int i) w rfl, isI, dc_f h1, dc_t h2]
      · refine .inl ⟨i, rfl, by omega, by omega, ?_⟩
        unfold ascBody ascB1
        simp only [Rx.run, sem, Sm.ex, Sm.tst, Sm.none_, vNot, vBin, vNeg, vCmp, vCmp2, vIfe, vTup, vLst, vIx, vSlc, vIsi, vBi, vLset, vLrng, vTrng, vLc, Rx.iRng1, Rx.iRng2, slotV, slotP, isNil, isNm, Rz.bnd, Rz.map, Rz.x, Xr.seq, asB, boolR, intR, Got.d, Got.slot, storeS, frzS, ownAt, ofO, noOwn, wipeS, asgG, asgGs, itemsD, List.getElem?_cons_zero, List.getElem?_cons_succ, List.set_cons_zero, List.set_cons_succ, List.length_cons, List.length_nil, if_true, if_false, Bool.false_eq_true, Bool.not_false, Bool.not_true, List.all_cons, List.all_nil, Bool.and_true, List.map_cons, List.map_nil, Nat.reduceAdd, Nat.reduceLT, Nat.zero_add, Option.toList, ix2_0, ix2_1, cm_eq, cm_ne, cm_lt, cm_le, cm_gt, cm_ge, bd_add, bd_sub, bi_len_t, bi_len_l, bi_gcd, tr_bool, e24 k (.int i) w rfl, isI, dc_f h1, dc_f h2]
  | dict _ => cases h
  | _ => exact .inr ⟨rfl, rfl⟩
theorem asc_cut {l last : Int} {d : PyData} {r : List PyData} (h : ascL l last [d] = false) : ascL l last (d :: r) = false := by
  cases d with
  | int i =>
    have h' : (decide (last < i) && decide (i < l) && true) = false := h
    show (decide (last < i) && decide (i < l) && ascL l i r) = false
    rw [Bool.and_true] at h'
    rw [h']
    rfl
  | _ => rfl
theorem asc_loop (k : Nat) (x : PyData) (l : Int) : ∀ (xs : List PyData) (last : Int) (s3 : Slt) (w : Wl), (∀ d ∈ xs, noD d = true) →
    fin ((loopF (ascBody (callF fns 1 (k + 1))) xs [.val x, .val (.int l), .val (.int last), s3] w).seq (Rx.run (callF fns 1 (k + 1)) 1 (.cons (.ret (.kB true)) .nil))) = .ok (PyData.bool (ascL l last xs)) w
  | [], last, s3, w, _ => rfl
  | d :: r, last, s3, w, h => by
    rcases asc_b k x d l last s3 w (h d List.mem_cons_self) with ⟨i, rfl, h1, h2, e⟩ | ⟨h1, e⟩
    · rw [loopF_nx e, asc_loop k x l r i _ w fun y hy => h y (List.mem_cons_of_mem _ hy)]
      show _ = Rz.ok (PyData.bool (decide (last < i) && decide (i < l) && ascL l i r)) w
      rw [dc_t h1, dc_t h2]
      rfl
    · rw [loopF_ret e, asc_cut h1]
      rfl
theorem asc_int : ∀ (ns : List Int) (last l : Int), ascL l last (ns.map PyData.int) = true ↔ (∀ i ∈ ns, last < i ∧ i < l) ∧ ns.Pairwise (· < ·)
  | [], _, _ => ⟨fun _ => ⟨fun i h => (by cases h), List.Pairwise.nil⟩, fun _ => rfl⟩
  | n :: ns, last, l => by
    show (decide (last < n) && decide (n < l) && ascL l n (ns.map PyData.int)) = true ↔ _
    rw [Bool.and_eq_true, Bool.and_eq_true, decide_eq_true_eq, decide_eq_true_eq, asc_int ns n l, List.pairwise_cons]
    constructor
    · rintro ⟨⟨h1, h2⟩, h3, h4⟩
      refine ⟨fun i hi => ?_, fun i hi => (h3 i hi).1, h4⟩
      rcases List.mem_cons.mp hi with rfl | hi
      · exact ⟨h1, h2⟩
      · have := h3 i hi
        omega
    · rintro ⟨h1, h2, h3⟩
      exact ⟨h1 n List.mem_cons_self, fun i hi => ⟨h2 i hi, (h1 i (List.mem_cons_of_mem _ hi)).2⟩, h3⟩
theorem asc_pw : ∀ (ns : List Int), asc ns = true ↔ ns.Pairwise (· < ·) := by
  intro ns
  have step : asc ns = true ↔ ∀ k, k + 1 < ns.length → ns.getD k 0 < ns.getD (k + 1) 0 := by
    unfold asc
    simp only [List.all_eq_true, List.mem_range, decide_eq_true_eq]
    exact ⟨fun h k hk => h k (by omega), fun h k hk => h k (by omega)⟩
  rw [step, List.pairwise_iff_getElem]
  constructor
  · intro h i j hi hj hij
    have aux : ∀ m, i + m + 1 < ns.length → ns.getD i 0 < ns.getD (i + m + 1) 0 := by
      intro m
      induction m with
      | zero => intro hm; exact h i hm
      | succ m ih =>
        intro hm
        have h1 := ih (by omega)
        have h2 := h (i + m + 1) hm
        exact Int.lt_trans h1 h2
    have := aux (j - i - 1) (by omega)
    rw [show i + (j - i - 1) + 1 = j by omega] at this
    simpa [List.getD_eq_getElem?_getD, List.getElem?_eq_getElem hi, List.getElem?_eq_getElem hj] using this
  · intro h k hk
    have := h k (k + 1) (by omega) hk (by omega)
    simpa [List.getD_eq_getElem?_getD, List.getElem?_eq_getElem hk, List.getElem?_eq_getElem (show k < ns.length by omega)] using this
end K00
set_option Elab.async false
set_option linter.all false
set_option maxRecDepth 100000
set_option maxHeartbeats 4000000
namespace K00
open PySem PySem.Spec PyProof.Rows L2 Rx
theorem c27 (k : Nat) (l : Int) (d : PyData) (w : Wl) : callF fns 1 (k + 1) 27 [d, .int l] w = fin (Rx.run (callF fns 1 k) 1 b__law_ascending [.val d, .val (.int l), .no, .no] w) := rfl
theorem ascL_ints : ∀ {xs : List PyData} {l last : Int}, ascL l last xs = true → ∃ ns : List Int, xs = ns.map PyData.int
  | [], _, _, _ => ⟨[], rfl⟩
  | x :: r, l, last, h => by
    cases x <;> first | (cases h; done) | skip
    rename_i i
    have h' : (decide (last < i) && decide (i < l) && ascL l i r) = true := h
    rw [Bool.and_eq_true] at h'
    obtain ⟨ns, e⟩ := ascL_ints h'.2
    exact ⟨i :: ns, by rw [e]; rfl⟩
theorem isNB_map {l : Int} {ns : List Int} (h : ∀ i ∈ ns, 0 ≤ i ∧ i < l) : isNB l (.tuple (ns.map PyData.int)) = true := by
  show (ns.map PyData.int).all (isNb l) = true
  rw [List.all_map, List.all_eq_true]
  intro i hi
  show (decide (0 ≤ i) && decide (i < l)) = true
  rw [dc_t (h i hi).1, dc_t (h i hi).2]
  rfl
theorem ascD_map (ns : List Int) : ascD (.tuple (ns.map PyData.int)) = asc ns := by
  show asc ((ns.map PyData.int).map toI) = _
  rw [toI_map]
theorem ascL_lot (l : Int) (xs : List PyData) : ascL l (-1) xs = isLot l (.tuple xs) := by
  apply Bool.eq_iff_iff.mpr
  constructor
  · intro h
    obtain ⟨ns, rfl⟩ := ascL_ints h
    obtain ⟨h1, h2⟩ := (asc_int ns _ l).mp h
    unfold isLot
    rw [isNB_map (fun i hi => ⟨by have := (h1 i hi).1; omega, (h1 i hi).2⟩), ascD_map, (asc_pw ns).mpr h2]
    rfl
  · intro h
    unfold isLot at h
    rw [Bool.and_eq_true] at h
    obtain ⟨ns, e, hn⟩ := NB_tup h.1
    cases e
    have h2 := h.2
    rw [ascD_map] at h2
    exact (asc_int ns _ l).mpr ⟨fun i hi => ⟨by have := (hn i hi).1; omega, (hn i hi).2⟩, (asc_pw ns).mp h2⟩
theorem e27 (k : Nat) (l : Int) (d : PyData) (w : Wl) {n : Nat} (h : tm n d = true) : callF fns 1 (k + 2) 27 [d, .int l] w = .ok (.bool (isLot l d)) w := by
  cases d <;> first | rfl | (cases n <;> cases h; done) | skip
  rename_i xs
  obtain ⟨hl, m, rfl, hx⟩ := tm_tup h
  rw [← ascL_lot, ← asc_loop k (.tuple xs) l xs (-1) .no w (fun d hd => noD_of (hx d hd)), c27]
  rfl
theorem c28 (k : Nat) (l : Int) (d : PyData) (w : Wl) : callF fns 1 (k + 1) 28 [.int l, d] w = fin (Rx.run (callF fns 1 k) 1 b__law_pair [.val (.int l), .val d] w) := rfl
theorem e28 (k : Nat) (l : Int) (d : PyData) (w : Wl) {n : Nat} (h : tm n d = true) : callF fns 1 (k + 3) 28 [.int l, d] w = .ok (.bool (isDep l d)) w := by
  cases d <;> first | rfl | (cases n <;> cases h; done) | skip
  rename_i xs
  obtain ⟨hl, m, rfl, hx⟩ := tm_tup h
  rw [c28]
  unfold b__law_pair
  by_cases h2 : xs.length = 2
  · match xs, h2 with
    | [x, y], _ =>
      simp only [Rx.run, sem, Sm.ex, Sm.tst, Sm.none_, vNot, vBin, vNeg, vCmp, vCmp2, vIfe, vTup, vLst, vIx, vSlc, vIsi, vBi, vLset, vLrng, vTrng, vLc, Rx.iRng1, Rx.iRng2, slotV, slotP, isNil, isNm, Rz.bnd, Rz.map, Rz.x, Xr.seq, asB, boolR, intR, Got.d, Got.slot, storeS, frzS, ownAt, ofO, noOwn, wipeS, asgG, asgGs, itemsD, List.getElem?_cons_zero, List.getElem?_cons_succ, List.set_cons_zero, List.set_cons_succ, List.length_cons, List.length_nil, if_true, if_false, Bool.false_eq_true, Bool.not_false, Bool.not_true, List.all_cons, List.all_nil, Bool.and_true, List.map_cons, List.map_nil, Nat.reduceAdd, Nat.reduceLT, Nat.zero_add, Option.toList, ix2_0, ix2_1, cm_eq, cm_ne, cm_lt, cm_le, cm_gt, cm_ge, bd_add, bd_sub, bi_len_t, bi_len_l, bi_gcd, tr_bool, isiD, show decide ((((2 : Nat)) : Int) = 2) = true from rfl, e27 k l x w (hx x (by simp)), e27 k l y w (hx y (by simp))]
      show _ = Rz.ok (PyData.bool (decide ((([x, y] : List PyData).length : Int) = 2) && [x, y].all (isLot l))) w
      simp only [List.all_cons, List.all_nil, Bool.and_true]
      cases isLot l x <;> rfl
  · have h3 : ¬ ((xs.length : Int) = 2) := by omega
    simp only [Rx.run, sem, Sm.ex, Sm.tst, Sm.none_, vNot, vBin, vNeg, vCmp, vCmp2, vIfe, vTup, vLst, vIx, vSlc, vIsi, vBi, vLset, vLrng, vTrng, vLc, Rx.iRng1, Rx.iRng2, slotV, slotP, isNil, isNm, Rz.bnd, Rz.map, Rz.x, Xr.seq, asB, boolR, intR, Got.d, Got.slot, storeS, frzS, ownAt, ofO, noOwn, wipeS, asgG, asgGs, itemsD, List.getElem?_cons_zero, List.getElem?_cons_succ, List.set_cons_zero, List.set_cons_succ, List.length_cons, List.length_nil, if_true, if_false, Bool.false_eq_true, Bool.not_false, Bool.not_true, List.all_cons, List.all_nil, Bool.and_true, List.map_cons, List.map_nil, Nat.reduceAdd, Nat.reduceLT, Nat.zero_add, Option.toList, ix2_0, ix2_1, cm_eq, cm_ne, cm_lt, cm_le, cm_gt, cm_ge, bd_add, bd_sub, bi_len_t, bi_len_l, bi_gcd, tr_bool, isiD, dc_f h3]
    show _ = Rz.ok (PyData.bool (decide ((xs.length : Int) = 2) && xs.all (isLot l))) w
    rw [dc_f h3]
    rfl
/-! a loop that leaves at the first bad item -/
theorem all_loop {body : PyData → List Slt → Wl → Xr} {p : PyData → Bool} {f : Slt → List Slt} : ∀ {xs : List PyData} (s : Slt) (w : Wl), (∀ d ∈ xs, ∀ s, body d (f s) w = if p d = true then .ok .nx (f (.val d)) w else .ok (.ret (PyData.bool false)) (f (.val d)) w) →
    ∃ s', loopF body xs (f s) w = if xs.all p = true then .ok .nx (f s') w else .ok (.ret (PyData.bool false)) (f s') w
  | [], s, w, _ => ⟨s, rfl⟩
  | d :: r, s, w, h => by
    have h1 := h d List.mem_cons_self s
    cases hp : p d with
    | true =>
      rw [if_pos hp] at h1
      rw [loopF_nx h1]
      obtain ⟨s', e⟩ := all_loop (xs := r) (.val d) w fun y hy => h y (List.mem_cons_of_mem _ hy)
      exact ⟨s', by rw [e, List.all_cons, hp, Bool.true_and]⟩
    | false =>
      rw [if_neg (by rw [hp]; decide)] at h1
      exact ⟨.val d, by rw [loopF_ret h1, List.all_cons, hp, Bool.false_and]; rfl⟩
/-! once -/
theorem c29 (k : Nat) (l : Int) (d : PyData) (w : Wl) : callF fns 1 (k + 1) 29 [.int l, d] w = fin (Rx.run (callF fns 1 k) 1 b__law_once [.val (.int l), .val d, .no] w) := rfl
theorem allI_ints : ∀ {xs : List PyData}, xs.all isI = true → ∃ ns : List Int, xs = ns.map PyData.int
  | [], _ => ⟨[], rfl⟩
  | x :: r, h => by
    rw [List.all_cons, Bool.and_eq_true] at h
    obtain ⟨ns, e⟩ := allI_ints h.2
    cases x <;> first | (cases h.1; done) | skip
    rename_i i
    exact ⟨i :: ns, by rw [e]; rfl⟩
theorem eqvAll_ints : ∀ (a b : List Int), PyData.eqvAll (a.map PyData.int) (b.map PyData.int) = decide (a = b)
  | [], [] => rfl
  | [], _ :: _ => rfl
  | _ :: _, [] => rfl
  | x :: a, y :: b => by
    simp only [List.map_cons, PyData.eqvAll, PyData.eqv, eqvAll_ints a b]
    rw [Bool.eq_iff_iff]
    simp
theorem plain_ints : ∀ (a : List Int), PyData.plainAll (a.map PyData.int) = true
  | [] => rfl
  | x :: a => by
    simp only [List.map_cons, PyData.plainAll, PyData.plain, plain_ints a, Bool.and_self]
theorem depth_ints : ∀ (a : List Int), PyData.depthAll (a.map PyData.int) ≤ 1
  | [] => by decide
  | x :: a => by
    have := depth_ints a
    simp only [List.map_cons, PyData.depthAll, PyData.depth]
    omega
theorem flat_int (i : Int) : flatD (.int i) = true := rfl
theorem flat_lints (a : List Int) : flatD (.list (a.map PyData.int)) = true := by
  unfold flatD
  rw [Bool.and_eq_true, decide_eq_true_eq]
  have := depth_ints a
  refine ⟨by simp only [PyData.plain]; exact plain_ints a, ?_⟩
  simp only [PyData.depth]
  omega
theorem eq_lints (a b : List Int) : cmpD .eq (.list (a.map PyData.int)) (.list (b.map PyData.int)) = some (decide (a = b)) := by
  show (if flatD (.list (a.map PyData.int)) = true ∧ flatD (.list (b.map PyData.int)) = true then some (PyData.eqv (.list (a.map PyData.int)) (.list (b.map PyData.int))) else none) = _
  rw [if_pos ⟨flat_lints a, flat_lints b⟩]
  simp only [PyData.eqv, eqvAll_ints]
def leI (a b : Int) : Bool := !decide (b < a)
theorem sortB_ints (ns : List Int) : sortB (ns.map PyData.int) = true := by
  unfold sortB
  simp only [Bool.and_eq_true, Bool.or_eq_true, List.all_eq_true]
  refine ⟨⟨fun d hd e he => ?_, .inr fun d hd => ?_⟩, fun d hd => ?_⟩
  · obtain ⟨i, _, rfl⟩ := List.mem_map.mp hd
    obtain ⟨j, _, rfl⟩ := List.mem_map.mp he
    rfl
  · obtain ⟨i, _, rfl⟩ := List.mem_map.mp hd
    rfl
  · obtain ⟨i, _, rfl⟩ := List.mem_map.mp hd
    rfl
theorem sortD_ints (ns : List Int) : sortD (ns.map PyData.int) = (ns.mergeSort leI).map PyData.int := by
  unfold sortD
  rw [List.map_mergeSort]
  intro a _ b _
  show leI a b = !(PySem.W.dataLt (.int b) (.int a))
  rw [PySem.W.dataLt_int]
  rfl
theorem leI_t {a b c : Int} (h1 : leI a b = true) (h2 : leI b c = true) : leI a c = true := by
  unfold leI at *
  simp only [Bool.not_eq_true', decide_eq_false_iff_not] at *
  omega
theorem leI_c (a b : Int) : (leI a b || leI b a) = true := by
  unfold leI
  by_cases h : b < a
  · rw [dc_t h, dc_f (show ¬ a < b by omega)]
    rfl
  · rw [dc_f h]
    rfl
def rgI (a : Int) (n : Nat) : List Int := (List.range n).map fun (i : Nat) => a + (i : Int)
theorem rgI_s (a : Int) (n : Nat) : rgI a (n + 1) = a :: rgI (a + 1) n := by
  unfold rgI
  rw [List.range_succ_eq_map, List.map_cons, List.map_map]
  congr 1
  · omega
  · apply List.map_congr_left
    intro x _
    show a + ((x + 1 : Nat) : Int) = a + 1 + x
    omega
theorem asc_rg : ∀ (ns : List Int) (a : Int), ns.Pairwise (· < ·) → (∀ i ∈ ns, a ≤ i ∧ i < a + ns.length) → ns = rgI a ns.length
  | [], _, _, _ => rfl
  | x :: r, a, h, hb => by
    rw [List.pairwise_cons] at h
    have hx := hb x List.mem_cons_self
    have hr : r = rgI (a + 1) r.length := asc_rg r (a + 1) h.2 fun i hi => by
      have h1 := h.1 i hi
      have h2 := hb i (List.mem_cons_of_mem _ hi)
      rw [List.length_cons] at h2
      omega
    rw [List.length_cons, rgI_s, ← hr]
    congr 1
    cases r with
    | nil =>
      simp at hx
      omega
    | cons y t =>
      have hy : y = a + 1 := by
        rw [List.length_cons, rgI_s] at hr
        exact (List.cons.inj hr).1
      have := h.1 y List.mem_cons_self
      omega
theorem rgI_mem {a i : Int} {n : Nat} : i ∈ rgI a n ↔ a ≤ i ∧ i < a + n := by
  unfold rgI
  rw [List.mem_map]
  constructor
  · rintro ⟨j, hj, rfl⟩
    rw [List.mem_range] at hj
    omega
  · intro h
    exact ⟨(i - a).toNat, by rw [List.mem_range]; omega, by omega⟩
theorem rgI_nodup (a : Int) (n : Nat) : (rgI a n).Nodup := by
  unfold rgI
  refine List.Pairwise.map _ ?_ List.nodup_range
  intro x y h
  omega
theorem ddI_sub : ∀ (ns : List Int), (ddI ns).length ≤ ns.length
  | [] => Nat.le_refl _
  | x :: r => by
    have := ddI_sub r
    show (if x ∈ ddI r then ddI r else x :: ddI r).length ≤ r.length + 1
    split
    · omega
    · rw [List.length_cons]; omega
theorem ddI_mem : ∀ {ns : List Int} {i : Int}, i ∈ ddI ns ↔ i ∈ ns
  | [], _ => Iff.rfl
  | x :: r, i => by
    show i ∈ (if x ∈ ddI r then ddI r else x :: ddI r) ↔ _
    split
    · rename_i h
      rw [ddI_mem, List.mem_cons]
      constructor
      · exact .inr
      · rintro (rfl | h')
        · exact ddI_mem.mp h
        · exact h'
    · rw [List.mem_cons, List.mem_cons, ddI_mem]
theorem ddI_nodup : ∀ (ns : List Int), (ddI ns).length = ns.length ↔ ns.Nodup
  | [] => ⟨fun _ => List.nodup_nil, fun _ => rfl⟩
  | x :: r => by
    have hs := ddI_sub r
    rw [List.nodup_cons, ← ddI_nodup r]
    show (if x ∈ ddI r then ddI r else x :: ddI r).length = r.length + 1 ↔ _
    split
    · rename_i h
      rw [ddI_mem] at h
      exact ⟨fun e => by omega, fun e => absurd h e.1⟩
    · rename_i h
      rw [ddI_mem] at h
      rw [List.length_cons]
      exact ⟨fun e => ⟨h, by omega⟩, fun e => by omega⟩
theorem once_iff (ns : List Int) : ns.mergeSort leI = rgI 0 ns.length ↔ (∀ i ∈ ns, 0 ≤ i ∧ i < ns.length) ∧ ns.Nodup := by
  have hp := List.mergeSort_perm ns leI
  constructor
  · intro h
    rw [h] at hp
    refine ⟨fun i hi => ?_, hp.nodup_iff.mp (rgI_nodup _ _)⟩
    have := rgI_mem.mp (hp.mem_iff.mpr hi)
    omega
  · intro ⟨h1, h2⟩
    have hl := hp.length_eq
    rw [← hl]
    have hs := List.pairwise_mergeSort (le := leI) (fun a b c => leI_t) leI_c ns
    have hn := hp.nodup_iff.mpr h2
    refine asc_rg _ 0 ?_ fun i hi => ?_
    · refine (hs.and hn).imp fun {a b} h => ?_
      have h3 := h.1
      have h4 := h.2
      unfold leI at h3
      simp only [Bool.not_eq_true', decide_eq_false_iff_not] at h3
      omega
    · have := h1 i (hp.mem_iff.mp hi)
      omega
end K00
set_option Elab.async false
set_option linter.all false
set_option maxRecDepth 100000
set_option maxHeartbeats 4000000
namespace K00
open PySem PySem.Spec PyProof.Rows L2 Rx
def forB (cl : Nat → List PyData → Wl → Rz PyData) (g b : T) : PyData → List Slt → Wl → Xr := fun d sl w => match asgG g d sl with
  | some sl => Rx.run cl 1 b sl w
  | none => .stuck
theorem run_forB {cl : Nat → List PyData → Wl → Rz PyData} {g it b : T} {sl : List Slt} {w w1 : Wl} {items : List PyData} (h : (sem cl it).i sl w = .ok items w1) : Rx.run cl 1 (.for_ g it b) sl w = loopF (forB cl g b) items sl w1 := by
  show ((sem cl it).i sl w).x _ = _
  rw [h]
  rfl
theorem bi_sorted (xs : List PyData) : biD .sorted [.tuple xs] = if sortB xs = true then some (.fresh (sortD xs)) else none := rfl
theorem rg0 (n : Nat) : ((List.range n).map fun (i : Nat) => PyData.int (0 + (i : Int))) = (rgI 0 n).map PyData.int := by
  unfold rgI
  rw [List.map_map]
  rfl
theorem e29_t (k : Nat) (ns : List Int) (w : Wl) (h : ns.length ≤ 100) (sl : List Slt) : fin (Rx.run (callF fns 1 k) 1 (.cons (.ret (.cmp .eq (.bi .sorted (.cons (.nm 1) .nil)) (.lrng (.nm 0)))) .nil) (.val (.int ns.length) :: .val (.tuple (ns.map PyData.int)) :: sl) w) = .ok (PyData.bool (decide (ns.mergeSort leI = rgI 0 ns.length))) w := by
  have h1 := rng_ok (n := (ns.length : Int)) (by omega)
  rw [Int.toNat_natCast, rg0] at h1
  simp only [Rx.run, sem, Sm.ex, Sm.tst, Sm.none_, vNot, vBin, vNeg, vCmp, vCmp2, vIfe, vTup, vLst, vIx, vSlc, vIsi, vBi, vLset, vLrng, vTrng, vLc, Rx.iRng1, Rx.iRng2, slotV, slotP, isNil, isNm, Rz.bnd, Rz.map, Rz.x, Xr.seq, asB, boolR, intR, Got.d, Got.slot, storeS, frzS, ownAt, ofO, noOwn, wipeS, asgG, asgGs, itemsD, List.getElem?_cons_zero, List.getElem?_cons_succ, List.set_cons_zero, List.set_cons_succ, List.length_cons, List.length_nil, if_true, if_false, Bool.false_eq_true, Bool.not_false, Bool.not_true, List.all_cons, List.all_nil, Bool.and_true, List.map_cons, List.map_nil, Nat.reduceAdd, Nat.reduceLT, Nat.zero_add, Option.toList, ix2_0, ix2_1, cm_eq, cm_ne, cm_lt, cm_le, cm_gt, cm_ge, bd_add, bd_sub, bi_len_t, bi_len_l, bi_gcd, tr_bool, bi_sorted, if_pos (sortB_ints ns), sortD_ints, h1, eq_lints]
  rfl
theorem seq_once (ns : List Int) : isSeq ns.length (.tuple (ns.map PyData.int)) = decide (ns.mergeSort leI = rgI 0 ns.length) := by
  apply Bool.eq_iff_iff.mpr
  rw [decide_eq_true_eq, once_iff, ← ddI_nodup]
  show ((decide (((ns.map PyData.int).length : Int) = ns.length) && (ns.map PyData.int).all (isNb ns.length)) && decide (((ddI ((ns.map PyData.int).map toI)).length : Int) = ((ns.map PyData.int).length : Nat))) = true ↔ _
  rw [toI_map, List.length_map, dc_t rfl, Bool.true_and, Bool.and_eq_true, decide_eq_true_eq, List.all_map, List.all_eq_true]
  constructor
  · rintro ⟨h1, h2⟩
    refine ⟨fun i hi => ?_, by omega⟩
    have := h1 i hi
    replace this : (decide (0 ≤ i) && decide (i < (ns.length : Int))) = true := this
    simpa using this
  · rintro ⟨h1, h2⟩
    refine ⟨fun i hi => ?_, by omega⟩
    show (decide (0 ≤ i) && decide (i < (ns.length : Int))) = true
    rw [dc_t (h1 i hi).1, dc_t (h1 i hi).2]
    rfl
theorem e29 (k : Nat) (l : Int) (d : PyData) (w : Wl) {n : Nat} (h : tm n d = true) : callF fns 1 (k + 2) 29 [.int l, d] w = .ok (.bool (isSeq l d)) w := by
  cases d <;> first | rfl | (cases n <;> cases h; done) | skip
  rename_i xs
  obtain ⟨hl, m, rfl, hx⟩ := tm_tup h
  rw [c29]
  unfold b__law_once
  rw [run_cons]
  by_cases h2 : (xs.length : Int) = l
  · subst h2
    have e1 : Rx.run (callF fns 1 (k + 1)) 1 (.ifs (.bor (.cons (.not (.isi (.nm 1) .tup)) (.cons (.cmp .ne (.bi .len (.cons (.nm 1) .nil)) (.nm 0)) .nil))) (.cons (.ret (.kB false)) .nil) .nil) [.val (.int xs.length), .val (.tuple xs), .no] w = .ok .nx [.val (.int xs.length), .val (.tuple xs), .no] w := by
      simp only [Rx.run, sem, Sm.ex, Sm.tst, Sm.none_, vNot, vBin, vNeg, vCmp, vCmp2, vIfe, vTup, vLst, vIx, vSlc, vIsi, vBi, vLset, vLrng, vTrng, vLc, Rx.iRng1, Rx.iRng2, slotV, slotP, isNil, isNm, Rz.bnd, Rz.map, Rz.x, Xr.seq, asB, boolR, intR, Got.d, Got.slot, storeS, frzS, ownAt, ofO, noOwn, wipeS, asgG, asgGs, itemsD, List.getElem?_cons_zero, List.getElem?_cons_succ, List.set_cons_zero, List.set_cons_succ, List.length_cons, List.length_nil, if_true, if_false, Bool.false_eq_true, Bool.not_false, Bool.not_true, List.all_cons, List.all_nil, Bool.and_true, List.map_cons, List.map_nil, Nat.reduceAdd, Nat.reduceLT, Nat.zero_add, Option.toList, ix2_0, ix2_1, cm_eq, cm_ne, cm_lt, cm_le, cm_gt, cm_ge, bd_add, bd_sub, bi_len_t, bi_len_l, bi_gcd, tr_bool, isiD, decide_true]
    rw [e1]
    show fin (Rx.run _ 1 (.cons _ _) _ w) = _
    rw [run_cons, run_forB (items := xs) (w1 := w) rfl]
    obtain ⟨s', e⟩ := all_loop (body := forB (callF fns 1 (k + 1)) (.nm 2) (.cons (.ifs (.not (.call 24 (.cons (.nm 2) .nil))) (.cons (.ret (.kB false)) .nil) .nil) .nil)) (p := isI) (f := fun s => [.val (.int xs.length), .val (.tuple xs), s]) (xs := xs) .no w (by
        intro d hd s
        unfold forB
        simp only [Rx.run, sem, Sm.ex, Sm.tst, Sm.none_, vNot, vBin, vNeg, vCmp, vCmp2, vIfe, vTup, vLst, vIx, vSlc, vIsi, vBi, vLset, vLrng, vTrng, vLc, Rx.iRng1, Rx.iRng2, slotV, slotP, isNil, isNm, Rz.bnd, Rz.map, Rz.x, Xr.seq, asB, boolR, intR, Got.d, Got.slot, storeS, frzS, ownAt, ofO, noOwn, wipeS, asgG, asgGs, itemsD, List.getElem?_cons_zero, List.getElem?_cons_succ, List.set_cons_zero, List.set_cons_succ, List.length_cons, List.length_nil, if_true, if_false, Bool.false_eq_true, Bool.not_false, Bool.not_true, List.all_cons, List.all_nil, Bool.and_true, List.map_cons, List.map_nil, Nat.reduceAdd, Nat.reduceLT, Nat.zero_add, Option.toList, ix2_0, ix2_1, cm_eq, cm_ne, cm_lt, cm_le, cm_gt, cm_ge, bd_add, bd_sub, bi_len_t, bi_len_l, bi_gcd, tr_bool, e24 k d w (noD_of (hx d hd))]
        cases isI d <;> rfl)
    rw [e]
    cases hp : xs.all isI with
    | true =>
      obtain ⟨ns, rfl⟩ := allI_ints hp
      rw [if_pos rfl, List.length_map] at *
      rw [seq_once ns, ← e29_t (k + 1) ns w hl [s']]
      rfl
    | false =>
      have hq : isSeq xs.length (.tuple xs) = false := by
        cases hq : isSeq xs.length (.tuple xs) with
        | false => rfl
        | true =>
          unfold isSeq at hq
          rw [Bool.and_eq_true, Bool.and_eq_true] at hq
          obtain ⟨ns, e, _⟩ := NB_tup hq.1.2
          cases e
          rw [List.all_map] at hp
          have : (ns.all (isI ∘ PyData.int)) = true := by rw [List.all_eq_true]; intro _ _; rfl
          rw [this] at hp
          cases hp
      rw [hq, if_neg (by decide)]
      rfl
  · have hq : isSeq l (.tuple xs) = false := by
      unfold isSeq
      rw [show isT l (.tuple xs) = false from dc_f h2]
      rfl
    rw [hq]
    have e1 : Rx.run (callF fns 1 (k + 1)) 1 (.ifs (.bor (.cons (.not (.isi (.nm 1) .tup)) (.cons (.cmp .ne (.bi .len (.cons (.nm 1) .nil)) (.nm 0)) .nil))) (.cons (.ret (.kB false)) .nil) .nil) [.val (.int l), .val (.tuple xs), .no] w = .ok (.ret (PyData.bool false)) [.val (.int l), .val (.tuple xs), .no] w := by
      simp only [Rx.run, sem, Sm.ex, Sm.tst, Sm.none_, vNot, vBin, vNeg, vCmp, vCmp2, vIfe, vTup, vLst, vIx, vSlc, vIsi, vBi, vLset, vLrng, vTrng, vLc, Rx.iRng1, Rx.iRng2, slotV, slotP, isNil, isNm, Rz.bnd, Rz.map, Rz.x, Xr.seq, asB, boolR, intR, Got.d, Got.slot, storeS, frzS, ownAt, ofO, noOwn, wipeS, asgG, asgGs, itemsD, List.getElem?_cons_zero, List.getElem?_cons_succ, List.set_cons_zero, List.set_cons_succ, List.length_cons, List.length_nil, if_true, if_false, Bool.false_eq_true, Bool.not_false, Bool.not_true, List.all_cons, List.all_nil, Bool.and_true, List.map_cons, List.map_nil, Nat.reduceAdd, Nat.reduceLT, Nat.zero_add, Option.toList, ix2_0, ix2_1, cm_eq, cm_ne, cm_lt, cm_le, cm_gt, cm_ge, bd_add, bd_sub, bi_len_t, bi_len_l, bi_gcd, tr_bool, isiD, dc_f h2]
    rw [e1]
    rfl
/-! each -/
theorem c30 (k : Nat) (l i : Int) (d : PyData) (w : Wl) : callF fns 1 (k + 1) 30 [.int l, d, .int i] w = fin (Rx.run (callF fns 1 k) 1 b__law_each [.val (.int l), .val d, .val (.int i), .no] w) := rfl
def eachB : T := (.cons (.ifs (.cmp .eq (.nm 2) (.kI 0)) (.cons (.ifs (.bor (.cons (.not (.call 24 (.cons (.nm 3) .nil))) (.cons (.cmp .lt (.nm 3) (.kI 0)) .nil))) (.cons (.ret (.kB false)) .nil) .nil) .nil) (.cons (.ifs (.bor (.cons (.not (.call 25 (.cons (.nm 3) .nil))) (.cons (.cmp .lt (.ix (.nm 3) (.kI 0)) (.kI 0)) .nil))) (.cons (.ret (.kB false)) .nil) .nil) .nil)) .nil)
def allT (p : PyData → Bool) : PyData → Bool
  | .tuple xs => xs.all p
  | _ => false
theorem each_any (k : Nat) (l i : Int) (p : PyData → Bool) (d : PyData) (w : Wl) {n : Nat} (h : tm n d = true)
    (hb : ∀ x, (∃ m, tm m x = true) → Rx.run (callF fns 1 (k + 2)) 1 eachB [.val (.int l), .val d, .val (.int i), .val x] w = if p x = true then .ok .nx [.val (.int l), .val d, .val (.int i), .val x] w else .ok (.ret (PyData.bool false)) [.val (.int l), .val d, .val (.int i), .val x] w) :
    callF fns 1 (k + 3) 30 [.int l, d, .int i] w = .ok (.bool (isT l d && allT p d)) w := by
  cases d <;> first | rfl | (cases n <;> cases h; done) | skip
  rename_i xs
  obtain ⟨hl, m, rfl, hx⟩ := tm_tup h
  rw [c30]
  unfold b__law_each
  rw [run_cons]
  by_cases h2 : (xs.length : Int) = l
  · have e1 : Rx.run (callF fns 1 (k + 2)) 1 (.ifs (.bor (.cons (.not (.isi (.nm 1) .tup)) (.cons (.cmp .ne (.bi .len (.cons (.nm 1) .nil)) (.nm 0)) .nil))) (.cons (.ret (.kB false)) .nil) .nil) [.val (.int l), .val (.tuple xs), .val (.int i), .no] w = .ok .nx [.val (.int l), .val (.tuple xs), .val (.int i), .no] w := by
      simp only [Rx.run, sem, Sm.ex, Sm.tst, Sm.none_, vNot, vBin, vNeg, vCmp, vCmp2, vIfe, vTup, vLst, vIx, vSlc, vIsi, vBi, vLset, vLrng, vTrng, vLc, Rx.iRng1, Rx.iRng2, slotV, slotP, isNil, isNm, Rz.bnd, Rz.map, Rz.x, Xr.seq, asB, boolR, intR, Got.d, Got.slot, storeS, frzS, ownAt, ofO, noOwn, wipeS, asgG, asgGs, itemsD, List.getElem?_cons_zero, List.getElem?_cons_succ, List.set_cons_zero, List.set_cons_succ, List.length_cons, List.length_nil, if_true, if_false, Bool.false_eq_true, Bool.not_false, Bool.not_true, List.all_cons, List.all_nil, Bool.and_true, List.map_cons, List.map_nil, Nat.reduceAdd, Nat.reduceLT, Nat.zero_add, Option.toList, ix2_0, ix2_1, cm_eq, cm_ne, cm_lt, cm_le, cm_gt, cm_ge, bd_add, bd_sub, bi_len_t, bi_len_l, bi_gcd, tr_bool, isiD, dc_t h2]
    rw [e1]
    show fin (Rx.run _ 1 (.cons _ _) _ w) = _
    rw [run_cons, run_forB (items := xs) (w1 := w) rfl]
    obtain ⟨s', e⟩ := all_loop (body := forB (callF fns 1 (k + 2)) (.nm 3) eachB) (p := p) (f := fun s => [.val (.int l), .val (.tuple xs), .val (.int i), s]) (xs := xs) .no w (by
        intro y hy s
        exact hb y ⟨m, hx y hy⟩)
    show fin (Xr.seq (loopF (forB (callF fns 1 (k + 2)) (.nm 3) eachB) xs [.val (.int l), .val (.tuple xs), .val (.int i), .no] w) _) = _
    rw [e, show isT l (.tuple xs) = true from dc_t h2]
    show _ = Rz.ok (PyData.bool (true && xs.all p)) w
    cases xs.all p <;> rfl
  · have e1 : Rx.run (callF fns 1 (k + 2)) 1 (.ifs (.bor (.cons (.not (.isi (.nm 1) .tup)) (.cons (.cmp .ne (.bi .len (.cons (.nm 1) .nil)) (.nm 0)) .nil))) (.cons (.ret (.kB false)) .nil) .nil) [.val (.int l), .val (.tuple xs), .val (.int i), .no] w = .ok (.ret (PyData.bool false)) [.val (.int l), .val (.tuple xs), .val (.int i), .no] w := by
      simp only [Rx.run, sem, Sm.ex, Sm.tst, Sm.none_, vNot, vBin, vNeg, vCmp, vCmp2, vIfe, vTup, vLst, vIx, vSlc, vIsi, vBi, vLset, vLrng, vTrng, vLc, Rx.iRng1, Rx.iRng2, slotV, slotP, isNil, isNm, Rz.bnd, Rz.map, Rz.x, Xr.seq, asB, boolR, intR, Got.d, Got.slot, storeS, frzS, ownAt, ofO, noOwn, wipeS, asgG, asgGs, itemsD, List.getElem?_cons_zero, List.getElem?_cons_succ, List.set_cons_zero, List.set_cons_succ, List.length_cons, List.length_nil, if_true, if_false, Bool.false_eq_true, Bool.not_false, Bool.not_true, List.all_cons, List.all_nil, Bool.and_true, List.map_cons, List.map_nil, Nat.reduceAdd, Nat.reduceLT, Nat.zero_add, Option.toList, ix2_0, ix2_1, cm_eq, cm_ne, cm_lt, cm_le, cm_gt, cm_ge, bd_add, bd_sub, bi_len_t, bi_len_l, bi_gcd, tr_bool, isiD, dc_f h2]
    rw [e1, show isT l (.tuple xs) = false from dc_f h2]
    rfl
theorem e30a (k : Nat) (l : Int) (d : PyData) (w : Wl) {n : Nat} (h : tm n d = true) : callF fns 1 (k + 3) 30 [.int l, d, .int 0] w = .ok (.bool (isWts l d)) w := by
  rw [show isWts l d = (isT l d && allT isN d) by cases d <;> rfl]
  refine each_any k l 0 isN d w h fun x hx => ?_
  obtain ⟨m, hm⟩ := hx
  unfold eachB
  simp only [Rx.run, sem, Sm.ex, Sm.tst, Sm.none_, vNot, vBin, vNeg, vCmp, vCmp2, vIfe, vTup, vLst, vIx, vSlc, vIsi, vBi, vLset, vLrng, vTrng, vLc, Rx.iRng1, Rx.iRng2, slotV, slotP, isNil, isNm, Rz.bnd, Rz.map, Rz.x, Xr.seq, asB, boolR, intR, Got.d, Got.slot, storeS, frzS, ownAt, ofO, noOwn, wipeS, asgG, asgGs, itemsD, List.getElem?_cons_zero, List.getElem?_cons_succ, List.set_cons_zero, List.set_cons_succ, List.length_cons, List.length_nil, if_true, if_false, Bool.false_eq_true, Bool.not_false, Bool.not_true, List.all_cons, List.all_nil, Bool.and_true, List.map_cons, List.map_nil, Nat.reduceAdd, Nat.reduceLT, Nat.zero_add, Option.toList, ix2_0, ix2_1, cm_eq, cm_ne, cm_lt, cm_le, cm_gt, cm_ge, bd_add, bd_sub, bi_len_t, bi_len_l, bi_gcd, tr_bool, dc_t, e24 (k + 1) x w (noD_of hm)]
  cases x <;> first | rfl | skip
  rename_i i
  by_cases hi : 0 ≤ i
  · simp only [Rx.run, sem, Sm.ex, Sm.tst, Sm.none_, vNot, vBin, vNeg, vCmp, vCmp2, vIfe, vTup, vLst, vIx, vSlc, vIsi, vBi, vLset, vLrng, vTrng, vLc, Rx.iRng1, Rx.iRng2, slotV, slotP, isNil, isNm, Rz.bnd, Rz.map, Rz.x, Xr.seq, asB, boolR, intR, Got.d, Got.slot, storeS, frzS, ownAt, ofO, noOwn, wipeS, asgG, asgGs, itemsD, List.getElem?_cons_zero, List.getElem?_cons_succ, List.set_cons_zero, List.set_cons_succ, List.length_cons, List.length_nil, if_true, if_false, Bool.false_eq_true, Bool.not_false, Bool.not_true, List.all_cons, List.all_nil, Bool.and_true, List.map_cons, List.map_nil, Nat.reduceAdd, Nat.reduceLT, Nat.zero_add, Option.toList, ix2_0, ix2_1, cm_eq, cm_ne, cm_lt, cm_le, cm_gt, cm_ge, bd_add, bd_sub, bi_len_t, bi_len_l, bi_gcd, tr_bool, isI, isN, dc_t hi, dc_f (show ¬ i < 0 by omega)]
  · simp only [Rx.run, sem, Sm.ex, Sm.tst, Sm.none_, vNot, vBin, vNeg, vCmp, vCmp2, vIfe, vTup, vLst, vIx, vSlc, vIsi, vBi, vLset, vLrng, vTrng, vLc, Rx.iRng1, Rx.iRng2, slotV, slotP, isNil, isNm, Rz.bnd, Rz.map, Rz.x, Xr.seq, asB, boolR, intR, Got.d, Got.slot, storeS, frzS, ownAt, ofO, noOwn, wipeS, asgG, asgGs, itemsD, List.getElem?_cons_zero, List.getElem?_cons_succ, List.set_cons_zero, List.set_cons_succ, List.length_cons, List.length_nil, if_true, if_false, Bool.false_eq_true, Bool.not_false, Bool.not_true, List.all_cons, List.all_nil, Bool.and_true, List.map_cons, List.map_nil, Nat.reduceAdd, Nat.reduceLT, Nat.zero_add, Option.toList, ix2_0, ix2_1, cm_eq, cm_ne, cm_lt, cm_le, cm_gt, cm_ge, bd_add, bd_sub, bi_len_t, bi_len_l, bi_gcd, tr_bool, isI, isN, dc_f hi, dc_t (show i < 0 by omega)]
theorem e30b (k : Nat) (l : Int) (d : PyData) (w : Wl) {n : Nat} (h : tm n d = true) : callF fns 1 (k + 3) 30 [.int l, d, .int 1] w = .ok (.bool (isShr l d)) w := by
  rw [show isShr l d = (isT l d && allT isSh d) by cases d <;> rfl]
  refine each_any k l 1 isSh d w h fun x hx => ?_
  obtain ⟨m, hm⟩ := hx
  unfold eachB
  have h01 : decide ((1 : Int) = 0) = false := rfl
  simp only [Rx.run, sem, Sm.ex, Sm.tst, Sm.none_, vNot, vBin, vNeg, vCmp, vCmp2, vIfe, vTup, vLst, vIx, vSlc, vIsi, vBi, vLset, vLrng, vTrng, vLc, Rx.iRng1, Rx.iRng2, slotV, slotP, isNil, isNm, Rz.bnd, Rz.map, Rz.x, Xr.seq, asB, boolR, intR, Got.d, Got.slot, storeS, frzS, ownAt, ofO, noOwn, wipeS, asgG, asgGs, itemsD, List.getElem?_cons_zero, List.getElem?_cons_succ, List.set_cons_zero, List.set_cons_succ, List.length_cons, List.length_nil, if_true, if_false, Bool.false_eq_true, Bool.not_false, Bool.not_true, List.all_cons, List.all_nil, Bool.and_true, List.map_cons, List.map_nil, Nat.reduceAdd, Nat.reduceLT, Nat.zero_add, Option.toList, ix2_0, ix2_1, cm_eq, cm_ne, cm_lt, cm_le, cm_gt, cm_ge, bd_add, bd_sub, bi_len_t, bi_len_l, bi_gcd, tr_bool, h01, e25q k x w hm]
  cases hq : isQ x with
  | false =>
    unfold isSh
    rw [hq]
    rfl
  | true =>
    obtain ⟨a, b, rfl⟩ := isQ_inv hq
    unfold isSh
    rw [hq]
    by_cases hi : 0 ≤ a
    · simp only [Rx.run, sem, Sm.ex, Sm.tst, Sm.none_, vNot, vBin, vNeg, vCmp, vCmp2, vIfe, vTup, vLst, vIx, vSlc, vIsi, vBi, vLset, vLrng, vTrng, vLc, Rx.iRng1, Rx.iRng2, slotV, slotP, isNil, isNm, Rz.bnd, Rz.map, Rz.x, Xr.seq, asB, boolR, intR, Got.d, Got.slot, storeS, frzS, ownAt, ofO, noOwn, wipeS, asgG, asgGs, itemsD, List.getElem?_cons_zero, List.getElem?_cons_succ, List.set_cons_zero, List.set_cons_succ, List.length_cons, List.length_nil, if_true, if_false, Bool.false_eq_true, Bool.not_false, Bool.not_true, List.all_cons, List.all_nil, Bool.and_true, List.map_cons, List.map_nil, Nat.reduceAdd, Nat.reduceLT, Nat.zero_add, Option.toList, ix2_0, ix2_1, cm_eq, cm_ne, cm_lt, cm_le, cm_gt, cm_ge, bd_add, bd_sub, bi_len_t, bi_len_l, bi_gcd, tr_bool, dc_t hi, dc_f (show ¬ a < 0 by omega), Bool.true_and]
    · simp only [Rx.run, sem, Sm.ex, Sm.tst, Sm.none_, vNot, vBin, vNeg, vCmp, vCmp2, vIfe, vTup, vLst, vIx, vSlc, vIsi, vBi, vLset, vLrng, vTrng, vLc, Rx.iRng1, Rx.iRng2, slotV, slotP, isNil, isNm, Rz.bnd, Rz.map, Rz.x, Xr.seq, asB, boolR, intR, Got.d, Got.slot, storeS, frzS, ownAt, ofO, noOwn, wipeS, asgG, asgGs, itemsD, List.getElem?_cons_zero, List.getElem?_cons_succ, List.set_cons_zero, List.set_cons_succ, List.length_cons, List.length_nil, if_true, if_false, Bool.false_eq_true, Bool.not_false, Bool.not_true, List.all_cons, List.all_nil, Bool.and_true, List.map_cons, List.map_nil, Nat.reduceAdd, Nat.reduceLT, Nat.zero_add, Option.toList, ix2_0, ix2_1, cm_eq, cm_ne, cm_lt, cm_le, cm_gt, cm_ge, bd_add, bd_sub, bi_len_t, bi_len_l, bi_gcd, tr_bool, dc_f hi, dc_t (show a < 0 by omega), Bool.true_and]
end K00
set_option Elab.async false
set_option linter.all false
set_option maxRecDepth 100000
set_option maxHeartbeats 4000000
namespace K00
open PySem PySem.Spec PyProof.Rows L2 Rx
/-! ### the quotients' defs -/
def exW (s : Str) (w : Wl) : Rz PyData := .exc 0 [.str s, .int (-1)] w
theorem e0 (k : Nat) (b : Bool) (s : Str) (w : Wl) : callF fns 1 (k + 1) 0 [.bool b, .str s] w = if b = true then .ok .none w else exW s w := by
  cases b <;> rfl
def QE (x : PyData) : Prop := ∀ k w, callF fns 1 (k + 2) 6 [x] w = .ok (.bool (isQ x)) w
theorem QE.tm {n : Nat} {x : PyData} (h : tm n x = true) : QE x := fun k w => e6 k x w h
theorem QE.ints (a b : Int) : QE (.tuple [.int a, .int b]) := fun k w => qq k a b w
theorem c21 (k : Nat) (x y : PyData) (w : Wl) : callF fns 1 (k + 1) 21 [x, y] w = fin (Rx.run (callF fns 1 k) 1 b_need_two [.val x, .val y] w) := rfl
theorem e21 (k : Nat) {x y : PyData} (w : Wl) (hx : QE x) (hy : QE y) : callF fns 1 (k + 3) 21 [x, y] w = if isQ x = true then if isQ y = true then .ok .none w else exW "another" w else exW "one" w := by
  rw [c21]
  unfold b_need_two
  simp only [Rx.run, sem, Sm.ex, Sm.tst, Sm.none_, vNot, vBin, vNeg, vCmp, vCmp2, vIfe, vTup, vLst, vIx, vSlc, vIsi, vBi, vLset, vLrng, vTrng, vLc, Rx.iRng1, Rx.iRng2, slotV, slotP, isNil, isNm, Rz.bnd, Rz.map, Rz.x, Xr.seq, asB, boolR, intR, Got.d, Got.slot, storeS, frzS, ownAt, ofO, noOwn, wipeS, asgG, asgGs, itemsD, List.getElem?_cons_zero, List.getElem?_cons_succ, List.set_cons_zero, List.set_cons_succ, List.length_cons, List.length_nil, if_true, if_false, Bool.false_eq_true, Bool.not_false, Bool.not_true, List.all_cons, List.all_nil, Bool.and_true, List.map_cons, List.map_nil, Nat.reduceAdd, Nat.reduceLT, Nat.zero_add, Option.toList, ix2_0, ix2_1, cm_eq, cm_ne, cm_lt, cm_le, cm_gt, cm_ge, bd_add, bd_sub, bi_len_t, bi_len_l, bi_gcd, tr_bool, hx k w, e0]
  cases isQ x with
  | false => rfl
  | true =>
    simp only [Rx.run, sem, Sm.ex, Sm.tst, Sm.none_, vNot, vBin, vNeg, vCmp, vCmp2, vIfe, vTup, vLst, vIx, vSlc, vIsi, vBi, vLset, vLrng, vTrng, vLc, Rx.iRng1, Rx.iRng2, slotV, slotP, isNil, isNm, Rz.bnd, Rz.map, Rz.x, Xr.seq, asB, boolR, intR, Got.d, Got.slot, storeS, frzS, ownAt, ofO, noOwn, wipeS, asgG, asgGs, itemsD, List.getElem?_cons_zero, List.getElem?_cons_succ, List.set_cons_zero, List.set_cons_succ, List.length_cons, List.length_nil, if_true, if_false, Bool.false_eq_true, Bool.not_false, Bool.not_true, List.all_cons, List.all_nil, Bool.and_true, List.map_cons, List.map_nil, Nat.reduceAdd, Nat.reduceLT, Nat.zero_add, Option.toList, ix2_0, ix2_1, cm_eq, cm_ne, cm_lt, cm_le, cm_gt, cm_ge, bd_add, bd_sub, bi_len_t, bi_len_l, bi_gcd, tr_bool, hy k w, e0]
    cases isQ y <;> rfl
theorem c22 (k : Nat) (x y : PyData) (w : Wl) : callF fns 1 (k + 1) 22 [x, y] w = fin (Rx.run (callF fns 1 k) 1 b_lowest [.val x, .val y, .no] w) := rfl
def lowS (a b : Int) : Int := if b < 0 then -(Nat.gcd a.natAbs b.natAbs : Int) else (Nat.gcd a.natAbs b.natAbs : Int)
def lowF (a b : Int) : PyData := .tuple [.int (a.fdiv (lowS a b)), .int (b.fdiv (lowS a b))]
theorem lowS_ne {a b : Int} (hb : b ≠ 0) : lowS a b ≠ 0 ∧ (lowS a b).natAbs = Nat.gcd a.natAbs b.natAbs ∧ Nat.gcd a.natAbs b.natAbs ≠ 0 := by
  have h : Nat.gcd a.natAbs b.natAbs ≠ 0 := by
    intro h
    have := (Nat.gcd_eq_zero_iff.mp h).2
    omega
  unfold lowS
  split <;> omega
theorem gcd_bd {a b : Int} {m : Nat} (hb : b ≠ 0) (h2 : b.natAbs < 2 ^ m) : Nat.gcd a.natAbs b.natAbs < 2 ^ m :=
  Nat.lt_of_le_of_lt (Nat.le_of_dvd (by omega) (Nat.gcd_dvd_right _ _)) h2
theorem p2k {n m : Nat} (h : n < 2 ^ m) (hm : m ≤ 2000) : n < 2 ^ 2000 := Nat.lt_of_lt_of_le h (Nat.pow_le_pow_right (by decide) hm)
theorem bd_fd {i j : Int} (h0 : j ≠ 0) (h2 : j.natAbs < 2 ^ 2000) : binD .fdiv (.int i) (.int j) = some (.val (.int (i.fdiv j))) := bd_fdiv h0 h2
theorem e22 (k : Nat) {a b : Int} (w : Wl) {m : Nat} (hb : b ≠ 0) (h2 : b.natAbs < 2 ^ m) (hm : m ≤ 2000) : callF fns 1 (k + 1) 22 [.int a, .int b] w = .ok (lowF a b) w := by
  obtain ⟨h3, h4, h5⟩ := lowS_ne (a := a) hb
  have h6 := p2k (gcd_bd (a := a) hb h2) hm
  rw [← h4] at h6
  rw [c22]
  unfold b_lowest lowF
  have e1 := bd_fd (i := a) h3 h6
  have e2 := bd_fd (i := b) h3 h6
  by_cases hn : b < 0
  · have e3 : lowS a b = -(Nat.gcd a.natAbs b.natAbs : Int) := if_pos hn
    rw [e3] at e1 e2 ⊢
    simp only [Rx.run, sem, Sm.ex, Sm.tst, Sm.none_, vNot, vBin, vNeg, vCmp, vCmp2, vIfe, vTup, vLst, vIx, vSlc, vIsi, vBi, vLset, vLrng, vTrng, vLc, Rx.iRng1, Rx.iRng2, slotV, slotP, isNil, isNm, Rz.bnd, Rz.map, Rz.x, Xr.seq, asB, boolR, intR, Got.d, Got.slot, storeS, frzS, ownAt, ofO, noOwn, wipeS, asgG, asgGs, itemsD, List.getElem?_cons_zero, List.getElem?_cons_succ, List.set_cons_zero, List.set_cons_succ, List.length_cons, List.length_nil, if_true, if_false, Bool.false_eq_true, Bool.not_false, Bool.not_true, List.all_cons, List.all_nil, Bool.and_true, List.map_cons, List.map_nil, Nat.reduceAdd, Nat.reduceLT, Nat.zero_add, Option.toList, ix2_0, ix2_1, cm_eq, cm_ne, cm_lt, cm_le, cm_gt, cm_ge, bd_add, bd_sub, bi_len_t, bi_len_l, bi_gcd, tr_bool, dc_t hn, e1, e2, sizeLine, show (2 ≤ 2 ^ 32) = True from by decide]
    rfl
  · have e3 : lowS a b = (Nat.gcd a.natAbs b.natAbs : Int) := if_neg hn
    rw [e3] at e1 e2 ⊢
    simp only [Rx.run, sem, Sm.ex, Sm.tst, Sm.none_, vNot, vBin, vNeg, vCmp, vCmp2, vIfe, vTup, vLst, vIx, vSlc, vIsi, vBi, vLset, vLrng, vTrng, vLc, Rx.iRng1, Rx.iRng2, slotV, slotP, isNil, isNm, Rz.bnd, Rz.map, Rz.x, Xr.seq, asB, boolR, intR, Got.d, Got.slot, storeS, frzS, ownAt, ofO, noOwn, wipeS, asgG, asgGs, itemsD, List.getElem?_cons_zero, List.getElem?_cons_succ, List.set_cons_zero, List.set_cons_succ, List.length_cons, List.length_nil, if_true, if_false, Bool.false_eq_true, Bool.not_false, Bool.not_true, List.all_cons, List.all_nil, Bool.and_true, List.map_cons, List.map_nil, Nat.reduceAdd, Nat.reduceLT, Nat.zero_add, Option.toList, ix2_0, ix2_1, cm_eq, cm_ne, cm_lt, cm_le, cm_gt, cm_ge, bd_add, bd_sub, bi_len_t, bi_len_l, bi_gcd, tr_bool, dc_f hn, e1, e2]
    rfl
/-! the fraction a / b, in lowest terms -/
def Fr (m : Nat) (v : PyData) (a b : Int) : Prop := ∃ x y, v = .tuple [.int x, .int y] ∧ 1 ≤ y ∧ Nat.gcd x.natAbs y.natAbs = 1 ∧ x * b = a * y ∧ x.natAbs < 2 ^ m ∧ y.natAbs < 2 ^ m
theorem low_fr {a b : Int} {m : Nat} (hb : b ≠ 0) (h1 : a.natAbs < 2 ^ m) (h2 : b.natAbs < 2 ^ m) : Fr m (lowF a b) a b := by
  obtain ⟨h3, h4, h5⟩ := lowS_ne (a := a) hb
  have d1 : lowS a b ∣ a := by
    rw [← Int.natAbs_dvd_natAbs, h4]
    exact Nat.gcd_dvd_left _ _
  have d2 : lowS a b ∣ b := by
    rw [← Int.natAbs_dvd_natAbs, h4]
    exact Nat.gcd_dvd_right _ _
  obtain ⟨x, hx⟩ := d1
  obtain ⟨y, hy⟩ := d2
  have ex : a.fdiv (lowS a b) = x := by
    have := Int.mul_fdiv_cancel_left x h3
    rw [← hx] at this
    exact this
  have ey : b.fdiv (lowS a b) = y := by
    have := Int.mul_fdiv_cancel_left y h3
    rw [← hy] at this
    exact this
  have ax : a.natAbs = (lowS a b).natAbs * x.natAbs := by rw [← Int.natAbs_mul, ← hx]
  have ay : b.natAbs = (lowS a b).natAbs * y.natAbs := by rw [← Int.natAbs_mul, ← hy]
  refine ⟨x, y, by unfold lowF; rw [ex, ey], ?_, ?_, ?_, ?_, ?_⟩
  · have hs : (b < 0 ∧ lowS a b < 0) ∨ (0 < b ∧ 0 < lowS a b) := by
      unfold lowS
      split <;> omega
    rcases hs with ⟨hs1, hs2⟩ | ⟨hs1, hs2⟩
    · by_cases hy0 : 1 ≤ y
      · exact hy0
      · have : 0 ≤ lowS a b * y := Int.mul_nonneg_of_nonpos_of_nonpos (by omega) (by omega)
        omega
    · by_cases hy0 : 1 ≤ y
      · exact hy0
      · have : lowS a b * y ≤ 0 := Int.mul_nonpos_of_nonneg_of_nonpos (by omega) (by omega)
        omega
  · have hg : Nat.gcd a.natAbs b.natAbs = Nat.gcd a.natAbs b.natAbs * Nat.gcd x.natAbs y.natAbs := by
      rw [← h4, ← Nat.gcd_mul_left, ← ax, ← ay, h4]
    have hg2 : Nat.gcd a.natAbs b.natAbs * Nat.gcd x.natAbs y.natAbs = Nat.gcd a.natAbs b.natAbs * 1 := by omega
    exact Nat.eq_of_mul_eq_mul_left (by omega) hg2
  · calc x * b = x * (lowS a b * y) := by rw [← hy]
      _ = (lowS a b * x) * y := by grind
      _ = a * y := by rw [← hx]
  · refine Nat.lt_of_le_of_lt ?_ h1
    rw [ax]
    exact Nat.le_mul_of_pos_left _ (by omega)
  · refine Nat.lt_of_le_of_lt ?_ h2
    rw [ay]
    exact Nat.le_mul_of_pos_left _ (by omega)
theorem fr_q {m : Nat} {v : PyData} {a b : Int} (h : Fr m v a b) : isQ v = true ∧ QE v ∧ ∃ x y, v = .tuple [.int x, .int y] := by
  obtain ⟨x, y, rfl, h1, h2, _⟩ := h
  refine ⟨?_, QE.ints x y, x, y, rfl⟩
  show (decide (1 ≤ y) && decide ((Nat.gcd x.natAbs y.natAbs : Int) = 1)) = true
  rw [dc_t h1, dc_t (by omega)]
  rfl
/-! the same fraction -/
theorem fr_to {m : Nat} {v : PyData} {p q a b : Int} (h : Fr m v p q) (hq : q ≠ 0) (e : p * b = a * q) : Fr m v a b := by
  obtain ⟨x, y, rfl, h1, h2, h3, h4⟩ := h
  refine ⟨x, y, rfl, h1, h2, ?_, h4⟩
  refine Int.eq_of_mul_eq_mul_left hq ?_
  grind
theorem fr_up {m n : Nat} {v : PyData} {a b : Int} (h : Fr m v a b) (hm : m ≤ n) : Fr n v a b := by
  obtain ⟨x, y, rfl, h1, h2, h3, h4, h5⟩ := h
  exact ⟨x, y, rfl, h1, h2, h3, Nat.lt_of_lt_of_le h4 (Nat.pow_le_pow_right (by decide) hm), Nat.lt_of_lt_of_le h5 (Nat.pow_le_pow_right (by decide) hm)⟩
theorem mul_bd {a b : Int} {m n : Nat} (h1 : a.natAbs < 2 ^ m) (h2 : b.natAbs < 2 ^ n) : (a * b).natAbs < 2 ^ (m + n) := by
  rw [Int.natAbs_mul, Nat.pow_add]
  exact Nat.mul_lt_mul'' h1 h2
theorem add_bd {a b : Int} {m : Nat} (h1 : a.natAbs < 2 ^ m) (h2 : b.natAbs < 2 ^ m) : (a + b).natAbs < 2 ^ (m + 1) := by
  rw [Nat.pow_succ]
  omega
theorem sub_bd {a b : Int} {m : Nat} (h1 : a.natAbs < 2 ^ m) (h2 : b.natAbs < 2 ^ m) : (a - b).natAbs < 2 ^ (m + 1) := by
  rw [Nat.pow_succ]
  omega
theorem bdm {i j : Int} {m n : Nat} (h1 : i.natAbs < 2 ^ m) (h2 : j.natAbs < 2 ^ n) (hm : m ≤ 2000) (hn : n ≤ 2000) : binD .mul (.int i) (.int j) = some (.val (.int (i * j))) := bd_mul (p2k h1 hm) (p2k h2 hn)
end K00
set_option Elab.async false
set_option linter.all false
set_option maxRecDepth 100000
set_option maxHeartbeats 4000000
namespace K00
open PySem PySem.Spec PyProof.Rows L2 Rx
theorem c14 (k : Nat) (x y : PyData) (w : Wl) : callF fns 1 (k + 1) 14 [x, y] w = fin (Rx.run (callF fns 1 k) 1 b_quotient_of [.val x, .val y] w) := rfl
theorem c15 (k : Nat) (x y : PyData) (w : Wl) : callF fns 1 (k + 1) 15 [x, y] w = fin (Rx.run (callF fns 1 k) 1 b_plus [.val x, .val y] w) := rfl
theorem c16 (k : Nat) (x y : PyData) (w : Wl) : callF fns 1 (k + 1) 16 [x, y] w = fin (Rx.run (callF fns 1 k) 1 b_minus [.val x, .val y] w) := rfl
theorem c17 (k : Nat) (x y : PyData) (w : Wl) : callF fns 1 (k + 1) 17 [x, y] w = fin (Rx.run (callF fns 1 k) 1 b_times [.val x, .val y] w) := rfl
theorem c18 (k : Nat) (x y : PyData) (w : Wl) : callF fns 1 (k + 1) 18 [x, y] w = fin (Rx.run (callF fns 1 k) 1 b_over [.val x, .val y] w) := rfl
theorem c19 (k : Nat) (x y : PyData) (w : Wl) : callF fns 1 (k + 1) 19 [x, y] w = fin (Rx.run (callF fns 1 k) 1 b_at_most [.val x, .val y] w) := rfl
theorem c20 (k : Nat) (x : PyData) (w : Wl) : callF fns 1 (k + 1) 20 [x] w = fin (Rx.run (callF fns 1 k) 1 b_rounded_up [.val x] w) := rfl
/-! refusals -/
def RF (f : Nat) (args : List PyData) (s : Str) : Prop := ∀ k w, callF fns 1 (k + 4) f args w = exW s w
theorem exfin (cl : Nat → List PyData → Wl → Rz PyData) (s : Str) (w : Wl) (sl : List Slt) (e r : T) (h : (sem cl e).v sl w = .exc 0 [.str s, .int (-1)] w) : fin (Rx.run cl 1 (.cons (.drop e) r) sl w) = exW s w := by
  rw [run_cons]
  show fin (Xr.seq (((sem cl e).v sl w).x _) _) = _
  rw [h]
  rfl
theorem nxfin (cl : Nat → List PyData → Wl → Rz PyData) (w : Wl) (sl : List Slt) (e r : T) {d : PyData} (h : (sem cl e).v sl w = .ok (.val d) w) : Rx.run cl 1 (.cons (.drop e) r) sl w = Rx.run cl 1 r sl w := by
  rw [run_cons]
  show Xr.seq (((sem cl e).v sl w).x _) _ = _
  rw [h]
  rfl
theorem two_v {k : Nat} {x y : PyData} {w : Wl} {sl : List Slt} : (sem (callF fns 1 (k + 3)) (.call 21 (.cons (.nm 0) (.cons (.nm 1) .nil)))).v (.val x :: .val y :: sl) w = (callF fns 1 (k + 3) 21 [x, y] w).map .val := by
  simp only [Rx.run, sem, Sm.ex, Sm.tst, Sm.none_, vNot, vBin, vNeg, vCmp, vCmp2, vIfe, vTup, vLst, vIx, vSlc, vIsi, vBi, vLset, vLrng, vTrng, vLc, Rx.iRng1, Rx.iRng2, slotV, slotP, isNil, isNm, Rz.bnd, Rz.map, Rz.x, Xr.seq, asB, boolR, intR, Got.d, Got.slot, storeS, frzS, ownAt, ofO, noOwn, wipeS, asgG, asgGs, itemsD, List.getElem?_cons_zero, List.getElem?_cons_succ, List.set_cons_zero, List.set_cons_succ, List.length_cons, List.length_nil, if_true, if_false, Bool.false_eq_true, Bool.not_false, Bool.not_true, List.all_cons, List.all_nil, Bool.and_true, List.map_cons, List.map_nil, Nat.reduceAdd, Nat.reduceLT, Nat.zero_add, Option.toList, ix2_0, ix2_1, cm_eq, cm_ne, cm_lt, cm_le, cm_gt, cm_ge, bd_add, bd_sub, bi_len_t, bi_len_l, bi_gcd, tr_bool]
theorem rf_two {x y : PyData} {s : Str} (h : ∀ k w, callF fns 1 (k + 3) 21 [x, y] w = exW s w) : RF 15 [x, y] s ∧ RF 16 [x, y] s ∧ RF 17 [x, y] s ∧ RF 19 [x, y] s := by
  have e : ∀ k w, (sem (callF fns 1 (k + 3)) (.call 21 (.cons (.nm 0) (.cons (.nm 1) .nil)))).v [.val x, .val y] w = .exc 0 [.str s, .int (-1)] w := fun k w => by rw [two_v, h]; rfl
  refine ⟨fun k w => ?_, fun k w => ?_, fun k w => ?_, fun k w => ?_⟩
  · rw [c15]; unfold b_plus; exact exfin _ s w _ _ _ (e k w)
  · rw [c16]; unfold b_minus; exact exfin _ s w _ _ _ (e k w)
  · rw [c17]; unfold b_times; exact exfin _ s w _ _ _ (e k w)
  · rw [c19]; unfold b_at_most; exact exfin _ s w _ _ _ (e k w)
theorem rf_one {x y : PyData} (hx : QE x) (hy : QE y) (h : isQ x = false) : RF 15 [x, y] "one" ∧ RF 16 [x, y] "one" ∧ RF 17 [x, y] "one" ∧ RF 19 [x, y] "one" :=
  rf_two fun k w => by rw [e21 k w hx hy, h]; rfl
theorem rf_another {x y : PyData} (hx : QE x) (hy : QE y) (h : isQ x = true) (h2 : isQ y = false) : RF 15 [x, y] "another" ∧ RF 16 [x, y] "another" ∧ RF 17 [x, y] "another" ∧ RF 19 [x, y] "another" :=
  rf_two fun k w => by rw [e21 k w hx hy, h, h2]; rfl
theorem n1_v {k : Nat} {x : PyData} {w : Wl} {sl : List Slt} (hx : QE x) : (sem (callF fns 1 (k + 3)) (.call 0 (.cons (.call 6 (.cons (.nm 0) .nil)) (.cons (.kS "one") .nil)))).v (.val x :: sl) w = if isQ x = true then .ok (.val .none) w else .exc 0 [.str "one", .int (-1)] w := by
  simp only [Rx.run, sem, Sm.ex, Sm.tst, Sm.none_, vNot, vBin, vNeg, vCmp, vCmp2, vIfe, vTup, vLst, vIx, vSlc, vIsi, vBi, vLset, vLrng, vTrng, vLc, Rx.iRng1, Rx.iRng2, slotV, slotP, isNil, isNm, Rz.bnd, Rz.map, Rz.x, Xr.seq, asB, boolR, intR, Got.d, Got.slot, storeS, frzS, ownAt, ofO, noOwn, wipeS, asgG, asgGs, itemsD, List.getElem?_cons_zero, List.getElem?_cons_succ, List.set_cons_zero, List.set_cons_succ, List.length_cons, List.length_nil, if_true, if_false, Bool.false_eq_true, Bool.not_false, Bool.not_true, List.all_cons, List.all_nil, Bool.and_true, List.map_cons, List.map_nil, Nat.reduceAdd, Nat.reduceLT, Nat.zero_add, Option.toList, ix2_0, ix2_1, cm_eq, cm_ne, cm_lt, cm_le, cm_gt, cm_ge, bd_add, bd_sub, bi_len_t, bi_len_l, bi_gcd, tr_bool, hx (k + 1) w, e0]
  cases isQ x <;> rfl
theorem rf_over1 {x y : PyData} (hx : QE x) (h : isQ x = false) : RF 18 [x, y] "one" := fun k w => by
  rw [c18]
  unfold b_over
  exact exfin _ _ w _ _ _ (by rw [n1_v hx, h]; rfl)
theorem rf_up {x : PyData} (hx : QE x) (h : isQ x = false) : RF 20 [x] "one" := fun k w => by
  rw [c20]
  unfold b_rounded_up
  exact exfin _ _ w _ _ _ (by rw [n1_v hx, h]; rfl)
def nzQ : PyData → Bool
  | .tuple [.int a, .int _] => !decide (a = 0)
  | _ => false
theorem n2_v {k : Nat} {x y : PyData} {w : Wl} {sl : List Slt} (hy : QE y) : (sem (callF fns 1 (k + 3)) (.call 0 (.cons (.band (.cons (.call 6 (.cons (.nm 1) .nil)) (.cons (.cmp .ne (.ix (.nm 1) (.kI 0)) (.kI 0)) .nil))) (.cons (.kS "another") .nil)))).v (.val x :: .val y :: sl) w = if (isQ y && nzQ y) = true then .ok (.val .none) w else .exc 0 [.str "another", .int (-1)] w := by
  simp only [Rx.run, sem, Sm.ex, Sm.tst, Sm.none_, vNot, vBin, vNeg, vCmp, vCmp2, vIfe, vTup, vLst, vIx, vSlc, vIsi, vBi, vLset, vLrng, vTrng, vLc, Rx.iRng1, Rx.iRng2, slotV, slotP, isNil, isNm, Rz.bnd, Rz.map, Rz.x, Xr.seq, asB, boolR, intR, Got.d, Got.slot, storeS, frzS, ownAt, ofO, noOwn, wipeS, asgG, asgGs, itemsD, List.getElem?_cons_zero, List.getElem?_cons_succ, List.set_cons_zero, List.set_cons_succ, List.length_cons, List.length_nil, if_true, if_false, Bool.false_eq_true, Bool.not_false, Bool.not_true, List.all_cons, List.all_nil, Bool.and_true, List.map_cons, List.map_nil, Nat.reduceAdd, Nat.reduceLT, Nat.zero_add, Option.toList, ix2_0, ix2_1, cm_eq, cm_ne, cm_lt, cm_le, cm_gt, cm_ge, bd_add, bd_sub, bi_len_t, bi_len_l, bi_gcd, tr_bool, hy (k + 1) w, e0]
  cases hq : isQ y with
  | false => rfl
  | true =>
    obtain ⟨a, b, rfl⟩ := isQ_inv hq
    simp only [Rx.run, sem, Sm.ex, Sm.tst, Sm.none_, vNot, vBin, vNeg, vCmp, vCmp2, vIfe, vTup, vLst, vIx, vSlc, vIsi, vBi, vLset, vLrng, vTrng, vLc, Rx.iRng1, Rx.iRng2, slotV, slotP, isNil, isNm, Rz.bnd, Rz.map, Rz.x, Xr.seq, asB, boolR, intR, Got.d, Got.slot, storeS, frzS, ownAt, ofO, noOwn, wipeS, asgG, asgGs, itemsD, List.getElem?_cons_zero, List.getElem?_cons_succ, List.set_cons_zero, List.set_cons_succ, List.length_cons, List.length_nil, if_true, if_false, Bool.false_eq_true, Bool.not_false, Bool.not_true, List.all_cons, List.all_nil, Bool.and_true, List.map_cons, List.map_nil, Nat.reduceAdd, Nat.reduceLT, Nat.zero_add, Option.toList, ix2_0, ix2_1, cm_eq, cm_ne, cm_lt, cm_le, cm_gt, cm_ge, bd_add, bd_sub, bi_len_t, bi_len_l, bi_gcd, tr_bool, e0, nzQ, Bool.true_and]
    cases decide (a = 0) <;> rfl
theorem rf_over2 {x y : PyData} (hx : QE x) (hy : QE y) (h : isQ x = true) (h2 : (isQ y && nzQ y) = false) : RF 18 [x, y] "another" := fun k w => by
  rw [c18]
  unfold b_over
  rw [nxfin (d := PyData.none) _ w _ _ _ (by rw [n1_v hx, h]; rfl)]
  exact exfin _ _ w _ _ _ (by rw [n2_v hy, h2]; rfl)
theorem rf_top {x y : PyData} (h : noD x = true) (h1 : isI x = false) : RF 14 [x, y] "top" := fun k w => by
  cases x <;> first | rfl | (cases h; done) | (cases h1; done)
theorem rf_bot {i : Int} {y : PyData} (h : noD y = true) (h1 : y = .int 0 ∨ isI y = false) : RF 14 [.int i, y] "bottom" := fun k w => by
  rcases h1 with rfl | h1
  · rfl
  · cases y <;> first | rfl | (cases h; done) | (cases h1; done)
/-! answers -/
theorem e14 {a b : Int} {m : Nat} (hb : b ≠ 0) (h1 : a.natAbs < 2 ^ m) (h2 : b.natAbs < 2 ^ m) (hm : m ≤ 1000) : ∃ r, (∀ k w, callF fns 1 (k + 4) 14 [.int a, .int b] w = .ok r w) ∧ Fr m r a b := by
  refine ⟨lowF a b, fun k w => ?_, low_fr hb h1 h2⟩
  rw [c14]
  unfold b_quotient_of
  simp only [Rx.run, sem, Sm.ex, Sm.tst, Sm.none_, vNot, vBin, vNeg, vCmp, vCmp2, vIfe, vTup, vLst, vIx, vSlc, vIsi, vBi, vLset, vLrng, vTrng, vLc, Rx.iRng1, Rx.iRng2, slotV, slotP, isNil, isNm, Rz.bnd, Rz.map, Rz.x, Xr.seq, asB, boolR, intR, Got.d, Got.slot, storeS, frzS, ownAt, ofO, noOwn, wipeS, asgG, asgGs, itemsD, List.getElem?_cons_zero, List.getElem?_cons_succ, List.set_cons_zero, List.set_cons_succ, List.length_cons, List.length_nil, if_true, if_false, Bool.false_eq_true, Bool.not_false, Bool.not_true, List.all_cons, List.all_nil, Bool.and_true, List.map_cons, List.map_nil, Nat.reduceAdd, Nat.reduceLT, Nat.zero_add, Option.toList, ix2_0, ix2_1, cm_eq, cm_ne, cm_lt, cm_le, cm_gt, cm_ge, bd_add, bd_sub, bi_len_t, bi_len_l, bi_gcd, tr_bool, e3 (k + 2) (.int a) w rfl, e3 (k + 2) (.int b) w rfl, isI, e0, dc_f hb, e22 (k + 2) (a := a) w hb h2 (by omega)]
  rfl
theorem two_ok {m n : Nat} {v u : PyData} {a b c d : Int} (hv : Fr m v a b) (hu : Fr n u c d) (k : Nat) (w : Wl) (sl : List Slt) : (sem (callF fns 1 (k + 3)) (.call 21 (.cons (.nm 0) (.cons (.nm 1) .nil)))).v (.val v :: .val u :: sl) w = .ok (.val .none) w := by
  obtain ⟨q1, q2, _⟩ := fr_q hv
  obtain ⟨q3, q4, _⟩ := fr_q hu
  rw [two_v, e21 k w q2 q4, q1, q3]
  rfl
theorem pos_ne {y : Int} (h : 1 ≤ y) : y ≠ 0 := by omega
theorem mul_ne {x y : Int} (h : x ≠ 0) (h2 : y ≠ 0) : x * y ≠ 0 := Int.mul_ne_zero h h2
theorem e15 {m n : Nat} {v u : PyData} {a b c d : Int} (hv : Fr m v a b) (hu : Fr n u c d) (hm : m + n + 1 ≤ 1000) : ∃ r, (∀ k w, callF fns 1 (k + 4) 15 [v, u] w = .ok r w) ∧ Fr (m + n + 1) r (a * d + c * b) (b * d) := by
  have ht := two_ok hv hu
  obtain ⟨x1, y1, rfl, g1, g2, g3, g4, g5⟩ := hv
  obtain ⟨x2, y2, rfl, k1, k2, k3, k4, k5⟩ := hu
  have p1 := mul_bd g4 k5
  have p2 := mul_bd k4 g5
  rw [Nat.add_comm n m] at p2
  have p3 := mul_bd g5 k5
  have p4 := add_bd p1 p2
  have p5 : (y1 * y2).natAbs < 2 ^ (m + n + 1) := by rw [Nat.pow_succ]; omega
  have ne := mul_ne (pos_ne g1) (pos_ne k1)
  refine ⟨lowF (x1 * y2 + x2 * y1) (y1 * y2), fun k w => ?_, fr_to (low_fr ne p4 p5) ne (by grind)⟩
  rw [c15]
  unfold b_plus
  rw [nxfin _ w _ _ _ (ht k w [])]
  simp only [Rx.run, sem, Sm.ex, Sm.tst, Sm.none_, vNot, vBin, vNeg, vCmp, vCmp2, vIfe, vTup, vLst, vIx, vSlc, vIsi, vBi, vLset, vLrng, vTrng, vLc, Rx.iRng1, Rx.iRng2, slotV, slotP, isNil, isNm, Rz.bnd, Rz.map, Rz.x, Xr.seq, asB, boolR, intR, Got.d, Got.slot, storeS, frzS, ownAt, ofO, noOwn, wipeS, asgG, asgGs, itemsD, List.getElem?_cons_zero, List.getElem?_cons_succ, List.set_cons_zero, List.set_cons_succ, List.length_cons, List.length_nil, if_true, if_false, Bool.false_eq_true, Bool.not_false, Bool.not_true, List.all_cons, List.all_nil, Bool.and_true, List.map_cons, List.map_nil, Nat.reduceAdd, Nat.reduceLT, Nat.zero_add, Option.toList, ix2_0, ix2_1, cm_eq, cm_ne, cm_lt, cm_le, cm_gt, cm_ge, bd_add, bd_sub, bi_len_t, bi_len_l, bi_gcd, tr_bool, bdm g4 k5 (by omega) (by omega), bdm k4 g5 (by omega) (by omega), bdm g5 k5 (by omega) (by omega), e22 (k + 2) (a := x1 * y2 + x2 * y1) w ne p5 (by omega)]
  rfl
theorem e16 {m n : Nat} {v u : PyData} {a b c d : Int} (hv : Fr m v a b) (hu : Fr n u c d) (hm : m + n + 1 ≤ 1000) : ∃ r, (∀ k w, callF fns 1 (k + 4) 16 [v, u] w = .ok r w) ∧ Fr (m + n + 1) r (a * d - c * b) (b * d) := by
  have ht := two_ok hv hu
  obtain ⟨x1, y1, rfl, g1, g2, g3, g4, g5⟩ := hv
  obtain ⟨x2, y2, rfl, k1, k2, k3, k4, k5⟩ := hu
  have p1 := mul_bd g4 k5
  have p2 := mul_bd k4 g5
  rw [Nat.add_comm n m] at p2
  have p3 := mul_bd g5 k5
  have p4 := sub_bd p1 p2
  have p5 : (y1 * y2).natAbs < 2 ^ (m + n + 1) := by rw [Nat.pow_succ]; omega
  have ne := mul_ne (pos_ne g1) (pos_ne k1)
  refine ⟨lowF (x1 * y2 - x2 * y1) (y1 * y2), fun k w => ?_, fr_to (low_fr ne p4 p5) ne (by grind)⟩
  rw [c16]
  unfold b_minus
  rw [nxfin _ w _ _ _ (ht k w [])]
  simp only [Rx.run, sem, Sm.ex, Sm.tst, Sm.none_, vNot, vBin, vNeg, vCmp, vCmp2, vIfe, vTup, vLst, vIx, vSlc, vIsi, vBi, vLset, vLrng, vTrng, vLc, Rx.iRng1, Rx.iRng2, slotV, slotP, isNil, isNm, Rz.bnd, Rz.map, Rz.x, Xr.seq, asB, boolR, intR, Got.d, Got.slot, storeS, frzS, ownAt, ofO, noOwn, wipeS, asgG, asgGs, itemsD, List.getElem?_cons_zero, List.getElem?_cons_succ, List.set_cons_zero, List.set_cons_succ, List.length_cons, List.length_nil, if_true, if_false, Bool.false_eq_true, Bool.not_false, Bool.not_true, List.all_cons, List.all_nil, Bool.and_true, List.map_cons, List.map_nil, Nat.reduceAdd, Nat.reduceLT, Nat.zero_add, Option.toList, ix2_0, ix2_1, cm_eq, cm_ne, cm_lt, cm_le, cm_gt, cm_ge, bd_add, bd_sub, bi_len_t, bi_len_l, bi_gcd, tr_bool, bdm g4 k5 (by omega) (by omega), bdm k4 g5 (by omega) (by omega), bdm g5 k5 (by omega) (by omega), e22 (k + 2) (a := x1 * y2 - x2 * y1) w ne p5 (by omega)]
  rfl
theorem e17 {m n : Nat} {v u : PyData} {a b c d : Int} (hv : Fr m v a b) (hu : Fr n u c d) (hm : m + n ≤ 1000) : ∃ r, (∀ k w, callF fns 1 (k + 4) 17 [v, u] w = .ok r w) ∧ Fr (m + n) r (a * c) (b * d) := by
  have ht := two_ok hv hu
  obtain ⟨x1, y1, rfl, g1, g2, g3, g4, g5⟩ := hv
  obtain ⟨x2, y2, rfl, k1, k2, k3, k4, k5⟩ := hu
  have p1 := mul_bd g4 k4
  have p3 := mul_bd g5 k5
  have ne := mul_ne (pos_ne g1) (pos_ne k1)
  refine ⟨lowF (x1 * x2) (y1 * y2), fun k w => ?_, fr_to (low_fr ne p1 p3) ne (by grind)⟩
  rw [c17]
  unfold b_times
  rw [nxfin _ w _ _ _ (ht k w [])]
  simp only [Rx.run, sem, Sm.ex, Sm.tst, Sm.none_, vNot, vBin, vNeg, vCmp, vCmp2, vIfe, vTup, vLst, vIx, vSlc, vIsi, vBi, vLset, vLrng, vTrng, vLc, Rx.iRng1, Rx.iRng2, slotV, slotP, isNil, isNm, Rz.bnd, Rz.map, Rz.x, Xr.seq, asB, boolR, intR, Got.d, Got.slot, storeS, frzS, ownAt, ofO, noOwn, wipeS, asgG, asgGs, itemsD, List.getElem?_cons_zero, List.getElem?_cons_succ, List.set_cons_zero, List.set_cons_succ, List.length_cons, List.length_nil, if_true, if_false, Bool.false_eq_true, Bool.not_false, Bool.not_true, List.all_cons, List.all_nil, Bool.and_true, List.map_cons, List.map_nil, Nat.reduceAdd, Nat.reduceLT, Nat.zero_add, Option.toList, ix2_0, ix2_1, cm_eq, cm_ne, cm_lt, cm_le, cm_gt, cm_ge, bd_add, bd_sub, bi_len_t, bi_len_l, bi_gcd, tr_bool, bdm g4 k4 (by omega) (by omega), bdm g5 k5 (by omega) (by omega), e22 (k + 2) (a := x1 * x2) w ne p3 (by omega)]
  rfl
theorem fr_nz {n : Nat} {u : PyData} {c d : Int} (hu : Fr n u c d) (hc : c ≠ 0) : ∃ x y, u = .tuple [.int x, .int y] ∧ x ≠ 0 := by
  obtain ⟨x2, y2, rfl, k1, k2, k3, k4, k5⟩ := hu
  refine ⟨x2, y2, rfl, fun e => ?_⟩
  subst e
  rw [Int.zero_mul] at k3
  exact mul_ne hc (pos_ne k1) k3.symm
theorem e18 {m n : Nat} {v u : PyData} {a b c d : Int} (hv : Fr m v a b) (hu : Fr n u c d) (hc : c ≠ 0) (hm : m + n ≤ 1000) : ∃ r, (∀ k w, callF fns 1 (k + 4) 18 [v, u] w = .ok r w) ∧ Fr (m + n) r (a * d) (b * c) := by
  obtain ⟨q1, q2, _⟩ := fr_q hv
  obtain ⟨q3, q4, _⟩ := fr_q hu
  obtain ⟨_, _, ez, hz⟩ := fr_nz hu hc
  obtain ⟨x1, y1, rfl, g1, g2, g3, g4, g5⟩ := hv
  obtain ⟨x2, y2, rfl, k1, k2, k3, k4, k5⟩ := hu
  replace hz : x2 ≠ 0 := by cases ez; exact hz
  have p1 := mul_bd g4 k5
  have p3 := mul_bd g5 k4
  have ne := mul_ne (pos_ne g1) hz
  refine ⟨lowF (x1 * y2) (y1 * x2), fun k w => ?_, fr_to (low_fr ne p1 p3) ne (by grind)⟩
  rw [c18]
  unfold b_over
  rw [nxfin (d := PyData.none) _ w _ _ _ (by rw [n1_v q2, q1]; rfl), nxfin (d := PyData.none) _ w _ _ _ (by
    rw [n2_v q4, q3]
    show (if (true && !decide (x2 = 0)) = true then _ else _) = _
    rw [dc_f hz]
    rfl)]
  simp only [Rx.run, sem, Sm.ex, Sm.tst, Sm.none_, vNot, vBin, vNeg, vCmp, vCmp2, vIfe, vTup, vLst, vIx, vSlc, vIsi, vBi, vLset, vLrng, vTrng, vLc, Rx.iRng1, Rx.iRng2, slotV, slotP, isNil, isNm, Rz.bnd, Rz.map, Rz.x, Xr.seq, asB, boolR, intR, Got.d, Got.slot, storeS, frzS, ownAt, ofO, noOwn, wipeS, asgG, asgGs, itemsD, List.getElem?_cons_zero, List.getElem?_cons_succ, List.set_cons_zero, List.set_cons_succ, List.length_cons, List.length_nil, if_true, if_false, Bool.false_eq_true, Bool.not_false, Bool.not_true, List.all_cons, List.all_nil, Bool.and_true, List.map_cons, List.map_nil, Nat.reduceAdd, Nat.reduceLT, Nat.zero_add, Option.toList, ix2_0, ix2_1, cm_eq, cm_ne, cm_lt, cm_le, cm_gt, cm_ge, bd_add, bd_sub, bi_len_t, bi_len_l, bi_gcd, tr_bool, bdm g4 k5 (by omega) (by omega), bdm g5 k4 (by omega) (by omega), e22 (k + 2) (a := x1 * y2) w ne p3 (by omega)]
  rfl
theorem le_fr {x1 y1 x2 y2 a b c d : Int} (g1 : 1 ≤ y1) (k1 : 1 ≤ y2) (hb : 0 < b) (hd : 0 < d) (g3 : x1 * b = a * y1) (k3 : x2 * d = c * y2) : x1 * y2 ≤ x2 * y1 ↔ a * d ≤ c * b := by
  have e1 : x1 * y2 * (b * d) = a * d * (y1 * y2) := by grind
  have e2 : x2 * y1 * (b * d) = c * b * (y1 * y2) := by grind
  have h1 : 0 < b * d := Int.mul_pos hb hd
  have h2 : 0 < y1 * y2 := Int.mul_pos (by omega) (by omega)
  rw [← Int.mul_le_mul_right h1, e1, e2, Int.mul_le_mul_right h2]
theorem e19 {m n : Nat} {v u : PyData} {a b c d : Int} (hv : Fr m v a b) (hu : Fr n u c d) (hb : 0 < b) (hd : 0 < d) (hm : m + n ≤ 1000) (k : Nat) (w : Wl) : callF fns 1 (k + 4) 19 [v, u] w = .ok (.bool (decide (a * d ≤ c * b))) w := by
  have ht := two_ok hv hu
  obtain ⟨x1, y1, rfl, g1, g2, g3, g4, g5⟩ := hv
  obtain ⟨x2, y2, rfl, k1, k2, k3, k4, k5⟩ := hu
  rw [c19]
  unfold b_at_most
  rw [nxfin _ w _ _ _ (ht k w [])]
  simp only [Rx.run, sem, Sm.ex, Sm.tst, Sm.none_, vNot, vBin, vNeg, vCmp, vCmp2, vIfe, vTup, vLst, vIx, vSlc, vIsi, vBi, vLset, vLrng, vTrng, vLc, Rx.iRng1, Rx.iRng2, slotV, slotP, isNil, isNm, Rz.bnd, Rz.map, Rz.x, Xr.seq, asB, boolR, intR, Got.d, Got.slot, storeS, frzS, ownAt, ofO, noOwn, wipeS, asgG, asgGs, itemsD, List.getElem?_cons_zero, List.getElem?_cons_succ, List.set_cons_zero, List.set_cons_succ, List.length_cons, List.length_nil, if_true, if_false, Bool.false_eq_true, Bool.not_false, Bool.not_true, List.all_cons, List.all_nil, Bool.and_true, List.map_cons, List.map_nil, Nat.reduceAdd, Nat.reduceLT, Nat.zero_add, Option.toList, ix2_0, ix2_1, cm_eq, cm_ne, cm_lt, cm_le, cm_gt, cm_ge, bd_add, bd_sub, bi_len_t, bi_len_l, bi_gcd, tr_bool, bdm g4 k5 (by omega) (by omega), bdm k4 g5 (by omega) (by omega)]
  rw [decide_eq_decide.mpr (le_fr g1 k1 hb hd g3 k3)]
  rfl
theorem up_fr {x y a b : Int} (g1 : 1 ≤ y) (hb : 0 < b) (g3 : x * b = a * y) : (-((-x).fdiv y) - 1) * b < a ∧ a ≤ -((-x).fdiv y) * b := by
  have h0 : (-x).fdiv y = (-x) / y := Int.fdiv_eq_ediv_of_nonneg _ (by omega)
  rw [h0]
  have h1 := Int.mul_ediv_add_emod (-x) y
  have h2 := Int.emod_nonneg (-x) (show y ≠ 0 by omega)
  have h3 := Int.emod_lt_of_pos (-x) (show 0 < y by omega)
  generalize (-x) / y = q at *
  generalize (-x) % y = r at *
  have hx : x = -(y * q + r) := by omega
  constructor
  · refine (Int.mul_lt_mul_right (show (0 : Int) < y by omega)).mp ?_
    rw [← g3, hx]
    have : 0 < (y - r) * b := Int.mul_pos (by omega) hb
    grind
  · refine (Int.mul_le_mul_right (show (0 : Int) < y by omega)).mp ?_
    rw [← g3, hx]
    have : 0 ≤ r * b := Int.mul_nonneg h2 (by omega)
    grind
theorem e20 {m : Nat} {v : PyData} {a b : Int} (hv : Fr m v a b) (hb : 0 < b) (hm : m ≤ 1000) : ∃ r : Int, (∀ k w, callF fns 1 (k + 4) 20 [v] w = .ok (.int r) w) ∧ (r - 1) * b < a ∧ a ≤ r * b ∧ r.natAbs < 2 ^ (m + 1) := by
  obtain ⟨q1, q2, _⟩ := fr_q hv
  obtain ⟨x1, y1, rfl, g1, g2, g3, g4, g5⟩ := hv
  obtain ⟨u1, u2⟩ := up_fr g1 hb g3
  refine ⟨-((-x1).fdiv y1), fun k w => ?_, u1, u2, ?_⟩
  · rw [c20]
    unfold b_rounded_up
    rw [nxfin (d := PyData.none) _ w _ _ _ (by rw [n1_v q2, q1]; rfl)]
    simp only [Rx.run, sem, Sm.ex, Sm.tst, Sm.none_, vNot, vBin, vNeg, vCmp, vCmp2, vIfe, vTup, vLst, vIx, vSlc, vIsi, vBi, vLset, vLrng, vTrng, vLc, Rx.iRng1, Rx.iRng2, slotV, slotP, isNil, isNm, Rz.bnd, Rz.map, Rz.x, Xr.seq, asB, boolR, intR, Got.d, Got.slot, storeS, frzS, ownAt, ofO, noOwn, wipeS, asgG, asgGs, itemsD, List.getElem?_cons_zero, List.getElem?_cons_succ, List.set_cons_zero, List.set_cons_succ, List.length_cons, List.length_nil, if_true, if_false, Bool.false_eq_true, Bool.not_false, Bool.not_true, List.all_cons, List.all_nil, Bool.and_true, List.map_cons, List.map_nil, Nat.reduceAdd, Nat.reduceLT, Nat.zero_add, Option.toList, ix2_0, ix2_1, cm_eq, cm_ne, cm_lt, cm_le, cm_gt, cm_ge, bd_add, bd_sub, bi_len_t, bi_len_l, bi_gcd, tr_bool, bd_fd (i := -x1) (pos_ne g1) (p2k g5 (by omega))]
    rfl
  · have h0 : (-x1).fdiv y1 = (-x1) / y1 := Int.fdiv_eq_ediv_of_nonneg _ (by omega)
    have h1 : ((-x1) / y1).natAbs ≤ (-x1).natAbs := Int.natAbs_ediv_le_natAbs _ _
    rw [h0, Nat.pow_succ]
    omega
theorem c26 (k : Nat) (x y z : PyData) (w : Wl) : callF fns 1 (k + 1) 26 [x, y, z] w = fin (Rx.run (callF fns 1 k) 1 b__law_stands [.val x, .val y, .val z] w) := rfl
theorem e26 {m n : Nat} {v : PyData} {a b p q : Int} (hv : Fr m v a b) (hb : b ≠ 0) (e : a * q = p * b) (hm : m ≤ 190) (hp : p.natAbs < 2 ^ n) (hq : q.natAbs < 2 ^ n) (hn : n ≤ 1000) (k : Nat) (w : Wl) : callF fns 1 (k + 4) 26 [v, .int p, .int q] w = .ok (.bool true) w := by
  obtain ⟨x, y, rfl, g1, g2, g3, g4, g5⟩ := fr_to hv hb e
  rw [c26]
  unfold b__law_stands
  have h1 : lowL (.tuple [.int x, .int y]) = true := by
    rw [low_i (Nat.lt_of_lt_of_le g5 (Nat.pow_le_pow_right (by decide) hm)), dc_t g1, dc_t (by omega)]
    rfl
  simp only [Rx.run, sem, Sm.ex, Sm.tst, Sm.none_, vNot, vBin, vNeg, vCmp, vCmp2, vIfe, vTup, vLst, vIx, vSlc, vIsi, vBi, vLset, vLrng, vTrng, vLc, Rx.iRng1, Rx.iRng2, slotV, slotP, isNil, isNm, Rz.bnd, Rz.map, Rz.x, Xr.seq, asB, boolR, intR, Got.d, Got.slot, storeS, frzS, ownAt, ofO, noOwn, wipeS, asgG, asgGs, itemsD, List.getElem?_cons_zero, List.getElem?_cons_succ, List.set_cons_zero, List.set_cons_succ, List.length_cons, List.length_nil, if_true, if_false, Bool.false_eq_true, Bool.not_false, Bool.not_true, List.all_cons, List.all_nil, Bool.and_true, List.map_cons, List.map_nil, Nat.reduceAdd, Nat.reduceLT, Nat.zero_add, Option.toList, ix2_0, ix2_1, cm_eq, cm_ne, cm_lt, cm_le, cm_gt, cm_ge, bd_add, bd_sub, bi_len_t, bi_len_l, bi_gcd, tr_bool, e25_i (k + 1) x y w, h1, bdm g4 hq (by omega) (by omega), bdm hp g5 (by omega) (by omega), dc_t g3]
  rfl
end K00
set_option Elab.async false
set_option linter.all false
set_option maxRecDepth 100000
set_option maxHeartbeats 4000000
namespace K00
open PySem PySem.Spec PyProof.Rows L2 Rx
/-! ### step by step -/
theorem sz1 : ((1 : Nat) ≤ sizeLine) = True := eq_true (by decide)
theorem sz2 : ((2 : Nat) ≤ sizeLine) = True := eq_true (by decide)
theorem sz3 : ((3 : Nat) ≤ sizeLine) = True := eq_true (by decide)
theorem sz4 : ((4 : Nat) ≤ sizeLine) = True := eq_true (by decide)
theorem sz5 : ((5 : Nat) ≤ sizeLine) = True := eq_true (by decide)
theorem sz6 : ((6 : Nat) ≤ sizeLine) = True := eq_true (by decide)
theorem sz8 : ((8 : Nat) ≤ sizeLine) = True := eq_true (by decide)
theorem sz10 : ((10 : Nat) ≤ sizeLine) = True := eq_true (by decide)
theorem by2 (x y : PyData) : byKeys [1, 0] [x, y] = [y, x] := rfl
section
variable {cl : Nat → List PyData → Wl → Rz PyData} {sl sl1 : List Slt} {w w1 : Wl} {R : Rz PyData}
theorem asg_end {i : Nat} {e r : T} {g : Got} (h : (sem cl e).v sl w = .ok g w1) (hi : i < sl.length) (q : fin (Rx.run cl 1 r (sl.set i g.slot) w1) = R) : fin (Rx.run cl 1 (.cons (.asg i e) r) sl w) = R := by
  rw [run_cons]
  show fin (Xr.seq (((sem cl e).v sl w).x _) _) = _
  rw [h]
  show fin (Xr.seq (storeS i g.slot sl w1) _) = _
  unfold storeS
  rw [if_pos hi]
  exact q
theorem ifn_end {t a r : T} (h : (sem cl t).b sl w = .ok false w1) (q : fin (Rx.run cl 1 r sl w1) = R) : fin (Rx.run cl 1 (.cons (.ifs t a .nil) r) sl w) = R := by
  rw [run_cons]
  show fin (Xr.seq (((sem cl t).b sl w).x _) _) = _
  rw [h]
  exact q
theorem if_end {t a b r : T} {c : Bool} (h : (sem cl t).b sl w = .ok c w1) (q : fin ((Rx.run cl 1 (if c = true then a else b) sl w1).seq (Rx.run cl 1 r)) = R) : fin (Rx.run cl 1 (.cons (.ifs t a b) r) sl w) = R := by
  rw [run_cons]
  show fin (Xr.seq (((sem cl t).b sl w).x _) _) = _
  rw [h, ← q]
  cases c <;> rfl
theorem frz_end {i : Nat} {r : T} (q : fin (Rx.run cl 1 r (frzS i sl) w) = R) : fin (Rx.run cl 1 (.frz i r) sl w) = R := q
theorem ret_end {e r : T} {g : Got} (h : (sem cl e).v sl w = .ok g w1) : fin (Rx.run cl 1 (.cons (.ret e) r) sl w) = .ok g.d w1 := by
  rw [run_cons]
  show fin (Xr.seq (((sem cl e).v sl w).x _) _) = _
  rw [h]
  rfl
theorem for_end {g it b r : T} {items : List PyData} (h : (sem cl it).i sl w = .ok items w1) (q : fin ((loopF (forB cl g b) items sl w1).seq (Rx.run cl 1 r)) = R) : fin (Rx.run cl 1 (.cons (.for_ g it b) r) sl w) = R := by
  rw [run_cons, run_forB h]
  exact q
theorem seq_nx {m : Xr} {r : T} (h : m = .ok .nx sl w) (q : fin (Rx.run cl 1 r sl w) = R) : fin (m.seq (Rx.run cl 1 r)) = R := by
  rw [h]
  exact q
end
theorem all_nx {body : PyData → List Slt → Wl → Xr} {f : Slt → List Slt} : ∀ {xs : List PyData} (s : Slt) (w : Wl), (∀ d ∈ xs, ∀ s, body d (f s) w = .ok .nx (f (.val d)) w) → ∃ s', loopF body xs (f s) w = .ok .nx (f s') w
  | [], s, w, _ => ⟨s, rfl⟩
  | d :: r, s, w, h => by
    rw [loopF_nx (h d List.mem_cons_self s)]
    exact all_nx (.val d) w fun y hy => h y (List.mem_cons_of_mem _ hy)
/-! each word -/
theorem c38 (k : Nat) (x y : PyData) (w : Wl) : callF fns 1 (k + 1) 38 [x, y] w = fin (Rx.run (callF fns 1 k) 1 b__law_each_word [.val x, .val y, .no] w) := rfl
theorem ixB {bs : List Bool} {j : Nat} (h : j < bs.length) : ixD (.list (bs.map PyData.bool)) (.int (j : Int)) = some (.bool (bs.getD j false)) := by
  show atI (bs.map PyData.bool) (j : Int) = _
  refine atI_nat ?_
  rw [List.getElem?_map, List.getElem?_eq_getElem h, List.getD_eq_getElem?_getD, List.getElem?_eq_getElem h]
  rfl
theorem cm_bb (a b : Bool) : cmpD .ne (.bool a) (.bool b) = some (!decide (a = b)) := rfl
theorem e38 (k : Nat) (bs : List Bool) (w : Wl) (h : bs.length ≤ 100) : callF fns 1 (k + 1) 38 [.list (bs.map PyData.bool), .list (bs.map PyData.bool)] w = .ok (.bool true) w := by
  rw [c38]
  unfold b__law_each_word
  have hr := rng_ok (n := ((bs.map PyData.bool).length : Int)) (by rw [List.length_map]; omega)
  refine for_end (items := (List.range ((bs.map PyData.bool).length : Int).toNat).map fun (i : Nat) => PyData.int (0 + (i : Int))) (w1 := w) ?_ ?_
  · show ((sem (callF fns 1 k) (.rng1 (.bi .len (.cons (.nm 1) .nil)))).i _ w) = _
    simp only [Rx.run, sem, Sm.ex, Sm.tst, Sm.none_, vNot, vBin, vNeg, vCmp, vCmp2, vIfe, vTup, vLst, vIx, vSlc, vIsi, vBi, vLset, vLrng, vTrng, vLc, Rx.iRng1, Rx.iRng2, slotV, slotP, isNil, isNm, Rz.bnd, Rz.map, Rz.x, Xr.seq, asB, boolR, intR, Got.d, Got.slot, storeS, frzS, ownAt, ofO, noOwn, wipeS, asgG, asgGs, itemsD, List.getElem?_cons_zero, List.getElem?_cons_succ, List.set_cons_zero, List.set_cons_succ, List.length_cons, List.length_nil, if_true, if_false, Bool.false_eq_true, Bool.not_false, Bool.not_true, List.all_cons, List.all_nil, Bool.and_true, List.map_cons, List.map_nil, Nat.reduceAdd, Nat.reduceLT, Nat.zero_add, Option.toList, ix2_0, ix2_1, cm_eq, cm_ne, cm_lt, cm_le, cm_gt, cm_ge, bd_add, bd_sub, bi_len_t, bi_len_l, bi_gcd, tr_bool, hr]
  · obtain ⟨s', e⟩ := all_nx (body := forB (callF fns 1 k) (.nm 2) (.cons (.ifs (.bor (.cons (.not (.isi (.ix (.nm 0) (.nm 2)) .bool)) (.cons (.cmp .ne (.ix (.nm 0) (.nm 2)) (.ix (.nm 1) (.nm 2))) .nil))) (.cons (.ret (.kB false)) .nil) .nil) .nil)) (f := fun s => [.val (.list (bs.map PyData.bool)), .val (.list (bs.map PyData.bool)), s]) (xs := (List.range ((bs.map PyData.bool).length : Int).toNat).map fun (i : Nat) => PyData.int (0 + (i : Int))) .no w (by
      intro d hd s
      obtain ⟨i, hi, rfl⟩ := List.mem_map.mp hd
      rw [List.mem_range, List.length_map, Int.toNat_natCast] at hi
      have h1 := ixB hi
      rw [Int.zero_add]
      unfold forB
      simp only [Rx.run, sem, Sm.ex, Sm.tst, Sm.none_, vNot, vBin, vNeg, vCmp, vCmp2, vIfe, vTup, vLst, vIx, vSlc, vIsi, vBi, vLset, vLrng, vTrng, vLc, Rx.iRng1, Rx.iRng2, slotV, slotP, isNil, isNm, Rz.bnd, Rz.map, Rz.x, Xr.seq, asB, boolR, intR, Got.d, Got.slot, storeS, frzS, ownAt, ofO, noOwn, wipeS, asgG, asgGs, itemsD, List.getElem?_cons_zero, List.getElem?_cons_succ, List.set_cons_zero, List.set_cons_succ, List.length_cons, List.length_nil, if_true, if_false, Bool.false_eq_true, Bool.not_false, Bool.not_true, List.all_cons, List.all_nil, Bool.and_true, List.map_cons, List.map_nil, Nat.reduceAdd, Nat.reduceLT, Nat.zero_add, Option.toList, ix2_0, ix2_1, cm_eq, cm_ne, cm_lt, cm_le, cm_gt, cm_ge, bd_add, bd_sub, bi_len_t, bi_len_l, bi_gcd, tr_bool, h1, isiD, cm_bb, decide_true])
    exact seq_nx e rfl
theorem e38_3 (k : Nat) (a b c : Bool) (w : Wl) : callF fns 1 (k + 1) 38 [.list [.bool a, .bool b, .bool c], .list [.bool a, .bool b, .bool c]] w = .ok (.bool true) w := e38 k [a, b, c] w (by simp)
theorem e38_4 (k : Nat) (a b c d : Bool) (w : Wl) : callF fns 1 (k + 1) 38 [.list [.bool a, .bool b, .bool c, .bool d], .list [.bool a, .bool b, .bool c, .bool d]] w = .ok (.bool true) w := e38 k [a, b, c, d] w (by simp)
/-! the whole numbers of the sums -/
def B (x : Int) : Prop := x.natAbs < 2 ^ 41
theorem fr60 : Fr 6 (.tuple [.int 1, .int 60]) 1 60 := ⟨1, 60, rfl, by decide, by decide, by decide, by decide, by decide⟩
theorem c39 (k : Nat) (a b c d : PyData) (w : Wl) : callF fns 1 (k + 1) 39 [a, b, c, d] w = fin (Rx.run (callF fns 1 k) 1 b__law_sums (.val a :: .val b :: .val c :: .val d :: List.replicate 14 .no) w) := rfl
theorem cm_lb (a b : Int) : cmpD .le (.int a) (.int b) = some (decide (a ≤ b)) := rfl
end K00
set_option Elab.async false
set_option linter.all false
set_option maxRecDepth 100000
set_option maxHeartbeats 4000000
namespace K00
open PySem PySem.Spec PyProof.Rows L2 Rx
theorem B2 {a b : Int} (ha : B a) (hb : B b) : (a * b).natAbs < 2 ^ 82 := mul_bd ha hb
theorem B3 {a b c : Int} (ha : B a) (hb : B b) (hc : B c) : (a * b * c).natAbs < 2 ^ 123 := mul_bd (B2 ha hb) hc
theorem B4 {a b c d : Int} (ha : B a) (hb : B b) (hc : B c) (hd : B d) : (a * b * c * d).natAbs < 2 ^ 164 := mul_bd (B3 ha hb hc) hd
theorem up2 {x : Int} {m : Nat} (h : x.natAbs < 2 ^ m) (hm : m ≤ 200) : x.natAbs < 2 ^ 200 := Nat.lt_of_lt_of_le h (Nat.pow_le_pow_right (by decide) hm)
theorem upB {x : Int} (h : B x) : x.natAbs < 2 ^ 200 := up2 (m := 41) h (by decide)
theorem Bneg {x : Int} (h : B x) : B (-x) := by unfold B at *; omega
theorem B60 (x : Int) (h : 1 ≤ x) (h2 : x ≤ 60) : B x := by unfold B; omega
def sumsT : T := (.cons (.asg 14 (.lst (.cons (.call 19 (.cons (.nm 4) (.cons (.nm 5) .nil))) (.cons (.call 19 (.cons (.nm 5) (.cons (.nm 4) .nil))) (.cons (.call 19 (.cons (.nm 4) (.cons (.nm 4) .nil))) (.cons (.callk 19 [1, 0] (.cons (.nm 6) (.cons (.nm 7) .nil))) .nil)))))) (.frz 14 (.cons (.ifs (.not (.call 38 (.cons (.nm 14) (.cons (.lst (.cons (.cmp .le (.bin .mul (.nm 0) (.nm 3)) (.bin .mul (.nm 2) (.nm 1))) (.cons (.cmp .le (.bin .mul (.nm 2) (.nm 1)) (.bin .mul (.nm 0) (.nm 3))) (.cons (.kB true) (.cons (.cmp .ge (.nm 2) (.kI 0)) .nil))))) .nil)))) (.cons (.ret (.kB false)) .nil) .nil) (.cons (.for_ (.tup (.cons (.nm 15) (.cons (.nm 16) (.cons (.nm 17) .nil)))) (.tup (.cons (.tup (.cons (.call 20 (.cons (.nm 4) .nil)) (.cons (.nm 0) (.cons (.nm 1) .nil)))) (.cons (.tup (.cons (.call 20 (.cons (.nm 5) .nil)) (.cons (.nm 2) (.cons (.nm 3) .nil)))) (.cons (.tup (.cons (.call 20 (.cons (.nm 6) .nil)) (.cons (.bin .add (.bin .mul (.nm 0) (.nm 3)) (.bin .mul (.nm 2) (.nm 1))) (.cons (.bin .mul (.nm 1) (.nm 3)) .nil)))) (.cons (.tup (.cons (.call 20 (.cons (.nm 8) .nil)) (.cons (.bin .mul (.nm 0) (.nm 2)) (.cons (.bin .mul (.nm 1) (.nm 3)) .nil)))) (.cons (.tup (.cons (.call 20 (.cons (.nm 9) .nil)) (.cons (.bin .mul (.bin .mul (.bin .mul (.nm 0) (.nm 0)) (.nm 2)) (.nm 2)) (.cons (.bin .mul (.bin .mul (.bin .mul (.nm 1) (.nm 1)) (.nm 3)) (.nm 3)) .nil)))) .nil)))))) (.cons (.ifs (.bor (.cons (.not (.call 24 (.cons (.nm 15) .nil))) (.cons (.not (.cmp2 .lt .le (.bin .mul (.bin .sub (.nm 15) (.kI 1)) (.nm 17)) (.nm 16) (.bin .mul (.nm 15) (.nm 17)))) .nil))) (.cons (.ret (.kB false)) .nil) .nil) .nil)) (.cons (.ret (.kB true)) .nil)))))
def sumsB : T := (.cons (.asg 12 (.ife (.cmp .gt (.nm 2) (.kI 0)) (.kI 1) (.neg (.kI 1)))) (.cons (.asg 13 (.call 18 (.cons (.nm 4) (.cons (.nm 5) .nil)))) (.cons (.ifs (.bor (.cons (.not (.call 26 (.cons (.nm 13) (.cons (.bin .mul (.bin .mul (.nm 12) (.nm 0)) (.nm 3)) (.cons (.bin .mul (.bin .mul (.nm 12) (.nm 1)) (.nm 2)) .nil))))) (.cons (.not (.call 26 (.cons (.call 17 (.cons (.nm 13) (.cons (.nm 5) .nil))) (.cons (.nm 0) (.cons (.nm 1) .nil))))) .nil))) (.cons (.ret (.kB false)) .nil) .nil) (.cons (.ifs (.not (.call 26 (.cons (.callk 18 [1, 0] (.cons (.nm 5) (.cons (.nm 8) .nil))) (.cons (.nm 0) (.cons (.nm 1) .nil))))) (.cons (.ret (.kB false)) .nil) .nil) .nil))))
/-- a row of the last loop -/
def rowB : T := (.cons (.ifs (.bor (.cons (.not (.call 24 (.cons (.nm 15) .nil))) (.cons (.not (.cmp2 .lt .le (.bin .mul (.bin .sub (.nm 15) (.kI 1)) (.nm 17)) (.nm 16) (.bin .mul (.nm 15) (.nm 17)))) .nil))) (.cons (.ret (.kB false)) .nil) .nil) .nil)
theorem row_ok (k : Nat) (r p q : Int) (w : Wl) (s0 s1 s2 s3 s4 s5 s6 s7 s8 s9 s10 s11 s12 s13 s14 s15 s16 s17 : Slt) {m : Nat} (h1 : (r - 1) * q < p) (h2 : p ≤ r * q) (hr : r.natAbs < 2 ^ m) (hm : m ≤ 500) (hq : q.natAbs < 2 ^ 200) :
    forB (callF fns 1 (k + 1)) (.tup (.cons (.nm 15) (.cons (.nm 16) (.cons (.nm 17) .nil)))) rowB (.tuple [.int r, .int p, .int q]) [s0, s1, s2, s3, s4, s5, s6, s7, s8, s9, s10, s11, s12, s13, s14, s15, s16, s17] w = .ok .nx [s0, s1, s2, s3, s4, s5, s6, s7, s8, s9, s10, s11, s12, s13, s14, .val (.int r), .val (.int p), .val (.int q)] w := by
  have h3 : (r - 1).natAbs < 2 ^ (m + 1) := by rw [Nat.pow_succ]; omega
  unfold forB rowB
  simp only [Rx.run, sem, Sm.ex, Sm.tst, Sm.none_, vNot, vBin, vNeg, vCmp, vCmp2, vIfe, vTup, vLst, vIx, vSlc, vIsi, vBi, vLset, vLrng, vTrng, vLc, Rx.iRng1, Rx.iRng2, slotV, slotP, isNil, isNm, Rz.bnd, Rz.map, Rz.x, Xr.seq, asB, boolR, intR, Got.d, Got.slot, storeS, frzS, ownAt, ofO, noOwn, wipeS, asgG, asgGs, itemsD, List.getElem?_cons_zero, List.getElem?_cons_succ, List.set_cons_zero, List.set_cons_succ, List.length_cons, List.length_nil, if_true, if_false, Bool.false_eq_true, Bool.not_false, Bool.not_true, List.all_cons, List.all_nil, Bool.and_true, List.map_cons, List.map_nil, Nat.reduceAdd, Nat.reduceLT, Nat.zero_add, Option.toList, ix2_0, ix2_1, cm_eq, cm_ne, cm_lt, cm_le, cm_gt, cm_ge, bd_add, bd_sub, bi_len_t, bi_len_l, bi_gcd, tr_bool, e24 k (.int r) w rfl, isI, bdm hr hq (by omega) (by omega), bdm h3 hq (by omega) (by omega), dc_t h1, dc_t h2]
theorem e39 (k : Nat) {a b c d : Int} (w : Wl) (ha : B a) (hc : B c) (hb : 1 ≤ b ∧ b ≤ 60) (hd : 1 ≤ d ∧ d ≤ 60) : callF fns 1 (k + 10) 39 [.int a, .int b, .int c, .int d] w = .ok (.bool true) w := by
  have Bb := B60 b hb.1 hb.2
  have Bd := B60 d hd.1 hd.2
  have b0 := pos_ne hb.1
  have d0 := pos_ne hd.1
  have pb : 0 < b := by omega
  have pd : 0 < d := by omega
  have nb : -b ≠ 0 := by omega
  have pbd : 0 < b * d := Int.mul_pos pb pd
  have bd0 : b * d ≠ 0 := by omega
  have pq : 0 < b * d * (b * d) := Int.mul_pos pbd pbd
  have q0 : b * d * (b * d) ≠ 0 := by omega
  obtain ⟨v4, E4, F4⟩ := e14 (a := a) b0 ha Bb (by decide)
  obtain ⟨v5, E5, F5⟩ := e14 (a := c) d0 hc Bd (by decide)
  obtain ⟨u1, Eu1, G1⟩ := e14 (a := -a) nb (Bneg ha) (Bneg Bb) (by decide)
  obtain ⟨u2, Eu2, G2⟩ := e14 (a := a) nb ha (Bneg Bb) (by decide)
  obtain ⟨v6, E6, F6⟩ := e15 F4 F5 (by decide)
  obtain ⟨v7, E7, F7⟩ := e16 F4 F5 (by decide)
  obtain ⟨v8, E8, F8⟩ := e17 F4 F5 (by decide)
  obtain ⟨v9, E9, F9⟩ := e17 F8 F8 (by decide)
  obtain ⟨v10, E10, F10⟩ := e16 F9 fr60 (by decide)
  obtain ⟨u3, Eu3, G3⟩ := e16 F8 fr60 (by decide)
  obtain ⟨u4, Eu4, G4⟩ := e15 F6 F7 (by decide)
  obtain ⟨u5, Eu5, G5⟩ := e16 F6 F7 (by decide)
  have Bad := B2 ha Bd
  have Bcb := B2 hc Bb
  have Bbd := B2 Bb Bd
  have Bac := B2 ha hc
  have Baa := B2 ha ha
  have Bbb := B2 Bb Bb
  have Baac := B3 ha ha hc
  have Bbbd := B3 Bb Bb Bd
  have Baacc := B4 ha ha hc hc
  have Bbbdd := B4 Bb Bb Bd Bd
  have two : (2 : Int).natAbs < 2 ^ 2 := by decide
  have B2a := mul_bd two ha
  have B2c := mul_bd two hc
  have Bs := add_bd Bad Bcb
  have Bm := sub_bd Bad Bcb
  -- what stands
  have s1 := fun w => e26 F4 b0 (p := a) (q := b) rfl (by decide) (upB ha) (upB Bb) (by decide) (k + 5) w
  have s2 := fun w => e26 F5 d0 (p := c) (q := d) rfl (by decide) (upB hc) (upB Bd) (by decide) (k + 5) w
  have s3 := fun w => e26 G1 nb (p := a) (q := b) (by grind) (by decide) (upB ha) (upB Bb) (by decide) (k + 5) w
  have s4 := fun w => e26 G2 nb (p := -a) (q := b) (by grind) (by decide) (upB (Bneg ha)) (upB Bb) (by decide) (k + 5) w
  have s5 := fun w => e26 F6 bd0 (p := a * d + c * b) (q := b * d) rfl (by decide) (up2 Bs (by decide)) (up2 Bbd (by decide)) (by decide) (k + 5) w
  have s6 := fun w => e26 F7 bd0 (p := a * d - c * b) (q := b * d) rfl (by decide) (up2 Bm (by decide)) (up2 Bbd (by decide)) (by decide) (k + 5) w
  have s7 := fun w => e26 F8 bd0 (p := a * c) (q := b * d) rfl (by decide) (up2 Bac (by decide)) (up2 Bbd (by decide)) (by decide) (k + 5) w
  have s8 := fun w => e26 F9 q0 (p := a * a * c * c) (q := b * b * d * d) (by grind) (by decide) (up2 Baacc (by decide)) (up2 Bbbdd (by decide)) (by decide) (k + 5) w
  have s9 := fun w => e26 G4 q0 (p := 2 * a) (q := b) (by grind) (by decide) (up2 B2a (by decide)) (upB Bb) (by decide) (k + 5) w
  have s10 := fun w => e26 G5 q0 (p := 2 * c) (q := d) (by grind) (by decide) (up2 B2c (by decide)) (upB Bd) (by decide) (k + 5) w
  -- comparisons
  have l1 := fun w => e19 F8 G3 pbd (Int.mul_pos pbd (by decide)) (by decide) (k + 5) w
  have l2 := fun w => e19 F9 F10 pq (Int.mul_pos pq (by decide)) (by decide) (k + 5) w
  have l3 := fun w => e19 F10 F9 (Int.mul_pos pq (by decide)) pq (by decide) (k + 5) w
  have l4 := fun w => e19 F4 F5 pb pd (by decide) (k + 5) w
  have l5 := fun w => e19 F5 F4 pd pb (by decide) (k + 5) w
  have l6 := fun w => e19 F4 F4 pb pb (by decide) (k + 5) w
  have l7 := fun w => e19 F7 F6 pbd pbd (by decide) (k + 5) w
  have t1 : ¬ (a * c * (b * d * 60) ≤ (a * c * 60 - 1 * (b * d)) * (b * d)) := by
    have : (a * c * 60 - 1 * (b * d)) * (b * d) = a * c * (b * d * 60) - b * d * (b * d) := by grind
    omega
  have t2 : ¬ (a * c * (a * c) * (b * d * (b * d) * 60) ≤ (a * c * (a * c) * 60 - 1 * (b * d * (b * d))) * (b * d * (b * d))) := by
    have h1 : (a * c * (a * c) * 60 - 1 * (b * d * (b * d))) * (b * d * (b * d)) = a * c * (a * c) * (b * d * (b * d) * 60) - b * d * (b * d) * (b * d * (b * d)) := by grind
    have h2 := Int.mul_pos pq pq
    omega
  have t3 : (a * c * (a * c) * 60 - 1 * (b * d * (b * d))) * (b * d * (b * d)) ≤ a * c * (a * c) * (b * d * (b * d) * 60) := by omega
  have t7 : (a * d - c * b) * (b * d) ≤ (a * d + c * b) * (b * d) ↔ 0 ≤ c := by
    rw [Int.mul_le_mul_right pbd]
    constructor
    · intro h
      by_cases hc0 : 0 ≤ c
      · exact hc0
      · have := Int.mul_neg_of_neg_of_pos (show c < 0 by omega) pb
        omega
    · intro h
      have := Int.mul_nonneg h (show 0 ≤ b by omega)
      omega
  rw [dc_f t1] at l1
  rw [dc_f t2] at l2
  rw [dc_t t3] at l3
  have t7' : decide ((a * d - c * b) * (b * d) ≤ (a * d + c * b) * (b * d)) = decide (0 ≤ c) := decide_eq_decide.mpr t7
  rw [t7'] at l7
  have m1 := bdm ha Bd (by decide) (by decide)
  have m2 := bdm hc Bb (by decide) (by decide)
  have m3 := bdm Bb Bd (by decide) (by decide)
  have m4 := bdm ha hc (by decide) (by decide)
  have m5 := bdm ha ha (by decide) (by decide)
  have m6 := bdm Baa hc (by decide) (by decide)
  have m7 := bdm Baac hc (by decide) (by decide)
  have m8 := bdm Bb Bb (by decide) (by decide)
  have m9 := bdm Bbb Bd (by decide) (by decide)
  have m10 := bdm Bbbd Bd (by decide) (by decide)
  have m11 := bdm two ha (by decide) (by decide)
  have m12 := bdm two hc (by decide) (by decide)
  obtain ⟨r1, Q1, P1⟩ := e20 F4 pb (by decide)
  obtain ⟨r2, Q2, P2⟩ := e20 F5 pd (by decide)
  obtain ⟨r3, Q3, P3⟩ := e20 F6 pbd (by decide)
  obtain ⟨r4, Q4, P4⟩ := e20 F8 pbd (by decide)
  obtain ⟨r5, Q5, P5⟩ := e20 (fr_to F9 q0 (a := a * a * c * c) (b := b * b * d * d) (by grind)) (Int.mul_pos (Int.mul_pos (Int.mul_pos pb pb) pd) pd) (by decide)
  have tail : ∀ s12 s13 : Slt, fin (Rx.run (callF fns 1 (k + 9)) 1 sumsT [.val (.int a), .val (.int b), .val (.int c), .val (.int d), .val v4, .val v5, .val v6, .val v7, .val v8, .val v9, .val v10, .val (.list [.bool false, .bool false, .bool true]), s12, s13, .no, .no, .no, .no] w) = .ok (.bool true) w := by
    intro s12 s13
    unfold sumsT
    refine asg_end (g := .fresh [.bool (decide (a * d ≤ c * b)), .bool (decide (c * b ≤ a * d)), .bool true, .bool (decide (0 ≤ c))]) (w1 := w) (by simp only [Rx.run, sem, Sm.ex, Sm.tst, Sm.none_, vNot, vBin, vNeg, vCmp, vCmp2, vIfe, vTup, vLst, vIx, vSlc, vIsi, vBi, vLset, vLrng, vTrng, vLc, Rx.iRng1, Rx.iRng2, slotV, slotP, isNil, isNm, Rz.bnd, Rz.map, Rz.x, Xr.seq, asB, boolR, intR, Got.d, Got.slot, storeS, frzS, ownAt, ofO, noOwn, wipeS, asgG, asgGs, itemsD, List.getElem?_cons_zero, List.getElem?_cons_succ, List.set_cons_zero, List.set_cons_succ, List.length_cons, List.length_nil, if_true, if_false, Bool.false_eq_true, Bool.not_false, Bool.not_true, List.all_cons, List.all_nil, Bool.and_true, List.map_cons, List.map_nil, Nat.reduceAdd, Nat.reduceLT, Nat.zero_add, Option.toList, ix2_0, ix2_1, cm_eq, cm_ne, cm_lt, cm_le, cm_gt, cm_ge, bd_add, bd_sub, bi_len_t, bi_len_l, bi_gcd, tr_bool, by2, sz1, sz2, sz3, sz4, sz5, l4 w, l5 w, l6 w, l7 w, decide_true, Int.le_refl]) (by simp) ?_
    show fin (Rx.run (callF fns 1 (k + 9)) 1 _ [.val (.int a), .val (.int b), .val (.int c), .val (.int d), .val (v4), .val (v5), .val (v6), .val (v7), .val (v8), .val (v9), .val (v10), .val (.list [.bool false, .bool false, .bool true]), s12, s13, .own [.bool (decide (a * d ≤ c * b)), .bool (decide (c * b ≤ a * d)), .bool true, .bool (decide (0 ≤ c))], .no, .no, .no] w) = _
    refine frz_end ?_
    show fin (Rx.run (callF fns 1 (k + 9)) 1 _ [.val (.int a), .val (.int b), .val (.int c), .val (.int d), .val (v4), .val (v5), .val (v6), .val (v7), .val (v8), .val (v9), .val (v10), .val (.list [.bool false, .bool false, .bool true]), s12, s13, .val (.list [.bool (decide (a * d ≤ c * b)), .bool (decide (c * b ≤ a * d)), .bool true, .bool (decide (0 ≤ c))]), .no, .no, .no] w) = _
    refine ifn_end (w1 := w) (by simp only [Rx.run, sem, Sm.ex, Sm.tst, Sm.none_, vNot, vBin, vNeg, vCmp, vCmp2, vIfe, vTup, vLst, vIx, vSlc, vIsi, vBi, vLset, vLrng, vTrng, vLc, Rx.iRng1, Rx.iRng2, slotV, slotP, isNil, isNm, Rz.bnd, Rz.map, Rz.x, Xr.seq, asB, boolR, intR, Got.d, Got.slot, storeS, frzS, ownAt, ofO, noOwn, wipeS, asgG, asgGs, itemsD, List.getElem?_cons_zero, List.getElem?_cons_succ, List.set_cons_zero, List.set_cons_succ, List.length_cons, List.length_nil, if_true, if_false, Bool.false_eq_true, Bool.not_false, Bool.not_true, List.all_cons, List.all_nil, Bool.and_true, List.map_cons, List.map_nil, Nat.reduceAdd, Nat.reduceLT, Nat.zero_add, Option.toList, ix2_0, ix2_1, cm_eq, cm_ne, cm_lt, cm_le, cm_gt, cm_ge, bd_add, bd_sub, bi_len_t, bi_len_l, bi_gcd, tr_bool, by2, sz1, sz2, sz3, sz4, sz5, m1, m2, e38_4 (k + 8) (decide (a * d ≤ c * b)) (decide (c * b ≤ a * d)) true (decide (0 ≤ c)) w]) ?_
    refine for_end (items := [.tuple [.int r1, .int (a), .int (b)], .tuple [.int r2, .int (c), .int (d)], .tuple [.int r3, .int (a * d + c * b), .int (b * d)], .tuple [.int r4, .int (a * c), .int (b * d)], .tuple [.int r5, .int (a * a * c * c), .int (b * b * d * d)]]) (w1 := w) (by simp only [Rx.run, sem, Sm.ex, Sm.tst, Sm.none_, vNot, vBin, vNeg, vCmp, vCmp2, vIfe, vTup, vLst, vIx, vSlc, vIsi, vBi, vLset, vLrng, vTrng, vLc, Rx.iRng1, Rx.iRng2, slotV, slotP, isNil, isNm, Rz.bnd, Rz.map, Rz.x, Xr.seq, asB, boolR, intR, Got.d, Got.slot, storeS, frzS, ownAt, ofO, noOwn, wipeS, asgG, asgGs, itemsD, List.getElem?_cons_zero, List.getElem?_cons_succ, List.set_cons_zero, List.set_cons_succ, List.length_cons, List.length_nil, if_true, if_false, Bool.false_eq_true, Bool.not_false, Bool.not_true, List.all_cons, List.all_nil, Bool.and_true, List.map_cons, List.map_nil, Nat.reduceAdd, Nat.reduceLT, Nat.zero_add, Option.toList, ix2_0, ix2_1, cm_eq, cm_ne, cm_lt, cm_le, cm_gt, cm_ge, bd_add, bd_sub, bi_len_t, bi_len_l, bi_gcd, tr_bool, by2, sz1, sz2, sz3, sz4, sz5, m1, m2, m3, m4, m5, m6, m7, m8, m9, m10, Q1 (k + 5) w, Q2 (k + 5) w, Q3 (k + 5) w, Q4 (k + 5) w, Q5 (k + 5) w]) ?_
    show fin ((loopF (forB (callF fns 1 (k + 8 + 1)) (.tup (.cons (.nm 15) (.cons (.nm 16) (.cons (.nm 17) .nil)))) rowB) _ _ w).seq _) = _
    rw [loopF_nx (row_ok (k + 8) r1 (a) (b) w _ _ _ _ _ _ _ _ _ _ _ _ _ _ _ _ _ _ P1.1 P1.2.1 P1.2.2 (by decide) (upB Bb))]
    rw [loopF_nx (row_ok (k + 8) r2 (c) (d) w _ _ _ _ _ _ _ _ _ _ _ _ _ _ _ _ _ _ P2.1 P2.2.1 P2.2.2 (by decide) (upB Bd))]
    rw [loopF_nx (row_ok (k + 8) r3 (a * d + c * b) (b * d) w _ _ _ _ _ _ _ _ _ _ _ _ _ _ _ _ _ _ P3.1 P3.2.1 P3.2.2 (by decide) (up2 Bbd (by decide)))]
    rw [loopF_nx (row_ok (k + 8) r4 (a * c) (b * d) w _ _ _ _ _ _ _ _ _ _ _ _ _ _ _ _ _ _ P4.1 P4.2.1 P4.2.2 (by decide) (up2 Bbd (by decide)))]
    rw [loopF_nx (row_ok (k + 8) r5 (a * a * c * c) (b * b * d * d) w _ _ _ _ _ _ _ _ _ _ _ _ _ _ _ _ _ _ P5.1 P5.2.1 P5.2.2 (by decide) (up2 Bbbdd (by decide)))]
    rfl
  have blk : c ≠ 0 → ∃ s12 s13, Rx.run (callF fns 1 (k + 9)) 1 sumsB [.val (.int a), .val (.int b), .val (.int c), .val (.int d), .val v4, .val v5, .val v6, .val v7, .val v8, .val v9, .val v10, .val (.list [.bool false, .bool false, .bool true]), .no, .no, .no, .no, .no, .no] w = .ok .nx [.val (.int a), .val (.int b), .val (.int c), .val (.int d), .val v4, .val v5, .val v6, .val v7, .val v8, .val v9, .val v10, .val (.list [.bool false, .bool false, .bool true]), s12, s13, .no, .no, .no, .no] w := by
    intro hc0
    have bc0 := mul_ne b0 hc0
    obtain ⟨v13, E13, F13⟩ := e18 F4 F5 hc0 (by decide)
    obtain ⟨u6, Eu6, G6⟩ := e17 F13 F5 (by decide)
    obtain ⟨u7, Eu7, G7⟩ := e18 F8 F5 hc0 (by decide)
    have s12 := fun w => e26 G6 (mul_ne bc0 d0) (p := a) (q := b) (by grind) (by decide) (upB ha) (upB Bb) (by decide) (k + 5) w
    have s13 := fun w => e26 G7 (mul_ne bd0 hc0) (p := a) (q := b) (by grind) (by decide) (upB ha) (upB Bb) (by decide) (k + 5) w
    have sg : ∀ g : Int, g.natAbs < 2 ^ 2 → binD .mul (.int g) (.int a) = some (.val (.int (g * a))) ∧ binD .mul (.int (g * a)) (.int d) = some (.val (.int (g * a * d))) ∧ binD .mul (.int g) (.int b) = some (.val (.int (g * b))) ∧ binD .mul (.int (g * b)) (.int c) = some (.val (.int (g * b * c))) ∧ ∀ w, callF fns 1 (k + 9) 26 [v13, .int (g * a * d), .int (g * b * c)] w = .ok (.bool true) w := by
      intro g hg
      have h1 := mul_bd hg ha
      have h2 := mul_bd hg Bb
      exact ⟨bdm hg ha (by decide) (by decide), bdm h1 Bd (by decide) (by decide), bdm hg Bb (by decide) (by decide), bdm h2 hc (by decide) (by decide), fun w => e26 F13 bc0 (p := g * a * d) (q := g * b * c) (by grind) (by decide) (up2 (mul_bd h1 Bd) (by decide)) (up2 (mul_bd h2 hc) (by decide)) (by decide) (k + 5) w⟩
    unfold sumsB
    by_cases hp : 0 < c
    · obtain ⟨n1, n2, n3, n4, n5⟩ := sg 1 (by decide)
      refine ⟨.val (.int 1), .val v13, ?_⟩
      simp only [Rx.run, sem, Sm.ex, Sm.tst, Sm.none_, vNot, vBin, vNeg, vCmp, vCmp2, vIfe, vTup, vLst, vIx, vSlc, vIsi, vBi, vLset, vLrng, vTrng, vLc, Rx.iRng1, Rx.iRng2, slotV, slotP, isNil, isNm, Rz.bnd, Rz.map, Rz.x, Xr.seq, asB, boolR, intR, Got.d, Got.slot, storeS, frzS, ownAt, ofO, noOwn, wipeS, asgG, asgGs, itemsD, List.getElem?_cons_zero, List.getElem?_cons_succ, List.set_cons_zero, List.set_cons_succ, List.length_cons, List.length_nil, if_true, if_false, Bool.false_eq_true, Bool.not_false, Bool.not_true, List.all_cons, List.all_nil, Bool.and_true, List.map_cons, List.map_nil, Nat.reduceAdd, Nat.reduceLT, Nat.zero_add, Option.toList, ix2_0, ix2_1, cm_eq, cm_ne, cm_lt, cm_le, cm_gt, cm_ge, bd_add, bd_sub, bi_len_t, bi_len_l, bi_gcd, tr_bool, by2, sz1, sz2, sz3, sz4, sz5, dc_t hp, E13 (k + 5) w, Eu6 (k + 5) w, Eu7 (k + 5) w, s12 w, s13 w, n1, n2, n3, n4, n5 w]
    · obtain ⟨n1, n2, n3, n4, n5⟩ := sg (-1) (by decide)
      refine ⟨.val (.int (-1)), .val v13, ?_⟩
      simp only [Rx.run, sem, Sm.ex, Sm.tst, Sm.none_, vNot, vBin, vNeg, vCmp, vCmp2, vIfe, vTup, vLst, vIx, vSlc, vIsi, vBi, vLset, vLrng, vTrng, vLc, Rx.iRng1, Rx.iRng2, slotV, slotP, isNil, isNm, Rz.bnd, Rz.map, Rz.x, Xr.seq, asB, boolR, intR, Got.d, Got.slot, storeS, frzS, ownAt, ofO, noOwn, wipeS, asgG, asgGs, itemsD, List.getElem?_cons_zero, List.getElem?_cons_succ, List.set_cons_zero, List.set_cons_succ, List.length_cons, List.length_nil, if_true, if_false, Bool.false_eq_true, Bool.not_false, Bool.not_true, List.all_cons, List.all_nil, Bool.and_true, List.map_cons, List.map_nil, Nat.reduceAdd, Nat.reduceLT, Nat.zero_add, Option.toList, ix2_0, ix2_1, cm_eq, cm_ne, cm_lt, cm_le, cm_gt, cm_ge, bd_add, bd_sub, bi_len_t, bi_len_l, bi_gcd, tr_bool, by2, sz1, sz2, sz3, sz4, sz5, dc_f hp, E13 (k + 5) w, Eu6 (k + 5) w, Eu7 (k + 5) w, s12 w, s13 w, n1, n2, n3, n4, n5 w]
  rw [c39]
  unfold b__law_sums
  show fin (Rx.run (callF fns 1 (k + 9)) 1 _ [.val (.int a), .val (.int b), .val (.int c), .val (.int d), .no, .no, .no, .no, .no, .no, .no, .no, .no, .no, .no, .no, .no, .no] w) = _
  refine asg_end (g := .val (v4)) (w1 := w) (by simp only [Rx.run, sem, Sm.ex, Sm.tst, Sm.none_, vNot, vBin, vNeg, vCmp, vCmp2, vIfe, vTup, vLst, vIx, vSlc, vIsi, vBi, vLset, vLrng, vTrng, vLc, Rx.iRng1, Rx.iRng2, slotV, slotP, isNil, isNm, Rz.bnd, Rz.map, Rz.x, Xr.seq, asB, boolR, intR, Got.d, Got.slot, storeS, frzS, ownAt, ofO, noOwn, wipeS, asgG, asgGs, itemsD, List.getElem?_cons_zero, List.getElem?_cons_succ, List.set_cons_zero, List.set_cons_succ, List.length_cons, List.length_nil, if_true, if_false, Bool.false_eq_true, Bool.not_false, Bool.not_true, List.all_cons, List.all_nil, Bool.and_true, List.map_cons, List.map_nil, Nat.reduceAdd, Nat.reduceLT, Nat.zero_add, Option.toList, ix2_0, ix2_1, cm_eq, cm_ne, cm_lt, cm_le, cm_gt, cm_ge, bd_add, bd_sub, bi_len_t, bi_len_l, bi_gcd, tr_bool, by2, sz1, sz2, sz3, sz4, sz5, E4 (k + 5) w]) (by simp) ?_
  show fin (Rx.run (callF fns 1 (k + 9)) 1 _ [.val (.int a), .val (.int b), .val (.int c), .val (.int d), .val (v4), .no, .no, .no, .no, .no, .no, .no, .no, .no, .no, .no, .no, .no] w) = _
  refine asg_end (g := .val (v5)) (w1 := w) (by simp only [Rx.run, sem, Sm.ex, Sm.tst, Sm.none_, vNot, vBin, vNeg, vCmp, vCmp2, vIfe, vTup, vLst, vIx, vSlc, vIsi, vBi, vLset, vLrng, vTrng, vLc, Rx.iRng1, Rx.iRng2, slotV, slotP, isNil, isNm, Rz.bnd, Rz.map, Rz.x, Xr.seq, asB, boolR, intR, Got.d, Got.slot, storeS, frzS, ownAt, ofO, noOwn, wipeS, asgG, asgGs, itemsD, List.getElem?_cons_zero, List.getElem?_cons_succ, List.set_cons_zero, List.set_cons_succ, List.length_cons, List.length_nil, if_true, if_false, Bool.false_eq_true, Bool.not_false, Bool.not_true, List.all_cons, List.all_nil, Bool.and_true, List.map_cons, List.map_nil, Nat.reduceAdd, Nat.reduceLT, Nat.zero_add, Option.toList, ix2_0, ix2_1, cm_eq, cm_ne, cm_lt, cm_le, cm_gt, cm_ge, bd_add, bd_sub, bi_len_t, bi_len_l, bi_gcd, tr_bool, by2, sz1, sz2, sz3, sz4, sz5, E5 (k + 5) w]) (by simp) ?_
  show fin (Rx.run (callF fns 1 (k + 9)) 1 _ [.val (.int a), .val (.int b), .val (.int c), .val (.int d), .val (v4), .val (v5), .no, .no, .no, .no, .no, .no, .no, .no, .no, .no, .no, .no] w) = _
  refine ifn_end (w1 := w) (by simp only [Rx.run, sem, Sm.ex, Sm.tst, Sm.none_, vNot, vBin, vNeg, vCmp, vCmp2, vIfe, vTup, vLst, vIx, vSlc, vIsi, vBi, vLset, vLrng, vTrng, vLc, Rx.iRng1, Rx.iRng2, slotV, slotP, isNil, isNm, Rz.bnd, Rz.map, Rz.x, Xr.seq, asB, boolR, intR, Got.d, Got.slot, storeS, frzS, ownAt, ofO, noOwn, wipeS, asgG, asgGs, itemsD, List.getElem?_cons_zero, List.getElem?_cons_succ, List.set_cons_zero, List.set_cons_succ, List.length_cons, List.length_nil, if_true, if_false, Bool.false_eq_true, Bool.not_false, Bool.not_true, List.all_cons, List.all_nil, Bool.and_true, List.map_cons, List.map_nil, Nat.reduceAdd, Nat.reduceLT, Nat.zero_add, Option.toList, ix2_0, ix2_1, cm_eq, cm_ne, cm_lt, cm_le, cm_gt, cm_ge, bd_add, bd_sub, bi_len_t, bi_len_l, bi_gcd, tr_bool, by2, sz1, sz2, sz3, sz4, sz5, s1 w, s2 w]) ?_
  refine ifn_end (w1 := w) (by simp only [Rx.run, sem, Sm.ex, Sm.tst, Sm.none_, vNot, vBin, vNeg, vCmp, vCmp2, vIfe, vTup, vLst, vIx, vSlc, vIsi, vBi, vLset, vLrng, vTrng, vLc, Rx.iRng1, Rx.iRng2, slotV, slotP, isNil, isNm, Rz.bnd, Rz.map, Rz.x, Xr.seq, asB, boolR, intR, Got.d, Got.slot, storeS, frzS, ownAt, ofO, noOwn, wipeS, asgG, asgGs, itemsD, List.getElem?_cons_zero, List.getElem?_cons_succ, List.set_cons_zero, List.set_cons_succ, List.length_cons, List.length_nil, if_true, if_false, Bool.false_eq_true, Bool.not_false, Bool.not_true, List.all_cons, List.all_nil, Bool.and_true, List.map_cons, List.map_nil, Nat.reduceAdd, Nat.reduceLT, Nat.zero_add, Option.toList, ix2_0, ix2_1, cm_eq, cm_ne, cm_lt, cm_le, cm_gt, cm_ge, bd_add, bd_sub, bi_len_t, bi_len_l, bi_gcd, tr_bool, by2, sz1, sz2, sz3, sz4, sz5, s3 w, s4 w, Eu1 (k + 5) w, Eu2 (k + 5) w]) ?_
  refine asg_end (g := .val (v6)) (w1 := w) (by simp only [Rx.run, sem, Sm.ex, Sm.tst, Sm.none_, vNot, vBin, vNeg, vCmp, vCmp2, vIfe, vTup, vLst, vIx, vSlc, vIsi, vBi, vLset, vLrng, vTrng, vLc, Rx.iRng1, Rx.iRng2, slotV, slotP, isNil, isNm, Rz.bnd, Rz.map, Rz.x, Xr.seq, asB, boolR, intR, Got.d, Got.slot, storeS, frzS, ownAt, ofO, noOwn, wipeS, asgG, asgGs, itemsD, List.getElem?_cons_zero, List.getElem?_cons_succ, List.set_cons_zero, List.set_cons_succ, List.length_cons, List.length_nil, if_true, if_false, Bool.false_eq_true, Bool.not_false, Bool.not_true, List.all_cons, List.all_nil, Bool.and_true, List.map_cons, List.map_nil, Nat.reduceAdd, Nat.reduceLT, Nat.zero_add, Option.toList, ix2_0, ix2_1, cm_eq, cm_ne, cm_lt, cm_le, cm_gt, cm_ge, bd_add, bd_sub, bi_len_t, bi_len_l, bi_gcd, tr_bool, by2, sz1, sz2, sz3, sz4, sz5, E6 (k + 5) w]) (by simp) ?_
  show fin (Rx.run (callF fns 1 (k + 9)) 1 _ [.val (.int a), .val (.int b), .val (.int c), .val (.int d), .val (v4), .val (v5), .val (v6), .no, .no, .no, .no, .no, .no, .no, .no, .no, .no, .no] w) = _
  refine asg_end (g := .val (v7)) (w1 := w) (by simp only [Rx.run, sem, Sm.ex, Sm.tst, Sm.none_, vNot, vBin, vNeg, vCmp, vCmp2, vIfe, vTup, vLst, vIx, vSlc, vIsi, vBi, vLset, vLrng, vTrng, vLc, Rx.iRng1, Rx.iRng2, slotV, slotP, isNil, isNm, Rz.bnd, Rz.map, Rz.x, Xr.seq, asB, boolR, intR, Got.d, Got.slot, storeS, frzS, ownAt, ofO, noOwn, wipeS, asgG, asgGs, itemsD, List.getElem?_cons_zero, List.getElem?_cons_succ, List.set_cons_zero, List.set_cons_succ, List.length_cons, List.length_nil, if_true, if_false, Bool.false_eq_true, Bool.not_false, Bool.not_true, List.all_cons, List.all_nil, Bool.and_true, List.map_cons, List.map_nil, Nat.reduceAdd, Nat.reduceLT, Nat.zero_add, Option.toList, ix2_0, ix2_1, cm_eq, cm_ne, cm_lt, cm_le, cm_gt, cm_ge, bd_add, bd_sub, bi_len_t, bi_len_l, bi_gcd, tr_bool, by2, sz1, sz2, sz3, sz4, sz5, E7 (k + 5) w]) (by simp) ?_
  show fin (Rx.run (callF fns 1 (k + 9)) 1 _ [.val (.int a), .val (.int b), .val (.int c), .val (.int d), .val (v4), .val (v5), .val (v6), .val (v7), .no, .no, .no, .no, .no, .no, .no, .no, .no, .no] w) = _
  refine asg_end (g := .val (v8)) (w1 := w) (by simp only [Rx.run, sem, Sm.ex, Sm.tst, Sm.none_, vNot, vBin, vNeg, vCmp, vCmp2, vIfe, vTup, vLst, vIx, vSlc, vIsi, vBi, vLset, vLrng, vTrng, vLc, Rx.iRng1, Rx.iRng2, slotV, slotP, isNil, isNm, Rz.bnd, Rz.map, Rz.x, Xr.seq, asB, boolR, intR, Got.d, Got.slot, storeS, frzS, ownAt, ofO, noOwn, wipeS, asgG, asgGs, itemsD, List.getElem?_cons_zero, List.getElem?_cons_succ, List.set_cons_zero, List.set_cons_succ, List.length_cons, List.length_nil, if_true, if_false, Bool.false_eq_true, Bool.not_false, Bool.not_true, List.all_cons, List.all_nil, Bool.and_true, List.map_cons, List.map_nil, Nat.reduceAdd, Nat.reduceLT, Nat.zero_add, Option.toList, ix2_0, ix2_1, cm_eq, cm_ne, cm_lt, cm_le, cm_gt, cm_ge, bd_add, bd_sub, bi_len_t, bi_len_l, bi_gcd, tr_bool, by2, sz1, sz2, sz3, sz4, sz5, E8 (k + 5) w]) (by simp) ?_
  show fin (Rx.run (callF fns 1 (k + 9)) 1 _ [.val (.int a), .val (.int b), .val (.int c), .val (.int d), .val (v4), .val (v5), .val (v6), .val (v7), .val (v8), .no, .no, .no, .no, .no, .no, .no, .no, .no] w) = _
  refine ifn_end (w1 := w) (by simp only [Rx.run, sem, Sm.ex, Sm.tst, Sm.none_, vNot, vBin, vNeg, vCmp, vCmp2, vIfe, vTup, vLst, vIx, vSlc, vIsi, vBi, vLset, vLrng, vTrng, vLc, Rx.iRng1, Rx.iRng2, slotV, slotP, isNil, isNm, Rz.bnd, Rz.map, Rz.x, Xr.seq, asB, boolR, intR, Got.d, Got.slot, storeS, frzS, ownAt, ofO, noOwn, wipeS, asgG, asgGs, itemsD, List.getElem?_cons_zero, List.getElem?_cons_succ, List.set_cons_zero, List.set_cons_succ, List.length_cons, List.length_nil, if_true, if_false, Bool.false_eq_true, Bool.not_false, Bool.not_true, List.all_cons, List.all_nil, Bool.and_true, List.map_cons, List.map_nil, Nat.reduceAdd, Nat.reduceLT, Nat.zero_add, Option.toList, ix2_0, ix2_1, cm_eq, cm_ne, cm_lt, cm_le, cm_gt, cm_ge, bd_add, bd_sub, bi_len_t, bi_len_l, bi_gcd, tr_bool, by2, sz1, sz2, sz3, sz4, sz5, s5 w, s6 w, m1, m2, m3]) ?_
  refine ifn_end (w1 := w) (by simp only [Rx.run, sem, Sm.ex, Sm.tst, Sm.none_, vNot, vBin, vNeg, vCmp, vCmp2, vIfe, vTup, vLst, vIx, vSlc, vIsi, vBi, vLset, vLrng, vTrng, vLc, Rx.iRng1, Rx.iRng2, slotV, slotP, isNil, isNm, Rz.bnd, Rz.map, Rz.x, Xr.seq, asB, boolR, intR, Got.d, Got.slot, storeS, frzS, ownAt, ofO, noOwn, wipeS, asgG, asgGs, itemsD, List.getElem?_cons_zero, List.getElem?_cons_succ, List.set_cons_zero, List.set_cons_succ, List.length_cons, List.length_nil, if_true, if_false, Bool.false_eq_true, Bool.not_false, Bool.not_true, List.all_cons, List.all_nil, Bool.and_true, List.map_cons, List.map_nil, Nat.reduceAdd, Nat.reduceLT, Nat.zero_add, Option.toList, ix2_0, ix2_1, cm_eq, cm_ne, cm_lt, cm_le, cm_gt, cm_ge, bd_add, bd_sub, bi_len_t, bi_len_l, bi_gcd, tr_bool, by2, sz1, sz2, sz3, sz4, sz5, s7 w, m4, m3]) ?_
  refine asg_end (g := .val (v9)) (w1 := w) (by simp only [Rx.run, sem, Sm.ex, Sm.tst, Sm.none_, vNot, vBin, vNeg, vCmp, vCmp2, vIfe, vTup, vLst, vIx, vSlc, vIsi, vBi, vLset, vLrng, vTrng, vLc, Rx.iRng1, Rx.iRng2, slotV, slotP, isNil, isNm, Rz.bnd, Rz.map, Rz.x, Xr.seq, asB, boolR, intR, Got.d, Got.slot, storeS, frzS, ownAt, ofO, noOwn, wipeS, asgG, asgGs, itemsD, List.getElem?_cons_zero, List.getElem?_cons_succ, List.set_cons_zero, List.set_cons_succ, List.length_cons, List.length_nil, if_true, if_false, Bool.false_eq_true, Bool.not_false, Bool.not_true, List.all_cons, List.all_nil, Bool.and_true, List.map_cons, List.map_nil, Nat.reduceAdd, Nat.reduceLT, Nat.zero_add, Option.toList, ix2_0, ix2_1, cm_eq, cm_ne, cm_lt, cm_le, cm_gt, cm_ge, bd_add, bd_sub, bi_len_t, bi_len_l, bi_gcd, tr_bool, by2, sz1, sz2, sz3, sz4, sz5, E9 (k + 5) w]) (by simp) ?_
  show fin (Rx.run (callF fns 1 (k + 9)) 1 _ [.val (.int a), .val (.int b), .val (.int c), .val (.int d), .val (v4), .val (v5), .val (v6), .val (v7), .val (v8), .val (v9), .no, .no, .no, .no, .no, .no, .no, .no] w) = _
  refine asg_end (g := .val (v10)) (w1 := w) (by simp only [Rx.run, sem, Sm.ex, Sm.tst, Sm.none_, vNot, vBin, vNeg, vCmp, vCmp2, vIfe, vTup, vLst, vIx, vSlc, vIsi, vBi, vLset, vLrng, vTrng, vLc, Rx.iRng1, Rx.iRng2, slotV, slotP, isNil, isNm, Rz.bnd, Rz.map, Rz.x, Xr.seq, asB, boolR, intR, Got.d, Got.slot, storeS, frzS, ownAt, ofO, noOwn, wipeS, asgG, asgGs, itemsD, List.getElem?_cons_zero, List.getElem?_cons_succ, List.set_cons_zero, List.set_cons_succ, List.length_cons, List.length_nil, if_true, if_false, Bool.false_eq_true, Bool.not_false, Bool.not_true, List.all_cons, List.all_nil, Bool.and_true, List.map_cons, List.map_nil, Nat.reduceAdd, Nat.reduceLT, Nat.zero_add, Option.toList, ix2_0, ix2_1, cm_eq, cm_ne, cm_lt, cm_le, cm_gt, cm_ge, bd_add, bd_sub, bi_len_t, bi_len_l, bi_gcd, tr_bool, by2, sz1, sz2, sz3, sz4, sz5, E10 (k + 5) w]) (by simp) ?_
  show fin (Rx.run (callF fns 1 (k + 9)) 1 _ [.val (.int a), .val (.int b), .val (.int c), .val (.int d), .val (v4), .val (v5), .val (v6), .val (v7), .val (v8), .val (v9), .val (v10), .no, .no, .no, .no, .no, .no, .no] w) = _
  refine ifn_end (w1 := w) (by simp only [Rx.run, sem, Sm.ex, Sm.tst, Sm.none_, vNot, vBin, vNeg, vCmp, vCmp2, vIfe, vTup, vLst, vIx, vSlc, vIsi, vBi, vLset, vLrng, vTrng, vLc, Rx.iRng1, Rx.iRng2, slotV, slotP, isNil, isNm, Rz.bnd, Rz.map, Rz.x, Xr.seq, asB, boolR, intR, Got.d, Got.slot, storeS, frzS, ownAt, ofO, noOwn, wipeS, asgG, asgGs, itemsD, List.getElem?_cons_zero, List.getElem?_cons_succ, List.set_cons_zero, List.set_cons_succ, List.length_cons, List.length_nil, if_true, if_false, Bool.false_eq_true, Bool.not_false, Bool.not_true, List.all_cons, List.all_nil, Bool.and_true, List.map_cons, List.map_nil, Nat.reduceAdd, Nat.reduceLT, Nat.zero_add, Option.toList, ix2_0, ix2_1, cm_eq, cm_ne, cm_lt, cm_le, cm_gt, cm_ge, bd_add, bd_sub, bi_len_t, bi_len_l, bi_gcd, tr_bool, by2, sz1, sz2, sz3, sz4, sz5, s8 w, m5, m6, m7, m8, m9, m10]) ?_
  refine asg_end (g := .fresh [.bool false, .bool false, .bool true]) (w1 := w) (by simp only [Rx.run, sem, Sm.ex, Sm.tst, Sm.none_, vNot, vBin, vNeg, vCmp, vCmp2, vIfe, vTup, vLst, vIx, vSlc, vIsi, vBi, vLset, vLrng, vTrng, vLc, Rx.iRng1, Rx.iRng2, slotV, slotP, isNil, isNm, Rz.bnd, Rz.map, Rz.x, Xr.seq, asB, boolR, intR, Got.d, Got.slot, storeS, frzS, ownAt, ofO, noOwn, wipeS, asgG, asgGs, itemsD, List.getElem?_cons_zero, List.getElem?_cons_succ, List.set_cons_zero, List.set_cons_succ, List.length_cons, List.length_nil, if_true, if_false, Bool.false_eq_true, Bool.not_false, Bool.not_true, List.all_cons, List.all_nil, Bool.and_true, List.map_cons, List.map_nil, Nat.reduceAdd, Nat.reduceLT, Nat.zero_add, Option.toList, ix2_0, ix2_1, cm_eq, cm_ne, cm_lt, cm_le, cm_gt, cm_ge, bd_add, bd_sub, bi_len_t, bi_len_l, bi_gcd, tr_bool, by2, sz1, sz2, sz3, sz4, sz5, Eu3 (k + 5) w, l1 w, l2 w, l3 w]) (by simp) ?_
  show fin (Rx.run (callF fns 1 (k + 9)) 1 _ [.val (.int a), .val (.int b), .val (.int c), .val (.int d), .val (v4), .val (v5), .val (v6), .val (v7), .val (v8), .val (v9), .val (v10), .own [.bool false, .bool false, .bool true], .no, .no, .no, .no, .no, .no] w) = _
  refine frz_end ?_
  show fin (Rx.run (callF fns 1 (k + 9)) 1 _ [.val (.int a), .val (.int b), .val (.int c), .val (.int d), .val (v4), .val (v5), .val (v6), .val (v7), .val (v8), .val (v9), .val (v10), .val (.list [.bool false, .bool false, .bool true]), .no, .no, .no, .no, .no, .no] w) = _
  refine ifn_end (w1 := w) (by simp only [Rx.run, sem, Sm.ex, Sm.tst, Sm.none_, vNot, vBin, vNeg, vCmp, vCmp2, vIfe, vTup, vLst, vIx, vSlc, vIsi, vBi, vLset, vLrng, vTrng, vLc, Rx.iRng1, Rx.iRng2, slotV, slotP, isNil, isNm, Rz.bnd, Rz.map, Rz.x, Xr.seq, asB, boolR, intR, Got.d, Got.slot, storeS, frzS, ownAt, ofO, noOwn, wipeS, asgG, asgGs, itemsD, List.getElem?_cons_zero, List.getElem?_cons_succ, List.set_cons_zero, List.set_cons_succ, List.length_cons, List.length_nil, if_true, if_false, Bool.false_eq_true, Bool.not_false, Bool.not_true, List.all_cons, List.all_nil, Bool.and_true, List.map_cons, List.map_nil, Nat.reduceAdd, Nat.reduceLT, Nat.zero_add, Option.toList, ix2_0, ix2_1, cm_eq, cm_ne, cm_lt, cm_le, cm_gt, cm_ge, bd_add, bd_sub, bi_len_t, bi_len_l, bi_gcd, tr_bool, by2, sz1, sz2, sz3, sz4, sz5, e38_3 (k + 8) false false true w]) ?_
  refine ifn_end (w1 := w) (by simp only [Rx.run, sem, Sm.ex, Sm.tst, Sm.none_, vNot, vBin, vNeg, vCmp, vCmp2, vIfe, vTup, vLst, vIx, vSlc, vIsi, vBi, vLset, vLrng, vTrng, vLc, Rx.iRng1, Rx.iRng2, slotV, slotP, isNil, isNm, Rz.bnd, Rz.map, Rz.x, Xr.seq, asB, boolR, intR, Got.d, Got.slot, storeS, frzS, ownAt, ofO, noOwn, wipeS, asgG, asgGs, itemsD, List.getElem?_cons_zero, List.getElem?_cons_succ, List.set_cons_zero, List.set_cons_succ, List.length_cons, List.length_nil, if_true, if_false, Bool.false_eq_true, Bool.not_false, Bool.not_true, List.all_cons, List.all_nil, Bool.and_true, List.map_cons, List.map_nil, Nat.reduceAdd, Nat.reduceLT, Nat.zero_add, Option.toList, ix2_0, ix2_1, cm_eq, cm_ne, cm_lt, cm_le, cm_gt, cm_ge, bd_add, bd_sub, bi_len_t, bi_len_l, bi_gcd, tr_bool, by2, sz1, sz2, sz3, sz4, sz5, Eu4 (k + 5) w, Eu5 (k + 5) w, s9 w, s10 w, m11, m12]) ?_
  by_cases hc0 : c = 0
  · refine ifn_end (w1 := w) (by simp only [Rx.run, sem, Sm.ex, Sm.tst, Sm.none_, vNot, vBin, vNeg, vCmp, vCmp2, vIfe, vTup, vLst, vIx, vSlc, vIsi, vBi, vLset, vLrng, vTrng, vLc, Rx.iRng1, Rx.iRng2, slotV, slotP, isNil, isNm, Rz.bnd, Rz.map, Rz.x, Xr.seq, asB, boolR, intR, Got.d, Got.slot, storeS, frzS, ownAt, ofO, noOwn, wipeS, asgG, asgGs, itemsD, List.getElem?_cons_zero, List.getElem?_cons_succ, List.set_cons_zero, List.set_cons_succ, List.length_cons, List.length_nil, if_true, if_false, Bool.false_eq_true, Bool.not_false, Bool.not_true, List.all_cons, List.all_nil, Bool.and_true, List.map_cons, List.map_nil, Nat.reduceAdd, Nat.reduceLT, Nat.zero_add, Option.toList, ix2_0, ix2_1, cm_eq, cm_ne, cm_lt, cm_le, cm_gt, cm_ge, bd_add, bd_sub, bi_len_t, bi_len_l, bi_gcd, tr_bool, dc_t hc0]) ?_
    exact tail .no .no
  · obtain ⟨s12, s13, hb⟩ := blk hc0
    refine if_end (c := true) (w1 := w) (by simp only [Rx.run, sem, Sm.ex, Sm.tst, Sm.none_, vNot, vBin, vNeg, vCmp, vCmp2, vIfe, vTup, vLst, vIx, vSlc, vIsi, vBi, vLset, vLrng, vTrng, vLc, Rx.iRng1, Rx.iRng2, slotV, slotP, isNil, isNm, Rz.bnd, Rz.map, Rz.x, Xr.seq, asB, boolR, intR, Got.d, Got.slot, storeS, frzS, ownAt, ofO, noOwn, wipeS, asgG, asgGs, itemsD, List.getElem?_cons_zero, List.getElem?_cons_succ, List.set_cons_zero, List.set_cons_succ, List.length_cons, List.length_nil, if_true, if_false, Bool.false_eq_true, Bool.not_false, Bool.not_true, List.all_cons, List.all_nil, Bool.and_true, List.map_cons, List.map_nil, Nat.reduceAdd, Nat.reduceLT, Nat.zero_add, Option.toList, ix2_0, ix2_1, cm_eq, cm_ne, cm_lt, cm_le, cm_gt, cm_ge, bd_add, bd_sub, bi_len_t, bi_len_l, bi_gcd, tr_bool, dc_f hc0]) ?_
    exact seq_nx hb (tail s12 s13)
end K00
set_option Elab.async false
set_option linter.all false
set_option maxRecDepth 100000
set_option maxHeartbeats 4000000
namespace K00
open PySem PySem.Spec PyProof.Rows L2 Rx
/-! ### draws -/
theorem fm_rg {a m : Int} (h : 0 < m) : 0 ≤ a.fmod m ∧ a.fmod m < m := ⟨Int.fmod_nonneg_of_pos a h, Int.fmod_lt_of_pos a h⟩
theorem pick_rg {m : Int} {w : Wl} (hm : 0 < m) (h : wOk w) : 0 ≤ (pickF m w).1 ∧ (pickF m w).1 < m ∧ wOk (pickF m w).2 := by
  obtain ⟨g, sd⟩ := w
  obtain ⟨h1, h2, h3⟩ := h
  cases g with
  | nil =>
    have a1 := fm_rg (a := ((((sd * 48271 + 11).fmod 2147483647 * 16807 + 31).fmod 2147483587).fdiv 5)) hm
    have a2 := fm_rg (a := sd * 48271 + 11) (show (0 : Int) < 2147483647 by decide)
    refine ⟨a1.1, a1.2, a2.1, Int.lt_trans a2.2 (by decide), Nat.zero_le _⟩
  | cons c r =>
    have a1 := fm_rg (a := c) hm
    refine ⟨a1.1, a1.2, h1, h2, ?_⟩
    show (if c.fdiv m = 0 then r else c.fdiv m :: r).length ≤ 1000
    have h4 : r.length + 1 ≤ 1000 := h3
    split
    · omega
    · rw [List.length_cons]; exact h4
theorem e23 {m : Int} {w : Wl} (hm : 0 < m) (hm2 : m < 1000000000000000) (h : wOk w) : ∃ i w', (∀ k, callF fns 1 (k + 1) 23 [.dict [], .int m] w = .ok (.int i) w') ∧ 0 ≤ i ∧ i < m ∧ wOk w' := by
  obtain ⟨h1, h2, h3⟩ := pick_rg hm h
  refine ⟨_, _, fun k => ?_, h1, h2, h3⟩
  show (if (0 < m ∧ m < 1000000000000000) ∧ wOk w then Rz.ok (PyData.int (pickF m w).1) (pickF m w).2 else .stuck) = _
  rw [if_pos ⟨⟨hm, hm2⟩, h⟩]
theorem ix_mem {xs : List PyData} {i : Int} (h : 0 ≤ i ∧ i < xs.length) : ∃ d, ixD (.tuple xs) (.int i) = some d ∧ d ∈ xs := by
  obtain ⟨j, rfl⟩ := Int.eq_ofNat_of_zero_le h.1
  have hj : j < xs.length := by omega
  exact ⟨xs[j], atI_nat (List.getElem?_eq_getElem hj), List.getElem_mem hj⟩
/-! ### asking -/
theorem c35 (k : Nat) (x y z : PyData) (w : Wl) : callF fns 1 (k + 1) 35 [x, y, z] w = fin (Rx.run (callF fns 1 k) 1 b__law_ask [.val x, .val y, .val z, .no] w) := rfl
def told (s : Str) : PyData := .tuple [.bool false, .str s, .int (-1)]
theorem ask0 (k : Nat) {x y : PyData} {s : Str} (w : Wl) (h : RF 15 [x, y] s) : callF fns 1 (k + 5) 35 [.int 0, x, y] w = .ok (told s) w := by
  rw [c35]
  unfold b__law_ask
  simp only [Rx.run, sem, Sm.ex, Sm.tst, Sm.none_, vNot, vBin, vNeg, vCmp, vCmp2, vIfe, vTup, vLst, vIx, vSlc, vIsi, vBi, vLset, vLrng, vTrng, vLc, Rx.iRng1, Rx.iRng2, slotV, slotP, isNil, isNm, Rz.bnd, Rz.map, Rz.x, Xr.seq, asB, boolR, intR, Got.d, Got.slot, storeS, frzS, ownAt, ofO, noOwn, wipeS, asgG, asgGs, itemsD, List.getElem?_cons_zero, List.getElem?_cons_succ, List.set_cons_zero, List.set_cons_succ, List.length_cons, List.length_nil, if_true, if_false, Bool.false_eq_true, Bool.not_false, Bool.not_true, List.all_cons, List.all_nil, Bool.and_true, List.map_cons, List.map_nil, Nat.reduceAdd, Nat.reduceLT, Nat.zero_add, Option.toList, ix2_0, ix2_1, cm_eq, cm_ne, cm_lt, cm_le, cm_gt, cm_ge, bd_add, bd_sub, bi_len_t, bi_len_l, bi_gcd, tr_bool, Int.reduceEq, decide_true, decide_false, h k w, exW, sz2]
  rfl
theorem ask1 (k : Nat) {x y : PyData} {s : Str} (w : Wl) (h : RF 16 [x, y] s) : callF fns 1 (k + 5) 35 [.int 1, x, y] w = .ok (told s) w := by
  rw [c35]
  unfold b__law_ask
  simp only [Rx.run, sem, Sm.ex, Sm.tst, Sm.none_, vNot, vBin, vNeg, vCmp, vCmp2, vIfe, vTup, vLst, vIx, vSlc, vIsi, vBi, vLset, vLrng, vTrng, vLc, Rx.iRng1, Rx.iRng2, slotV, slotP, isNil, isNm, Rz.bnd, Rz.map, Rz.x, Xr.seq, asB, boolR, intR, Got.d, Got.slot, storeS, frzS, ownAt, ofO, noOwn, wipeS, asgG, asgGs, itemsD, List.getElem?_cons_zero, List.getElem?_cons_succ, List.set_cons_zero, List.set_cons_succ, List.length_cons, List.length_nil, if_true, if_false, Bool.false_eq_true, Bool.not_false, Bool.not_true, List.all_cons, List.all_nil, Bool.and_true, List.map_cons, List.map_nil, Nat.reduceAdd, Nat.reduceLT, Nat.zero_add, Option.toList, ix2_0, ix2_1, cm_eq, cm_ne, cm_lt, cm_le, cm_gt, cm_ge, bd_add, bd_sub, bi_len_t, bi_len_l, bi_gcd, tr_bool, Int.reduceEq, decide_true, decide_false, h k w, exW, sz2]
  rfl
theorem ask2 (k : Nat) {x y : PyData} {s : Str} (w : Wl) (h : RF 17 [x, y] s) : callF fns 1 (k + 5) 35 [.int 2, x, y] w = .ok (told s) w := by
  rw [c35]
  unfold b__law_ask
  simp only [Rx.run, sem, Sm.ex, Sm.tst, Sm.none_, vNot, vBin, vNeg, vCmp, vCmp2, vIfe, vTup, vLst, vIx, vSlc, vIsi, vBi, vLset, vLrng, vTrng, vLc, Rx.iRng1, Rx.iRng2, slotV, slotP, isNil, isNm, Rz.bnd, Rz.map, Rz.x, Xr.seq, asB, boolR, intR, Got.d, Got.slot, storeS, frzS, ownAt, ofO, noOwn, wipeS, asgG, asgGs, itemsD, List.getElem?_cons_zero, List.getElem?_cons_succ, List.set_cons_zero, List.set_cons_succ, List.length_cons, List.length_nil, if_true, if_false, Bool.false_eq_true, Bool.not_false, Bool.not_true, List.all_cons, List.all_nil, Bool.and_true, List.map_cons, List.map_nil, Nat.reduceAdd, Nat.reduceLT, Nat.zero_add, Option.toList, ix2_0, ix2_1, cm_eq, cm_ne, cm_lt, cm_le, cm_gt, cm_ge, bd_add, bd_sub, bi_len_t, bi_len_l, bi_gcd, tr_bool, Int.reduceEq, decide_true, decide_false, h k w, exW, sz2]
  rfl
theorem ask3 (k : Nat) {x y : PyData} {s : Str} (w : Wl) (h : RF 18 [x, y] s) : callF fns 1 (k + 5) 35 [.int 3, x, y] w = .ok (told s) w := by
  rw [c35]
  unfold b__law_ask
  simp only [Rx.run, sem, Sm.ex, Sm.tst, Sm.none_, vNot, vBin, vNeg, vCmp, vCmp2, vIfe, vTup, vLst, vIx, vSlc, vIsi, vBi, vLset, vLrng, vTrng, vLc, Rx.iRng1, Rx.iRng2, slotV, slotP, isNil, isNm, Rz.bnd, Rz.map, Rz.x, Xr.seq, asB, boolR, intR, Got.d, Got.slot, storeS, frzS, ownAt, ofO, noOwn, wipeS, asgG, asgGs, itemsD, List.getElem?_cons_zero, List.getElem?_cons_succ, List.set_cons_zero, List.set_cons_succ, List.length_cons, List.length_nil, if_true, if_false, Bool.false_eq_true, Bool.not_false, Bool.not_true, List.all_cons, List.all_nil, Bool.and_true, List.map_cons, List.map_nil, Nat.reduceAdd, Nat.reduceLT, Nat.zero_add, Option.toList, ix2_0, ix2_1, cm_eq, cm_ne, cm_lt, cm_le, cm_gt, cm_ge, bd_add, bd_sub, bi_len_t, bi_len_l, bi_gcd, tr_bool, Int.reduceEq, decide_true, decide_false, h k w, exW, sz2]
  rfl
theorem ask4 (k : Nat) {x y : PyData} {s : Str} (w : Wl) (h : RF 19 [x, y] s) : callF fns 1 (k + 5) 35 [.int 4, x, y] w = .ok (told s) w := by
  rw [c35]
  unfold b__law_ask
  simp only [Rx.run, sem, Sm.ex, Sm.tst, Sm.none_, vNot, vBin, vNeg, vCmp, vCmp2, vIfe, vTup, vLst, vIx, vSlc, vIsi, vBi, vLset, vLrng, vTrng, vLc, Rx.iRng1, Rx.iRng2, slotV, slotP, isNil, isNm, Rz.bnd, Rz.map, Rz.x, Xr.seq, asB, boolR, intR, Got.d, Got.slot, storeS, frzS, ownAt, ofO, noOwn, wipeS, asgG, asgGs, itemsD, List.getElem?_cons_zero, List.getElem?_cons_succ, List.set_cons_zero, List.set_cons_succ, List.length_cons, List.length_nil, if_true, if_false, Bool.false_eq_true, Bool.not_false, Bool.not_true, List.all_cons, List.all_nil, Bool.and_true, List.map_cons, List.map_nil, Nat.reduceAdd, Nat.reduceLT, Nat.zero_add, Option.toList, ix2_0, ix2_1, cm_eq, cm_ne, cm_lt, cm_le, cm_gt, cm_ge, bd_add, bd_sub, bi_len_t, bi_len_l, bi_gcd, tr_bool, Int.reduceEq, decide_true, decide_false, h k w, exW, sz2]
  rfl
theorem ask5 (k : Nat) {x y : PyData} {s : Str} (w : Wl) (h : RF 20 [x] s) : callF fns 1 (k + 5) 35 [.int 5, x, y] w = .ok (told s) w := by
  rw [c35]
  unfold b__law_ask
  simp only [Rx.run, sem, Sm.ex, Sm.tst, Sm.none_, vNot, vBin, vNeg, vCmp, vCmp2, vIfe, vTup, vLst, vIx, vSlc, vIsi, vBi, vLset, vLrng, vTrng, vLc, Rx.iRng1, Rx.iRng2, slotV, slotP, isNil, isNm, Rz.bnd, Rz.map, Rz.x, Xr.seq, asB, boolR, intR, Got.d, Got.slot, storeS, frzS, ownAt, ofO, noOwn, wipeS, asgG, asgGs, itemsD, List.getElem?_cons_zero, List.getElem?_cons_succ, List.set_cons_zero, List.set_cons_succ, List.length_cons, List.length_nil, if_true, if_false, Bool.false_eq_true, Bool.not_false, Bool.not_true, List.all_cons, List.all_nil, Bool.and_true, List.map_cons, List.map_nil, Nat.reduceAdd, Nat.reduceLT, Nat.zero_add, Option.toList, ix2_0, ix2_1, cm_eq, cm_ne, cm_lt, cm_le, cm_gt, cm_ge, bd_add, bd_sub, bi_len_t, bi_len_l, bi_gcd, tr_bool, Int.reduceEq, decide_true, decide_false, h k w, exW, sz2]
  rfl
theorem ask6 (k : Nat) {x y : PyData} {s : Str} (w : Wl) (h : RF 14 [x, y] s) : callF fns 1 (k + 5) 35 [.int 6, x, y] w = .ok (told s) w := by
  rw [c35]
  unfold b__law_ask
  simp only [Rx.run, sem, Sm.ex, Sm.tst, Sm.none_, vNot, vBin, vNeg, vCmp, vCmp2, vIfe, vTup, vLst, vIx, vSlc, vIsi, vBi, vLset, vLrng, vTrng, vLc, Rx.iRng1, Rx.iRng2, slotV, slotP, isNil, isNm, Rz.bnd, Rz.map, Rz.x, Xr.seq, asB, boolR, intR, Got.d, Got.slot, storeS, frzS, ownAt, ofO, noOwn, wipeS, asgG, asgGs, itemsD, List.getElem?_cons_zero, List.getElem?_cons_succ, List.set_cons_zero, List.set_cons_succ, List.length_cons, List.length_nil, if_true, if_false, Bool.false_eq_true, Bool.not_false, Bool.not_true, List.all_cons, List.all_nil, Bool.and_true, List.map_cons, List.map_nil, Nat.reduceAdd, Nat.reduceLT, Nat.zero_add, Option.toList, ix2_0, ix2_1, cm_eq, cm_ne, cm_lt, cm_le, cm_gt, cm_ge, bd_add, bd_sub, bi_len_t, bi_len_l, bi_gcd, tr_bool, Int.reduceEq, decide_true, decide_false, h k w, exW, sz2]
  rfl
theorem c36 (k : Nat) (x y : PyData) (w : Wl) : callF fns 1 (k + 1) 36 [x, y] w = fin (Rx.run (callF fns 1 k) 1 b__law_refused [.val x, .val y] w) := rfl
theorem cm_ss (a b : Str) : cmpD .ne (.str a) (.str b) = some (!decide (a = b)) := rfl
theorem ix3_0 (x y z : PyData) : ixD (.tuple [x, y, z]) (.int 0) = some x := rfl
theorem ix3_1 (x y z : PyData) : ixD (.tuple [x, y, z]) (.int 1) = some y := rfl
theorem ix3_2 (x y z : PyData) : ixD (.tuple [x, y, z]) (.int 2) = some z := rfl
theorem e36 (k : Nat) (s : Str) (w : Wl) : callF fns 1 (k + 2) 36 [told s, .str s] w = .ok (.bool true) w := by
  rw [c36]
  unfold b__law_refused told
  simp only [Rx.run, sem, Sm.ex, Sm.tst, Sm.none_, vNot, vBin, vNeg, vCmp, vCmp2, vIfe, vTup, vLst, vIx, vSlc, vIsi, vBi, vLset, vLrng, vTrng, vLc, Rx.iRng1, Rx.iRng2, slotV, slotP, isNil, isNm, Rz.bnd, Rz.map, Rz.x, Xr.seq, asB, boolR, intR, Got.d, Got.slot, storeS, frzS, ownAt, ofO, noOwn, wipeS, asgG, asgGs, itemsD, List.getElem?_cons_zero, List.getElem?_cons_succ, List.set_cons_zero, List.set_cons_succ, List.length_cons, List.length_nil, if_true, if_false, Bool.false_eq_true, Bool.not_false, Bool.not_true, List.all_cons, List.all_nil, Bool.and_true, List.map_cons, List.map_nil, Nat.reduceAdd, Nat.reduceLT, Nat.zero_add, Option.toList, ix2_0, ix2_1, cm_eq, cm_ne, cm_lt, cm_le, cm_gt, cm_ge, bd_add, bd_sub, bi_len_t, bi_len_l, bi_gcd, tr_bool, ix3_0, ix3_1, ix3_2, isiD, cm_ss, decide_true, e24 k (.int (-1)) w rfl, isI]
  rfl
/-! ### refusals -/
def badL : List PyData := [.bool true, .none, .int 5, .str (PySem.Str.ofString "1/2"), .list [.int 1, .int 2], .tuple [.int 1], .tuple [.int 1, .int 2, .int 3], .tuple [.int 2, .int 4], .tuple [.int 0, .int 2], .tuple [.int 3, .int 0], .tuple [.int 1, .int (-2)], .tuple [.bool true, .int 2], .tuple [.int 1, .bool true],
  .tuple [.int (-2), .int (-4)], .tuple [.tuple [.int 1, .int 2], .int 1], .tuple [.int 1, .none]]
def numL : List PyData := [.bool true, .none, .str (PySem.Str.ofString "3"), .tuple [.int 3], .list [.int 3], .bool false]
theorem bad_d : ∀ d ∈ badL, isQ d = false ∧ tm 2 d = true := by decide +kernel
theorem num_d : ∀ d ∈ numL, isI d = false ∧ noD d = true := by decide +kernel
theorem c37 (k : Nat) (x y z : PyData) (w : Wl) : callF fns 1 (k + 1) 37 [x, y, z] w = fin (Rx.run (callF fns 1 k) 1 b__law_refusals [.val x, .val y, .val z, .no, .no, .no, .no, .no] w) := rfl
def refB : T := (.cons (.ifs (.not (.call 36 (.cons (.call 35 (.cons (.nm 7) (.cons (.nm 4) (.cons (.nm 2) .nil)))) (.cons (.kS "one") .nil)))) (.cons (.ret (.kB false)) .nil) .nil) (.cons (.ifs (.not (.call 36 (.cons (.call 35 (.cons (.nm 7) (.cons (.nm 1) (.cons (.nm 5) .nil)))) (.cons (.kS "another") .nil)))) (.cons (.ret (.kB false)) .nil) .nil) (.cons (.ifs (.not (.call 36 (.cons (.call 35 (.cons (.nm 7) (.cons (.nm 4) (.cons (.nm 5) .nil)))) (.cons (.kS "one") .nil)))) (.cons (.ret (.kB false)) .nil) .nil) .nil)))
theorem ref_row (k : Nat) (j : Int) (x y z b u v n : PyData) (w : Wl) (s : Slt) (h1 : callF fns 1 (k + 5) 35 [.int j, u, z] w = .ok (told "one") w) (h2 : callF fns 1 (k + 5) 35 [.int j, y, v] w = .ok (told "another") w) (h3 : callF fns 1 (k + 5) 35 [.int j, u, v] w = .ok (told "one") w) :
    forB (callF fns 1 (k + 5)) (.nm 7) refB (.int j) [.val x, .val y, .val z, .val b, .val u, .val v, .val n, s] w = .ok .nx [.val x, .val y, .val z, .val b, .val u, .val v, .val n, .val (.int j)] w := by
  unfold forB refB
  simp only [Rx.run, sem, Sm.ex, Sm.tst, Sm.none_, vNot, vBin, vNeg, vCmp, vCmp2, vIfe, vTup, vLst, vIx, vSlc, vIsi, vBi, vLset, vLrng, vTrng, vLc, Rx.iRng1, Rx.iRng2, slotV, slotP, isNil, isNm, Rz.bnd, Rz.map, Rz.x, Xr.seq, asB, boolR, intR, Got.d, Got.slot, storeS, frzS, ownAt, ofO, noOwn, wipeS, asgG, asgGs, itemsD, List.getElem?_cons_zero, List.getElem?_cons_succ, List.set_cons_zero, List.set_cons_succ, List.length_cons, List.length_nil, if_true, if_false, Bool.false_eq_true, Bool.not_false, Bool.not_true, List.all_cons, List.all_nil, Bool.and_true, List.map_cons, List.map_nil, Nat.reduceAdd, Nat.reduceLT, Nat.zero_add, Option.toList, ix2_0, ix2_1, cm_eq, cm_ne, cm_lt, cm_le, cm_gt, cm_ge, bd_add, bd_sub, bi_len_t, bi_len_l, bi_gcd, tr_bool, h1, h2, h3, e36 (k + 3) "one" w, e36 (k + 3) "another" w]
theorem ref_loop (k : Nat) {x y z b u v n : PyData} (w : Wl) (hy : isQ y = true) (Qy : QE y) (Qz : QE z) (hu : isQ u = false) (Qu : QE u) (hv : isQ v = false) (Qv : QE v) (d : PyData) (hd : d ∈ (List.range 5).map fun (i : Nat) => PyData.int (0 + (i : Int))) (s : Slt) :
    forB (callF fns 1 (k + 5)) (.nm 7) refB d [.val x, .val y, .val z, .val b, .val u, .val v, .val n, s] w = .ok .nx [.val x, .val y, .val z, .val b, .val u, .val v, .val n, .val d] w := by
  have A := rf_one Qu Qz hu
  have C := rf_one Qu Qv hu
  have D := rf_another Qy Qv hy hv
  obtain ⟨i, hi, rfl⟩ := List.mem_map.mp hd
  rw [List.mem_range] at hi
  rw [Int.zero_add]
  match i, hi with
  | 0, _ => exact ref_row k 0 x y z b u v n w s (ask0 k w A.1) (ask0 k w D.1) (ask0 k w C.1)
  | 1, _ => exact ref_row k 1 x y z b u v n w s (ask1 k w A.2.1) (ask1 k w D.2.1) (ask1 k w C.2.1)
  | 2, _ => exact ref_row k 2 x y z b u v n w s (ask2 k w A.2.2.1) (ask2 k w D.2.2.1) (ask2 k w C.2.2.1)
  | 3, _ => exact ref_row k 3 x y z b u v n w s (ask3 k w (rf_over1 Qu hu)) (ask3 k w (rf_over2 Qy Qv hy (by rw [hv]; rfl))) (ask3 k w (rf_over1 Qu hu))
  | 4, _ => exact ref_row k 4 x y z b u v n w s (ask4 k w A.2.2.2) (ask4 k w D.2.2.2) (ask4 k w C.2.2.2)
theorem e37 (k : Nat) {y z : PyData} (w : Wl) (hw : wOk w) (hy : isQ y = true) (Qy : QE y) (Qz : QE z) : ∃ w', wOk w' ∧ callF fns 1 (k + 6) 37 [.dict [], y, z] w = .ok (.bool true) w' := by
  obtain ⟨i1, w1, p1, r1, r2, k1⟩ := e23 (m := 16) (by decide) (by decide) hw
  obtain ⟨i2, w2, p2, r3, r4, k2⟩ := e23 (m := 16) (by decide) (by decide) k1
  obtain ⟨i3, w3, p3, r5, r6, k3⟩ := e23 (m := 6) (by decide) (by decide) k2
  obtain ⟨u, x1, mu⟩ := ix_mem (xs := badL) (i := i1) ⟨r1, r2⟩
  obtain ⟨v, x2, mv⟩ := ix_mem (xs := badL) (i := i2) ⟨r3, r4⟩
  obtain ⟨n, x3, mn⟩ := ix_mem (xs := numL) (i := i3) ⟨r5, r6⟩
  obtain ⟨hu, tu⟩ := bad_d u mu
  obtain ⟨hv, tv⟩ := bad_d v mv
  obtain ⟨hn, tn⟩ := num_d n mn
  refine ⟨w3, k3, ?_⟩
  rw [c37]
  unfold b__law_refusals
  refine asg_end (g := .val (.tuple badL)) (w1 := w) rfl (by simp) ?_
  show fin (Rx.run (callF fns 1 (k + 5)) 1 _ [.val (.dict []), .val y, .val z, .val (.tuple badL), .no, .no, .no, .no] w) = _
  refine asg_end (g := .val u) (w1 := w1) (by simp only [Rx.run, sem, Sm.ex, Sm.tst, Sm.none_, vNot, vBin, vNeg, vCmp, vCmp2, vIfe, vTup, vLst, vIx, vSlc, vIsi, vBi, vLset, vLrng, vTrng, vLc, Rx.iRng1, Rx.iRng2, slotV, slotP, isNil, isNm, Rz.bnd, Rz.map, Rz.x, Xr.seq, asB, boolR, intR, Got.d, Got.slot, storeS, frzS, ownAt, ofO, noOwn, wipeS, asgG, asgGs, itemsD, List.getElem?_cons_zero, List.getElem?_cons_succ, List.set_cons_zero, List.set_cons_succ, List.length_cons, List.length_nil, if_true, if_false, Bool.false_eq_true, Bool.not_false, Bool.not_true, List.all_cons, List.all_nil, Bool.and_true, List.map_cons, List.map_nil, Nat.reduceAdd, Nat.reduceLT, Nat.zero_add, Option.toList, ix2_0, ix2_1, cm_eq, cm_ne, cm_lt, cm_le, cm_gt, cm_ge, bd_add, bd_sub, bi_len_t, bi_len_l, bi_gcd, tr_bool, p1, x1]) (by simp) ?_
  show fin (Rx.run (callF fns 1 (k + 5)) 1 _ [.val (.dict []), .val y, .val z, .val (.tuple badL), .val u, .no, .no, .no] w1) = _
  refine asg_end (g := .val v) (w1 := w2) (by simp only [Rx.run, sem, Sm.ex, Sm.tst, Sm.none_, vNot, vBin, vNeg, vCmp, vCmp2, vIfe, vTup, vLst, vIx, vSlc, vIsi, vBi, vLset, vLrng, vTrng, vLc, Rx.iRng1, Rx.iRng2, slotV, slotP, isNil, isNm, Rz.bnd, Rz.map, Rz.x, Xr.seq, asB, boolR, intR, Got.d, Got.slot, storeS, frzS, ownAt, ofO, noOwn, wipeS, asgG, asgGs, itemsD, List.getElem?_cons_zero, List.getElem?_cons_succ, List.set_cons_zero, List.set_cons_succ, List.length_cons, List.length_nil, if_true, if_false, Bool.false_eq_true, Bool.not_false, Bool.not_true, List.all_cons, List.all_nil, Bool.and_true, List.map_cons, List.map_nil, Nat.reduceAdd, Nat.reduceLT, Nat.zero_add, Option.toList, ix2_0, ix2_1, cm_eq, cm_ne, cm_lt, cm_le, cm_gt, cm_ge, bd_add, bd_sub, bi_len_t, bi_len_l, bi_gcd, tr_bool, p2, x2]) (by simp) ?_
  show fin (Rx.run (callF fns 1 (k + 5)) 1 _ [.val (.dict []), .val y, .val z, .val (.tuple badL), .val u, .val v, .no, .no] w2) = _
  refine asg_end (g := .val n) (w1 := w3) (by simp only [Rx.run, sem, Sm.ex, Sm.tst, Sm.none_, vNot, vBin, vNeg, vCmp, vCmp2, vIfe, vTup, vLst, vIx, vSlc, vIsi, vBi, vLset, vLrng, vTrng, vLc, Rx.iRng1, Rx.iRng2, slotV, slotP, isNil, isNm, Rz.bnd, Rz.map, Rz.x, Xr.seq, asB, boolR, intR, Got.d, Got.slot, storeS, frzS, ownAt, ofO, noOwn, wipeS, asgG, asgGs, itemsD, List.getElem?_cons_zero, List.getElem?_cons_succ, List.set_cons_zero, List.set_cons_succ, List.length_cons, List.length_nil, if_true, if_false, Bool.false_eq_true, Bool.not_false, Bool.not_true, List.all_cons, List.all_nil, Bool.and_true, List.map_cons, List.map_nil, Nat.reduceAdd, Nat.reduceLT, Nat.zero_add, Option.toList, ix2_0, ix2_1, cm_eq, cm_ne, cm_lt, cm_le, cm_gt, cm_ge, bd_add, bd_sub, bi_len_t, bi_len_l, bi_gcd, tr_bool, sz1, sz6, p3, show ixD (.tuple [.bool true, .none, .str (PySem.Str.ofString "3"), .tuple [.int 3], .list [.int 3], .bool false]) (.int i3) = some n from x3]) (by simp) ?_
  show fin (Rx.run (callF fns 1 (k + 5)) 1 _ [.val (.dict []), .val y, .val z, .val (.tuple badL), .val u, .val v, .val n, .no] w3) = _
  refine for_end (items := (List.range 5).map fun (i : Nat) => PyData.int (0 + (i : Int))) (w1 := w3) ?_ ?_
  · show ofO (rngD 0 5) w3 = _
    rw [rng_ok (by decide)]
    rfl
  obtain ⟨s', e⟩ := all_nx (f := fun s => [.val (.dict []), .val y, .val z, .val (.tuple badL), .val u, .val v, .val n, s]) .no w3 fun d hd s => ref_loop k (x := .dict []) (b := .tuple badL) (n := n) w3 hy Qy Qz hu (.tm tu) hv (.tm tv) d hd s
  refine seq_nx e ?_
  have a5 := ask5 k (y := .int 0) w3 (rf_up (.tm tu) hu)
  have a3 := ask3 k w3 (rf_over2 (y := .tuple [.int 0, .int 1]) Qy (.ints 0 1) hy (by decide +kernel))
  have a6 := ask6 k w3 (rf_top (y := .int 0) tn hn)
  have b6 := ask6 k w3 (rf_bot (i := 5) tn (.inr hn))
  have d6 := ask6 k w3 (rf_bot (i := 7) (y := .int 0) rfl (.inl rfl))
  refine ifn_end (w1 := w3) (by simp only [Rx.run, sem, Sm.ex, Sm.tst, Sm.none_, vNot, vBin, vNeg, vCmp, vCmp2, vIfe, vTup, vLst, vIx, vSlc, vIsi, vBi, vLset, vLrng, vTrng, vLc, Rx.iRng1, Rx.iRng2, slotV, slotP, isNil, isNm, Rz.bnd, Rz.map, Rz.x, Xr.seq, asB, boolR, intR, Got.d, Got.slot, storeS, frzS, ownAt, ofO, noOwn, wipeS, asgG, asgGs, itemsD, List.getElem?_cons_zero, List.getElem?_cons_succ, List.set_cons_zero, List.set_cons_succ, List.length_cons, List.length_nil, if_true, if_false, Bool.false_eq_true, Bool.not_false, Bool.not_true, List.all_cons, List.all_nil, Bool.and_true, List.map_cons, List.map_nil, Nat.reduceAdd, Nat.reduceLT, Nat.zero_add, Option.toList, ix2_0, ix2_1, cm_eq, cm_ne, cm_lt, cm_le, cm_gt, cm_ge, bd_add, bd_sub, bi_len_t, bi_len_l, bi_gcd, tr_bool, sz2, a5, a3, e36]) ?_
  refine ifn_end (w1 := w3) (by simp only [Rx.run, sem, Sm.ex, Sm.tst, Sm.none_, vNot, vBin, vNeg, vCmp, vCmp2, vIfe, vTup, vLst, vIx, vSlc, vIsi, vBi, vLset, vLrng, vTrng, vLc, Rx.iRng1, Rx.iRng2, slotV, slotP, isNil, isNm, Rz.bnd, Rz.map, Rz.x, Xr.seq, asB, boolR, intR, Got.d, Got.slot, storeS, frzS, ownAt, ofO, noOwn, wipeS, asgG, asgGs, itemsD, List.getElem?_cons_zero, List.getElem?_cons_succ, List.set_cons_zero, List.set_cons_succ, List.length_cons, List.length_nil, if_true, if_false, Bool.false_eq_true, Bool.not_false, Bool.not_true, List.all_cons, List.all_nil, Bool.and_true, List.map_cons, List.map_nil, Nat.reduceAdd, Nat.reduceLT, Nat.zero_add, Option.toList, ix2_0, ix2_1, cm_eq, cm_ne, cm_lt, cm_le, cm_gt, cm_ge, bd_add, bd_sub, bi_len_t, bi_len_l, bi_gcd, tr_bool, a6, b6, e36]) ?_
  exact ret_end (g := .val (.bool true)) (by simp only [Rx.run, sem, Sm.ex, Sm.tst, Sm.none_, vNot, vBin, vNeg, vCmp, vCmp2, vIfe, vTup, vLst, vIx, vSlc, vIsi, vBi, vLset, vLrng, vTrng, vLc, Rx.iRng1, Rx.iRng2, slotV, slotP, isNil, isNm, Rz.bnd, Rz.map, Rz.x, Xr.seq, asB, boolR, intR, Got.d, Got.slot, storeS, frzS, ownAt, ofO, noOwn, wipeS, asgG, asgGs, itemsD, List.getElem?_cons_zero, List.getElem?_cons_succ, List.set_cons_zero, List.set_cons_succ, List.length_cons, List.length_nil, if_true, if_false, Bool.false_eq_true, Bool.not_false, Bool.not_true, List.all_cons, List.all_nil, Bool.and_true, List.map_cons, List.map_nil, Nat.reduceAdd, Nat.reduceLT, Nat.zero_add, Option.toList, ix2_0, ix2_1, cm_eq, cm_ne, cm_lt, cm_le, cm_gt, cm_ge, bd_add, bd_sub, bi_len_t, bi_len_l, bi_gcd, tr_bool, d6, e36])
end K00
set_option Elab.async false
set_option linter.all false
set_option maxRecDepth 100000
set_option maxHeartbeats 4000000
namespace K00
open PySem PySem.Spec PyProof.Rows L2 Rx
/-! ### drawn things are tame -/
def oddL : List PyData := [.bool true, .bool false, .none, .int (-1), .str (PySem.Str.ofString "0"), .tuple [], .list [], .tuple [.int 0], .list [.int 0], .tuple [.int 1, .int 2], .tuple [.int 2, .int 4], .tuple [.int 0, .int 1], .tuple [.int 1, .bool true], .tuple [.bool true, .int 2], .list [.int 1, .int 2],
  .tuple [.int 3, .int 0], .tuple [.int 1, .int (-2)], .tuple [.int 0, .int 2], .int (10 ^ 30), .tuple [.int (10 ^ 30), .int 3], .tuple [.tuple [.int 1, .int 2], .int 1], .str (PySem.Str.ofString ""), .int 1, .int 0, .tuple [.int 1], .tuple [.int 1, .int 2, .int 3], .tuple [.int (-3), .int 2], .tuple [.bool false, .int 1]]
theorem odd_d : ∀ d ∈ oddL, tm 2 d = true := by decide +kernel
theorem c31 (k : Nat) (x : PyData) (w : Wl) : callF fns 1 (k + 1) 31 [x] w = fin (Rx.run (callF fns 1 k) 1 b__law_odd [.val x, .no] w) := rfl
theorem e31 {w : Wl} (h : wOk w) : ∃ d w', (∀ k, callF fns 1 (k + 2) 31 [.dict []] w = .ok d w') ∧ tm 2 d = true ∧ wOk w' := by
  obtain ⟨i, w1, p1, r1, r2, k1⟩ := e23 (m := 28) (by decide) (by decide) h
  obtain ⟨u, x1, mu⟩ := ix_mem (xs := oddL) (i := i) ⟨r1, r2⟩
  refine ⟨u, w1, fun k => ?_, odd_d u mu, k1⟩
  rw [c31]
  unfold b__law_odd
  refine asg_end (g := .val (.tuple oddL)) (w1 := w) rfl (by simp) ?_
  show fin (Rx.run (callF fns 1 (k + 1)) 1 _ [.val (.dict []), .val (.tuple oddL)] w) = _
  exact ret_end (g := .val u) (by simp only [Rx.run, sem, Sm.ex, Sm.tst, Sm.none_, vNot, vBin, vNeg, vCmp, vCmp2, vIfe, vTup, vLst, vIx, vSlc, vIsi, vBi, vLset, vLrng, vTrng, vLc, Rx.iRng1, Rx.iRng2, slotV, slotP, isNil, isNm, Rz.bnd, Rz.map, Rz.x, Xr.seq, asB, boolR, intR, Got.d, Got.slot, storeS, frzS, ownAt, ofO, noOwn, wipeS, asgG, asgGs, itemsD, List.getElem?_cons_zero, List.getElem?_cons_succ, List.set_cons_zero, List.set_cons_succ, List.length_cons, List.length_nil, if_true, if_false, Bool.false_eq_true, Bool.not_false, Bool.not_true, List.all_cons, List.all_nil, Bool.and_true, List.map_cons, List.map_nil, Nat.reduceAdd, Nat.reduceLT, Nat.zero_add, Option.toList, ix2_0, ix2_1, cm_eq, cm_ne, cm_lt, cm_le, cm_gt, cm_ge, bd_add, bd_sub, bi_len_t, bi_len_l, bi_gcd, tr_bool, p1, x1])
theorem inv_loop {body : PyData → List Slt → Wl → Xr} {I : Nat → List Slt → Wl → Prop} : ∀ {xs : List PyData} (n : Nat) (sl : List Slt) (w : Wl), (∀ j d sl w, xs[j]? = some d → I (n + j) sl w → ∃ sl' w', body d sl w = .ok .nx sl' w' ∧ I (n + j + 1) sl' w') → I n sl w → ∃ sl' w', loopF body xs sl w = .ok .nx sl' w' ∧ I (n + xs.length) sl' w'
  | [], n, sl, w, _, h0 => ⟨sl, w, rfl, h0⟩
  | d :: r, n, sl, w, h, h0 => by
    obtain ⟨sl1, w1, e1, h1⟩ := h 0 d sl w rfl h0
    obtain ⟨sl2, w2, e2, h2⟩ := inv_loop (xs := r) (n + 1) sl1 w1 (fun j d sl w hj hI => by
      rw [show n + 1 + j = n + (j + 1) by omega] at hI ⊢
      exact h (j + 1) d sl w hj hI) h1
    refine ⟨sl2, w2, by rw [loopF_nx e1, e2], ?_⟩
    rw [List.length_cons, show n + (r.length + 1) = n + 1 + r.length by omega]
    exact h2
theorem rg_at {n j : Nat} {d : PyData} (h : ((List.range n).map fun (i : Nat) => PyData.int (0 + (i : Int)))[j]? = some d) : d = .int (j : Int) ∧ j < n := by
  rw [List.getElem?_map] at h
  by_cases hj : j < n
  · rw [List.getElem?_range hj] at h
    cases h
    refine ⟨?_, hj⟩
    show PyData.int (0 + (j : Int)) = _
    rw [Int.zero_add]
  · rw [List.getElem?_eq_none (by rw [List.length_range]; omega)] at h
    cases h
def Row (n m : Nat) (ds : List PyData) : Prop := ds.length ≤ n ∧ ∀ d ∈ ds, tm m d = true
theorem Row.nil {n m : Nat} : Row n m [] := ⟨Nat.zero_le _, fun d h => by cases h⟩
theorem Row.app {n m : Nat} {ds : List PyData} {d : PyData} (h : Row n m ds) (hd : tm m d = true) : Row (n + 1) m (ds ++ [d]) := by
  refine ⟨by rw [List.length_append]; have := h.1; simp; omega, fun x hx => ?_⟩
  rcases List.mem_append.mp hx with hx | hx
  · exact h.2 x hx
  · rw [List.mem_singleton.mp hx]; exact hd
theorem Row.up {n n' m : Nat} {ds : List PyData} (h : Row n m ds) (hn : n ≤ n') : Row n' m ds := ⟨Nat.le_trans h.1 hn, h.2⟩
theorem Row.tm {n m : Nat} {ds : List PyData} (h : Row n m ds) (hn : n ≤ 100) : tm (m + 1) (.tuple ds) = true ∧ tm (m + 1) (.list ds) = true := by
  have h1 := h.1
  constructor
  · show (decide (ds.length ≤ 100) && ds.all (K00.tm m)) = true
    rw [dc_t (by omega), Bool.true_and, List.all_eq_true]
    exact h.2
  · show (decide (ds.length ≤ 100) && ds.all (K00.tm m)) = true
    rw [dc_t (by omega), Bool.true_and, List.all_eq_true]
    exact h.2
theorem szl {n : Nat} (h : n ≤ 100) : n < sizeLine := Nat.lt_of_le_of_lt h (by decide)
theorem tm_int {i : Int} {m : Nat} (h : i.natAbs < 2 ^ 150) : tm m (.int i) = true := by cases m <;> exact decide_eq_true h
theorem c32 (k : Nat) (x y : PyData) (w : Wl) : callF fns 1 (k + 1) 32 [x, y] w = fin (Rx.run (callF fns 1 k) 1 b__law_columns [.val x, .val y, .no, .no, .no] w) := rfl
def colB : T := (.cons (.asg 4 (.call 23 (.cons (.nm 0) (.cons (.kI 9) .nil)))) (.cons (.ifs (.bor (.cons (.band (.cons (.cmp .lt (.nm 4) (.kI 4)) (.cons (.cmp .lt (.nm 3) (.nm 1)) .nil))) (.cons (.cmp .eq (.nm 4) (.kI 0)) .nil))) (.cons (.app 2 (.nm 3)) .nil) .nil) .nil))
def colI (n : Nat) (sl : List Slt) (w : Wl) (size : Int) : Prop := wOk w ∧ ∃ ds s3 s4, sl = [.val (.dict []), .val (.int size), .own ds, s3, s4] ∧ Row n 0 ds
theorem col_step (k j : Nat) (size : Int) (sl : List Slt) (w : Wl) (hj : j ≤ 10) (h : colI j sl w size) : ∃ sl' w', forB (callF fns 1 (k + 1)) (.nm 3) colB (.int (j : Int)) sl w = .ok .nx sl' w' ∧ colI (j + 1) sl' w' size := by
  obtain ⟨hw, ds, s3, s4, rfl, hr⟩ := h
  obtain ⟨i, w1, p1, r1, r2, k1⟩ := e23 (m := 9) (by decide) (by decide) hw
  have hl : ds.length < sizeLine := szl (by have := hr.1; omega)
  have t0 : tm 0 (.int (j : Int)) = true := tm_int (Nat.lt_of_le_of_lt (show (j : Int).natAbs ≤ 10 by omega) (by decide))
  have go : ∀ q : Bool, (decide (i < 4) && decide ((j : Int) < size) || decide (i = 0)) = q → ∃ sl' w', forB (callF fns 1 (k + 1)) (.nm 3) colB (.int (j : Int)) [.val (.dict []), .val (.int size), .own ds, s3, s4] w = .ok .nx sl' w' ∧ colI (j + 1) sl' w' size := by
    intro q hq
    unfold forB colB
    cases q with
    | true =>
      refine ⟨[.val (.dict []), .val (.int size), .own (ds ++ [.int (j : Int)]), .val (.int j), .val (.int i)], w1, ?_, k1, _, _, _, rfl, hr.app t0⟩
      simp only [Rx.run, sem, Sm.ex, Sm.tst, Sm.none_, vNot, vBin, vNeg, vCmp, vCmp2, vIfe, vTup, vLst, vIx, vSlc, vIsi, vBi, vLset, vLrng, vTrng, vLc, Rx.iRng1, Rx.iRng2, slotV, slotP, isNil, isNm, Rz.bnd, Rz.map, Rz.x, Xr.seq, asB, boolR, intR, Got.d, Got.slot, storeS, frzS, ownAt, ofO, noOwn, wipeS, asgG, asgGs, itemsD, List.getElem?_cons_zero, List.getElem?_cons_succ, List.set_cons_zero, List.set_cons_succ, List.length_cons, List.length_nil, if_true, if_false, Bool.false_eq_true, Bool.not_false, Bool.not_true, List.all_cons, List.all_nil, Bool.and_true, List.map_cons, List.map_nil, Nat.reduceAdd, Nat.reduceLT, Nat.zero_add, Option.toList, ix2_0, ix2_1, cm_eq, cm_ne, cm_lt, cm_le, cm_gt, cm_ge, bd_add, bd_sub, bi_len_t, bi_len_l, bi_gcd, tr_bool, p1]
      by_cases h4 : i < 4
      · by_cases hs : (j : Int) < size
        · simp only [Rx.run, sem, Sm.ex, Sm.tst, Sm.none_, vNot, vBin, vNeg, vCmp, vCmp2, vIfe, vTup, vLst, vIx, vSlc, vIsi, vBi, vLset, vLrng, vTrng, vLc, Rx.iRng1, Rx.iRng2, slotV, slotP, isNil, isNm, Rz.bnd, Rz.map, Rz.x, Xr.seq, asB, boolR, intR, Got.d, Got.slot, storeS, frzS, ownAt, ofO, noOwn, wipeS, asgG, asgGs, itemsD, List.getElem?_cons_zero, List.getElem?_cons_succ, List.set_cons_zero, List.set_cons_succ, List.length_cons, List.length_nil, if_true, if_false, Bool.false_eq_true, Bool.not_false, Bool.not_true, List.all_cons, List.all_nil, Bool.and_true, List.map_cons, List.map_nil, Nat.reduceAdd, Nat.reduceLT, Nat.zero_add, Option.toList, ix2_0, ix2_1, cm_eq, cm_ne, cm_lt, cm_le, cm_gt, cm_ge, bd_add, bd_sub, bi_len_t, bi_len_l, bi_gcd, tr_bool, dc_t h4, dc_t hs, if_pos hl]
        · rw [dc_f hs, Bool.and_false, Bool.false_or] at hq
          simp only [Rx.run, sem, Sm.ex, Sm.tst, Sm.none_, vNot, vBin, vNeg, vCmp, vCmp2, vIfe, vTup, vLst, vIx, vSlc, vIsi, vBi, vLset, vLrng, vTrng, vLc, Rx.iRng1, Rx.iRng2, slotV, slotP, isNil, isNm, Rz.bnd, Rz.map, Rz.x, Xr.seq, asB, boolR, intR, Got.d, Got.slot, storeS, frzS, ownAt, ofO, noOwn, wipeS, asgG, asgGs, itemsD, List.getElem?_cons_zero, List.getElem?_cons_succ, List.set_cons_zero, List.set_cons_succ, List.length_cons, List.length_nil, if_true, if_false, Bool.false_eq_true, Bool.not_false, Bool.not_true, List.all_cons, List.all_nil, Bool.and_true, List.map_cons, List.map_nil, Nat.reduceAdd, Nat.reduceLT, Nat.zero_add, Option.toList, ix2_0, ix2_1, cm_eq, cm_ne, cm_lt, cm_le, cm_gt, cm_ge, bd_add, bd_sub, bi_len_t, bi_len_l, bi_gcd, tr_bool, dc_t h4, dc_f hs, hq, if_pos hl]
      · rw [dc_f h4, Bool.false_and, Bool.false_or] at hq
        simp only [Rx.run, sem, Sm.ex, Sm.tst, Sm.none_, vNot, vBin, vNeg, vCmp, vCmp2, vIfe, vTup, vLst, vIx, vSlc, vIsi, vBi, vLset, vLrng, vTrng, vLc, Rx.iRng1, Rx.iRng2, slotV, slotP, isNil, isNm, Rz.bnd, Rz.map, Rz.x, Xr.seq, asB, boolR, intR, Got.d, Got.slot, storeS, frzS, ownAt, ofO, noOwn, wipeS, asgG, asgGs, itemsD, List.getElem?_cons_zero, List.getElem?_cons_succ, List.set_cons_zero, List.set_cons_succ, List.length_cons, List.length_nil, if_true, if_false, Bool.false_eq_true, Bool.not_false, Bool.not_true, List.all_cons, List.all_nil, Bool.and_true, List.map_cons, List.map_nil, Nat.reduceAdd, Nat.reduceLT, Nat.zero_add, Option.toList, ix2_0, ix2_1, cm_eq, cm_ne, cm_lt, cm_le, cm_gt, cm_ge, bd_add, bd_sub, bi_len_t, bi_len_l, bi_gcd, tr_bool, dc_f h4, hq, if_pos hl]
    | false =>
      refine ⟨[.val (.dict []), .val (.int size), .own ds, .val (.int j), .val (.int i)], w1, ?_, k1, _, _, _, rfl, hr.up (by omega)⟩
      rw [Bool.or_eq_false_iff] at hq
      simp only [Rx.run, sem, Sm.ex, Sm.tst, Sm.none_, vNot, vBin, vNeg, vCmp, vCmp2, vIfe, vTup, vLst, vIx, vSlc, vIsi, vBi, vLset, vLrng, vTrng, vLc, Rx.iRng1, Rx.iRng2, slotV, slotP, isNil, isNm, Rz.bnd, Rz.map, Rz.x, Xr.seq, asB, boolR, intR, Got.d, Got.slot, storeS, frzS, ownAt, ofO, noOwn, wipeS, asgG, asgGs, itemsD, List.getElem?_cons_zero, List.getElem?_cons_succ, List.set_cons_zero, List.set_cons_succ, List.length_cons, List.length_nil, if_true, if_false, Bool.false_eq_true, Bool.not_false, Bool.not_true, List.all_cons, List.all_nil, Bool.and_true, List.map_cons, List.map_nil, Nat.reduceAdd, Nat.reduceLT, Nat.zero_add, Option.toList, ix2_0, ix2_1, cm_eq, cm_ne, cm_lt, cm_le, cm_gt, cm_ge, bd_add, bd_sub, bi_len_t, bi_len_l, bi_gcd, tr_bool, p1]
      by_cases h4 : i < 4
      · have h5 := hq.1
        rw [dc_t h4, Bool.true_and] at h5
        simp only [Rx.run, sem, Sm.ex, Sm.tst, Sm.none_, vNot, vBin, vNeg, vCmp, vCmp2, vIfe, vTup, vLst, vIx, vSlc, vIsi, vBi, vLset, vLrng, vTrng, vLc, Rx.iRng1, Rx.iRng2, slotV, slotP, isNil, isNm, Rz.bnd, Rz.map, Rz.x, Xr.seq, asB, boolR, intR, Got.d, Got.slot, storeS, frzS, ownAt, ofO, noOwn, wipeS, asgG, asgGs, itemsD, List.getElem?_cons_zero, List.getElem?_cons_succ, List.set_cons_zero, List.set_cons_succ, List.length_cons, List.length_nil, if_true, if_false, Bool.false_eq_true, Bool.not_false, Bool.not_true, List.all_cons, List.all_nil, Bool.and_true, List.map_cons, List.map_nil, Nat.reduceAdd, Nat.reduceLT, Nat.zero_add, Option.toList, ix2_0, ix2_1, cm_eq, cm_ne, cm_lt, cm_le, cm_gt, cm_ge, bd_add, bd_sub, bi_len_t, bi_len_l, bi_gcd, tr_bool, dc_t h4, h5, hq.2]
      · simp only [Rx.run, sem, Sm.ex, Sm.tst, Sm.none_, vNot, vBin, vNeg, vCmp, vCmp2, vIfe, vTup, vLst, vIx, vSlc, vIsi, vBi, vLset, vLrng, vTrng, vLc, Rx.iRng1, Rx.iRng2, slotV, slotP, isNil, isNm, Rz.bnd, Rz.map, Rz.x, Xr.seq, asB, boolR, intR, Got.d, Got.slot, storeS, frzS, ownAt, ofO, noOwn, wipeS, asgG, asgGs, itemsD, List.getElem?_cons_zero, List.getElem?_cons_succ, List.set_cons_zero, List.set_cons_succ, List.length_cons, List.length_nil, if_true, if_false, Bool.false_eq_true, Bool.not_false, Bool.not_true, List.all_cons, List.all_nil, Bool.and_true, List.map_cons, List.map_nil, Nat.reduceAdd, Nat.reduceLT, Nat.zero_add, Option.toList, ix2_0, ix2_1, cm_eq, cm_ne, cm_lt, cm_le, cm_gt, cm_ge, bd_add, bd_sub, bi_len_t, bi_len_l, bi_gcd, tr_bool, dc_f h4, hq.2]
  exact go _ rfl
theorem e32 (k : Nat) (size : Int) {w : Wl} (hs : 0 ≤ size ∧ size ≤ 5) (h : wOk w) : ∃ ds w', callF fns 1 (k + 2) 32 [.dict [], .int size] w = .ok (.tuple ds) w' ∧ Row 6 0 ds ∧ wOk w' := by
  rw [c32]
  unfold b__law_columns
  have hr := rng_ok (n := size + 1) (by omega)
  obtain ⟨sl', w', e, hI⟩ := inv_loop (body := forB (callF fns 1 (k + 1)) (.nm 3) colB) (I := fun n sl w => n ≤ 6 → colI n sl w size) (xs := (List.range (size + 1).toNat).map fun (i : Nat) => PyData.int (0 + (i : Int))) 0 [.val (.dict []), .val (.int size), .own [], .no, .no] w (by
    intro j d sl w hj hI
    obtain ⟨rfl, hj2⟩ := rg_at hj
    rw [Nat.zero_add] at hI ⊢
    obtain ⟨sl', w', e, h'⟩ := col_step k j size sl w (by omega) (hI (by omega))
    exact ⟨sl', w', e, fun _ => h'⟩) (fun _ => ⟨h, [], .no, .no, rfl, .nil⟩)
  obtain ⟨k1, ds, s3, s4, rfl, hd⟩ := hI (by rw [List.length_map, List.length_range]; omega)
  refine ⟨ds, w', ?_, ?_, k1⟩
  · refine asg_end (g := .fresh []) (w1 := w) rfl (by simp) ?_
    show fin (Rx.run (callF fns 1 (k + 1)) 1 _ [.val (.dict []), .val (.int size), .own [], .no, .no] w) = _
    refine for_end (items := (List.range (size + 1).toNat).map fun (i : Nat) => PyData.int (0 + (i : Int))) (w1 := w) (by simp only [Rx.run, sem, Sm.ex, Sm.tst, Sm.none_, vNot, vBin, vNeg, vCmp, vCmp2, vIfe, vTup, vLst, vIx, vSlc, vIsi, vBi, vLset, vLrng, vTrng, vLc, Rx.iRng1, Rx.iRng2, slotV, slotP, isNil, isNm, Rz.bnd, Rz.map, Rz.x, Xr.seq, asB, boolR, intR, Got.d, Got.slot, storeS, frzS, ownAt, ofO, noOwn, wipeS, asgG, asgGs, itemsD, List.getElem?_cons_zero, List.getElem?_cons_succ, List.set_cons_zero, List.set_cons_succ, List.length_cons, List.length_nil, if_true, if_false, Bool.false_eq_true, Bool.not_false, Bool.not_true, List.all_cons, List.all_nil, Bool.and_true, List.map_cons, List.map_nil, Nat.reduceAdd, Nat.reduceLT, Nat.zero_add, Option.toList, ix2_0, ix2_1, cm_eq, cm_ne, cm_lt, cm_le, cm_gt, cm_ge, bd_add, bd_sub, bi_len_t, bi_len_l, bi_gcd, tr_bool, hr]) ?_
    refine seq_nx e ?_
    rfl
  · exact hd.up (by rw [List.length_map, List.length_range]; omega)
end K00
set_option Elab.async false
set_option linter.all false
set_option maxRecDepth 100000
set_option maxHeartbeats 4000000
namespace K00
open PySem PySem.Spec PyProof.Rows L2 Rx
theorem Row.deep {n m : Nat} {ds : List PyData} (h : Row n m ds) : Row n (m + 1) ds := ⟨h.1, fun d hd => tm_up (h.2 d hd)⟩
theorem Row.ins {n m : Nat} {ds : List PyData} {d : PyData} (k : Nat) (h : Row n m ds) (hd : K00.tm m d = true) : Row (n + 1) m (ds.take k ++ [d] ++ ds.drop k) := by
  refine ⟨?_, fun x hx => ?_⟩
  · have := h.1
    simp only [List.length_append, List.length_take, List.length_drop, List.length_cons, List.length_nil]
    omega
  · rw [List.mem_append, List.mem_append] at hx
    rcases hx with (hx | hx) | hx
    · exact h.2 x (List.mem_of_mem_take hx)
    · rw [List.mem_singleton.mp hx]; exact hd
    · exact h.2 x (List.mem_of_mem_drop hx)
theorem Row.set {n m : Nat} {ds : List PyData} {d : PyData} (k : Nat) (h : Row n m ds) (hd : K00.tm m d = true) : Row n m (ds.set k d) := by
  refine ⟨by rw [List.length_set]; exact h.1, fun x hx => ?_⟩
  rcases List.mem_or_eq_of_mem_set hx with hx | rfl
  · exact h.2 x hx
  · exact hd
theorem Row.del {n m : Nat} {ds : List PyData} (k : Nat) (h : Row n m ds) : Row n m (ds.eraseIdx k) :=
  ⟨Nat.le_trans (List.length_eraseIdx_le _ _) h.1, fun x hx => h.2 x (List.mem_of_mem_eraseIdx hx)⟩
theorem Row.rev {n m : Nat} {ds : List PyData} (h : Row n m ds) : Row n m ds.reverse :=
  ⟨by rw [List.length_reverse]; exact h.1, fun x hx => h.2 x (List.mem_reverse.mp hx)⟩
theorem c33 (k : Nat) (x y z u : PyData) (w : Wl) : callF fns 1 (k + 1) 33 [x, y, z, u] w = fin (Rx.run (callF fns 1 k) 1 b__law_thing [.val x, .val y, .val z, .val u, .no, .no, .no, .no] w) := rfl
theorem p1012 : binD .pow (.int 10) (.int 12) = some (.val (.int (10 ^ 12))) := rfl
theorem p1030 : binD .pow (.int 10) (.int 30) = some (.val (.int (10 ^ 30))) := rfl
def fourL : List PyData := [.int 0, .int 1, .int (10 ^ 12 - 9), .int (10 ^ 30)]
def isI140 : PyData → Bool
  | .int i => decide (i.natAbs < 2 ^ 140)
  | _ => false
theorem four_d : ∀ d ∈ fourL, isI140 d = true := by decide +kernel
theorem isI140_inv {d : PyData} (h : isI140 d = true) : ∃ i, d = .int i ∧ i.natAbs < 2 ^ 140 := by
  cases d <;> first | (cases h; done) | exact ⟨_, rfl, of_decide_eq_true h⟩
def quoL : List PyData := [.tuple [.int 0, .int 1], .tuple [.int 1, .int 2], .tuple [.int 3, .int 4], .tuple [.int 5, .int 1], .tuple [.int 7, .int 6], .tuple [.int (10 ^ 12), .int 7], .tuple [.int 1, .int 60], .tuple [.int (-1), .int 2]]
theorem quo_d : ∀ d ∈ quoL, tm 2 d = true := by decide +kernel
def thB : T := (.cons (.ifs (.cmp .eq (.nm 1) (.kI 1)) (.cons (.ins 4 (.call 23 (.cons (.nm 0) (.cons (.bin .add (.nm 5) (.kI 1)) .nil))) (.nm 5)) .nil) (.cons (.ifs (.cmp .eq (.nm 1) (.kI 2)) (.cons (.app 4 (.bin .add (.ix (.tup (.cons (.kI 0) (.cons (.kI 1) (.cons (.bin .sub (.bin .pow (.kI 10) (.kI 12)) (.kI 9)) (.cons (.bin .pow (.kI 10) (.kI 30)) .nil))))) (.call 23 (.cons (.nm 0) (.cons (.kI 4) .nil)))) (.call 23 (.cons (.nm 0) (.cons (.kI 9) .nil))))) .nil) (.cons (.asg 6 (.tup (.cons (.tup (.cons (.kI 0) (.cons (.kI 1) .nil))) (.cons (.tup (.cons (.kI 1) (.cons (.kI 2) .nil))) (.cons (.tup (.cons (.kI 3) (.cons (.kI 4) .nil))) (.cons (.tup (.cons (.kI 5) (.cons (.kI 1) .nil))) (.cons (.tup (.cons (.kI 7) (.cons (.kI 6) .nil))) (.cons (.tup (.cons (.bin .pow (.kI 10) (.kI 12)) (.cons (.kI 7) .nil))) (.cons (.tup (.cons (.kI 1) (.cons (.kI 60) .nil))) (.cons (.tup (.cons (.neg (.kI 1)) (.cons (.kI 2) .nil))) .nil)))))))))) (.cons (.app 4 (.ix (.nm 6) (.call 23 (.cons (.nm 0) (.cons (.kI 8) .nil))))) .nil))) .nil)) .nil)
def th2 : T := (.ifs (.cmp .eq (.nm 1) (.kI 0)) (.cons (.asg 4 (.bi .list (.cons (.call 32 (.cons (.nm 0) (.cons (.nm 2) .nil))) .nil))) .nil) (.cons (.ifs (.cmp .eq (.nm 1) (.kI 4)) (.cons (.asg 4 (.lst (.cons (.call 32 (.cons (.nm 0) (.cons (.nm 2) .nil))) (.cons (.call 32 (.cons (.nm 0) (.cons (.nm 2) .nil))) .nil)))) .nil) (.cons (.for_ (.nm 5) (.rng1 (.nm 3)) (.cons (.ifs (.cmp .eq (.nm 1) (.kI 1)) (.cons (.ins 4 (.call 23 (.cons (.nm 0) (.cons (.bin .add (.nm 5) (.kI 1)) .nil))) (.nm 5)) .nil) (.cons (.ifs (.cmp .eq (.nm 1) (.kI 2)) (.cons (.app 4 (.bin .add (.ix (.tup (.cons (.kI 0) (.cons (.kI 1) (.cons (.bin .sub (.bin .pow (.kI 10) (.kI 12)) (.kI 9)) (.cons (.bin .pow (.kI 10) (.kI 30)) .nil))))) (.call 23 (.cons (.nm 0) (.cons (.kI 4) .nil)))) (.call 23 (.cons (.nm 0) (.cons (.kI 9) .nil))))) .nil) (.cons (.asg 6 (.tup (.cons (.tup (.cons (.kI 0) (.cons (.kI 1) .nil))) (.cons (.tup (.cons (.kI 1) (.cons (.kI 2) .nil))) (.cons (.tup (.cons (.kI 3) (.cons (.kI 4) .nil))) (.cons (.tup (.cons (.kI 5) (.cons (.kI 1) .nil))) (.cons (.tup (.cons (.kI 7) (.cons (.kI 6) .nil))) (.cons (.tup (.cons (.bin .pow (.kI 10) (.kI 12)) (.cons (.kI 7) .nil))) (.cons (.tup (.cons (.kI 1) (.cons (.kI 60) .nil))) (.cons (.tup (.cons (.neg (.kI 1)) (.cons (.kI 2) .nil))) .nil)))))))))) (.cons (.app 4 (.ix (.nm 6) (.call 23 (.cons (.nm 0) (.cons (.kI 8) .nil))))) .nil))) .nil)) .nil)) .nil)) .nil))
def th4 : T := (.ifs (.band (.cons (.cmp .eq (.nm 7) (.kI 0)) (.cons (.nm 4) .nil))) (.cons (.setI 4 (.call 23 (.cons (.nm 0) (.cons (.bi .len (.cons (.nm 4) .nil)) .nil))) (.call 31 (.cons (.nm 0) .nil))) .nil) (.cons (.ifs (.cmp .eq (.nm 7) (.kI 1)) (.cons (.app 4 (.call 31 (.cons (.nm 0) .nil))) .nil) (.cons (.ifs (.cmp .eq (.nm 7) (.kI 2)) (.frz 4 (.cons (.ret (.nm 4)) .nil)) (.cons (.ifs (.cmp .eq (.nm 7) (.kI 3)) (.cons (.rev 4) .nil) (.cons (.ifs (.band (.cons (.cmp .eq (.nm 7) (.kI 4)) (.cons (.nm 4) .nil))) (.cons (.app 4 (.ix (.nm 4) (.kI 0))) .nil) (.cons (.ifs (.band (.cons (.cmp .eq (.nm 7) (.kI 5)) (.cons (.nm 4) .nil))) (.cons (.popS 4 (.call 23 (.cons (.nm 0) (.cons (.bi .len (.cons (.nm 4) .nil)) .nil)))) .nil) (.cons (.ifs (.band (.cons (.cmp .eq (.nm 7) (.kI 6)) (.cons (.nm 4) .nil))) (.cons (.setI 4 (.call 23 (.cons (.nm 0) (.cons (.bi .len (.cons (.nm 4) .nil)) .nil))) (.ix (.nm 4) (.call 23 (.cons (.nm 0) (.cons (.bi .len (.cons (.nm 4) .nil)) .nil))))) .nil) .nil) .nil)) .nil)) .nil)) .nil)) .nil)) .nil))
def thI (n : Nat) (sl : List Slt) (w : Wl) (way size many : Int) : Prop := wOk w ∧ ∃ ds s5 s6, sl = [.val (.dict []), .val (.int way), .val (.int size), .val (.int many), .own ds, s5, s6, .no] ∧ Row n 2 ds
theorem th_step (k j : Nat) (way size many : Int) (sl : List Slt) (w : Wl) (hway : way = 1 ∨ way = 2 ∨ way = 3) (hj : j ≤ 10) (h : thI j sl w way size many) : ∃ sl' w', forB (callF fns 1 (k + 1)) (.nm 5) thB (.int (j : Int)) sl w = .ok .nx sl' w' ∧ thI (j + 1) sl' w' way size many := by
  obtain ⟨hw, ds, s5, s6, rfl, hr⟩ := h
  have hl : ds.length < sizeLine := szl (by have := hr.1; omega)
  have tj : tm 2 (.int (j : Int)) = true := tm_int (Nat.lt_of_le_of_lt (show (j : Int).natAbs ≤ 10 by omega) (by decide))
  unfold forB thB
  rcases hway with rfl | rfl | rfl
  · obtain ⟨i, w1, p1, r1, r2, k1⟩ := e23 (m := (j : Int) + 1) (by omega) (by omega) hw
    refine ⟨_, w1, ?_, k1, ds.take i.toNat ++ [.int (j : Int)] ++ ds.drop i.toNat, .val (.int j), s6, rfl, hr.ins _ tj⟩
    have hc : (0 ≤ i ∧ i < 2 ^ 62 ∧ ds.length < sizeLine) = True := eq_true ⟨r1, by omega, hl⟩
    simp only [Rx.run, sem, Sm.ex, Sm.tst, Sm.none_, vNot, vBin, vNeg, vCmp, vCmp2, vIfe, vTup, vLst, vIx, vSlc, vIsi, vBi, vLset, vLrng, vTrng, vLc, Rx.iRng1, Rx.iRng2, slotV, slotP, isNil, isNm, Rz.bnd, Rz.map, Rz.x, Xr.seq, asB, boolR, intR, Got.d, Got.slot, storeS, frzS, ownAt, ofO, noOwn, wipeS, asgG, asgGs, itemsD, List.getElem?_cons_zero, List.getElem?_cons_succ, List.set_cons_zero, List.set_cons_succ, List.length_cons, List.length_nil, if_true, if_false, Bool.false_eq_true, Bool.not_false, Bool.not_true, List.all_cons, List.all_nil, Bool.and_true, List.map_cons, List.map_nil, Nat.reduceAdd, Nat.reduceLT, Nat.zero_add, Option.toList, ix2_0, ix2_1, cm_eq, cm_ne, cm_lt, cm_le, cm_gt, cm_ge, bd_add, bd_sub, bi_len_t, bi_len_l, bi_gcd, tr_bool, Int.reduceEq, decide_true, decide_false, p1, hc]
  · obtain ⟨i, w1, p1, r1, r2, k1⟩ := e23 (m := 4) (by decide) (by decide) hw
    obtain ⟨i2, w2, p2, r3, r4, k2⟩ := e23 (m := 9) (by decide) (by decide) k1
    obtain ⟨u, x1, mu⟩ := ix_mem (xs := fourL) (i := i) ⟨r1, r2⟩
    obtain ⟨q, rfl, hq⟩ := isI140_inv (four_d u mu)
    have t0 : tm 2 (.int (q + i2)) = true := tm_int (by omega)
    refine ⟨_, w2, ?_, k2, ds ++ [.int (q + i2)], .val (.int j), s6, rfl, hr.app t0⟩
    simp only [Rx.run, sem, Sm.ex, Sm.tst, Sm.none_, vNot, vBin, vNeg, vCmp, vCmp2, vIfe, vTup, vLst, vIx, vSlc, vIsi, vBi, vLset, vLrng, vTrng, vLc, Rx.iRng1, Rx.iRng2, slotV, slotP, isNil, isNm, Rz.bnd, Rz.map, Rz.x, Xr.seq, asB, boolR, intR, Got.d, Got.slot, storeS, frzS, ownAt, ofO, noOwn, wipeS, asgG, asgGs, itemsD, List.getElem?_cons_zero, List.getElem?_cons_succ, List.set_cons_zero, List.set_cons_succ, List.length_cons, List.length_nil, if_true, if_false, Bool.false_eq_true, Bool.not_false, Bool.not_true, List.all_cons, List.all_nil, Bool.and_true, List.map_cons, List.map_nil, Nat.reduceAdd, Nat.reduceLT, Nat.zero_add, Option.toList, ix2_0, ix2_1, cm_eq, cm_ne, cm_lt, cm_le, cm_gt, cm_ge, bd_add, bd_sub, bi_len_t, bi_len_l, bi_gcd, tr_bool, Int.reduceEq, decide_true, decide_false, p1012, p1030, sz4, p1, p2, show ixD (.tuple [.int 0, .int 1, .int (10 ^ 12 - 9), .int (10 ^ 30)]) (.int i) = some (.int q) from x1, hl]
  · obtain ⟨i, w1, p1, r1, r2, k1⟩ := e23 (m := 8) (by decide) (by decide) hw
    obtain ⟨u, x1, mu⟩ := ix_mem (xs := quoL) (i := i) ⟨r1, r2⟩
    refine ⟨_, w1, ?_, k1, ds ++ [u], .val (.int j), .val (.tuple quoL), rfl, hr.app (quo_d u mu)⟩
    simp only [Rx.run, sem, Sm.ex, Sm.tst, Sm.none_, vNot, vBin, vNeg, vCmp, vCmp2, vIfe, vTup, vLst, vIx, vSlc, vIsi, vBi, vLset, vLrng, vTrng, vLc, Rx.iRng1, Rx.iRng2, slotV, slotP, isNil, isNm, Rz.bnd, Rz.map, Rz.x, Xr.seq, asB, boolR, intR, Got.d, Got.slot, storeS, frzS, ownAt, ofO, noOwn, wipeS, asgG, asgGs, itemsD, List.getElem?_cons_zero, List.getElem?_cons_succ, List.set_cons_zero, List.set_cons_succ, List.length_cons, List.length_nil, if_true, if_false, Bool.false_eq_true, Bool.not_false, Bool.not_true, List.all_cons, List.all_nil, Bool.and_true, List.map_cons, List.map_nil, Nat.reduceAdd, Nat.reduceLT, Nat.zero_add, Option.toList, ix2_0, ix2_1, cm_eq, cm_ne, cm_lt, cm_le, cm_gt, cm_ge, bd_add, bd_sub, bi_len_t, bi_len_l, bi_gcd, tr_bool, Int.reduceEq, decide_true, decide_false, p1012, sz2, sz8, p1, show ixD (.tuple [.tuple [.int 0, .int 1], .tuple [.int 1, .int 2], .tuple [.int 3, .int 4], .tuple [.int 5, .int 1], .tuple [.int 7, .int 6], .tuple [.int (10 ^ 12), .int 7], .tuple [.int 1, .int 60], .tuple [.int (-1), .int 2]]) (.int i) = some u from x1, hl]
    rfl
theorem th_loop (k : Nat) (way size many : Int) {w : Wl} (hway : way = 1 ∨ way = 2 ∨ way = 3) (hm : 0 ≤ many ∧ many ≤ 5) (h : wOk w) : ∃ sl' w', Rx.run (callF fns 1 (k + 1)) 1 (.cons (.for_ (.nm 5) (.rng1 (.nm 3)) thB) .nil) [.val (.dict []), .val (.int way), .val (.int size), .val (.int many), .own [], .no, .no, .no] w = .ok .nx sl' w' ∧ thI 10 sl' w' way size many := by
  have hr := rng_ok (n := many) (by omega)
  obtain ⟨sl', w', e, hI⟩ := inv_loop (body := forB (callF fns 1 (k + 1)) (.nm 5) thB) (I := fun n sl w => n ≤ 10 → thI n sl w way size many) (xs := (List.range many.toNat).map fun (i : Nat) => PyData.int (0 + (i : Int))) 0 [.val (.dict []), .val (.int way), .val (.int size), .val (.int many), .own [], .no, .no, .no] w (by
    intro j d sl w hj hI
    obtain ⟨rfl, hj2⟩ := rg_at hj
    rw [Nat.zero_add] at hI ⊢
    obtain ⟨sl', w', e, h'⟩ := th_step k j way size many sl w hway (by omega) (hI (by omega))
    exact ⟨sl', w', e, fun _ => h'⟩) (fun _ => ⟨h, [], .no, .no, rfl, .nil⟩)
  have hl : 0 + ((List.range many.toNat).map fun (i : Nat) => PyData.int (0 + (i : Int))).length ≤ 10 := by rw [List.length_map, List.length_range]; omega
  obtain ⟨k1, ds, s5, s6, rfl, hd⟩ := hI hl
  refine ⟨_, w', ?_, k1, ds, s5, s6, rfl, hd.up hl⟩
  rw [run_cons, run_forB (items := (List.range many.toNat).map fun (i : Nat) => PyData.int (0 + (i : Int))) (w1 := w) (by simp only [Rx.run, sem, Sm.ex, Sm.tst, Sm.none_, vNot, vBin, vNeg, vCmp, vCmp2, vIfe, vTup, vLst, vIx, vSlc, vIsi, vBi, vLset, vLrng, vTrng, vLc, Rx.iRng1, Rx.iRng2, slotV, slotP, isNil, isNm, Rz.bnd, Rz.map, Rz.x, Xr.seq, asB, boolR, intR, Got.d, Got.slot, storeS, frzS, ownAt, ofO, noOwn, wipeS, asgG, asgGs, itemsD, List.getElem?_cons_zero, List.getElem?_cons_succ, List.set_cons_zero, List.set_cons_succ, List.length_cons, List.length_nil, if_true, if_false, Bool.false_eq_true, Bool.not_false, Bool.not_true, List.all_cons, List.all_nil, Bool.and_true, List.map_cons, List.map_nil, Nat.reduceAdd, Nat.reduceLT, Nat.zero_add, Option.toList, ix2_0, ix2_1, cm_eq, cm_ne, cm_lt, cm_le, cm_gt, cm_ge, bd_add, bd_sub, bi_len_t, bi_len_l, bi_gcd, tr_bool, hr]), e]
  rfl
theorem th_2 (k : Nat) (way size many : Int) {w : Wl} (hway : 0 ≤ way ∧ way < 5) (hs : 0 ≤ size ∧ size ≤ 5) (hm : 0 ≤ many ∧ many ≤ 5) (h : wOk w) : ∃ sl' w', Rx.run (callF fns 1 (k + 2)) 1 th2 [.val (.dict []), .val (.int way), .val (.int size), .val (.int many), .own [], .no, .no, .no] w = .ok .nx sl' w' ∧ thI 10 sl' w' way size many := by
  have c : way = 0 ∨ way = 4 ∨ way = 1 ∨ way = 2 ∨ way = 3 := by omega
  unfold th2
  rcases c with rfl | rfl | c
  · obtain ⟨ds, w1, e, hr, k1⟩ := e32 k size hs h
    refine ⟨_, w1, ?_, k1, ds, .no, .no, rfl, hr.deep.deep.up (by decide)⟩
    simp only [Rx.run, sem, Sm.ex, Sm.tst, Sm.none_, vNot, vBin, vNeg, vCmp, vCmp2, vIfe, vTup, vLst, vIx, vSlc, vIsi, vBi, vLset, vLrng, vTrng, vLc, Rx.iRng1, Rx.iRng2, slotV, slotP, isNil, isNm, Rz.bnd, Rz.map, Rz.x, Xr.seq, asB, boolR, intR, Got.d, Got.slot, storeS, frzS, ownAt, ofO, noOwn, wipeS, asgG, asgGs, itemsD, List.getElem?_cons_zero, List.getElem?_cons_succ, List.set_cons_zero, List.set_cons_succ, List.length_cons, List.length_nil, if_true, if_false, Bool.false_eq_true, Bool.not_false, Bool.not_true, List.all_cons, List.all_nil, Bool.and_true, List.map_cons, List.map_nil, Nat.reduceAdd, Nat.reduceLT, Nat.zero_add, Option.toList, ix2_0, ix2_1, cm_eq, cm_ne, cm_lt, cm_le, cm_gt, cm_ge, bd_add, bd_sub, bi_len_t, bi_len_l, bi_gcd, tr_bool, Int.reduceEq, decide_true, decide_false, e, show ∀ xs, biD .list [.tuple xs] = some (.fresh xs) from fun _ => rfl]
  · obtain ⟨ds, w1, e, hr, k1⟩ := e32 k size hs h
    obtain ⟨ds2, w2, e2, hr2, k2⟩ := e32 k size hs k1
    refine ⟨_, w2, ?_, k2, [.tuple ds, .tuple ds2], .no, .no, rfl, ?_⟩
    · simp only [Rx.run, sem, Sm.ex, Sm.tst, Sm.none_, vNot, vBin, vNeg, vCmp, vCmp2, vIfe, vTup, vLst, vIx, vSlc, vIsi, vBi, vLset, vLrng, vTrng, vLc, Rx.iRng1, Rx.iRng2, slotV, slotP, isNil, isNm, Rz.bnd, Rz.map, Rz.x, Xr.seq, asB, boolR, intR, Got.d, Got.slot, storeS, frzS, ownAt, ofO, noOwn, wipeS, asgG, asgGs, itemsD, List.getElem?_cons_zero, List.getElem?_cons_succ, List.set_cons_zero, List.set_cons_succ, List.length_cons, List.length_nil, if_true, if_false, Bool.false_eq_true, Bool.not_false, Bool.not_true, List.all_cons, List.all_nil, Bool.and_true, List.map_cons, List.map_nil, Nat.reduceAdd, Nat.reduceLT, Nat.zero_add, Option.toList, ix2_0, ix2_1, cm_eq, cm_ne, cm_lt, cm_le, cm_gt, cm_ge, bd_add, bd_sub, bi_len_t, bi_len_l, bi_gcd, tr_bool, Int.reduceEq, decide_true, decide_false, e, e2, sz2]
    · refine ⟨by simp, fun d hd => ?_⟩
      rcases List.mem_cons.mp hd with rfl | hd
      · exact tm_up (hr.tm (by decide)).1
      · rw [List.mem_singleton.mp hd]
        exact tm_up (hr2.tm (by decide)).1
  · obtain ⟨sl', w', e, hI⟩ := th_loop (k + 1) way size many c hm h
    refine ⟨sl', w', ?_, hI⟩
    rw [← e]
    have h0 : ¬ way = 0 := by omega
    have h4 : ¬ way = 4 := by omega
    show Rx.run (callF fns 1 (k + 2)) 1 (.ifs _ _ (.cons (.ifs _ _ (.cons (.for_ (.nm 5) (.rng1 (.nm 3)) thB) .nil)) .nil)) _ w = _
    generalize hL : (T.cons (.for_ (.nm 5) (.rng1 (.nm 3)) thB) .nil) = L
    have e1 : ∀ m : Xr, m.seq (fun sl w => Xr.ok .nx sl w) = m := fun m => by cases m with
      | ok f sl w => cases f <;> rfl
      | _ => rfl
    simp only [Rx.run, sem, Sm.ex, Sm.tst, Sm.none_, vNot, vBin, vNeg, vCmp, vCmp2, vIfe, vTup, vLst, vIx, vSlc, vIsi, vBi, vLset, vLrng, vTrng, vLc, Rx.iRng1, Rx.iRng2, slotV, slotP, isNil, isNm, Rz.bnd, Rz.map, Rz.x, Xr.seq, asB, boolR, intR, Got.d, Got.slot, storeS, frzS, ownAt, ofO, noOwn, wipeS, asgG, asgGs, itemsD, List.getElem?_cons_zero, List.getElem?_cons_succ, List.set_cons_zero, List.set_cons_succ, List.length_cons, List.length_nil, if_true, if_false, Bool.false_eq_true, Bool.not_false, Bool.not_true, List.all_cons, List.all_nil, Bool.and_true, List.map_cons, List.map_nil, Nat.reduceAdd, Nat.reduceLT, Nat.zero_add, Option.toList, ix2_0, ix2_1, cm_eq, cm_ne, cm_lt, cm_le, cm_gt, cm_ge, bd_add, bd_sub, bi_len_t, bi_len_l, bi_gcd, tr_bool, dc_f h0, dc_f h4]
    cases Rx.run (callF fns 1 (k + 2)) 1 L _ w with
    | ok f sl w => cases f <;> rfl
    | _ => rfl
end K00
set_option Elab.async false
set_option linter.all false
set_option maxRecDepth 100000
set_option maxHeartbeats 4000000
namespace K00
open PySem PySem.Spec PyProof.Rows L2 Rx
theorem trl0 : truD (.list []) = some false := rfl
theorem trl1 (x : PyData) (r : List PyData) : truD (.list (x :: r)) = some true := rfl
theorem ixl_mem {xs : List PyData} {i : Int} (h : 0 ≤ i ∧ i < xs.length) : ∃ d, ixD (.list xs) (.int i) = some d ∧ d ∈ xs := by
  obtain ⟨j, rfl⟩ := Int.eq_ofNat_of_zero_le h.1
  have hj : j < xs.length := by omega
  exact ⟨xs[j], atI_nat (List.getElem?_eq_getElem hj), List.getElem_mem hj⟩
theorem ixN_ok {n : Nat} {i : Int} (h : 0 ≤ i ∧ i < n) : ixN n i = some i.toNat := by
  unfold ixN
  rw [if_pos h.1, if_pos h.2]
theorem th_4 (k : Nat) (s way size many : Int) (ds : List PyData) (s5 s6 : Slt) {w : Wl} (hs : 0 ≤ s ∧ s < 10) (hr : Row 10 2 ds) (h : wOk w) : ∃ d w', fin ((Rx.run (callF fns 1 (k + 2)) 1 th4 [.val (.dict []), .val (.int way), .val (.int size), .val (.int many), .own ds, s5, s6, .val (.int s)] w).seq (Rx.run (callF fns 1 (k + 2)) 1 (.cons (.ret (.bi .tuple (.cons (.nm 4) .nil))) .nil))) = .ok d w' ∧ tm 3 d = true ∧ wOk w' := by
  have nx : ∀ ds' w', Row 11 2 ds' → wOk w' → Rx.run (callF fns 1 (k + 2)) 1 th4 [.val (.dict []), .val (.int way), .val (.int size), .val (.int many), .own ds, s5, s6, .val (.int s)] w = .ok .nx [.val (.dict []), .val (.int way), .val (.int size), .val (.int many), .own ds', s5, s6, .val (.int s)] w' → ∃ d w', fin ((Rx.run (callF fns 1 (k + 2)) 1 th4 [.val (.dict []), .val (.int way), .val (.int size), .val (.int many), .own ds, s5, s6, .val (.int s)] w).seq (Rx.run (callF fns 1 (k + 2)) 1 (.cons (.ret (.bi .tuple (.cons (.nm 4) .nil))) .nil))) = .ok d w' ∧ tm 3 d = true ∧ wOk w' := by
    intro ds' w' h1 h2 e
    rw [e]
    exact ⟨.tuple ds', w', rfl, (h1.tm (by decide)).1, h2⟩
  have hl : ds.length < sizeLine := szl (by have := hr.1; omega)
  have hlen : ds.length ≤ 10 := hr.1
  have c : s = 0 ∨ s = 1 ∨ s = 2 ∨ s = 3 ∨ s = 4 ∨ s = 5 ∨ s = 6 ∨ s = 7 ∨ s = 8 ∨ s = 9 := by omega
  rcases c with rfl | rfl | rfl | rfl | rfl | rfl | rfl | rfl | rfl | rfl
  · cases ds with
    | nil =>
      refine nx [] w .nil h ?_
      unfold th4
      simp only [Rx.run, sem, Sm.ex, Sm.tst, Sm.none_, vNot, vBin, vNeg, vCmp, vCmp2, vIfe, vTup, vLst, vIx, vSlc, vIsi, vBi, vLset, vLrng, vTrng, vLc, Rx.iRng1, Rx.iRng2, slotV, slotP, isNil, isNm, Rz.bnd, Rz.map, Rz.x, Xr.seq, asB, boolR, intR, Got.d, Got.slot, storeS, frzS, ownAt, ofO, noOwn, wipeS, asgG, asgGs, itemsD, List.getElem?_cons_zero, List.getElem?_cons_succ, List.set_cons_zero, List.set_cons_succ, List.length_cons, List.length_nil, if_true, if_false, Bool.false_eq_true, Bool.not_false, Bool.not_true, List.all_cons, List.all_nil, Bool.and_true, List.map_cons, List.map_nil, Nat.reduceAdd, Nat.reduceLT, Nat.zero_add, Option.toList, ix2_0, ix2_1, cm_eq, cm_ne, cm_lt, cm_le, cm_gt, cm_ge, bd_add, bd_sub, bi_len_t, bi_len_l, bi_gcd, tr_bool, Int.reduceEq, decide_true, decide_false, trl0]
    | cons x r =>
      obtain ⟨d, w1, p1, t1, k1⟩ := e31 h
      obtain ⟨i, w2, p2, r1, r2, k2⟩ := e23 (m := ((x :: r).length : Int)) (by rw [List.length_cons]; omega) (by have h9 := hlen; rw [List.length_cons] at h9 ⊢; omega) k1
      refine nx ((x :: r).set i.toNat d) w2 ((hr.set _ t1).up (by decide)) k2 ?_
      have hi := ixN_ok (n := (x :: r).length) ⟨r1, r2⟩
      rw [List.length_cons] at p2 hi
      unfold th4
      simp only [Rx.run, sem, Sm.ex, Sm.tst, Sm.none_, vNot, vBin, vNeg, vCmp, vCmp2, vIfe, vTup, vLst, vIx, vSlc, vIsi, vBi, vLset, vLrng, vTrng, vLc, Rx.iRng1, Rx.iRng2, slotV, slotP, isNil, isNm, Rz.bnd, Rz.map, Rz.x, Xr.seq, asB, boolR, intR, Got.d, Got.slot, storeS, frzS, ownAt, ofO, noOwn, wipeS, asgG, asgGs, itemsD, List.getElem?_cons_zero, List.getElem?_cons_succ, List.set_cons_zero, List.set_cons_succ, List.length_cons, List.length_nil, if_true, if_false, Bool.false_eq_true, Bool.not_false, Bool.not_true, List.all_cons, List.all_nil, Bool.and_true, List.map_cons, List.map_nil, Nat.reduceAdd, Nat.reduceLT, Nat.zero_add, Option.toList, ix2_0, ix2_1, cm_eq, cm_ne, cm_lt, cm_le, cm_gt, cm_ge, bd_add, bd_sub, bi_len_t, bi_len_l, bi_gcd, tr_bool, Int.reduceEq, decide_true, decide_false, trl1, p1, p2, hi]
  · obtain ⟨d, w1, p1, t1, k1⟩ := e31 h
    refine nx (ds ++ [d]) w1 (hr.app t1) k1 ?_
    unfold th4
    simp only [Rx.run, sem, Sm.ex, Sm.tst, Sm.none_, vNot, vBin, vNeg, vCmp, vCmp2, vIfe, vTup, vLst, vIx, vSlc, vIsi, vBi, vLset, vLrng, vTrng, vLc, Rx.iRng1, Rx.iRng2, slotV, slotP, isNil, isNm, Rz.bnd, Rz.map, Rz.x, Xr.seq, asB, boolR, intR, Got.d, Got.slot, storeS, frzS, ownAt, ofO, noOwn, wipeS, asgG, asgGs, itemsD, List.getElem?_cons_zero, List.getElem?_cons_succ, List.set_cons_zero, List.set_cons_succ, List.length_cons, List.length_nil, if_true, if_false, Bool.false_eq_true, Bool.not_false, Bool.not_true, List.all_cons, List.all_nil, Bool.and_true, List.map_cons, List.map_nil, Nat.reduceAdd, Nat.reduceLT, Nat.zero_add, Option.toList, ix2_0, ix2_1, cm_eq, cm_ne, cm_lt, cm_le, cm_gt, cm_ge, bd_add, bd_sub, bi_len_t, bi_len_l, bi_gcd, tr_bool, Int.reduceEq, decide_true, decide_false, p1, hl]
  · refine ⟨.list ds, w, ?_, (hr.tm (by decide)).2, h⟩
    unfold th4
    simp only [Rx.run, sem, Sm.ex, Sm.tst, Sm.none_, vNot, vBin, vNeg, vCmp, vCmp2, vIfe, vTup, vLst, vIx, vSlc, vIsi, vBi, vLset, vLrng, vTrng, vLc, Rx.iRng1, Rx.iRng2, slotV, slotP, isNil, isNm, Rz.bnd, Rz.map, Rz.x, Xr.seq, asB, boolR, intR, Got.d, Got.slot, storeS, frzS, ownAt, ofO, noOwn, wipeS, asgG, asgGs, itemsD, List.getElem?_cons_zero, List.getElem?_cons_succ, List.set_cons_zero, List.set_cons_succ, List.length_cons, List.length_nil, if_true, if_false, Bool.false_eq_true, Bool.not_false, Bool.not_true, List.all_cons, List.all_nil, Bool.and_true, List.map_cons, List.map_nil, Nat.reduceAdd, Nat.reduceLT, Nat.zero_add, Option.toList, ix2_0, ix2_1, cm_eq, cm_ne, cm_lt, cm_le, cm_gt, cm_ge, bd_add, bd_sub, bi_len_t, bi_len_l, bi_gcd, tr_bool, Int.reduceEq, decide_true, decide_false]
    rfl
  · refine nx ds.reverse w (hr.rev.up (by decide)) h ?_
    unfold th4
    simp only [Rx.run, sem, Sm.ex, Sm.tst, Sm.none_, vNot, vBin, vNeg, vCmp, vCmp2, vIfe, vTup, vLst, vIx, vSlc, vIsi, vBi, vLset, vLrng, vTrng, vLc, Rx.iRng1, Rx.iRng2, slotV, slotP, isNil, isNm, Rz.bnd, Rz.map, Rz.x, Xr.seq, asB, boolR, intR, Got.d, Got.slot, storeS, frzS, ownAt, ofO, noOwn, wipeS, asgG, asgGs, itemsD, List.getElem?_cons_zero, List.getElem?_cons_succ, List.set_cons_zero, List.set_cons_succ, List.length_cons, List.length_nil, if_true, if_false, Bool.false_eq_true, Bool.not_false, Bool.not_true, List.all_cons, List.all_nil, Bool.and_true, List.map_cons, List.map_nil, Nat.reduceAdd, Nat.reduceLT, Nat.zero_add, Option.toList, ix2_0, ix2_1, cm_eq, cm_ne, cm_lt, cm_le, cm_gt, cm_ge, bd_add, bd_sub, bi_len_t, bi_len_l, bi_gcd, tr_bool, Int.reduceEq, decide_true, decide_false]
  · cases ds with
    | nil =>
      refine nx [] w .nil h ?_
      unfold th4
      simp only [Rx.run, sem, Sm.ex, Sm.tst, Sm.none_, vNot, vBin, vNeg, vCmp, vCmp2, vIfe, vTup, vLst, vIx, vSlc, vIsi, vBi, vLset, vLrng, vTrng, vLc, Rx.iRng1, Rx.iRng2, slotV, slotP, isNil, isNm, Rz.bnd, Rz.map, Rz.x, Xr.seq, asB, boolR, intR, Got.d, Got.slot, storeS, frzS, ownAt, ofO, noOwn, wipeS, asgG, asgGs, itemsD, List.getElem?_cons_zero, List.getElem?_cons_succ, List.set_cons_zero, List.set_cons_succ, List.length_cons, List.length_nil, if_true, if_false, Bool.false_eq_true, Bool.not_false, Bool.not_true, List.all_cons, List.all_nil, Bool.and_true, List.map_cons, List.map_nil, Nat.reduceAdd, Nat.reduceLT, Nat.zero_add, Option.toList, ix2_0, ix2_1, cm_eq, cm_ne, cm_lt, cm_le, cm_gt, cm_ge, bd_add, bd_sub, bi_len_t, bi_len_l, bi_gcd, tr_bool, Int.reduceEq, decide_true, decide_false, trl0]
    | cons x r =>
      refine nx (x :: r ++ [x]) w (hr.app (hr.2 x List.mem_cons_self)) h ?_
      rw [List.length_cons] at hl
      unfold th4
      simp only [Rx.run, sem, Sm.ex, Sm.tst, Sm.none_, vNot, vBin, vNeg, vCmp, vCmp2, vIfe, vTup, vLst, vIx, vSlc, vIsi, vBi, vLset, vLrng, vTrng, vLc, Rx.iRng1, Rx.iRng2, slotV, slotP, isNil, isNm, Rz.bnd, Rz.map, Rz.x, Xr.seq, asB, boolR, intR, Got.d, Got.slot, storeS, frzS, ownAt, ofO, noOwn, wipeS, asgG, asgGs, itemsD, List.getElem?_cons_zero, List.getElem?_cons_succ, List.set_cons_zero, List.set_cons_succ, List.length_cons, List.length_nil, if_true, if_false, Bool.false_eq_true, Bool.not_false, Bool.not_true, List.all_cons, List.all_nil, Bool.and_true, List.map_cons, List.map_nil, Nat.reduceAdd, Nat.reduceLT, Nat.zero_add, Option.toList, ix2_0, ix2_1, cm_eq, cm_ne, cm_lt, cm_le, cm_gt, cm_ge, bd_add, bd_sub, bi_len_t, bi_len_l, bi_gcd, tr_bool, Int.reduceEq, decide_true, decide_false, trl1, hl, show ixD (.list (x :: r)) (.int 0) = some x from atI_nat (j := 0) rfl]
  · cases ds with
    | nil =>
      refine nx [] w .nil h ?_
      unfold th4
      simp only [Rx.run, sem, Sm.ex, Sm.tst, Sm.none_, vNot, vBin, vNeg, vCmp, vCmp2, vIfe, vTup, vLst, vIx, vSlc, vIsi, vBi, vLset, vLrng, vTrng, vLc, Rx.iRng1, Rx.iRng2, slotV, slotP, isNil, isNm, Rz.bnd, Rz.map, Rz.x, Xr.seq, asB, boolR, intR, Got.d, Got.slot, storeS, frzS, ownAt, ofO, noOwn, wipeS, asgG, asgGs, itemsD, List.getElem?_cons_zero, List.getElem?_cons_succ, List.set_cons_zero, List.set_cons_succ, List.length_cons, List.length_nil, if_true, if_false, Bool.false_eq_true, Bool.not_false, Bool.not_true, List.all_cons, List.all_nil, Bool.and_true, List.map_cons, List.map_nil, Nat.reduceAdd, Nat.reduceLT, Nat.zero_add, Option.toList, ix2_0, ix2_1, cm_eq, cm_ne, cm_lt, cm_le, cm_gt, cm_ge, bd_add, bd_sub, bi_len_t, bi_len_l, bi_gcd, tr_bool, Int.reduceEq, decide_true, decide_false, trl0]
    | cons x r =>
      obtain ⟨i, w2, p2, r1, r2, k2⟩ := e23 (m := ((x :: r).length : Int)) (by rw [List.length_cons]; omega) (by have h9 := hlen; rw [List.length_cons] at h9 ⊢; omega) h
      refine nx ((x :: r).eraseIdx i.toNat) w2 ((hr.del _).up (by decide)) k2 ?_
      rw [List.length_cons] at p2 r2
      have hc : (0 ≤ i ∧ i < ((r.length + 1 : Nat) : Int)) = True := eq_true ⟨r1, r2⟩
      unfold th4
      simp only [Rx.run, sem, Sm.ex, Sm.tst, Sm.none_, vNot, vBin, vNeg, vCmp, vCmp2, vIfe, vTup, vLst, vIx, vSlc, vIsi, vBi, vLset, vLrng, vTrng, vLc, Rx.iRng1, Rx.iRng2, slotV, slotP, isNil, isNm, Rz.bnd, Rz.map, Rz.x, Xr.seq, asB, boolR, intR, Got.d, Got.slot, storeS, frzS, ownAt, ofO, noOwn, wipeS, asgG, asgGs, itemsD, List.getElem?_cons_zero, List.getElem?_cons_succ, List.set_cons_zero, List.set_cons_succ, List.length_cons, List.length_nil, if_true, if_false, Bool.false_eq_true, Bool.not_false, Bool.not_true, List.all_cons, List.all_nil, Bool.and_true, List.map_cons, List.map_nil, Nat.reduceAdd, Nat.reduceLT, Nat.zero_add, Option.toList, ix2_0, ix2_1, cm_eq, cm_ne, cm_lt, cm_le, cm_gt, cm_ge, bd_add, bd_sub, bi_len_t, bi_len_l, bi_gcd, tr_bool, Int.reduceEq, decide_true, decide_false, trl1, p2, hc]
  · cases ds with
    | nil =>
      refine nx [] w .nil h ?_
      unfold th4
      simp only [Rx.run, sem, Sm.ex, Sm.tst, Sm.none_, vNot, vBin, vNeg, vCmp, vCmp2, vIfe, vTup, vLst, vIx, vSlc, vIsi, vBi, vLset, vLrng, vTrng, vLc, Rx.iRng1, Rx.iRng2, slotV, slotP, isNil, isNm, Rz.bnd, Rz.map, Rz.x, Xr.seq, asB, boolR, intR, Got.d, Got.slot, storeS, frzS, ownAt, ofO, noOwn, wipeS, asgG, asgGs, itemsD, List.getElem?_cons_zero, List.getElem?_cons_succ, List.set_cons_zero, List.set_cons_succ, List.length_cons, List.length_nil, if_true, if_false, Bool.false_eq_true, Bool.not_false, Bool.not_true, List.all_cons, List.all_nil, Bool.and_true, List.map_cons, List.map_nil, Nat.reduceAdd, Nat.reduceLT, Nat.zero_add, Option.toList, ix2_0, ix2_1, cm_eq, cm_ne, cm_lt, cm_le, cm_gt, cm_ge, bd_add, bd_sub, bi_len_t, bi_len_l, bi_gcd, tr_bool, Int.reduceEq, decide_true, decide_false, trl0]
    | cons x r =>
      obtain ⟨i, w1, p1, r1, r2, k1⟩ := e23 (m := ((x :: r).length : Int)) (by rw [List.length_cons]; omega) (by have h9 := hlen; rw [List.length_cons] at h9 ⊢; omega) h
      obtain ⟨d, x1, md⟩ := ixl_mem (xs := x :: r) ⟨r1, r2⟩
      obtain ⟨j, w2, p2, r3, r4, k2⟩ := e23 (m := ((x :: r).length : Int)) (by rw [List.length_cons]; omega) (by have h9 := hlen; rw [List.length_cons] at h9 ⊢; omega) k1
      refine nx ((x :: r).set j.toNat d) w2 ((hr.set _ (hr.2 d md)).up (by decide)) k2 ?_
      have hi := ixN_ok (n := (x :: r).length) ⟨r3, r4⟩
      rw [List.length_cons] at p1 p2 hi
      unfold th4
      simp only [Rx.run, sem, Sm.ex, Sm.tst, Sm.none_, vNot, vBin, vNeg, vCmp, vCmp2, vIfe, vTup, vLst, vIx, vSlc, vIsi, vBi, vLset, vLrng, vTrng, vLc, Rx.iRng1, Rx.iRng2, slotV, slotP, isNil, isNm, Rz.bnd, Rz.map, Rz.x, Xr.seq, asB, boolR, intR, Got.d, Got.slot, storeS, frzS, ownAt, ofO, noOwn, wipeS, asgG, asgGs, itemsD, List.getElem?_cons_zero, List.getElem?_cons_succ, List.set_cons_zero, List.set_cons_succ, List.length_cons, List.length_nil, if_true, if_false, Bool.false_eq_true, Bool.not_false, Bool.not_true, List.all_cons, List.all_nil, Bool.and_true, List.map_cons, List.map_nil, Nat.reduceAdd, Nat.reduceLT, Nat.zero_add, Option.toList, ix2_0, ix2_1, cm_eq, cm_ne, cm_lt, cm_le, cm_gt, cm_ge, bd_add, bd_sub, bi_len_t, bi_len_l, bi_gcd, tr_bool, Int.reduceEq, decide_true, decide_false, trl1, p1, x1, p2, hi]
  · refine nx ds w (hr.up (by decide)) h ?_
    unfold th4
    simp only [Rx.run, sem, Sm.ex, Sm.tst, Sm.none_, vNot, vBin, vNeg, vCmp, vCmp2, vIfe, vTup, vLst, vIx, vSlc, vIsi, vBi, vLset, vLrng, vTrng, vLc, Rx.iRng1, Rx.iRng2, slotV, slotP, isNil, isNm, Rz.bnd, Rz.map, Rz.x, Xr.seq, asB, boolR, intR, Got.d, Got.slot, storeS, frzS, ownAt, ofO, noOwn, wipeS, asgG, asgGs, itemsD, List.getElem?_cons_zero, List.getElem?_cons_succ, List.set_cons_zero, List.set_cons_succ, List.length_cons, List.length_nil, if_true, if_false, Bool.false_eq_true, Bool.not_false, Bool.not_true, List.all_cons, List.all_nil, Bool.and_true, List.map_cons, List.map_nil, Nat.reduceAdd, Nat.reduceLT, Nat.zero_add, Option.toList, ix2_0, ix2_1, cm_eq, cm_ne, cm_lt, cm_le, cm_gt, cm_ge, bd_add, bd_sub, bi_len_t, bi_len_l, bi_gcd, tr_bool, Int.reduceEq, decide_true, decide_false]
  · refine nx ds w (hr.up (by decide)) h ?_
    unfold th4
    simp only [Rx.run, sem, Sm.ex, Sm.tst, Sm.none_, vNot, vBin, vNeg, vCmp, vCmp2, vIfe, vTup, vLst, vIx, vSlc, vIsi, vBi, vLset, vLrng, vTrng, vLc, Rx.iRng1, Rx.iRng2, slotV, slotP, isNil, isNm, Rz.bnd, Rz.map, Rz.x, Xr.seq, asB, boolR, intR, Got.d, Got.slot, storeS, frzS, ownAt, ofO, noOwn, wipeS, asgG, asgGs, itemsD, List.getElem?_cons_zero, List.getElem?_cons_succ, List.set_cons_zero, List.set_cons_succ, List.length_cons, List.length_nil, if_true, if_false, Bool.false_eq_true, Bool.not_false, Bool.not_true, List.all_cons, List.all_nil, Bool.and_true, List.map_cons, List.map_nil, Nat.reduceAdd, Nat.reduceLT, Nat.zero_add, Option.toList, ix2_0, ix2_1, cm_eq, cm_ne, cm_lt, cm_le, cm_gt, cm_ge, bd_add, bd_sub, bi_len_t, bi_len_l, bi_gcd, tr_bool, Int.reduceEq, decide_true, decide_false]
  · refine nx ds w (hr.up (by decide)) h ?_
    unfold th4
    simp only [Rx.run, sem, Sm.ex, Sm.tst, Sm.none_, vNot, vBin, vNeg, vCmp, vCmp2, vIfe, vTup, vLst, vIx, vSlc, vIsi, vBi, vLset, vLrng, vTrng, vLc, Rx.iRng1, Rx.iRng2, slotV, slotP, isNil, isNm, Rz.bnd, Rz.map, Rz.x, Xr.seq, asB, boolR, intR, Got.d, Got.slot, storeS, frzS, ownAt, ofO, noOwn, wipeS, asgG, asgGs, itemsD, List.getElem?_cons_zero, List.getElem?_cons_succ, List.set_cons_zero, List.set_cons_succ, List.length_cons, List.length_nil, if_true, if_false, Bool.false_eq_true, Bool.not_false, Bool.not_true, List.all_cons, List.all_nil, Bool.and_true, List.map_cons, List.map_nil, Nat.reduceAdd, Nat.reduceLT, Nat.zero_add, Option.toList, ix2_0, ix2_1, cm_eq, cm_ne, cm_lt, cm_le, cm_gt, cm_ge, bd_add, bd_sub, bi_len_t, bi_len_l, bi_gcd, tr_bool, Int.reduceEq, decide_true, decide_false]
theorem e33 (k : Nat) (way size many : Int) {w : Wl} (hway : 0 ≤ way ∧ way < 5) (hs : 0 ≤ size ∧ size ≤ 5) (hm : 0 ≤ many ∧ many ≤ 5) (h : wOk w) : ∃ d w', callF fns 1 (k + 3) 33 [.dict [], .int way, .int size, .int many] w = .ok d w' ∧ tm 3 d = true ∧ wOk w' := by
  obtain ⟨sl1, w1, e1, k1, ds, s5, s6, rfl, hr⟩ := th_2 k way size many hway hs hm h
  obtain ⟨i, w2, p2, r1, r2, k2⟩ := e23 (m := 10) (by decide) (by decide) k1
  obtain ⟨d, w3, e3, t3, k3⟩ := th_4 k i way size many ds s5 s6 ⟨r1, r2⟩ hr k2
  refine ⟨d, w3, ?_, t3, k3⟩
  rw [c33]
  unfold b__law_thing
  refine asg_end (g := .fresh []) (w1 := w) rfl (by simp) ?_
  show fin (Rx.run (callF fns 1 (k + 2)) 1 (.cons th2 _) [.val (.dict []), .val (.int way), .val (.int size), .val (.int many), .own [], .no, .no, .no] w) = _
  rw [run_cons]
  refine seq_nx e1 ?_
  refine asg_end (g := .val (.int i)) (w1 := w2) (by simp only [Rx.run, sem, Sm.ex, Sm.tst, Sm.none_, vNot, vBin, vNeg, vCmp, vCmp2, vIfe, vTup, vLst, vIx, vSlc, vIsi, vBi, vLset, vLrng, vTrng, vLc, Rx.iRng1, Rx.iRng2, slotV, slotP, isNil, isNm, Rz.bnd, Rz.map, Rz.x, Xr.seq, asB, boolR, intR, Got.d, Got.slot, storeS, frzS, ownAt, ofO, noOwn, wipeS, asgG, asgGs, itemsD, List.getElem?_cons_zero, List.getElem?_cons_succ, List.set_cons_zero, List.set_cons_succ, List.length_cons, List.length_nil, if_true, if_false, Bool.false_eq_true, Bool.not_false, Bool.not_true, List.all_cons, List.all_nil, Bool.and_true, List.map_cons, List.map_nil, Nat.reduceAdd, Nat.reduceLT, Nat.zero_add, Option.toList, ix2_0, ix2_1, cm_eq, cm_ne, cm_lt, cm_le, cm_gt, cm_ge, bd_add, bd_sub, bi_len_t, bi_len_l, bi_gcd, tr_bool, p2]) (by simp) ?_
  show fin (Rx.run (callF fns 1 (k + 2)) 1 (.cons th4 _) [.val (.dict []), .val (.int way), .val (.int size), .val (.int many), .own ds, s5, s6, .val (.int i)] w2) = _
  rw [run_cons]
  exact e3
end K00
set_option Elab.async false
set_option linter.all false
set_option maxRecDepth 100000
set_option maxHeartbeats 4000000
namespace K00
open PySem PySem.Spec PyProof.Rows L2 Rx
def inB : T := (.cons (.ifs (.bor (.cons (.not (.isi (.ix (.nm 8) (.nm 4)) .bool)) (.cons (.cmp .ne (.ix (.nm 8) (.nm 4)) (.ix (.nm 9) (.nm 4))) .nil))) (.cons (.ret (.kB false)) .nil) .nil) .nil)
def kB : T := (.cons (.asg 7 (.call 24 (.cons (.nm 6) .nil))) (.cons (.asg 8 (.lst (.cons (.call 3 (.cons (.nm 6) .nil)) (.cons (.call 4 (.cons (.nm 6) .nil)) (.cons (.call 5 (.cons (.nm 6) .nil)) (.cons (.call 6 (.cons (.nm 6) .nil)) (.cons (.call 7 (.cons (.nm 1) (.cons (.nm 6) .nil))) (.cons (.callk 8 [1, 0] (.cons (.nm 6) (.cons (.nm 1) .nil))) (.cons (.callk 9 [1, 0] (.cons (.nm 6) (.cons (.nm 2) .nil))) (.cons (.call 10 (.cons (.nm 2) (.cons (.nm 6) .nil))) (.cons (.call 11 (.cons (.nm 2) (.cons (.nm 6) .nil))) (.cons (.call 12 (.cons (.nm 2) (.cons (.nm 6) .nil))) .nil)))))))))))) (.cons (.asg 9 (.lst (.cons (.nm 7) (.cons (.band (.cons (.nm 7) (.cons (.cmp .ge (.nm 6) (.kI 0)) .nil))) (.cons (.isi (.nm 6) .bool) (.cons (.call 25 (.cons (.nm 6) .nil)) (.cons (.call 27 (.cons (.nm 6) (.cons (.nm 1) .nil))) (.cons (.call 28 (.cons (.nm 1) (.cons (.nm 6) .nil))) (.cons (.call 27 (.cons (.nm 6) (.cons (.nm 2) .nil))) (.cons (.call 29 (.cons (.nm 2) (.cons (.nm 6) .nil))) (.cons (.call 30 (.cons (.nm 2) (.cons (.nm 6) (.cons (.kI 0) .nil)))) (.cons (.call 30 (.cons (.nm 2) (.cons (.nm 6) (.cons (.kI 1) .nil)))) .nil)))))))))))) (.cons (.for_ (.nm 4) (.rng1 (.kI 10)) (.cons (.ifs (.bor (.cons (.not (.isi (.ix (.nm 8) (.nm 4)) .bool)) (.cons (.cmp .ne (.ix (.nm 8) (.nm 4)) (.ix (.nm 9) (.nm 4))) .nil))) (.cons (.ret (.kB false)) .nil) .nil) .nil)) .nil))))
def apB : T := (.cons (.app 3 (.call 33 (.cons (.nm 0) (.cons (.nm 5) (.cons (.nm 1) (.cons (.nm 2) .nil)))))) .nil)
theorem in_loop (k : Nat) (bs : List Bool) (w : Wl) (hb : bs.length = 10) (s0 s1 s2 s3 s4 s5 s6 s7 : Slt) : ∃ s4', loopF (forB (callF fns 1 k) (.nm 4) inB) ((List.range 10).map fun (i : Nat) => PyData.int (0 + (i : Int))) [s0, s1, s2, s3, s4, s5, s6, s7, .own (bs.map PyData.bool), .own (bs.map PyData.bool)] w = .ok .nx [s0, s1, s2, s3, s4', s5, s6, s7, .own (bs.map PyData.bool), .own (bs.map PyData.bool)] w := by
  refine all_nx (f := fun s => [s0, s1, s2, s3, s, s5, s6, s7, .own (bs.map PyData.bool), .own (bs.map PyData.bool)]) s4 w fun d hd s => ?_
  obtain ⟨i, hi, rfl⟩ := List.mem_map.mp hd
  rw [List.mem_range] at hi
  have h1 := ixB (bs := bs) (j := i) (by omega)
  rw [Int.zero_add]
  unfold forB inB
  simp only [Rx.run, sem, Sm.ex, Sm.tst, Sm.none_, vNot, vBin, vNeg, vCmp, vCmp2, vIfe, vTup, vLst, vIx, vSlc, vIsi, vBi, vLset, vLrng, vTrng, vLc, Rx.iRng1, Rx.iRng2, slotV, slotP, isNil, isNm, Rz.bnd, Rz.map, Rz.x, Xr.seq, asB, boolR, intR, Got.d, Got.slot, storeS, frzS, ownAt, ofO, noOwn, wipeS, asgG, asgGs, itemsD, List.getElem?_cons_zero, List.getElem?_cons_succ, List.set_cons_zero, List.set_cons_succ, List.length_cons, List.length_nil, if_true, if_false, Bool.false_eq_true, Bool.not_false, Bool.not_true, List.all_cons, List.all_nil, Bool.and_true, List.map_cons, List.map_nil, Nat.reduceAdd, Nat.reduceLT, Nat.zero_add, Option.toList, ix2_0, ix2_1, cm_eq, cm_ne, cm_lt, cm_le, cm_gt, cm_ge, bd_add, bd_sub, bi_len_t, bi_len_l, bi_gcd, tr_bool, h1, isiD, cm_bb, decide_true]
theorem isi_b {t : PyData} (h : noD t = true) : isiD .bool t = some (isB t) := by cases t <;> first | rfl | (cases h; done)
theorem k_row (k : Nat) (size many : Int) (t : PyData) (w : Wl) (ht : tm 3 t = true) (s0 s3 s4 s5 s6 s7 s8 s9 : Slt) : ∃ s4' s7' s8' s9', forB (callF fns 1 (k + 6)) (.nm 6) kB t [s0, .val (.int size), .val (.int many), s3, s4, s5, s6, s7, s8, s9] w = .ok .nx [s0, .val (.int size), .val (.int many), s3, s4', s5, .val t, s7', s8', s9'] w := by
  have hn := noD_of ht
  obtain ⟨s4', e⟩ := in_loop (k + 6) [isI t, isN t, isB t, isQ t, isLot size t, isDep size t, isLot many t, isSeq many t, isWts many t, isShr many t] w rfl s0 (.val (.int size)) (.val (.int many)) s3 s4 s5 (.val t) (.val (.bool (isI t)))
  refine ⟨s4', .val (.bool (isI t)), .own [.bool (isI t), .bool (isN t), .bool (isB t), .bool (isQ t), .bool (isLot size t), .bool (isDep size t), .bool (isLot many t), .bool (isSeq many t), .bool (isWts many t), .bool (isShr many t)], .own [.bool (isI t), .bool (isN t), .bool (isB t), .bool (isQ t), .bool (isLot size t), .bool (isDep size t), .bool (isLot many t), .bool (isSeq many t), .bool (isWts many t), .bool (isShr many t)], ?_⟩
  have step : ∀ (e r : T) (g : Got) (i : Nat) (sl : List Slt), (sem (callF fns 1 (k + 6)) e).v sl w = .ok g w → i < sl.length → Rx.run (callF fns 1 (k + 6)) 1 (.cons (.asg i e) r) sl w = Rx.run (callF fns 1 (k + 6)) 1 r (sl.set i g.slot) w := by
    intro e r g i sl h hi
    rw [run_cons]
    show Xr.seq (((sem (callF fns 1 (k + 6)) e).v sl w).x _) _ = _
    rw [h]
    show Xr.seq (storeS i g.slot sl w) _ = _
    unfold storeS
    rw [if_pos hi]
    rfl
  show Rx.run (callF fns 1 (k + 6)) 1 kB [s0, .val (.int size), .val (.int many), s3, s4, s5, .val t, s7, s8, s9] w = _
  unfold kB
  rw [step _ _ (.val (.bool (isI t))) 7 _ (by simp only [Rx.run, sem, Sm.ex, Sm.tst, Sm.none_, vNot, vBin, vNeg, vCmp, vCmp2, vIfe, vTup, vLst, vIx, vSlc, vIsi, vBi, vLset, vLrng, vTrng, vLc, Rx.iRng1, Rx.iRng2, slotV, slotP, isNil, isNm, Rz.bnd, Rz.map, Rz.x, Xr.seq, asB, boolR, intR, Got.d, Got.slot, storeS, frzS, ownAt, ofO, noOwn, wipeS, asgG, asgGs, itemsD, List.getElem?_cons_zero, List.getElem?_cons_succ, List.set_cons_zero, List.set_cons_succ, List.length_cons, List.length_nil, if_true, if_false, Bool.false_eq_true, Bool.not_false, Bool.not_true, List.all_cons, List.all_nil, Bool.and_true, List.map_cons, List.map_nil, Nat.reduceAdd, Nat.reduceLT, Nat.zero_add, Option.toList, ix2_0, ix2_1, cm_eq, cm_ne, cm_lt, cm_le, cm_gt, cm_ge, bd_add, bd_sub, bi_len_t, bi_len_l, bi_gcd, tr_bool, e24 (k + 5) t w hn]) (by simp)]
  show Rx.run (callF fns 1 (k + 6)) 1 _ [s0, .val (.int size), .val (.int many), s3, s4, s5, .val t, .val (.bool (isI t)), s8, s9] w = _
  rw [step _ _ (.fresh [.bool (isI t), .bool (isN t), .bool (isB t), .bool (isQ t), .bool (isLot size t), .bool (isDep size t), .bool (isLot many t), .bool (isSeq many t), .bool (isWts many t), .bool (isShr many t)]) 8 _ (by simp only [Rx.run, sem, Sm.ex, Sm.tst, Sm.none_, vNot, vBin, vNeg, vCmp, vCmp2, vIfe, vTup, vLst, vIx, vSlc, vIsi, vBi, vLset, vLrng, vTrng, vLc, Rx.iRng1, Rx.iRng2, slotV, slotP, isNil, isNm, Rz.bnd, Rz.map, Rz.x, Xr.seq, asB, boolR, intR, Got.d, Got.slot, storeS, frzS, ownAt, ofO, noOwn, wipeS, asgG, asgGs, itemsD, List.getElem?_cons_zero, List.getElem?_cons_succ, List.set_cons_zero, List.set_cons_succ, List.length_cons, List.length_nil, if_true, if_false, Bool.false_eq_true, Bool.not_false, Bool.not_true, List.all_cons, List.all_nil, Bool.and_true, List.map_cons, List.map_nil, Nat.reduceAdd, Nat.reduceLT, Nat.zero_add, Option.toList, ix2_0, ix2_1, cm_eq, cm_ne, cm_lt, cm_le, cm_gt, cm_ge, bd_add, bd_sub, bi_len_t, bi_len_l, bi_gcd, tr_bool, by2, sz10, e3 (k + 5) t w hn, e4 (k + 4) t w hn, e5 (k + 5) t w hn, e6 (k + 4) t w ht, e7 (k + 2) size t w ht, e8 (k + 1) size t w ht, e9 (k + 2) many t w ht, e10 (k + 2) many t w ht, e11 (k + 3) many t w ht, e12 (k + 3) many t w ht]) (by simp)]
  show Rx.run (callF fns 1 (k + 6)) 1 _ [s0, .val (.int size), .val (.int many), s3, s4, s5, .val t, .val (.bool (isI t)), .own [.bool (isI t), .bool (isN t), .bool (isB t), .bool (isQ t), .bool (isLot size t), .bool (isDep size t), .bool (isLot many t), .bool (isSeq many t), .bool (isWts many t), .bool (isShr many t)], s9] w = _
  rw [step _ _ (.fresh [.bool (isI t), .bool (isN t), .bool (isB t), .bool (isQ t), .bool (isLot size t), .bool (isDep size t), .bool (isLot many t), .bool (isSeq many t), .bool (isWts many t), .bool (isShr many t)]) 9 _ (by
    cases hI : isI t with
    | true =>
      cases t <;> first | (cases hI; done) | skip
      rename_i i
      simp only [Rx.run, sem, Sm.ex, Sm.tst, Sm.none_, vNot, vBin, vNeg, vCmp, vCmp2, vIfe, vTup, vLst, vIx, vSlc, vIsi, vBi, vLset, vLrng, vTrng, vLc, Rx.iRng1, Rx.iRng2, slotV, slotP, isNil, isNm, Rz.bnd, Rz.map, Rz.x, Xr.seq, asB, boolR, intR, Got.d, Got.slot, storeS, frzS, ownAt, ofO, noOwn, wipeS, asgG, asgGs, itemsD, List.getElem?_cons_zero, List.getElem?_cons_succ, List.set_cons_zero, List.set_cons_succ, List.length_cons, List.length_nil, if_true, if_false, Bool.false_eq_true, Bool.not_false, Bool.not_true, List.all_cons, List.all_nil, Bool.and_true, List.map_cons, List.map_nil, Nat.reduceAdd, Nat.reduceLT, Nat.zero_add, Option.toList, ix2_0, ix2_1, cm_eq, cm_ne, cm_lt, cm_le, cm_gt, cm_ge, bd_add, bd_sub, bi_len_t, bi_len_l, bi_gcd, tr_bool, hI, sz10, isi_b hn, isN, e25q (k + 4) (.int i) w ht, e27 (k + 4) size (.int i) w ht, e28 (k + 3) size (.int i) w ht, e27 (k + 4) many (.int i) w ht, e29 (k + 4) many (.int i) w ht, e30a (k + 3) many (.int i) w ht, e30b (k + 3) many (.int i) w ht]
    | false =>
      have hN : isN t = false := by cases t <;> first | rfl | (cases hI; done)
      simp only [Rx.run, sem, Sm.ex, Sm.tst, Sm.none_, vNot, vBin, vNeg, vCmp, vCmp2, vIfe, vTup, vLst, vIx, vSlc, vIsi, vBi, vLset, vLrng, vTrng, vLc, Rx.iRng1, Rx.iRng2, slotV, slotP, isNil, isNm, Rz.bnd, Rz.map, Rz.x, Xr.seq, asB, boolR, intR, Got.d, Got.slot, storeS, frzS, ownAt, ofO, noOwn, wipeS, asgG, asgGs, itemsD, List.getElem?_cons_zero, List.getElem?_cons_succ, List.set_cons_zero, List.set_cons_succ, List.length_cons, List.length_nil, if_true, if_false, Bool.false_eq_true, Bool.not_false, Bool.not_true, List.all_cons, List.all_nil, Bool.and_true, List.map_cons, List.map_nil, Nat.reduceAdd, Nat.reduceLT, Nat.zero_add, Option.toList, ix2_0, ix2_1, cm_eq, cm_ne, cm_lt, cm_le, cm_gt, cm_ge, bd_add, bd_sub, bi_len_t, bi_len_l, bi_gcd, tr_bool, hI, hN, sz10, isi_b hn, e25q (k + 4) t w ht, e27 (k + 4) size t w ht, e28 (k + 3) size t w ht, e27 (k + 4) many t w ht, e29 (k + 4) many t w ht, e30a (k + 3) many t w ht, e30b (k + 3) many t w ht]) (by simp)]
  show Rx.run (callF fns 1 (k + 6)) 1 _ [s0, .val (.int size), .val (.int many), s3, s4, s5, .val t, .val (.bool (isI t)), .own [.bool (isI t), .bool (isN t), .bool (isB t), .bool (isQ t), .bool (isLot size t), .bool (isDep size t), .bool (isLot many t), .bool (isSeq many t), .bool (isWts many t), .bool (isShr many t)], .own [.bool (isI t), .bool (isN t), .bool (isB t), .bool (isQ t), .bool (isLot size t), .bool (isDep size t), .bool (isLot many t), .bool (isSeq many t), .bool (isWts many t), .bool (isShr many t)]] w = _
  rw [run_cons, run_forB (items := (List.range 10).map fun (i : Nat) => PyData.int (0 + (i : Int))) (w1 := w) (by
    show ofO (rngD 0 10) w = _
    rw [rng_ok (by decide)]
    rfl)]
  show Xr.seq (loopF (forB (callF fns 1 (k + 6)) (.nm 4) inB) _ _ w) _ = _
  refine (congrArg (fun m : Xr => m.seq _) e).trans ?_
  rfl
theorem comp_inv {f : PyData → Wl → Rz (Option PyData)} (h : ∀ d w, wOk w → ∃ e w', f d w = .ok (some e) w' ∧ tm 3 e = true ∧ wOk w') : ∀ (items acc : List PyData) (w : Wl), wOk w → ∃ ds w', compF f items acc w = .ok (acc ++ ds) w' ∧ wOk w' ∧ Row items.length 3 ds
  | [], acc, w, hw => ⟨[], w, by rw [List.append_nil]; rfl, hw, .nil⟩
  | d :: r, acc, w, hw => by
    obtain ⟨e, w1, e1, t1, k1⟩ := h d w hw
    obtain ⟨ds, w2, e2, k2, r2⟩ := comp_inv h r (acc ++ [e]) w1 k1
    refine ⟨e :: ds, w2, ?_, k2, ?_, fun x hx => ?_⟩
    · show (f d w).bnd (fun o w => compF f r (acc ++ o.toList) w) = _
      rw [e1]
      show compF f r (acc ++ [e]) w1 = _
      rw [e2, List.append_assoc]
      rfl
    · have := r2.1
      simp only [List.length_cons]
      omega
    · rcases List.mem_cons.mp hx with rfl | hx
      · exact t1
      · exact r2.2 x hx
theorem c34 (k : Nat) (x : PyData) (w : Wl) : callF fns 1 (k + 1) 34 [x] w = fin (Rx.run (callF fns 1 k) 1 b__law_kinds [.val x, .no, .no, .no, .no, .no, .no, .no, .no, .no] w) := rfl
theorem e34 (k : Nat) {w : Wl} (h : wOk w) : ∃ w', callF fns 1 (k + 7) 34 [.dict []] w = .ok (.bool true) w' ∧ wOk w' := by
  obtain ⟨size, w1, p1, r1, r2, k1⟩ := e23 (m := 6) (by decide) (by decide) h
  obtain ⟨many, w2, p2, r3, r4, k2⟩ := e23 (m := 5) (by decide) (by decide) k1
  obtain ⟨ds, w3, e3', k3, hr⟩ := comp_inv (f := turnLc [4] (.nm 4) (sem (callF fns 1 (k + 6)) .nil) (sem (callF fns 1 (k + 6)) (.call 31 (.cons (.nm 0) .nil))) [.val (.dict []), .val (.int size), .val (.int many), .no, .no, .no, .no, .no, .no, .no]) (by
    intro d w hw
    obtain ⟨e, w', p, t, kk⟩ := e31 hw
    refine ⟨e, w', ?_, tm_up t, kk⟩
    simp only [turnLc, noExc, Rx.run, sem, Sm.ex, Sm.tst, Sm.none_, vNot, vBin, vNeg, vCmp, vCmp2, vIfe, vTup, vLst, vIx, vSlc, vIsi, vBi, vLset, vLrng, vTrng, vLc, Rx.iRng1, Rx.iRng2, slotV, slotP, isNil, isNm, Rz.bnd, Rz.map, Rz.x, Xr.seq, asB, boolR, intR, Got.d, Got.slot, storeS, frzS, ownAt, ofO, noOwn, wipeS, asgG, asgGs, itemsD, List.getElem?_cons_zero, List.getElem?_cons_succ, List.set_cons_zero, List.set_cons_succ, List.length_cons, List.length_nil, if_true, if_false, Bool.false_eq_true, Bool.not_false, Bool.not_true, List.all_cons, List.all_nil, Bool.and_true, List.map_cons, List.map_nil, Nat.reduceAdd, Nat.reduceLT, Nat.zero_add, Option.toList, ix2_0, ix2_1, cm_eq, cm_ne, cm_lt, cm_le, cm_gt, cm_ge, bd_add, bd_sub, bi_len_t, bi_len_l, bi_gcd, tr_bool, p]) ((List.range 6).map fun (i : Nat) => PyData.int (0 + (i : Int))) [] w2 k2
  rw [List.nil_append] at e3'
  have hr6 : rngD 0 6 = some ((List.range 6).map fun (i : Nat) => PyData.int (0 + (i : Int))) := rng_ok (by decide)
  have hr5 : rngD 0 5 = some ((List.range 5).map fun (i : Nat) => PyData.int (0 + (i : Int))) := rng_ok (by decide)
  let I : Nat → List Slt → Wl → Prop := fun n sl w => wOk w ∧ ∃ ds s5, sl = [.val (.dict []), .val (.int size), .val (.int many), .own ds, .no, s5, .no, .no, .no, .no] ∧ Row (6 + n) 3 ds
  obtain ⟨sl4, w4, e4', k4, ds2, s5, rfl, hr2⟩ := inv_loop (body := forB (callF fns 1 (k + 6)) (.nm 5) apB) (I := I) (xs := (List.range 5).map fun (i : Nat) => PyData.int (0 + (i : Int))) 0 [.val (.dict []), .val (.int size), .val (.int many), .own ds, .no, .no, .no, .no, .no, .no] w3 (by
    intro j d sl w hj hI
    obtain ⟨rfl, hj2⟩ := rg_at hj
    obtain ⟨kk, ds, s5, rfl, hd⟩ := hI
    obtain ⟨t, w', p, tt, k'⟩ := e33 (k + 3) (j : Int) size many ⟨by omega, by omega⟩ ⟨r1, by omega⟩ ⟨r3, by omega⟩ kk
    have hl : 0 + j ≤ 5 := by omega
    refine ⟨_, w', ?_, k', ds ++ [t], .val (.int j), rfl, hd.app tt⟩
    have hs : ds.length < sizeLine := szl (by have := hd.1; omega)
    unfold forB apB
    simp only [Rx.run, sem, Sm.ex, Sm.tst, Sm.none_, vNot, vBin, vNeg, vCmp, vCmp2, vIfe, vTup, vLst, vIx, vSlc, vIsi, vBi, vLset, vLrng, vTrng, vLc, Rx.iRng1, Rx.iRng2, slotV, slotP, isNil, isNm, Rz.bnd, Rz.map, Rz.x, Xr.seq, asB, boolR, intR, Got.d, Got.slot, storeS, frzS, ownAt, ofO, noOwn, wipeS, asgG, asgGs, itemsD, List.getElem?_cons_zero, List.getElem?_cons_succ, List.set_cons_zero, List.set_cons_succ, List.length_cons, List.length_nil, if_true, if_false, Bool.false_eq_true, Bool.not_false, Bool.not_true, List.all_cons, List.all_nil, Bool.and_true, List.map_cons, List.map_nil, Nat.reduceAdd, Nat.reduceLT, Nat.zero_add, Option.toList, ix2_0, ix2_1, cm_eq, cm_ne, cm_lt, cm_le, cm_gt, cm_ge, bd_add, bd_sub, bi_len_t, bi_len_l, bi_gcd, tr_bool, p, hs]) ⟨k3, ds, .no, rfl, hr⟩
  have hlen : ds2.length ≤ 11 := hr2.1
  refine ⟨w4, ?_, k4⟩
  rw [c34]
  unfold b__law_kinds
  refine asg_end (g := .val (.int size)) (w1 := w1) (by simp only [Rx.run, sem, Sm.ex, Sm.tst, Sm.none_, vNot, vBin, vNeg, vCmp, vCmp2, vIfe, vTup, vLst, vIx, vSlc, vIsi, vBi, vLset, vLrng, vTrng, vLc, Rx.iRng1, Rx.iRng2, slotV, slotP, isNil, isNm, Rz.bnd, Rz.map, Rz.x, Xr.seq, asB, boolR, intR, Got.d, Got.slot, storeS, frzS, ownAt, ofO, noOwn, wipeS, asgG, asgGs, itemsD, List.getElem?_cons_zero, List.getElem?_cons_succ, List.set_cons_zero, List.set_cons_succ, List.length_cons, List.length_nil, if_true, if_false, Bool.false_eq_true, Bool.not_false, Bool.not_true, List.all_cons, List.all_nil, Bool.and_true, List.map_cons, List.map_nil, Nat.reduceAdd, Nat.reduceLT, Nat.zero_add, Option.toList, ix2_0, ix2_1, cm_eq, cm_ne, cm_lt, cm_le, cm_gt, cm_ge, bd_add, bd_sub, bi_len_t, bi_len_l, bi_gcd, tr_bool, p1]) (by simp) ?_
  show fin (Rx.run (callF fns 1 (k + 6)) 1 _ [.val (.dict []), .val (.int size), .no, .no, .no, .no, .no, .no, .no, .no] w1) = _
  refine asg_end (g := .val (.int many)) (w1 := w2) (by simp only [Rx.run, sem, Sm.ex, Sm.tst, Sm.none_, vNot, vBin, vNeg, vCmp, vCmp2, vIfe, vTup, vLst, vIx, vSlc, vIsi, vBi, vLset, vLrng, vTrng, vLc, Rx.iRng1, Rx.iRng2, slotV, slotP, isNil, isNm, Rz.bnd, Rz.map, Rz.x, Xr.seq, asB, boolR, intR, Got.d, Got.slot, storeS, frzS, ownAt, ofO, noOwn, wipeS, asgG, asgGs, itemsD, List.getElem?_cons_zero, List.getElem?_cons_succ, List.set_cons_zero, List.set_cons_succ, List.length_cons, List.length_nil, if_true, if_false, Bool.false_eq_true, Bool.not_false, Bool.not_true, List.all_cons, List.all_nil, Bool.and_true, List.map_cons, List.map_nil, Nat.reduceAdd, Nat.reduceLT, Nat.zero_add, Option.toList, ix2_0, ix2_1, cm_eq, cm_ne, cm_lt, cm_le, cm_gt, cm_ge, bd_add, bd_sub, bi_len_t, bi_len_l, bi_gcd, tr_bool, p2]) (by simp) ?_
  show fin (Rx.run (callF fns 1 (k + 6)) 1 _ [.val (.dict []), .val (.int size), .val (.int many), .no, .no, .no, .no, .no, .no, .no] w2) = _
  refine asg_end (g := .fresh ds) (w1 := w3) ?_ (by simp) ?_
  · show vLc [4] (.nm 4) (sem (callF fns 1 (k + 6)) (.rng1 (.kI 6))) (sem (callF fns 1 (k + 6)) .nil) (sem (callF fns 1 (k + 6)) (.call 31 (.cons (.nm 0) .nil))) none [.val (.dict []), .val (.int size), .val (.int many), .no, .no, .no, .no, .no, .no, .no] w2 = _
    have hno : noOwn [4] [.val (.dict []), .val (.int size), .val (.int many), .no, .no, .no, .no, .no, .no, .no] = true := rfl
    unfold vLc
    rw [hno, if_pos rfl]
    show ((ofO (rngD 0 6) w2).bnd _).map _ = _
    rw [hr6]
    show (compF _ _ [] w2).map _ = _
    rw [e3']
    rfl
  show fin (Rx.run (callF fns 1 (k + 6)) 1 _ [.val (.dict []), .val (.int size), .val (.int many), .own ds, .no, .no, .no, .no, .no, .no] w3) = _
  refine for_end (items := (List.range 5).map fun (i : Nat) => PyData.int (0 + (i : Int))) (w1 := w3) (by
    show ofO (rngD 0 5) w3 = _
    rw [hr5]
    rfl) ?_
  refine seq_nx e4' ?_
  refine frz_end ?_
  show fin (Rx.run (callF fns 1 (k + 6)) 1 _ [.val (.dict []), .val (.int size), .val (.int many), .val (.list ds2), .no, s5, .no, .no, .no, .no] w4) = _
  refine for_end (items := ds2) (w1 := w4) rfl ?_
  let J : Nat → List Slt → Wl → Prop := fun n sl w => w = w4 ∧ ∃ s4 s6 s7 s8 s9, sl = [.val (.dict []), .val (.int size), .val (.int many), .val (.list ds2), s4, s5, s6, s7, s8, s9]
  obtain ⟨sl5, w5, e5', rfl, t4, t6, t7, t8, t9, rfl⟩ := inv_loop (body := forB (callF fns 1 (k + 6)) (.nm 6) kB) (I := J) (xs := ds2) 0 [.val (.dict []), .val (.int size), .val (.int many), .val (.list ds2), .no, s5, .no, .no, .no, .no] w4 (by
    intro j d sl w hj hI
    obtain ⟨rfl, s4, s6, s7, s8, s9, rfl⟩ := hI
    obtain ⟨a1, a2, a3, a4, e⟩ := k_row k size many d w (hr2.2 d (List.mem_of_getElem? hj)) (.val (.dict [])) (.val (.list ds2)) s4 s5 s6 s7 s8 s9
    exact ⟨_, _, e, rfl, _, _, _, _, _, rfl⟩) ⟨rfl, _, _, _, _, _, rfl⟩
  refine seq_nx e5' ?_
  rfl
end K00
set_option Elab.async false
set_option linter.all false
set_option maxRecDepth 100000
set_option maxHeartbeats 4000000
namespace K00
open PySem PySem.Spec PyProof.Rows L2 Rx
theorem c40 (k : Nat) (x : PyData) (w : Wl) : callF fns 1 (k + 1) 40 [x] w = fin (Rx.run (callF fns 1 k) 1 b__law_top [.val x, .no] w) := rfl
def reachL : List PyData := [.int 12, .int 120, .int (10 ^ 12)]
def isRe : PyData → Bool
  | .int i => decide (0 < i) && decide (i ≤ 10 ^ 12)
  | _ => false
theorem reach_d : ∀ d ∈ reachL, isRe d = true := by decide +kernel
theorem e40 (k : Nat) {w : Wl} (h : wOk w) : ∃ i w', callF fns 1 (k + 2) 40 [.dict []] w = .ok (.int i) w' ∧ B i ∧ wOk w' := by
  obtain ⟨i, w1, p1, r1, r2, k1⟩ := e23 (m := 3) (by decide) (by decide) h
  obtain ⟨u, x1, mu⟩ := ix_mem (xs := reachL) (i := i) ⟨r1, r2⟩
  have hu := reach_d u mu
  cases u <;> first | (cases hu; done) | skip
  rename_i q
  replace hu : (decide (0 < q) && decide (q ≤ 10 ^ 12)) = true := hu
  simp only [Bool.and_eq_true, decide_eq_true_eq] at hu
  obtain ⟨j, w2, p2, r3, r4, k2⟩ := e23 (m := 2 * q + 1) (by omega) (by omega) k1
  refine ⟨j - q, w2, ?_, by unfold B; omega, k2⟩
  rw [c40]
  unfold b__law_top
  refine asg_end (g := .val (.int q)) (w1 := w1) (by simp only [Rx.run, sem, Sm.ex, Sm.tst, Sm.none_, vNot, vBin, vNeg, vCmp, vCmp2, vIfe, vTup, vLst, vIx, vSlc, vIsi, vBi, vLset, vLrng, vTrng, vLc, Rx.iRng1, Rx.iRng2, slotV, slotP, isNil, isNm, Rz.bnd, Rz.map, Rz.x, Xr.seq, asB, boolR, intR, Got.d, Got.slot, storeS, frzS, ownAt, ofO, noOwn, wipeS, asgG, asgGs, itemsD, List.getElem?_cons_zero, List.getElem?_cons_succ, List.set_cons_zero, List.set_cons_succ, List.length_cons, List.length_nil, if_true, if_false, Bool.false_eq_true, Bool.not_false, Bool.not_true, List.all_cons, List.all_nil, Bool.and_true, List.map_cons, List.map_nil, Nat.reduceAdd, Nat.reduceLT, Nat.zero_add, Option.toList, ix2_0, ix2_1, cm_eq, cm_ne, cm_lt, cm_le, cm_gt, cm_ge, bd_add, bd_sub, bi_len_t, bi_len_l, bi_gcd, tr_bool, p1012, sz3, p1, show ixD (.tuple [.int 12, .int 120, .int (10 ^ 12)]) (.int i) = some (.int q) from x1]) (by simp) ?_
  show fin (Rx.run (callF fns 1 (k + 1)) 1 _ [.val (.dict []), .val (.int q)] w1) = _
  have m1 : binD .mul (.int 2) (.int q) = some (.val (.int (2 * q))) := bdm (m := 2) (n := 41) (by decide) (by omega) (by decide) (by decide)
  exact ret_end (g := .val (.int (j - q))) (by simp only [Rx.run, sem, Sm.ex, Sm.tst, Sm.none_, vNot, vBin, vNeg, vCmp, vCmp2, vIfe, vTup, vLst, vIx, vSlc, vIsi, vBi, vLset, vLrng, vTrng, vLc, Rx.iRng1, Rx.iRng2, slotV, slotP, isNil, isNm, Rz.bnd, Rz.map, Rz.x, Xr.seq, asB, boolR, intR, Got.d, Got.slot, storeS, frzS, ownAt, ofO, noOwn, wipeS, asgG, asgGs, itemsD, List.getElem?_cons_zero, List.getElem?_cons_succ, List.set_cons_zero, List.set_cons_succ, List.length_cons, List.length_nil, if_true, if_false, Bool.false_eq_true, Bool.not_false, Bool.not_true, List.all_cons, List.all_nil, Bool.and_true, List.map_cons, List.map_nil, Nat.reduceAdd, Nat.reduceLT, Nat.zero_add, Option.toList, ix2_0, ix2_1, cm_eq, cm_ne, cm_lt, cm_le, cm_gt, cm_ge, bd_add, bd_sub, bi_len_t, bi_len_l, bi_gcd, tr_bool, m1, p2])
def sixL : List PyData := [.int 6, .int 60]
def isSix : PyData → Bool
  | .int i => decide (0 < i) && decide (i ≤ 60)
  | _ => false
theorem six_d : ∀ d ∈ sixL, isSix d = true := by decide +kernel
def nearS : T := (.ifs (.cmp .lt (.nm 6) (.kI 2)) (.cons (.asg 4 (.ife (.cmp .eq (.nm 6) (.kI 0)) (.nm 2) (.neg (.nm 2)))) (.cons (.asg 5 (.nm 3)) .nil)) (.cons (.ifs (.cmp .eq (.nm 6) (.kI 2)) (.cons (.asg 4 (.kI 0)) .nil) .nil) .nil))
def lawSl (a b c d n : Int) : List Slt := [.no, .val (.dict []), .val (.int a), .val (.int b), .val (.int c), .val (.int d), .val (.int n)]
theorem near_ok (k : Nat) {a b c d n : Int} (w : Wl) (ha : B a) (hc : B c) (hb : 1 ≤ b ∧ b ≤ 60) (hd : 1 ≤ d ∧ d ≤ 60) (hn : 0 ≤ n) : ∃ c' d', B c' ∧ (1 ≤ d' ∧ d' ≤ 60) ∧ Rx.run (callF fns 1 k) 1 nearS (lawSl a b c d n) w = .ok .nx (lawSl a b c' d' n) w := by
  unfold nearS lawSl
  have hz : n = 0 ∨ n = 1 ∨ n = 2 ∨ 2 < n := by omega
  rcases hz with rfl | rfl | rfl | hz
  · exact ⟨a, b, ha, hb, by simp only [Rx.run, sem, Sm.ex, Sm.tst, Sm.none_, vNot, vBin, vNeg, vCmp, vCmp2, vIfe, vTup, vLst, vIx, vSlc, vIsi, vBi, vLset, vLrng, vTrng, vLc, Rx.iRng1, Rx.iRng2, slotV, slotP, isNil, isNm, Rz.bnd, Rz.map, Rz.x, Xr.seq, asB, boolR, intR, Got.d, Got.slot, storeS, frzS, ownAt, ofO, noOwn, wipeS, asgG, asgGs, itemsD, List.getElem?_cons_zero, List.getElem?_cons_succ, List.set_cons_zero, List.set_cons_succ, List.length_cons, List.length_nil, if_true, if_false, Bool.false_eq_true, Bool.not_false, Bool.not_true, List.all_cons, List.all_nil, Bool.and_true, List.map_cons, List.map_nil, Nat.reduceAdd, Nat.reduceLT, Nat.zero_add, Option.toList, ix2_0, ix2_1, cm_eq, cm_ne, cm_lt, cm_le, cm_gt, cm_ge, bd_add, bd_sub, bi_len_t, bi_len_l, bi_gcd, tr_bool, Int.reduceEq, Int.reduceLT, decide_true, decide_false]⟩
  · exact ⟨-a, b, Bneg ha, hb, by simp only [Rx.run, sem, Sm.ex, Sm.tst, Sm.none_, vNot, vBin, vNeg, vCmp, vCmp2, vIfe, vTup, vLst, vIx, vSlc, vIsi, vBi, vLset, vLrng, vTrng, vLc, Rx.iRng1, Rx.iRng2, slotV, slotP, isNil, isNm, Rz.bnd, Rz.map, Rz.x, Xr.seq, asB, boolR, intR, Got.d, Got.slot, storeS, frzS, ownAt, ofO, noOwn, wipeS, asgG, asgGs, itemsD, List.getElem?_cons_zero, List.getElem?_cons_succ, List.set_cons_zero, List.set_cons_succ, List.length_cons, List.length_nil, if_true, if_false, Bool.false_eq_true, Bool.not_false, Bool.not_true, List.all_cons, List.all_nil, Bool.and_true, List.map_cons, List.map_nil, Nat.reduceAdd, Nat.reduceLT, Nat.zero_add, Option.toList, ix2_0, ix2_1, cm_eq, cm_ne, cm_lt, cm_le, cm_gt, cm_ge, bd_add, bd_sub, bi_len_t, bi_len_l, bi_gcd, tr_bool, Int.reduceEq, Int.reduceLT, decide_true, decide_false]⟩
  · exact ⟨0, d, by unfold B; decide, hd, by simp only [Rx.run, sem, Sm.ex, Sm.tst, Sm.none_, vNot, vBin, vNeg, vCmp, vCmp2, vIfe, vTup, vLst, vIx, vSlc, vIsi, vBi, vLset, vLrng, vTrng, vLc, Rx.iRng1, Rx.iRng2, slotV, slotP, isNil, isNm, Rz.bnd, Rz.map, Rz.x, Xr.seq, asB, boolR, intR, Got.d, Got.slot, storeS, frzS, ownAt, ofO, noOwn, wipeS, asgG, asgGs, itemsD, List.getElem?_cons_zero, List.getElem?_cons_succ, List.set_cons_zero, List.set_cons_succ, List.length_cons, List.length_nil, if_true, if_false, Bool.false_eq_true, Bool.not_false, Bool.not_true, List.all_cons, List.all_nil, Bool.and_true, List.map_cons, List.map_nil, Nat.reduceAdd, Nat.reduceLT, Nat.zero_add, Option.toList, ix2_0, ix2_1, cm_eq, cm_ne, cm_lt, cm_le, cm_gt, cm_ge, bd_add, bd_sub, bi_len_t, bi_len_l, bi_gcd, tr_bool, Int.reduceEq, Int.reduceLT, decide_true, decide_false]⟩
  · exact ⟨c, d, hc, hd, by simp only [Rx.run, sem, Sm.ex, Sm.tst, Sm.none_, vNot, vBin, vNeg, vCmp, vCmp2, vIfe, vTup, vLst, vIx, vSlc, vIsi, vBi, vLset, vLrng, vTrng, vLc, Rx.iRng1, Rx.iRng2, slotV, slotP, isNil, isNm, Rz.bnd, Rz.map, Rz.x, Xr.seq, asB, boolR, intR, Got.d, Got.slot, storeS, frzS, ownAt, ofO, noOwn, wipeS, asgG, asgGs, itemsD, List.getElem?_cons_zero, List.getElem?_cons_succ, List.set_cons_zero, List.set_cons_succ, List.length_cons, List.length_nil, if_true, if_false, Bool.false_eq_true, Bool.not_false, Bool.not_true, List.all_cons, List.all_nil, Bool.and_true, List.map_cons, List.map_nil, Nat.reduceAdd, Nat.reduceLT, Nat.zero_add, Option.toList, ix2_0, ix2_1, cm_eq, cm_ne, cm_lt, cm_le, cm_gt, cm_ge, bd_add, bd_sub, bi_len_t, bi_len_l, bi_gcd, tr_bool, dc_f (show ¬ n < 2 by omega), dc_f (show ¬ n = 2 by omega)]⟩
theorem fin_true {m : Xr} {w' : Wl} (h : fin m = .ok (.bool true) w') : ∃ sl', m = .ok (.ret (.bool true)) sl' w' := by
  cases m with
  | ok f sl w =>
    cases f with
    | ret d =>
      injection h with h1 h2
      exact ⟨sl, by rw [h1, h2]⟩
    | nx => injection h with h1 h2; cases h1
    | _ => cases h
  | _ => cases h
theorem b_draw (k : Nat) {w : Wl} (i : Nat) (r : T) (sl : List Slt) (h : wOk w) (hs : sl[1]? = some (.val (.dict []))) : ∃ b w', (sem (callF fns 1 (k + 1)) (.bin .add (.kI 1) (.call 23 (.cons (.nm 1) (.cons (.ix (.tup (.cons (.kI 6) (.cons (.kI 60) .nil))) (.call 23 (.cons (.nm 1) (.cons (.kI 2) .nil)))) .nil))))).v sl w = .ok (.val (.int b)) w' ∧ (1 ≤ b ∧ b ≤ 60) ∧ wOk w' := by
  obtain ⟨i, w1, p1, r1, r2, k1⟩ := e23 (m := 2) (by decide) (by decide) h
  obtain ⟨u, x1, mu⟩ := ix_mem (xs := sixL) (i := i) ⟨r1, r2⟩
  have hu := six_d u mu
  cases u <;> first | (cases hu; done) | skip
  rename_i q
  replace hu : (decide (0 < q) && decide (q ≤ 60)) = true := hu
  simp only [Bool.and_eq_true, decide_eq_true_eq] at hu
  obtain ⟨j, w2, p2, r3, r4, k2⟩ := e23 (m := q) (by omega) (by omega) k1
  refine ⟨1 + j, w2, ?_, by omega, k2⟩
  simp only [Rx.run, sem, Sm.ex, Sm.tst, Sm.none_, vNot, vBin, vNeg, vCmp, vCmp2, vIfe, vTup, vLst, vIx, vSlc, vIsi, vBi, vLset, vLrng, vTrng, vLc, Rx.iRng1, Rx.iRng2, slotV, slotP, isNil, isNm, Rz.bnd, Rz.map, Rz.x, Xr.seq, asB, boolR, intR, Got.d, Got.slot, storeS, frzS, ownAt, ofO, noOwn, wipeS, asgG, asgGs, itemsD, List.getElem?_cons_zero, List.getElem?_cons_succ, List.set_cons_zero, List.set_cons_succ, List.length_cons, List.length_nil, if_true, if_false, Bool.false_eq_true, Bool.not_false, Bool.not_true, List.all_cons, List.all_nil, Bool.and_true, List.map_cons, List.map_nil, Nat.reduceAdd, Nat.reduceLT, Nat.zero_add, Option.toList, ix2_0, ix2_1, cm_eq, cm_ne, cm_lt, cm_le, cm_gt, cm_ge, bd_add, bd_sub, bi_len_t, bi_len_l, bi_gcd, tr_bool, hs, sz2, p1, show ixD (.tuple [.int 6, .int 60]) (.int i) = some (.int q) from x1, p2]
theorem main_eval {w : Wl} (h : wOk w) : ∃ sl' w', Rx.run (callF fns 1 12) 1 b_law [.no, .val (.dict []), .no, .no, .no, .no, .no] w = .ok (.ret (.bool true)) sl' w' := by
  obtain ⟨a, w1, p1, ha, k1⟩ := e40 10 h
  obtain ⟨b, w2, p2, hb, k2⟩ := b_draw 11 0 .nil [.no, .val (.dict []), .val (.int a), .no, .no, .no, .no] k1 rfl
  obtain ⟨c, w3, p3, hc, k3⟩ := e40 10 k2
  obtain ⟨d, w4, p4, hd, k4⟩ := b_draw 11 0 .nil [.no, .val (.dict []), .val (.int a), .val (.int b), .val (.int c), .no, .no] k3 rfl
  obtain ⟨n, w5, p5, r5, r6, k5⟩ := e23 (m := 8) (by decide) (by decide) k4
  obtain ⟨c', d', hc', hd', en⟩ := near_ok 12 (n := n) w5 ha hc hb hd r5
  obtain ⟨v1, E1, F1⟩ := e14 (a := a) (pos_ne hb.1) ha (B60 b hb.1 hb.2) (by decide)
  obtain ⟨v2, E2, F2⟩ := e14 (a := c') (pos_ne hd'.1) hc' (B60 d' hd'.1 hd'.2) (by decide)
  obtain ⟨q1, q2, _⟩ := fr_q F1
  obtain ⟨q3, q4, _⟩ := fr_q F2
  obtain ⟨w6, k6, p6⟩ := e37 6 w5 k5 q1 q2 q4
  obtain ⟨w7, p7, k7⟩ := e34 5 k6
  have s1 := fun w => e39 2 w ha hc' hb hd'
  have s2 := fun w => e39 2 w hc' ha hd' hb
  suffices hf : fin (Rx.run (callF fns 1 12) 1 b_law [.no, .val (.dict []), .no, .no, .no, .no, .no] w) = .ok (.bool true) w7 by
    obtain ⟨sl', e⟩ := fin_true hf
    exact ⟨sl', w7, e⟩
  unfold b_law
  refine asg_end (g := .val (.int a)) (w1 := w1) (by simp only [Rx.run, sem, Sm.ex, Sm.tst, Sm.none_, vNot, vBin, vNeg, vCmp, vCmp2, vIfe, vTup, vLst, vIx, vSlc, vIsi, vBi, vLset, vLrng, vTrng, vLc, Rx.iRng1, Rx.iRng2, slotV, slotP, isNil, isNm, Rz.bnd, Rz.map, Rz.x, Xr.seq, asB, boolR, intR, Got.d, Got.slot, storeS, frzS, ownAt, ofO, noOwn, wipeS, asgG, asgGs, itemsD, List.getElem?_cons_zero, List.getElem?_cons_succ, List.set_cons_zero, List.set_cons_succ, List.length_cons, List.length_nil, if_true, if_false, Bool.false_eq_true, Bool.not_false, Bool.not_true, List.all_cons, List.all_nil, Bool.and_true, List.map_cons, List.map_nil, Nat.reduceAdd, Nat.reduceLT, Nat.zero_add, Option.toList, ix2_0, ix2_1, cm_eq, cm_ne, cm_lt, cm_le, cm_gt, cm_ge, bd_add, bd_sub, bi_len_t, bi_len_l, bi_gcd, tr_bool, p1]) (by simp) ?_
  show fin (Rx.run (callF fns 1 12) 1 _ [.no, .val (.dict []), .val (.int a), .no, .no, .no, .no] w1) = _
  refine asg_end (g := .val (.int b)) (w1 := w2) p2 (by simp) ?_
  show fin (Rx.run (callF fns 1 12) 1 _ [.no, .val (.dict []), .val (.int a), .val (.int b), .no, .no, .no] w2) = _
  refine asg_end (g := .val (.int c)) (w1 := w3) (by simp only [Rx.run, sem, Sm.ex, Sm.tst, Sm.none_, vNot, vBin, vNeg, vCmp, vCmp2, vIfe, vTup, vLst, vIx, vSlc, vIsi, vBi, vLset, vLrng, vTrng, vLc, Rx.iRng1, Rx.iRng2, slotV, slotP, isNil, isNm, Rz.bnd, Rz.map, Rz.x, Xr.seq, asB, boolR, intR, Got.d, Got.slot, storeS, frzS, ownAt, ofO, noOwn, wipeS, asgG, asgGs, itemsD, List.getElem?_cons_zero, List.getElem?_cons_succ, List.set_cons_zero, List.set_cons_succ, List.length_cons, List.length_nil, if_true, if_false, Bool.false_eq_true, Bool.not_false, Bool.not_true, List.all_cons, List.all_nil, Bool.and_true, List.map_cons, List.map_nil, Nat.reduceAdd, Nat.reduceLT, Nat.zero_add, Option.toList, ix2_0, ix2_1, cm_eq, cm_ne, cm_lt, cm_le, cm_gt, cm_ge, bd_add, bd_sub, bi_len_t, bi_len_l, bi_gcd, tr_bool, p3]) (by simp) ?_
  show fin (Rx.run (callF fns 1 12) 1 _ [.no, .val (.dict []), .val (.int a), .val (.int b), .val (.int c), .no, .no] w3) = _
  refine asg_end (g := .val (.int d)) (w1 := w4) p4 (by simp) ?_
  show fin (Rx.run (callF fns 1 12) 1 _ [.no, .val (.dict []), .val (.int a), .val (.int b), .val (.int c), .val (.int d), .no] w4) = _
  refine asg_end (g := .val (.int n)) (w1 := w5) (by simp only [Rx.run, sem, Sm.ex, Sm.tst, Sm.none_, vNot, vBin, vNeg, vCmp, vCmp2, vIfe, vTup, vLst, vIx, vSlc, vIsi, vBi, vLset, vLrng, vTrng, vLc, Rx.iRng1, Rx.iRng2, slotV, slotP, isNil, isNm, Rz.bnd, Rz.map, Rz.x, Xr.seq, asB, boolR, intR, Got.d, Got.slot, storeS, frzS, ownAt, ofO, noOwn, wipeS, asgG, asgGs, itemsD, List.getElem?_cons_zero, List.getElem?_cons_succ, List.set_cons_zero, List.set_cons_succ, List.length_cons, List.length_nil, if_true, if_false, Bool.false_eq_true, Bool.not_false, Bool.not_true, List.all_cons, List.all_nil, Bool.and_true, List.map_cons, List.map_nil, Nat.reduceAdd, Nat.reduceLT, Nat.zero_add, Option.toList, ix2_0, ix2_1, cm_eq, cm_ne, cm_lt, cm_le, cm_gt, cm_ge, bd_add, bd_sub, bi_len_t, bi_len_l, bi_gcd, tr_bool, p5 11]) (by simp) ?_
  show fin (Rx.run (callF fns 1 12) 1 (.cons nearS _) (lawSl a b c d n) w5) = _
  rw [run_cons]
  refine seq_nx en ?_
  unfold lawSl
  refine ifn_end (w1 := w6) (by simp only [Rx.run, sem, Sm.ex, Sm.tst, Sm.none_, vNot, vBin, vNeg, vCmp, vCmp2, vIfe, vTup, vLst, vIx, vSlc, vIsi, vBi, vLset, vLrng, vTrng, vLc, Rx.iRng1, Rx.iRng2, slotV, slotP, isNil, isNm, Rz.bnd, Rz.map, Rz.x, Xr.seq, asB, boolR, intR, Got.d, Got.slot, storeS, frzS, ownAt, ofO, noOwn, wipeS, asgG, asgGs, itemsD, List.getElem?_cons_zero, List.getElem?_cons_succ, List.set_cons_zero, List.set_cons_succ, List.length_cons, List.length_nil, if_true, if_false, Bool.false_eq_true, Bool.not_false, Bool.not_true, List.all_cons, List.all_nil, Bool.and_true, List.map_cons, List.map_nil, Nat.reduceAdd, Nat.reduceLT, Nat.zero_add, Option.toList, ix2_0, ix2_1, cm_eq, cm_ne, cm_lt, cm_le, cm_gt, cm_ge, bd_add, bd_sub, bi_len_t, bi_len_l, bi_gcd, tr_bool, s1 w5, E1 8 w5, E2 8 w5, p6]) ?_
  exact ret_end (g := .val (.bool true)) (by simp only [Rx.run, sem, Sm.ex, Sm.tst, Sm.none_, vNot, vBin, vNeg, vCmp, vCmp2, vIfe, vTup, vLst, vIx, vSlc, vIsi, vBi, vLset, vLrng, vTrng, vLc, Rx.iRng1, Rx.iRng2, slotV, slotP, isNil, isNm, Rz.bnd, Rz.map, Rz.x, Xr.seq, asB, boolR, intR, Got.d, Got.slot, storeS, frzS, ownAt, ofO, noOwn, wipeS, asgG, asgGs, itemsD, List.getElem?_cons_zero, List.getElem?_cons_succ, List.set_cons_zero, List.set_cons_succ, List.length_cons, List.length_nil, if_true, if_false, Bool.false_eq_true, Bool.not_false, Bool.not_true, List.all_cons, List.all_nil, Bool.and_true, List.map_cons, List.map_nil, Nat.reduceAdd, Nat.reduceLT, Nat.zero_add, Option.toList, ix2_0, ix2_1, cm_eq, cm_ne, cm_lt, cm_le, cm_gt, cm_ge, bd_add, bd_sub, bi_len_t, bi_len_l, bi_gcd, tr_bool, p7, s2 w7])
end K00
set_option Elab.async false
set_option linter.all false
set_option maxRecDepth 100000
set_option maxHeartbeats 4000000
namespace K00
open PySem PySem.Spec PyProof.Rows L2 Rx
/-! ### the end: the law's def -/
theorem pss_ex {X : Cx} {ss : List Stmt} : PSs X ss (fun D σ H => ∃ t, PSs X ss t ∧ t D σ H) := ⟨fun pins s σ H D I h => by
  obtain ⟨t, ht, h⟩ := h
  exact ht.run pins s σ H D I h⟩
def spLaw (K : PySem.W.Frag) : Sp := fun vs H Q _ => ∃ (a : Addr) (ns : List Int), vs = [.ref a] ∧ SqL K H a (ns.map V.int) ∧ ns.length ≤ 63 ∧ ∀ H', Q (.bl true) H'
section
variable {P : Program} {wd : World} {K : PySem.W.Frag} {mg : Str → Option Value} {base : Heap} {exA : Nat → Addr} {exF : Nat → List Str}
theorem rel_law {H H' : Hp} {p q : Addr} {gs : List Int} {sd : Int} {σ : L2.St} (hp : H p = none) (hq : H q = none) (S : L2.Same H H') (h1 : H' p = some (.lst [.ref q, .int sd])) (h2 : H' q = some (.lst (gs.map V.int))) (hl : σ.length = 7) (hs : σ[1]? = some (some (.ref p))) :
    Rel p q K H H' H H' σ [.no, .val (.dict []), .no, .no, .no, .no, .no] (gs, sd) := by
  refine ⟨⟨S, fun _ _ h => h, fun _ _ h _ _ => h, fun _ _ h => h, h1, h2, hp, hq⟩, fun i d e => ?_, fun i ds e => ?_, fun i j ds es a e _ _ _ => ?_, hl⟩
  · match i, e with
    | 1, e =>
      cases e
      exact ⟨_, hs, .wel⟩
    | 0, e => cases e
    | 2, e => cases e
    | 3, e => cases e
    | 4, e => cases e
    | 5, e => cases e
    | 6, e => cases e
    | n + 7, e => cases e
  · match i, e with
    | 0, e => cases e
    | 1, e => cases e
    | 2, e => cases e
    | 3, e => cases e
    | 4, e => cases e
    | 5, e => cases e
    | 6, e => cases e
    | n + 7, e => cases e
  · match i, e with
    | 0, e => cases e
    | 1, e => cases e
    | 2, e => cases e
    | 3, e => cases e
    | 4, e => cases e
    | 5, e => cases e
    | 6, e => cases e
    | n + 7, e => cases e
def sLaw0 : Stmt := (defBody (top 51)).headD (.Pass ⟨0, 0, 0, 0⟩)
theorem law_split : defBody (top 51) = sLaw0 :: (defBody (top 51)).drop 1 := rfl
theorem law_ok {f fw : Addr} {fd fdw : FuncData} (F : Fun K "law" "law" (top 51) f fd) (FW : Fun K "_law_well" "_law_well" sWell fw fdw) (gw : mg "_law_well" = some (.ref fw)) (bw : Binds K fdw ["_law_script"] []) (zi : mg "int" = none) (za : mg "abs" = none)
    (T : ∀ aw ag, GloT P wd K mg base tb fns aw ag exA exF) : FnOk P wd K mg base (L2.CX P wd) 15 f fd ["_law_script"] (spLaw K) := by
  refine F.okX sc_law (fun vs H Q E h => ?_) fun cdv A outer s H vs Q E hr h => ?_
  · obtain ⟨a, ns, rfl, _⟩ := h
    rfl
  rw [law_split]
  have hr2 : Room 2 (A.deeper (envOfC "law" (defScope (top 51)) s.heap.objs.size f cdv)) := hr.mono (by decide)
  refine ⟨tSeq (tAsg (tCallS (spWell K) (WE (fun cls d _ H => E cls d H)) (tCons (tVar 0) tNil)) (gName 1)) _, pss_cons (ps_set (i := 1) sc_law.nd rfl (.inl rfl) (pe_callS (well_ok FW zi za) hr2 rfl gw FW.kp bw (fun σ => passAt (takes_of rfl rfl rfl rfl) σ) (by exact pa_cons (pv 0) pa_nil))) pss_ex, ?_⟩
  obtain ⟨a, ns, rfl, hS, hl, k⟩ := h
  refine ⟨_, rfl, a, ns, rfl, hS, hl, fun H' p q gs sd hp hq hpq S h1 h2 h3 h4 h5 => ?_⟩
  obtain ⟨ts, t1, t2⟩ := (oks_all (wf := 1) (glo_all (wf := 1) (T p q) 12) (by decide) b_law).b ⟨N_law, defScope (top 51), fun _ => true⟩ (fun cls d _ H => E cls d H) _ ck_law
  refine ⟨ts, t1 _ (ctx_of sc_law hr), ?_⟩
  obtain ⟨sl', w', e⟩ := main_eval (w := (gs, sd)) ⟨h4, by show sd < 2147483648; omega, by show gs.length ≤ 1000; omega⟩
  refine t2 H H' H H' _ _ (gs, sd) _ (rel_law hp hq S h1 h2 rfl rfl) ?_
  rw [e]
  intro v G' H2 B2 S2 r
  rw [r.bl_inv]
  exact k H2
/-! ### the table of the defs -/
def EntF (P : Program) (wd : World) (K : PySem.W.Frag) (mg : Str → Option Value) (base : Heap) (aw ag : Addr) (exA : Nat → Addr) (exF : Nat → List Str) (i : Nat) (x : Str) (ps : List Str) (F : Fn) : Prop :=
  F.np = ps.length ∧ ((F.prim = none ∧ FnT K mg tb i x ps F) ∨ ∃ g, F.prim = some g ∧ PrT P wd K mg base tb aw ag exA exF i x ps g)
def AllF (P : Program) (wd : World) (K : PySem.W.Frag) (mg : Str → Option Value) (base : Heap) (aw ag : Addr) (exA : Nat → Addr) (exF : Nat → List Str) : Nat → List (Str × List Str) → List Fn → Prop
  | _, [], _ => True
  | _, _ :: _, [] => False
  | i, (x, ps) :: r, F :: fs => EntF P wd K mg base aw ag exA exF i x ps F ∧ AllF P wd K mg base aw ag exA exF (i + 1) r fs
theorem AllF.get {aw ag : Addr} : ∀ {xs : List (Str × List Str)} {fs : List Fn} {i j : Nat} {x : Str} {ps : List Str}, AllF P wd K mg base aw ag exA exF i xs fs → xs[j]? = some (x, ps) → ∃ F, fs[j]? = some F ∧ EntF P wd K mg base aw ag exA exF (i + j) x ps F
  | [], _, _, _, _, _, _, h => by cases h
  | _ :: _, [], _, _, _, _, a, _ => a.elim
  | (x, ps) :: r, F :: fs, i, 0, _, _, a, h => by
    cases h
    exact ⟨F, rfl, a.1⟩
  | (x, ps) :: r, F :: fs, i, j + 1, _, _, a, h => by
    obtain ⟨F', h1, h2⟩ := AllF.get a.2 (j := j) h
    rw [show i + (j + 1) = i + 1 + j by omega]
    exact ⟨F', h1, h2⟩
/-- the error's class, as the top leaves it -/
structure ExF (P : Program) (wd : World) (K : PySem.W.Frag) (mg : Str → Option Value) (C fI : Addr) : Prop where
  g : mg "NotUsable" = some (.ref C)
  o : OexC K C
  x : XfC K C
  n0 : PySem.W.findIn K (.ref C) "word" = some none
  n1 : PySem.W.findIn K (.ref C) "at" = some none
  te : PySem.W.exmOne K (.ref C) (.ref C) = some true
  i : PySem.W.findIn K (.ref C) "__init__" = some (some (.ref fI))
  t : PySem.W.typeIn K (.ref fI) = some (.type "function")
  f : ∃ fd, Fun K "__init__" "NotUsable.__init__" sInit fI fd
theorem gloT_mk {C fI : Addr} (z_len : mg "len" = none) (z_all : mg "all" = none) (z_any : mg "any" = none) (z_abs : mg "abs" = none) (z_int : mg "int" = none) (z_tuple : mg "tuple" = none) (z_list : mg "list" = none) (z_sorted : mg "sorted" = none) (z_max : mg "max" = none) (z_min : mg "min" = none) (z_sum : mg "sum" = none) (z_isinstance : mg "isinstance" = none) (z_range : mg "range" = none) (z_set : mg "set" = none) (z_bool : mg "bool" = none) (z_str : mg "str" = none) (zg : mg "gcd" = some (.builtin "math.gcd")) (X : ExF P wd K mg C fI) (d0 : DefF K mg "need" (top 6)) (d1 : DefF K mg "is_tuple_of" (top 7)) (d2 : DefF K mg "ascends" (top 8)) (d3 : DefF K mg "is_integer" (top 10)) (d4 : DefF K mg "is_number" (top 11)) (d5 : DefF K mg "is_word" (top 12)) (d6 : DefF K mg "is_quotient" (top 13)) (d7 : DefF K mg "is_lot" (top 14)) (d8 : DefF K mg "is_dependence" (top 15)) (d9 : DefF K mg "is_group" (top 16)) (d10 : DefF K mg "is_sequence" (top 17)) (d11 : DefF K mg "is_weights" (top 18)) (d12 : DefF K mg "is_shares" (top 19)) (d13 : DefF K mg "are_numbers_below" (top 20)) (d14 : DefF K mg "quotient_of" (top 22)) (d15 : DefF K mg "plus" (top 23)) (d16 : DefF K mg "minus" (top 24)) (d17 : DefF K mg "times" (top 25)) (d18 : DefF K mg "over" (top 26)) (d19 : DefF K mg "at_most" (top 27)) (d20 : DefF K mg "rounded_up" (top 28)) (d21 : DefF K mg "need_two" (top 29)) (d22 : DefF K mg "lowest" (top 30)) (d23 : DefF K mg "_law_pick" (top 33)) (d24 : DefF K mg "_law_whole" (top 34)) (d25 : DefF K mg "_law_lowest" (top 35)) (d26 : DefF K mg "_law_stands" (top 36)) (d27 : DefF K mg "_law_ascending" (top 37)) (d28 : DefF K mg "_law_pair" (top 38)) (d29 : DefF K mg "_law_once" (top 39)) (d30 : DefF K mg "_law_each" (top 40)) (d31 : DefF K mg "_law_odd" (top 41)) (d32 : DefF K mg "_law_columns" (top 42)) (d33 : DefF K mg "_law_thing" (top 43)) (d34 : DefF K mg "_law_kinds" (top 44)) (d35 : DefF K mg "_law_ask" (top 45)) (d36 : DefF K mg "_law_refused" (top 46)) (d37 : DefF K mg "_law_refusals" (top 47)) (d38 : DefF K mg "_law_each_word" (top 48)) (d39 : DefF K mg "_law_sums" (top 49)) (d40 : DefF K mg "_law_top" (top 50)) (aw ag : Addr) : GloT P wd K mg base tb fns aw ag (fun _ => C) (fun _ => ["word", "at"]) := by
  have hp : PrT P wd K mg base tb aw ag (fun _ => C) (fun _ => ["word", "at"]) 23 "_law_pick" [PySem.Str.ofString "_law_well_here", PySem.Str.ofString "_law_many"] pickD := by
    obtain ⟨f, fd, h1, h2⟩ := d23
    exact ⟨f, fd, h1, h2.kp, h2.binds fun _ _ _ _ _ _ us hl => match us, hl with | [_, _], _ => rfl, fun ks h => by simp [tb] at h, pick_ok h2 z_int⟩
  have all : AllF P wd K mg base aw ag (fun _ => C) (fun _ => ["word", "at"]) 0 tb.fns fns := ⟨⟨rfl, .inl ⟨rfl, ft_need d0⟩⟩, ⟨rfl, .inl ⟨rfl, ft_is_tuple_of d1⟩⟩, ⟨rfl, .inl ⟨rfl, ft_ascends d2⟩⟩, ⟨rfl, .inl ⟨rfl, ft_is_integer d3⟩⟩, ⟨rfl, .inl ⟨rfl, ft_is_number d4⟩⟩, ⟨rfl, .inl ⟨rfl, ft_is_word d5⟩⟩, ⟨rfl, .inl ⟨rfl, ft_is_quotient d6⟩⟩, ⟨rfl, .inl ⟨rfl, ft_is_lot d7⟩⟩, ⟨rfl, .inl ⟨rfl, ft_is_dependence d8⟩⟩, ⟨rfl, .inl ⟨rfl, ft_is_group d9⟩⟩, ⟨rfl, .inl ⟨rfl, ft_is_sequence d10⟩⟩, ⟨rfl, .inl ⟨rfl, ft_is_weights d11⟩⟩, ⟨rfl, .inl ⟨rfl, ft_is_shares d12⟩⟩, ⟨rfl, .inl ⟨rfl, ft_are_numbers_below d13⟩⟩, ⟨rfl, .inl ⟨rfl, ft_quotient_of d14⟩⟩, ⟨rfl, .inl ⟨rfl, ft_plus d15⟩⟩, ⟨rfl, .inl ⟨rfl, ft_minus d16⟩⟩, ⟨rfl, .inl ⟨rfl, ft_times d17⟩⟩, ⟨rfl, .inl ⟨rfl, ft_over d18⟩⟩, ⟨rfl, .inl ⟨rfl, ft_at_most d19⟩⟩, ⟨rfl, .inl ⟨rfl, ft_rounded_up d20⟩⟩, ⟨rfl, .inl ⟨rfl, ft_need_two d21⟩⟩, ⟨rfl, .inl ⟨rfl, ft_lowest d22⟩⟩, ⟨rfl, .inr ⟨pickD, rfl, hp⟩⟩, ⟨rfl, .inl ⟨rfl, ft__law_whole d24⟩⟩, ⟨rfl, .inl ⟨rfl, ft__law_lowest d25⟩⟩, ⟨rfl, .inl ⟨rfl, ft__law_stands d26⟩⟩, ⟨rfl, .inl ⟨rfl, ft__law_ascending d27⟩⟩, ⟨rfl, .inl ⟨rfl, ft__law_pair d28⟩⟩, ⟨rfl, .inl ⟨rfl, ft__law_once d29⟩⟩, ⟨rfl, .inl ⟨rfl, ft__law_each d30⟩⟩, ⟨rfl, .inl ⟨rfl, ft__law_odd d31⟩⟩, ⟨rfl, .inl ⟨rfl, ft__law_columns d32⟩⟩, ⟨rfl, .inl ⟨rfl, ft__law_thing d33⟩⟩, ⟨rfl, .inl ⟨rfl, ft__law_kinds d34⟩⟩, ⟨rfl, .inl ⟨rfl, ft__law_ask d35⟩⟩, ⟨rfl, .inl ⟨rfl, ft__law_refused d36⟩⟩, ⟨rfl, .inl ⟨rfl, ft__law_refusals d37⟩⟩, ⟨rfl, .inl ⟨rfl, ft__law_each_word d38⟩⟩, ⟨rfl, .inl ⟨rfl, ft__law_sums d39⟩⟩, ⟨rfl, .inl ⟨rfl, ft__law_top d40⟩⟩, trivial⟩
  exact {
    bi := fun f hf => by cases f <;> first | assumption | exact absurd rfl hf
    gcd := fun _ => zg
    isi := z_isinstance
    rng := z_range
    set := z_set
    tys := fun t => by cases t <;> assumption
    fn := fun i x ps h => by
      obtain ⟨F, h1, h2, h3⟩ := all.get h
      rw [Nat.zero_add] at h3
      exact ⟨F, h1, h2, h3⟩
    ex := fun c x fl h => by
      match c, h with
      | 0, h =>
        cases h
        obtain ⟨fd, hf⟩ := X.f
        refine ⟨rfl, X.g, X.o, X.x, fun f hf => ?_, X.te, fI, fd, X.i, X.t, hf.binds fun _ _ _ _ _ _ us hl => match us, hl with | [_, _, _], _ => rfl, (ini_ok hf X.o X.n0 X.n1).imp fun vs H Q E h => ?_⟩
        · rcases List.mem_cons.mp hf with rfl | hf
          · exact X.n0
          · rw [List.mem_singleton.mp hf]
            exact X.n1
        · obtain ⟨a, C', ws, e1, l, ha, hC, k⟩ := h
          exact ⟨a, C', ws, e1, l, ha, hC, fun dx h1 h2 => by
            have z := k dx h1 h2
            rw [hC] at z
            exact z⟩
      | n + 1, h => cases h }
end
end K00
set_option Elab.async false
set_option linter.all false
set_option maxRecDepth 100000
set_option maxHeartbeats 4000000
namespace K00
open PySem PySem.Spec PyProof.Rows L2 Rx
section
variable {P : Program} {wd : World} {K : PySem.W.Frag} {mg : Str → Option Value}
theorem own_match {K : PySem.W.Frag} {S : Addr} (h1 : PySem.W.subIn K (.ref S) (.type "BaseException") = some true) (h2 : PySem.W.isClsIn K S = true) (h3 : PySem.W.typeIn K (.ref S) = some (.type "type")) (h4 : PySem.W.subIn K (.ref S) (.ref S) = some true) :
    PySem.W.exmOne K (.ref S) (.ref S) = some true := by
  have i2 : (PySem.W.clsIn K S).isSome = true := h2
  unfold PySem.W.exmOne PySem.W.kitCls
  simp only [h1, h3, i2, h4]
  rfl
theorem exF_mk {h : Heap} {C fI : Addr} (X : K.In h) (G : h.Ns mainGlobals mg) {nm q : Str} {N : Addr} {bs bm : List Value} {sn : List Str} {sub : List Value} {ab : Bool} {col : Option Bool} {dd : Option Addr} {m0 m1 m2 m3 m5 : Option Value}
    {od1 an1 : Option Addr} {sl1 : Array (Option Value)} {oc1 kV1 dc1 pm1 cd1 ct1 : Value}
    (aC : PySem.W.nsIn K mainGlobals "NotUsable" = some (some (.ref C)))
    (xL : K.lookup C = some (excClassObj nm q C N bs bm true sn sub ab col dd m0 m1 m2 m3 m5 "ValueError.__new__")) (bK : PySem.HandSPX.refsVE bm = true)
    (sa : PySem.W.findIn K (.ref C) "__setattr__" = some (some (.builtin "object.__setattr__"))) (ga : PySem.W.findIn K (.ref C) "__getattribute__" = some (some (.builtin "BaseException.__getattribute__"))) (gg : PySem.W.findIn K (.ref C) "__getattr__" = some none)
    (n0 : PySem.W.findIn K (.ref C) "word" = some none) (n1 : PySem.W.findIn K (.ref C) "at" = some none)
    (a1 : PySem.W.findIn K (.ref C) "__init__" = some (some (.ref fI))) (t1 : PySem.W.typeIn K (.ref fI) = some (.type "function"))
    (l1 : K.lookup fI = some ⟨oc1, od1, .func (PySem.W.fnOf "__init__" "NotUsable.__init__" (defArgs sInit) (defBody sInit) (defScope sInit) .none kV1 dc1 pm1 an1 cd1 ct1), sl1⟩) (c1 : PySem.W.codeIn K cd1 "NotUsable.__init__" = true) (k1 : PySem.W.keepIn K (.ref fI) = true)
    (kC : PySem.W.keepIn K (.ref C) = true) (eC : PySem.W.subIn K (.ref C) (.type "BaseException") = some true) (tC : PySem.W.typeIn K (.ref C) = some (.type "type")) (hC : PySem.W.hasDictIn K C = true) (iC : PySem.W.isClsIn K C = true) (sC : PySem.W.subIn K (.ref C) (.ref C) = some true) {R : Prop} (r : ExF P wd K mg C fI → R) : R :=
  r { g := PySem.W.mg_of X G aC, o := ⟨⟨nm, q, N, bs, bm, sn, sub, ab, col, dd, m0, m1, m2, m3, m5, xL, bK⟩, sa, eC, tC, kC⟩, x := ⟨ga, gg, eC, hC⟩, n0 := n0, n1 := n1, te := own_match eC iC tC sC, i := a1, t := t1, f := ⟨_, fun_mk (st := sInit) l1 c1 k1⟩ }
theorem defF_k {K : PySem.W.Frag} {h : Heap} {mg : Str → Option Value} (x : Str) (st : Stmt) {R : Prop} {f : Addr} {oc kV dc pm cd ct : Value} {od an : Option Addr} {sl : Array (Option Value)} (X : K.In h) (G : h.Ns mainGlobals mg)
    (a : PySem.W.nsIn K mainGlobals x = some (some (.ref f))) (l : K.lookup f = some ⟨oc, od, .func (PySem.W.fnOf x x (defArgs st) (defBody st) (defScope st) .none kV dc pm an cd ct), sl⟩) (c : PySem.W.codeIn K cd x = true) (k : PySem.W.keepIn K (.ref f) = true) (r : DefF K mg x st → R) : R := r (defF X G a l c k)
theorem fin_mk {fa : Addr} {exA : Nat → Addr} {exF : Nat → List Str} (hfa : mg "law" = some (.ref fa)) (dL : DefF K mg "law" (top 51)) (dW : DefF K mg "_law_well" (top 32)) (zi : mg "int" = none) (za : mg "abs" = none)
    (T : ∀ (base : Heap) aw ag, GloT P wd K mg base tb fns aw ag exA exF) : ∃ fd : FuncData, (∀ (s : Shared) (u : Value), BindsTo s fd ⟨[u], []⟩ [("_law_script", u)]) ∧ ∀ base : Heap, K.In base → base.Ns mainGlobals mg → FnOk P wd K mg base (L2.CX P wd) 15 fa fd ["_law_script"] (spLaw K) := by
  obtain ⟨f, fd, h1, F⟩ := dL
  obtain ⟨fw, fdw, gw, FW⟩ := dW
  have e := hfa.symm.trans h1
  cases e
  have bw : Binds K fdw ["_law_script"] [] := FW.binds fun _ _ _ _ _ _ us hl => match us, hl with | [_], _ => rfl
  have ok := fun base : Heap => law_ok (P := P) (wd := wd) (base := base) F FW gw bw zi za (T base)
  obtain ⟨oc, od, kV, doc, pm, an, cdv, ct, osl, rfl, lk, hcd⟩ := F.ex
  exact ⟨_, fun s u => BindsTo.of_eq rfl, fun base _ _ => ok base⟩
theorem walk {l : PySem.W.OpenLaw} {q : Program} {loose : List Str} {XP : (Str → Option Value) → Heap → Prop} {YP : World → Heap → Prop} {d : DefRec} {K : Params → PySem.W.Frag} (hn : l.most = some 63) (hdf : d.params.defaults = [])
    (hY : ∀ (w : World) (h : Heap), YP w h → (K w.params).In h)
    (F : ∀ (w : World) (mg : Str → Option Value) (fa : Addr) (h : Heap), (K w.params).In h → h.Ns mainGlobals mg → mg d.name = some (.ref fa) →
      ∃ fd : FuncData, (∀ (s : Shared) (u : Value), BindsTo s fd ⟨[u], []⟩ [("_law_script", u)]) ∧ ∀ base : Heap, (K w.params).In base → base.Ns mainGlobals mg → FnOk l.prog w (K w.params) mg base (L2.CX l.prog w) 15 fa fd ["_law_script"] (spLaw (K w.params))) :
    PySem.W.WalkO q loose XP YP l.row.toRowW d [] (fun f vs => PySem.call f vs) :=
  L2.walk_of (n := 63) (k := 15) (x := "_law_script") (CX := fun w => L2.CX l.prog w) (sp := fun w => spLaw (K w.params)) hn (by decide) hdf ⟨rfl, by decide, by decide⟩ hY F (fun _ _ a ns hl _ hS => ⟨a, ns, rfl, hS, hl, fun _ => rfl⟩) fun _ _ _ _ _ z => by
    obtain ⟨_, _, _, _, _, _, _, _, _, _, _, _, z⟩ := z
    exact z
end
end K00
set_option Elab.async false
set_option linter.all false
open PySem PySem.W PyProof.Rows
set_option maxRecDepth 100000 in
set_option maxHeartbeats 0 in
theorem PySem.Challenge.cw_alikeclash_k00_kinds_and_quotients_holds : PySem.Challenge.rw_alikeclash_k00_kinds_and_quotients.Holds := by
  w_on; o_law; k_head; (case hw => w_witness2)
  k_fill
  refine K00.walk (l := PySem.Challenge.rw_alikeclash_k00_kinds_and_quotients) rfl rfl (fun w h Y => PySem.W.kIn_of Y) ?F
  case F =>
    intro w mg fa h KX G hmg
    refine' K00.defF_k "need" (K00.top 6) KX G ?a ?l ?c ?k ?_
    (case a => k_is); (case l => k_is); (case c => k_is); (case k => k_is)
    intro d0
    refine' K00.defF_k "is_tuple_of" (K00.top 7) KX G ?a ?l ?c ?k ?_
    (case a => k_is); (case l => k_is); (case c => k_is); (case k => k_is)
    intro d1
    refine' K00.defF_k "ascends" (K00.top 8) KX G ?a ?l ?c ?k ?_
    (case a => k_is); (case l => k_is); (case c => k_is); (case k => k_is)
    intro d2
    refine' K00.defF_k "is_integer" (K00.top 10) KX G ?a ?l ?c ?k ?_
    (case a => k_is); (case l => k_is); (case c => k_is); (case k => k_is)
    intro d3
    refine' K00.defF_k "is_number" (K00.top 11) KX G ?a ?l ?c ?k ?_
    (case a => k_is); (case l => k_is); (case c => k_is); (case k => k_is)
    intro d4
    refine' K00.defF_k "is_word" (K00.top 12) KX G ?a ?l ?c ?k ?_
    (case a => k_is); (case l => k_is); (case c => k_is); (case k => k_is)
    intro d5
    refine' K00.defF_k "is_quotient" (K00.top 13) KX G ?a ?l ?c ?k ?_
    (case a => k_is); (case l => k_is); (case c => k_is); (case k => k_is)
    intro d6
    refine' K00.defF_k "is_lot" (K00.top 14) KX G ?a ?l ?c ?k ?_
    (case a => k_is); (case l => k_is); (case c => k_is); (case k => k_is)
    intro d7
    refine' K00.defF_k "is_dependence" (K00.top 15) KX G ?a ?l ?c ?k ?_
    (case a => k_is); (case l => k_is); (case c => k_is); (case k => k_is)
    intro d8
    refine' K00.defF_k "is_group" (K00.top 16) KX G ?a ?l ?c ?k ?_
    (case a => k_is); (case l => k_is); (case c => k_is); (case k => k_is)
    intro d9
    refine' K00.defF_k "is_sequence" (K00.top 17) KX G ?a ?l ?c ?k ?_
    (case a => k_is); (case l => k_is); (case c => k_is); (case k => k_is)
    intro d10
    refine' K00.defF_k "is_weights" (K00.top 18) KX G ?a ?l ?c ?k ?_
    (case a => k_is); (case l => k_is); (case c => k_is); (case k => k_is)
    intro d11
    refine' K00.defF_k "is_shares" (K00.top 19) KX G ?a ?l ?c ?k ?_
    (case a => k_is); (case l => k_is); (case c => k_is); (case k => k_is)
    intro d12
    refine' K00.defF_k "are_numbers_below" (K00.top 20) KX G ?a ?l ?c ?k ?_
    (case a => k_is); (case l => k_is); (case c => k_is); (case k => k_is)
    intro d13
    refine' K00.defF_k "quotient_of" (K00.top 22) KX G ?a ?l ?c ?k ?_
    (case a => k_is); (case l => k_is); (case c => k_is); (case k => k_is)
    intro d14
    refine' K00.defF_k "plus" (K00.top 23) KX G ?a ?l ?c ?k ?_
    (case a => k_is); (case l => k_is); (case c => k_is); (case k => k_is)
    intro d15
    refine' K00.defF_k "minus" (K00.top 24) KX G ?a ?l ?c ?k ?_
    (case a => k_is); (case l => k_is); (case c => k_is); (case k => k_is)
    intro d16
    refine' K00.defF_k "times" (K00.top 25) KX G ?a ?l ?c ?k ?_
    (case a => k_is); (case l => k_is); (case c => k_is); (case k => k_is)
    intro d17
    refine' K00.defF_k "over" (K00.top 26) KX G ?a ?l ?c ?k ?_
    (case a => k_is); (case l => k_is); (case c => k_is); (case k => k_is)
    intro d18
    refine' K00.defF_k "at_most" (K00.top 27) KX G ?a ?l ?c ?k ?_
    (case a => k_is); (case l => k_is); (case c => k_is); (case k => k_is)
    intro d19
    refine' K00.defF_k "rounded_up" (K00.top 28) KX G ?a ?l ?c ?k ?_
    (case a => k_is); (case l => k_is); (case c => k_is); (case k => k_is)
    intro d20
    refine' K00.defF_k "need_two" (K00.top 29) KX G ?a ?l ?c ?k ?_
    (case a => k_is); (case l => k_is); (case c => k_is); (case k => k_is)
    intro d21
    refine' K00.defF_k "lowest" (K00.top 30) KX G ?a ?l ?c ?k ?_
    (case a => k_is); (case l => k_is); (case c => k_is); (case k => k_is)
    intro d22
    refine' K00.defF_k "_law_pick" (K00.top 33) KX G ?a ?l ?c ?k ?_
    (case a => k_is); (case l => k_is); (case c => k_is); (case k => k_is)
    intro d23
    refine' K00.defF_k "_law_whole" (K00.top 34) KX G ?a ?l ?c ?k ?_
    (case a => k_is); (case l => k_is); (case c => k_is); (case k => k_is)
    intro d24
    refine' K00.defF_k "_law_lowest" (K00.top 35) KX G ?a ?l ?c ?k ?_
    (case a => k_is); (case l => k_is); (case c => k_is); (case k => k_is)
    intro d25
    refine' K00.defF_k "_law_stands" (K00.top 36) KX G ?a ?l ?c ?k ?_
    (case a => k_is); (case l => k_is); (case c => k_is); (case k => k_is)
    intro d26
    refine' K00.defF_k "_law_ascending" (K00.top 37) KX G ?a ?l ?c ?k ?_
    (case a => k_is); (case l => k_is); (case c => k_is); (case k => k_is)
    intro d27
    refine' K00.defF_k "_law_pair" (K00.top 38) KX G ?a ?l ?c ?k ?_
    (case a => k_is); (case l => k_is); (case c => k_is); (case k => k_is)
    intro d28
    refine' K00.defF_k "_law_once" (K00.top 39) KX G ?a ?l ?c ?k ?_
    (case a => k_is); (case l => k_is); (case c => k_is); (case k => k_is)
    intro d29
    refine' K00.defF_k "_law_each" (K00.top 40) KX G ?a ?l ?c ?k ?_
    (case a => k_is); (case l => k_is); (case c => k_is); (case k => k_is)
    intro d30
    refine' K00.defF_k "_law_odd" (K00.top 41) KX G ?a ?l ?c ?k ?_
    (case a => k_is); (case l => k_is); (case c => k_is); (case k => k_is)
    intro d31
    refine' K00.defF_k "_law_columns" (K00.top 42) KX G ?a ?l ?c ?k ?_
    (case a => k_is); (case l => k_is); (case c => k_is); (case k => k_is)
    intro d32
    refine' K00.defF_k "_law_thing" (K00.top 43) KX G ?a ?l ?c ?k ?_
    (case a => k_is); (case l => k_is); (case c => k_is); (case k => k_is)
    intro d33
    refine' K00.defF_k "_law_kinds" (K00.top 44) KX G ?a ?l ?c ?k ?_
    (case a => k_is); (case l => k_is); (case c => k_is); (case k => k_is)
    intro d34
    refine' K00.defF_k "_law_ask" (K00.top 45) KX G ?a ?l ?c ?k ?_
    (case a => k_is); (case l => k_is); (case c => k_is); (case k => k_is)
    intro d35
    refine' K00.defF_k "_law_refused" (K00.top 46) KX G ?a ?l ?c ?k ?_
    (case a => k_is); (case l => k_is); (case c => k_is); (case k => k_is)
    intro d36
    refine' K00.defF_k "_law_refusals" (K00.top 47) KX G ?a ?l ?c ?k ?_
    (case a => k_is); (case l => k_is); (case c => k_is); (case k => k_is)
    intro d37
    refine' K00.defF_k "_law_each_word" (K00.top 48) KX G ?a ?l ?c ?k ?_
    (case a => k_is); (case l => k_is); (case c => k_is); (case k => k_is)
    intro d38
    refine' K00.defF_k "_law_sums" (K00.top 49) KX G ?a ?l ?c ?k ?_
    (case a => k_is); (case l => k_is); (case c => k_is); (case k => k_is)
    intro d39
    refine' K00.defF_k "_law_top" (K00.top 50) KX G ?a ?l ?c ?k ?_
    (case a => k_is); (case l => k_is); (case c => k_is); (case k => k_is)
    intro d40
    refine' K00.defF_k "law" (K00.top 51) KX G ?a ?l ?c ?k ?_
    (case a => k_is); (case l => k_is); (case c => k_is); (case k => k_is)
    intro dL
    refine' K00.defF_k "_law_well" (K00.top 32) KX G ?a ?l ?c ?k ?_
    (case a => k_is); (case l => k_is); (case c => k_is); (case k => k_is)
    intro dW
    have z_len : mg "len" = none := PySem.W.mg_none_of KX G (by k_is)
    have z_all : mg "all" = none := PySem.W.mg_none_of KX G (by k_is)
    have z_any : mg "any" = none := PySem.W.mg_none_of KX G (by k_is)
    have z_abs : mg "abs" = none := PySem.W.mg_none_of KX G (by k_is)
    have z_int : mg "int" = none := PySem.W.mg_none_of KX G (by k_is)
    have z_tuple : mg "tuple" = none := PySem.W.mg_none_of KX G (by k_is)
    have z_list : mg "list" = none := PySem.W.mg_none_of KX G (by k_is)
    have z_sorted : mg "sorted" = none := PySem.W.mg_none_of KX G (by k_is)
    have z_max : mg "max" = none := PySem.W.mg_none_of KX G (by k_is)
    have z_min : mg "min" = none := PySem.W.mg_none_of KX G (by k_is)
    have z_sum : mg "sum" = none := PySem.W.mg_none_of KX G (by k_is)
    have z_isinstance : mg "isinstance" = none := PySem.W.mg_none_of KX G (by k_is)
    have z_range : mg "range" = none := PySem.W.mg_none_of KX G (by k_is)
    have z_set : mg "set" = none := PySem.W.mg_none_of KX G (by k_is)
    have z_bool : mg "bool" = none := PySem.W.mg_none_of KX G (by k_is)
    have z_str : mg "str" = none := PySem.W.mg_none_of KX G (by k_is)
    have zg : mg "gcd" = some (.builtin "math.gcd") := PySem.W.mg_of KX G (by k_is)
    refine' K00.exF_mk (P := PySem.Challenge.rw_alikeclash_k00_kinds_and_quotients.prog) (wd := w) KX G ?aC ?xL ?bK ?sa ?ga ?gg ?n0 ?n1 ?a1 ?t1 ?l1 ?c1 ?k1 ?kC ?eC ?tC ?hC ?iC ?sC ?_
    (case aC => k_is)
    (case xL => k_is)
    (case bK => first | decide +kernel | rfl)
    (case sa => k_is)
    (case ga => k_is)
    (case gg => k_is)
    (case n0 => k_is)
    (case n1 => k_is)
    (case a1 => k_is)
    (case t1 => k_is)
    (case l1 => k_is)
    (case c1 => k_is)
    (case k1 => k_is)
    (case kC => k_is)
    (case eC => k_is)
    (case tC => k_is)
    (case hC => k_is)
    (case iC => k_is)
    (case sC => first | rfl | k_is)
    intro ex
    exact K00.fin_mk hmg dL dW z_int z_abs fun base aw ag => K00.gloT_mk z_len z_all z_any z_abs z_int z_tuple z_list z_sorted z_max z_min z_sum z_isinstance z_range z_set z_bool z_str zg ex d0 d1 d2 d3 d4 d5 d6 d7 d8 d9 d10 d11 d12 d13 d14 d15 d16 d17 d18 d19 d20 d21 d22 d23 d24 d25 d26 d27 d28 d29 d30 d31 d32 d33 d34 d35 d36 d37 d38 d39 d40 aw ag
