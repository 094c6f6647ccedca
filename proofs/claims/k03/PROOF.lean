import PyProof.Rows.All
import Wide.All
import OpenK.AllK
import Wide.FinOn
import HandS.ForMost
import HandS.Walk
import HandS.Zip
import KE.GoesEnum
import KE.GoesNew
import HandS.Evl
import HandS.Flow
import HandS.Style
import HandS.Wide
import HandS.IsInst
import HandS.Defaults
import HandS.Gcd
import HandS.SetFor
import PyProof.Rows.SortShellAny
import HandS.SortRule
import HandS.SortInts
import HandS.FromBytesMap
import KE.KSortKey
import HandS.SortKw
import PyProof.Rows.RegReprOcc
import HandS.Conv
import HandS.Head0
import HandS.Head1
import HandS.Head2
import HandS.HeadEnd
import HandS.HeadHook1
import HandS.HeadHook2
import PySem.Challenge.RW_newesttells_k03_whole_rows_laid_over
set_option Elab.async false
set_option linter.all false
set_option maxRecDepth 100000
set_option maxHeartbeats 4000000
namespace Nt
open PySem PySem.Spec PyProof.Rows L2
/-! ### what zip and enumerate go over: a text, a list, a tuple -/
inductive Sk where
  | txt (z : Str)
  | lst (a : Addr)
  | tup (a : Addr)
def Sk.val : Sk → V
  | .txt z => .str z
  | .lst a => .ref a
  | .tup a => .ref a
def Sk.fp : Sk → List Addr
  | .txt _ => []
  | .lst a => [a]
  | .tup a => [a]
def Sk.it : Sk → Addr → Nat → Heap → Prop
  | .txt z, it, i, h => ∃ t, h.IsStrIter it (strIterType z) z t i
  | .lst a, it, i, h => h.IsListIter it a i
  | .tup a, it, i, h => h.IsTupleIter it a i
/-- the things that stand in a value, told by the abstract heap -/
def Sk.has (K : PySem.W.Frag) (H : Hp) : Sk → List V → Prop
  | .txt z, xs => xs = z.cps.toList.map fun c => V.str ⟨#[c]⟩
  | .lst a, xs => SqL K H a xs
  | .tup a, xs => SqT K H a xs
theorem Sk.it_at {k : Sk} {it : Addr} {i : Nat} {h h' : Heap} (s : k.it it i h) (e : ∀ o, h.get? it = some o → h'.get? it = some o) : k.it it i h' := by
  cases k with
  | txt z => obtain ⟨t, o, ho, r⟩ := s; exact ⟨t, o, e o ho, r⟩
  | lst a => exact Heap.IsListIter.at s e
  | tup a => obtain ⟨o, ho, r⟩ := s; exact ⟨o, e o ho, r⟩
theorem Sk.it_obj {k : Sk} {it : Addr} {i : Nat} {h : Heap} (s : k.it it i h) : ∃ o, h.get? it = some o ∧ ∀ v, o.data ≠ .cell v := by
  cases k with
  | txt z => obtain ⟨t, o, ho, _, d⟩ := s; exact ⟨o, ho, fun v q => by rw [d] at q; cases q⟩
  | lst a => obtain ⟨o, ho, _, d⟩ := s; exact ⟨o, ho, fun v q => by rw [d] at q; cases q⟩
  | tup a => obtain ⟨o, ho, _, d⟩ := s; exact ⟨o, ho, fun v q => by rw [d] at q; cases q⟩
section
variable {X : Cx} {pins : List (Addr × Obj)} {σ : L2.St} {H : Hp} {s : Shared} {k : Sk} {xs : List V}
theorem Sk.has_inj {ys : List V} (I : L2.Inv X pins σ H s) (a : k.has X.K H xs) (b : k.has X.K H ys) : xs = ys := by
  cases k with
  | txt z => exact Eq.trans a (Eq.symm b)
  | lst q => exact I.list_inj a b
  | tup q => exact I.tuple_inj a b
/-- what draws its items, at the heap as it stands -/
theorem Sk.draws {w : World} {A : Around} (I : L2.Inv X pins σ H s) (hh : A.handled = none) (hk : k.has X.K H xs) (it : Addr) (hit : it ∉ k.fp) (i : Nat) (hi : k.it it i s.heap) :
    ∃ (P : Nat → Value → Prop) (St : Nat → Heap → Prop), Draws X.prog w A it (it :: k.fp) xs.length P St ∧ (∀ i u, P i u → ∃ x, xs[i]? = some x ∧ RelV x u) ∧
      (∀ i h, St i h → k.it it i h) ∧ St i s.heap := by
  cases k with
  | txt z =>
    cases hk
    obtain ⟨t, hi⟩ := hi
    have D := Draws.text (prog := X.prog) (w := w) (A := A) hh it z t
    have e : (List.map (fun c => V.str ⟨#[c]⟩) z.cps.toList).length = z.cps.size := by simp
    refine ⟨_, fun i h => h.IsStrIter it (strIterType z) z t i, (by rw [e]; exact D), ?_, fun i h q => ⟨t, q⟩, hi⟩
    rintro i u ⟨c, t', hc, rfl⟩
    refine ⟨V.str ⟨#[c]⟩, ?_, ⟨t', rfl⟩⟩
    rw [List.getElem?_map]
    have : z.cps.toList[i]? = some c := by simpa using hc
    rw [this]; rfl
  | lst a =>
    obtain ⟨its, rv, p, hz⟩ := I.list hk
    have ne : a ≠ it := fun e => hit (by simp [Sk.fp, e])
    have hl := rv.length
    have D := Draws.list (prog := X.prog) (w := w) (A := A) hh it a ne its.toArray
    have e : its.toArray.size = xs.length := by simp [hl]
    rw [e] at D
    refine ⟨_, fun i h => h.IsListIter it a i ∧ h.IsList a its.toArray, D, ?_, fun i h q => q.1, ⟨hi, p.isList⟩⟩
    intro i u hu
    have hu' : its[i]? = some u := by simpa using hu
    obtain ⟨h1, e1⟩ := List.getElem?_eq_some_iff.mp hu'
    have hx : xs[i]? = some (xs[i]'(by omega)) := List.getElem?_eq_getElem (by omega)
    obtain ⟨u', q1, q2⟩ := rv.get hx
    rw [hu'] at q1
    cases q1
    exact ⟨_, hx, q2⟩
  | tup a =>
    obtain ⟨its, rv, p, hz⟩ := I.tuple hk
    have ne : a ≠ it := fun e => hit (by simp [Sk.fp, e])
    have hl := rv.length
    have D := Draws.tuple (prog := X.prog) (w := w) (A := A) hh it a ne its.toArray
    have e : its.toArray.size = xs.length := by simp [hl]
    rw [e] at D
    refine ⟨_, fun i h => h.IsTupleIter it a i ∧ h.IsTuple a its.toArray, D, ?_, fun i h q => q.1, ⟨hi, p⟩⟩
    intro i u hu
    have hu' : its[i]? = some u := by simpa using hu
    obtain ⟨h1, e1⟩ := List.getElem?_eq_some_iff.mp hu'
    have hx : xs[i]? = some (xs[i]'(by omega)) := List.getElem?_eq_getElem (by omega)
    obtain ⟨u', q1, q2⟩ := rv.get hx
    rw [hu'] at q1
    cases q1
    exact ⟨_, hx, q2⟩
/-- how it begins -/
theorem Sk.begins (I : L2.Inv X pins σ H s) (hk : k.has X.K H xs) {u : Value} (r : RelV k.val u) :
    ∃ (o : Obj) (Hc : Heap → Prop), Begins u o Hc ∧ Hc s.heap ∧ (∀ h it, h.get? it = some o → k.it it 0 h) ∧ ∀ b ∈ k.fp, b < s.heap.objs.size := by
  cases k with
  | txt z =>
    obtain ⟨t, rfl⟩ := r
    exact ⟨_, _, begins_text z t, trivial, fun h it e => ⟨t, _, e, rfl, rfl⟩, fun b hb => absurd hb (by simp [Sk.fp])⟩
  | lst a =>
    cases r
    obtain ⟨its, rv, p, hz⟩ := I.list hk
    exact ⟨_, _, begins_list a its.toArray, p.isList, fun h it e => ⟨_, e, rfl, rfl⟩, fun b hb => by
      have : b = a := by simpa [Sk.fp] using hb
      rw [this]; exact p.lt⟩
  | tup a =>
    cases r
    obtain ⟨its, rv, p, hz⟩ := I.tuple hk
    exact ⟨_, _, begins_tuple a its.toArray, p, fun h it e => ⟨_, e, rfl, rfl⟩, fun b hb => by
      have : b = a := by simpa [Sk.fp] using hb
      obtain ⟨o, e, _⟩ := p
      rw [this]; exact Heap.lt_size e⟩
end
/-! ### zip(a, b) -/
def ItZ (K : PySem.W.Frag) (k1 k2 : Sk) : It :=
  ⟨fun i H => ∃ xs ys, k1.has K H xs ∧ k2.has K H ys ∧ i < xs.length ∧ i < ys.length,
    fun i H v H' => ∃ T x y, v = .ref T ∧ H T = none ∧ H' = upd H T (.tup [x, y]) ∧ (∀ xs, k1.has K H xs → xs[i]? = some x) ∧ ∀ ys, k2.has K H ys → ys[i]? = some y,
    fun i H => ∃ xs ys, k1.has K H xs ∧ k2.has K H ys ∧ i = min xs.length ys.length⟩
def SepZ (z TI TO i1 i2 : Addr) (k1 k2 : Sk) : Prop := ZipSep2 z TI TO i1 i2 (i1 :: k1.fp) (i2 :: k2.fp)
theorem turn_zipG {P : Program} {w : World} {K : PySem.W.Frag} {elts : List Expr} {kk : Nat} {tpos : Pos} {k1 k2 : Sk} {z TI TO i1 i2 : Addr} (S : SepZ z TI TO i1 i2 k1 k2) (h12 : i1 ∉ k1.fp) (h22 : i2 ∉ k2.fp) :
    Turn P w K (.Tuple elts kk tpos) (ItZ K k1 k2) [z, TI, TO, i1, i2] z (fun i h => IsZip h z TI TO .none ∧ IsTupOf2 h TI (.ref i1) (.ref i2) ∧ (∃ x y, IsTupOf2 h TO x y) ∧ k1.it i1 i h ∧ k2.it i2 i h) where
  mem := by simp
  obj := fun i h st c hc => by
    obtain ⟨hz, hTI, ⟨x, y, hTO⟩, h1, h2⟩ := st
    have e' : c = z ∨ c = TI ∨ c = TO ∨ c = i1 ∨ c = i2 := by simpa using hc
    rcases e' with q | q | q | q | q
    · rw [q]; exact ⟨_, hz, fun v q => nomatch q⟩
    · rw [q]; exact ⟨_, hTI, fun v q => nomatch q⟩
    · rw [q]; exact ⟨_, hTO, fun v q => nomatch q⟩
    · rw [q]; exact Sk.it_obj h1
    · rw [q]; exact Sk.it_obj h2
  keep := fun i h h' st k => by
    obtain ⟨hz, hTI, ⟨x, y, hTO⟩, h1, h2⟩ := st
    exact ⟨k z (by simp) _ hz, k TI (by simp) _ hTI, ⟨x, y, k TO (by simp) _ hTO⟩, Sk.it_at h1 fun o q => k i1 (by simp) o q, Sk.it_at h2 fun o q => k i2 (by simp) o q⟩
  item := by
    intro X hP hw hK hc i pins s σ H E I hf st hg
    subst hP hw hK
    obtain ⟨hz, hTI, hTO, h1, h2⟩ := st
    obtain ⟨xs, ys, hx, hy, lx, ly⟩ := hg
    have hh : X.A.in1.handled = none := I.ok.hd hc
    obtain ⟨P1, St1, D1, p1, a1, b1⟩ := Sk.draws (w := X.w) (A := X.A.in1) I hh hx i1 h12 i h1
    obtain ⟨P2, St2, D2, p2, a2, b2⟩ := Sk.draws (w := X.w) (A := X.A.in1) I hh hy i2 h22 i h2
    have W := GoesN.zip2 (elts := elts) (x1 := kk) (pos := tpos) S D1 D2
    have hlt : ∀ c ∈ [z, TI, TO, i1, i2], c < s.heap.objs.size := fun c hcm => by
      have e' : c = z ∨ c = TI ∨ c = TO ∨ c = i1 ∨ c = i2 := by simpa using hcm
      rcases e' with q | q | q | q | q
      · rw [q]; exact Heap.lt_size hz
      · rw [q]; exact Heap.lt_size hTI
      · rw [q]; obtain ⟨_, _, e⟩ := hTO; exact Heap.lt_size e
      · rw [q]; obtain ⟨_, e1, _⟩ := Sk.it_obj h1; exact Heap.lt_size e1
      · rw [q]; obtain ⟨_, e1, _⟩ := Sk.it_obj h2; exact Heap.lt_size e1
    refine thn (W.goes i s (fun v s2 => ∃ x H', L2.Inv X pins σ H' s2 ∧ RelV x v ∧ (ItZ X.K k1 k2).yld i H x H' ∧ (IsZip s2.heap z TI TO .none ∧ IsTupOf2 s2.heap TI (.ref i1) (.ref i2) ∧ (∃ x y, IsTupOf2 s2.heap TO x y) ∧ k1.it i1 (i + 1) s2.heap ∧ k2.it i2 (i + 1) s2.heap) ∧ ∀ b ∈ [z, TI, TO, i1, i2], H' b = none) E (by omega) ⟨hz, hTI, hTO, b1, b2⟩ ?_) fun r s1 q => q
    rintro v h' tk ⟨T, u1, u2, rfl, hT, q1, q2, hTT⟩ ⟨g1, g2, g3, g4, g5⟩ kk' _
    obtain ⟨x, ex, rx⟩ := p1 i u1 q1
    obtain ⟨y, ey, ry⟩ := p2 i u2 q2
    have new : ObjOk X.prog X.w (upd H T (.tup [x, y])) h' T (.tup [x, y]) := ⟨by show 2 ≤ sizeLine; decide, [u1, u2], .cons rx (.cons ry .nil), hTT⟩
    have I1 : L2.Inv X pins σ (upd H T (.tup [x, y])) { s with heap := h', toks := tk } :=
      I.turnedNew (t' := tk) (ch := [z, TI, TO, i1, i2]) (fun c o hb q => kk' c o (fun q' => hb (by
        have e' : c = z ∨ c = TO ∨ c = i1 ∨ c = i2 := by simpa using q'
        rcases e' with e | e | e | e <;> simp [e])) q) hf hT new
    refine ⟨.ref T, _, I1, rfl, ⟨T, x, y, rfl, I.hok.fresh hT, rfl, fun l hl => by rw [Sk.has_inj I hl hx]; exact ex, fun l hl => by rw [Sk.has_inj I hl hy]; exact ey⟩, ⟨g1, g2, g3, a1 _ _ g4, a2 _ _ g5⟩, fun c hcm => ?_⟩
    have h3 := hlt c hcm
    rw [upd_ne (Nat.ne_of_lt (Nat.lt_of_lt_of_le h3 hT))]
    exact (hf c hcm).1
  done := by
    intro X hP hw hK hc i pins s σ H E I hf st hg
    subst hP hw hK
    obtain ⟨hz, hTI, hTO, h1, h2⟩ := st
    obtain ⟨xs, ys, hx, hy, e⟩ := hg
    have hh : X.A.in1.handled = none := I.ok.hd hc
    obtain ⟨P1, St1, D1, p1, a1, b1⟩ := Sk.draws (w := X.w) (A := X.A.in1) I hh hx i1 h12 i h1
    obtain ⟨P2, St2, D2, p2, a2, b2⟩ := Sk.draws (w := X.w) (A := X.A.in1) I hh hy i2 h22 i h2
    have W := GoesN.zip2 (elts := elts) (x1 := kk) (pos := tpos) S D1 D2
    subst e
    refine W.stops s (fun s1 => L2.Inv X pins σ H s1) E ⟨hz, hTI, hTO, b1, b2⟩ fun h' tk k _ => ?_
    exact I.turnedL (t' := tk) (ch := [z, TI, TO, i1, i2]) (fun c o hb q => k c o (fun q' => hb (by
        have e' : c = z ∨ c = TO ∨ c = i1 ∨ c = i2 := by simpa using q'
        rcases e' with e | e | e | e <;> simp [e])) q) hf
  self := fun A i s Q E st h => wpAny_pyIter_zip st.1 h
def iZipG (K : PySem.W.Frag) (ta : TA) : TI := fun σ H R => ta σ H fun vs H1 => ∃ (k1 k2 : Sk) (xs ys : List V), vs = [k1.val, k2.val] ∧ k1.has K H1 xs ∧ k2.has K H1 ys ∧ R (ItZ K k1 k2) H1
theorem pi_zipG {X : Cx} {e e2 : Expr} {ta : TA} {p pos tpos : Pos} {elts : List Expr} {kk : Nat} (hg : Gl X "zip") (hm : X.mg "zip" = none) (ha : PA X [e, e2] ta)
    (hs : starEach [e, e2] X.env = (false, eval e X.env) :: starEach [e2] X.env := by rfl) (hpl : (backTo pos (starEach [e2] X.env)).any (·.1) = false := by rfl) :
    PI X (.Tuple elts kk tpos) (.Call (.Name "zip" p) [e, e2] [] pos) (iZipG X.K ta) := by
  refine ⟨fun pins s σ H R I h => ?_⟩
  refine Call_ (ld_blt I hg hm PyProof.Rows.boot_zip (PyProof.Rows.callWith_type1 (thn (ha.run pos pins s σ H _ I h) fun us s1 ⟨vs, H1, I1, r1, q1⟩ => ?_) hs hpl))
  obtain ⟨k1, k2, xs, ys, ex, hx, hy, q⟩ := q1
  subst ex
  obtain ⟨u1, u2, rfl, ra, rb⟩ := vals2 r1
  obtain ⟨o1, Hc1, B1, c1, t1, f1⟩ := Sk.begins I1 hx ra
  obtain ⟨o2, Hc2, B2, c2, t2, f2⟩ := Sk.begins I1 hy rb
  refine zip_begins2 B1 B2 c1 c2 fun h' hz hTI hTO g1 g2 hsz hk => wpAny_pyIter_zip hz ?_
  have I2 : L2.Inv X pins σ H1 { s1 with heap := h' } := I1.kept (t' := s1.toks) hk
  refine ⟨s1.heap.objs.size + 4, [s1.heap.objs.size + 4, s1.heap.objs.size + 2, s1.heap.objs.size + 3, s1.heap.objs.size, s1.heap.objs.size + 1], _, _, H1, rfl, I2,
    turn_zipG (zip_sep2 f1 f2) (fun z => Nat.lt_irrefl _ (f1 _ z)) (fun z => absurd (f2 _ z) (Nat.not_lt_of_le (Nat.le_succ _))), ⟨hz, hTI, ⟨_, _, hTO⟩, t1 _ _ g1, t2 _ _ g2⟩, fun c hcm => ?_, q⟩
  have e' : c = s1.heap.objs.size + 4 ∨ c = s1.heap.objs.size + 2 ∨ c = s1.heap.objs.size + 3 ∨ c = s1.heap.objs.size ∨ c = s1.heap.objs.size + 1 := by simpa using hcm
  have hle : s1.heap.objs.size ≤ c := by
    rcases e' with z | z | z | z | z
    · rw [z]; exact Nat.le_add_right _ _
    · rw [z]; exact Nat.le_add_right _ _
    · rw [z]; exact Nat.le_add_right _ _
    · rw [z]; exact Nat.le_refl _
    · rw [z]; exact Nat.le_add_right _ _
  exact I1.fpOk hle (I1.hok.fresh hle)
theorem walk_zipG {K : PySem.W.Frag} {k1 k2 : Sk} {xs ys : List V} {n : Nat} (hn : n = min xs.length ys.length) :
    Walk (ItZ K k1 k2) n (fun H => k1.has K H xs ∧ k2.has K H ys) (YPair (fun i => xs[i]?) (fun i => ys[i]?)) := by
  subst hn
  refine ⟨fun i _ hi q => ⟨xs, ys, q.1, q.2, by omega, by omega⟩, fun _ q => ⟨xs, ys, q.1, q.2, rfl⟩, fun i H v H' _ q y => ?_⟩
  obtain ⟨T, x, z, h1, h2, h3, h4, h5⟩ := y
  exact ⟨T, x, z, h1, h2, h3, h4 xs q.1, h5 ys q.2⟩
/-! ### enumerate(text) -/
def ItE (z : Str) : It :=
  ⟨fun i _ => i < z.cps.size, fun i H v H' => ∃ (T : Addr) (c : Nat), v = .ref T ∧ H T = none ∧ H' = upd H T (.tup [.int (i : Nat), .str ⟨#[c]⟩]) ∧ z.cps[i]? = some c, fun i _ => i = z.cps.size⟩
theorem turn_enumS {P : Program} {w : World} {K : PySem.W.Frag} {elts : List Expr} {kk : Nat} {tpos : Pos} {z : Str} {e it : Addr} (hne : e ≠ it) :
    Turn P w K (.Tuple elts kk tpos) (ItE z) [e, it] e (fun i h => (∃ old, IsEnum h e it (0 + (i : Int)) old) ∧ (Sk.txt z).it it i h) where
  mem := by simp
  obj := fun i h st c hc => by
    obtain ⟨⟨old, he⟩, h1⟩ := st
    have e' : c = e ∨ c = it := by simpa using hc
    rcases e' with q | q
    · rw [q]; exact ⟨_, he, fun v q => nomatch q⟩
    · rw [q]; exact Sk.it_obj h1
  keep := fun i h h' st k => by
    obtain ⟨⟨old, he⟩, h1⟩ := st
    exact ⟨⟨old, k e (by simp) _ he⟩, Sk.it_at h1 fun o q => k it (by simp) o q⟩
  item := by
    intro X hP hw hK hc i pins s σ H E I hf st hg
    subst hP hw hK
    obtain ⟨⟨old, he⟩, h1⟩ := st
    have hh : X.A.in1.handled = none := I.ok.hd hc
    obtain ⟨P1, St1, D1, p1, a1, b1⟩ := Sk.draws (k := .txt z) (w := X.w) (A := X.A.in1) I hh rfl it (by simp [Sk.fp]) i h1
    have W := GoesN.enumFrom (elts := elts) (x1 := kk) (pos := tpos) 0 D1 e hne (by simp [Sk.fp, hne]) (by simp [Sk.fp])
    have hlt : ∀ c ∈ [e, it], c < s.heap.objs.size := fun c hcm => by
      have e' : c = e ∨ c = it := by simpa using hcm
      rcases e' with q | q
      · rw [q]; exact Heap.lt_size he
      · rw [q]; obtain ⟨_, e1, _⟩ := Sk.it_obj h1; exact Heap.lt_size e1
    have hg' : i < z.cps.size := hg
    have hi : i < (List.map (fun c => V.str ⟨#[c]⟩) z.cps.toList).length := by simpa using hg'
    refine thn (W.goes i s (fun v s2 => ∃ x H', L2.Inv X pins σ H' s2 ∧ RelV x v ∧ (ItE z).yld i H x H' ∧ ((∃ old, IsEnum s2.heap e it (0 + ((i + 1 : Nat) : Int)) old) ∧ (Sk.txt z).it it (i + 1) s2.heap) ∧ ∀ b ∈ [e, it], H' b = none) E hi ⟨⟨old, he⟩, b1⟩ ?_) fun r s1 q => q
    rintro v h' tk ⟨T, t, u, rfl, hT, q1, hTT⟩ ⟨g1, g2⟩ kk' _
    obtain ⟨x, ex, rx⟩ := p1 i u q1
    obtain ⟨c, hc1, rfl⟩ : ∃ c, z.cps[i]? = some c ∧ x = V.str ⟨#[c]⟩ := by
      rw [List.getElem?_map] at ex
      cases hq : z.cps.toList[i]? with
      | none => rw [hq] at ex; cases ex
      | some c => rw [hq] at ex; exact ⟨c, by simpa using hq, (Option.some.inj ex).symm⟩
    have new : ObjOk X.prog X.w (upd H T (.tup [.int (i : Nat), .str ⟨#[c]⟩])) h' T (.tup [.int (i : Nat), .str ⟨#[c]⟩]) :=
      ⟨by show 2 ≤ sizeLine; decide, [.int (0 + (i : Int)) t, u], .cons ⟨t, by rw [Int.zero_add]⟩ (.cons rx .nil), hTT⟩
    have I1 : L2.Inv X pins σ (upd H T (.tup [.int (i : Nat), .str ⟨#[c]⟩])) { s with heap := h', toks := tk } :=
      I.turnedNew (t' := tk) (ch := [e, it]) (fun c o hb q => kk' c o hb q) hf hT new
    refine ⟨.ref T, _, I1, rfl, ⟨T, c, rfl, I.hok.fresh hT, rfl, hc1⟩, ⟨g1, a1 _ _ g2⟩, fun c hcm => ?_⟩
    rw [upd_ne (Nat.ne_of_lt (Nat.lt_of_lt_of_le (hlt c hcm) hT))]
    exact (hf c hcm).1
  done := by
    intro X hP hw hK hc i pins s σ H E I hf st hg
    subst hP hw hK
    obtain ⟨⟨old, he⟩, h1⟩ := st
    have hh : X.A.in1.handled = none := I.ok.hd hc
    obtain ⟨P1, St1, D1, p1, a1, b1⟩ := Sk.draws (k := .txt z) (w := X.w) (A := X.A.in1) I hh rfl it (by simp [Sk.fp]) i h1
    have W := GoesN.enumFrom (elts := elts) (x1 := kk) (pos := tpos) 0 D1 e hne (by simp [Sk.fp, hne]) (by simp [Sk.fp])
    have hg' : i = z.cps.size := hg
    have hi : i = (List.map (fun c => V.str ⟨#[c]⟩) z.cps.toList).length := by simpa using hg'
    rw [← hi] at W
    exact W.stops s (fun s1 => L2.Inv X pins σ H s1) E ⟨⟨old, he⟩, b1⟩ fun h' tk k _ => I.turnedL (t' := tk) (ch := [e, it]) (fun c o hb q => k c o hb q) hf
  self := fun A i s Q E st h => let ⟨⟨_, he⟩, _⟩ := st; wpAny_pyIter_enum he h
def iEnumS (ta : TA) : TI := fun σ H R => ta σ H fun vs H1 => ∃ z, vs = [.str z] ∧ R (ItE z) H1
theorem pi_enumS {X : Cx} {e : Expr} {ta : TA} {p pos tpos : Pos} {elts : List Expr} {kk : Nat} (hg : Gl X "enumerate") (hm : X.mg "enumerate" = none) (ha : PA X [e] ta) (hs : starEach [e] X.env = [(false, eval e X.env)] := by rfl) :
    PI X (.Tuple elts kk tpos) (.Call (.Name "enumerate" p) [e] [] pos) (iEnumS ta) := by
  refine ⟨fun pins s σ H R I h => ?_⟩
  refine Call_ (ld_blt I hg hm boot_enumerate (PyProof.Rows.callWith_type1 (thn (ha.run pos pins s σ H _ I h) fun us s1 ⟨vs, H1, I1, r1, q1⟩ => ?_) hs rfl))
  obtain ⟨z, ex, q⟩ := q1
  subst ex
  cases r1 with
  | cons r rr =>
    cases rr
    obtain ⟨t, rfl⟩ := r
    refine call_enumerate_str fun h' he hit hsz hk => wpAny_pyIter_enum he ?_
    have I2 : L2.Inv X pins σ H1 { s1 with heap := h' } := I1.kept (t' := s1.toks) hk
    refine ⟨s1.heap.objs.size + 1, [s1.heap.objs.size + 1, s1.heap.objs.size], _, _, H1, rfl, I2, turn_enumS (Nat.succ_ne_self _), ⟨⟨.none, he⟩, ⟨t, hit⟩⟩, fun b hb => ?_, q⟩
    have e' : b = s1.heap.objs.size + 1 ∨ b = s1.heap.objs.size := by simpa using hb
    have hle : s1.heap.objs.size ≤ b := by
      rcases e' with z | z
      · rw [z]; exact Nat.le_add_right _ _
      · rw [z]; exact Nat.le_refl _
    exact I1.fpOk hle (I1.hok.fresh hle)
theorem walk_enumS {z : Str} : Walk (ItE z) z.cps.size (fun _ => True) (YPair (fun i => some (.int (i : Nat))) (fun i => (z.cps[i]?).map fun c => .str ⟨#[c]⟩)) := by
  refine ⟨fun i _ hi _ => hi, fun _ _ => rfl, fun i H v H' _ q y => ?_⟩
  obtain ⟨T, c, h1, h2, h3, h4⟩ := y
  exact ⟨T, _, _, h1, h2, h3, rfl, by show Option.map _ z.cps[i]? = _; rw [h4]; rfl⟩
end Nt

namespace Nt
open PySem PySem.Spec PyProof.Rows L2
abbrev Ex (H H' : Hp) : Prop := ∀ a o, H a = some o → H' a = some o
theorem Ex.rfl' {H : Hp} : Ex H H := fun _ _ h => h
theorem Ex.tr {H H1 H2 : Hp} (a : Ex H H1) (b : Ex H1 H2) : Ex H H2 := fun x o h => b x o (a x o h)
theorem Ex.none' {H H' : Hp} (e : Ex H H') {p : Addr} (h : H' p = none) : H p = none := by
  cases h1 : H p with
  | none => rfl
  | some o => rw [e p o h1] at h; cases h
theorem Ex.nw {H : Hp} {p : Addr} {o : HO} (h : H p = none) : Ex H (upd H p o) := fun a u e => by rw [upd_ne (ne_of_none e h)]; exact e
theorem Ex.two {H H' : Hp} {p : Addr} {o : HO} (e : Ex H H') : Ex (upd H p o) (upd H' p o) := fun a u h => by
  by_cases q : a = p
  · subst q; rw [upd_same] at h ⊢; exact h
  · rw [upd_ne q] at h ⊢; exact e a u h
/-- a text of codes -/
def tx (s : List Nat) : V := .str ⟨s.toArray⟩
/-! ### data -/
inductive D where
  | non | bl (b : Bool) | int (i : Int) | str (s : List Nat) | tup (xs : List D) | lst (xs : List D) | bag | scr (K : PySem.W.Frag) (ns : List Int)
/-- the bag of draws: its cells at c -/
def bagO (b c : Addr) : HO := .ext fun h => ∃ (i r m n : Int) (its : List Value) (nn : Nat), Vals [.ref c, .int i, .int r, .int m, .int n] its ∧ h.get? b = some { cls := .type "list", data := .seq its.toArray nn } ∧ 0 ≤ i ∧ 0 ≤ r ∧ 0 ≤ m ∧ m < 2147483648
mutual
inductive Rep (H : Hp) : D → V → Prop where
  | non : Rep H .non .non
  | bl (b : Bool) : Rep H (.bl b) (.bl b)
  | int (i : Int) : Rep H (.int i) (.int i)
  | str (s : List Nat) : Rep H (.str s) (tx s)
  | tup {ds : List D} {a : Addr} {ws : List V} : H a = some (.tup ws) → Reps H ds ws → Rep H (.tup ds) (.ref a)
  | lst {ds : List D} {a : Addr} {ws : List V} : H a = some (.lst ws) → Reps H ds ws → Rep H (.lst ds) (.ref a)
  | bag {b c : Addr} {ns : List Int} : H b = some (bagO b c) → H c = some (.lst (ns.map V.int)) → ns.length ≤ 63 → Rep H .bag (.ref b)
  | scr {K : PySem.W.Frag} {a : Addr} {ns : List Int} : SqL K H a (ns.map V.int) → Rep H (.scr K ns) (.ref a)
inductive Reps (H : Hp) : List D → List V → Prop where
  | nil : Reps H [] []
  | cons {d : D} {v : V} {ds : List D} {vs : List V} : Rep H d v → Reps H ds vs → Reps H (d :: ds) (v :: vs)
end
mutual
theorem Rep.mono {H H' : Hp} (e : Ex H H') : ∀ {d v}, Rep H d v → Rep H' d v
  | _, _, .non => .non
  | _, _, .bl b => .bl b
  | _, _, .int i => .int i
  | _, _, .str s => .str s
  | _, _, .tup h r => .tup (e _ _ h) (Reps.mono e r)
  | _, _, .lst h r => .lst (e _ _ h) (Reps.mono e r)
  | _, _, .bag h c l => .bag (e _ _ h) (e _ _ c) l
  | _, _, .scr h => .scr (Evl.ex_l e h)
theorem Reps.mono {H H' : Hp} (e : Ex H H') : ∀ {ds vs}, Reps H ds vs → Reps H' ds vs
  | _, _, .nil => .nil
  | _, _, .cons h r => .cons (h.mono e) (r.mono e)
end
theorem Reps.len {H : Hp} : ∀ {ds : List D} {vs : List V}, Reps H ds vs → vs.length = ds.length
  | _, _, .nil => rfl
  | _, _, .cons _ r => by rw [List.length_cons, List.length_cons, r.len]
theorem Reps.get {H : Hp} : ∀ {ds : List D} {vs : List V} {i : Nat} {d : D}, Reps H ds vs → ds[i]? = some d → ∃ v, vs[i]? = some v ∧ Rep H d v
  | _, _, 0, _, .cons h _, e => by cases e; exact ⟨_, rfl, h⟩
  | _, _, i + 1, _, .cons _ r, e => by
    obtain ⟨v, q, h⟩ := r.get (i := i) e
    exact ⟨v, q, h⟩
  | _, _, 0, _, .nil, e => by cases e
  | _, _, i + 1, _, .nil, e => by cases e
theorem Reps.at {H : Hp} : ∀ {ds : List D} {vs : List V} {i : Nat} {v : V}, Reps H ds vs → vs[i]? = some v → ∃ d, ds[i]? = some d ∧ Rep H d v
  | _, _, 0, _, .cons h _, e => by cases e; exact ⟨_, rfl, h⟩
  | _, _, i + 1, _, .cons _ r, e => by
    obtain ⟨d, q, h⟩ := r.at (i := i) e
    exact ⟨d, q, h⟩
  | _, _, 0, _, .nil, e => by cases e
  | _, _, i + 1, _, .nil, e => by cases e
theorem Reps.app {H : Hp} : ∀ {ds es : List D} {vs ws : List V}, Reps H ds vs → Reps H es ws → Reps H (ds ++ es) (vs ++ ws)
  | _, _, _, _, .nil, r => r
  | _, _, _, _, .cons h q, r => .cons h (q.app r)
theorem Reps.drop {H : Hp} : ∀ {ds : List D} {vs : List V} (n : Nat), Reps H ds vs → Reps H (ds.drop n) (vs.drop n)
  | _, _, 0, r => r
  | _, _, n + 1, .nil => .nil
  | _, _, n + 1, .cons _ r => r.drop n
theorem Reps.take {H : Hp} : ∀ {ds : List D} {vs : List V} (n : Nat), Reps H ds vs → Reps H (ds.take n) (vs.take n)
  | _, _, 0, _ => .nil
  | _, _, n + 1, .nil => .nil
  | _, _, n + 1, .cons h r => .cons h (r.take n)
theorem Reps.rev {H : Hp} : ∀ {ds : List D} {vs : List V}, Reps H ds vs → Reps H ds.reverse vs.reverse
  | _, _, .nil => .nil
  | _, _, .cons h r => by
    rw [List.reverse_cons, List.reverse_cons]
    exact r.rev.app (.cons h .nil)
/-- data that need no heap -/
def D.flat : D → Bool
  | .non | .bl _ | .int _ | .str _ => true
  | _ => false
theorem Rep.flat {H H' : Hp} {d : D} {v : V} (f : d.flat = true) (r : Rep H d v) : Rep H' d v := by
  cases r with
  | non => exact .non
  | bl b => exact .bl b
  | int i => exact .int i
  | str s => exact .str s
  | tup _ _ => cases f
  | lst _ _ => cases f
  | bag _ _ _ => cases f
  | scr _ => cases f
/-! ### worlds: a heap, and the part of it that data may lie in -/
structure Wd where
  b : Hp
  h : Hp
  le : Ex b h
structure Grow (W W' : Wd) : Prop where
  b : Ex W.b W'.b
  h : Ex W.h W'.h
  nw : ∀ a, W.b a = none → W.h a ≠ none → W'.b a = none
theorem Grow.refl (W : Wd) : Grow W W := ⟨Ex.rfl', Ex.rfl', fun _ h _ => h⟩
theorem Grow.trans {W W1 W2 : Wd} (x : Grow W W1) (y : Grow W1 W2) : Grow W W2 :=
  ⟨x.b.tr y.b, x.h.tr y.h, fun a h1 h2 => y.nw a (x.nw a h1 h2) fun z => h2 (x.h.none' z)⟩
/-- a new object that is data -/
def Wd.put (W : Wd) (p : Addr) (o : HO) : Wd := ⟨upd W.b p o, upd W.h p o, W.le.two⟩
theorem Grow.put {W : Wd} {p : Addr} {o : HO} (h : W.h p = none) : Grow W (W.put p o) :=
  ⟨Ex.nw (W.le.none' h), Ex.nw h, fun a h1 h2 => by
    show upd W.b p o a = none
    rw [upd_ne (fun e => h2 (by rw [e]; exact h))]; exact h1⟩
/-- a new object that is none of the data -/
def Wd.add (W : Wd) (p : Addr) (o : HO) (h : W.h p = none) : Wd := ⟨W.b, upd W.h p o, W.le.tr (Ex.nw h)⟩
theorem Grow.add {W : Wd} {p : Addr} {o : HO} (h : W.h p = none) : Grow W (W.add p o h) := ⟨Ex.rfl', Ex.nw h, fun _ h1 _ => h1⟩
/-! ### what slots hold -/
inductive En where
  | un
  | dat (d : D)
  | own (ds : List D)
/-- a value that has come: data, or a new list that nobody else holds -/
def RepV (W W' : Wd) : En → V → Prop
  | .un, _ => False
  | .dat d, v => Rep W'.b d v
  | .own ds, v => ∃ l vs, v = .ref l ∧ W'.h l = some (.lst vs) ∧ W'.b l = none ∧ W.h l = none ∧ Reps W'.b ds vs
theorem RepV.mono {W W1 W2 : Wd} {e : En} {v : V} (r : RepV W W1 e v) (g : Grow W1 W2) : RepV W W2 e v := by
  cases e with
  | un => exact r
  | dat d => exact Rep.mono g.b r
  | own ds =>
    obtain ⟨l, vs, e, h1, h2, h3, h4⟩ := r
    exact ⟨l, vs, e, g.h _ _ h1, g.nw l h2 (by rw [h1]; exact fun z => nomatch z), h3, h4.mono g.b⟩
theorem RepV.back {W0 W W1 : Wd} {e : En} {v : V} (r : RepV W W1 e v) (g : Ex W0.h W.h) : RepV W0 W1 e v := by
  cases e with
  | un => exact r
  | dat d => exact r
  | own ds =>
    obtain ⟨l, vs, e, h1, h2, h3, h4⟩ := r
    exact ⟨l, vs, e, h1, h2, g.none' h3, h4⟩
/-- data that come of it -/
def En.frz : En → Option D
  | .un => none
  | .dat d => some d
  | .own ds => some (.lst ds)
theorem RepV.frz {W W1 : Wd} {e : En} {v : V} {d : D} (g : Grow W W1) (r : RepV W W1 e v) (h : e.frz = some d) : ∃ W2 : Wd, W2.h = W1.h ∧ Grow W W2 ∧ Ex W1.b W2.b ∧ Rep W2.b d v := by
  cases e with
  | un => exact absurd h (by simp [En.frz])
  | dat d' => cases h; exact ⟨W1, rfl, g, Ex.rfl', r⟩
  | own ds =>
    cases h
    obtain ⟨l, vs, rfl, h1, h2, h3, h4⟩ := r
    refine ⟨⟨upd W1.b l (.lst vs), W1.h, fun a o e => ?_⟩, rfl, ⟨g.b.tr (Ex.nw h2), g.h, fun a q1 q2 => ?_⟩, Ex.nw h2, .lst upd_same (h4.mono (Ex.nw h2))⟩
    · by_cases q : a = l
      · subst q; rw [upd_same] at e; cases e; exact h1
      · rw [upd_ne q] at e; exact W1.le _ _ e
    · show upd W1.b l (.lst vs) a = none
      rw [upd_ne (fun e => q2 (by rw [e]; exact h3))]; exact g.nw a q1 q2
structure Env (W0 W : Wd) (σ : L2.St) (ρ : List En) : Prop where
  g : Grow W0 W
  len : σ.length = ρ.length
  ent : ∀ (i : Nat) (e : En), ρ[i]? = some e → e ≠ .un → ∃ v, σ[i]? = some (some v) ∧ RepV W0 W e v
  apart : ∀ (i j : Nat) ds es l, ρ[i]? = some (.own ds) → ρ[j]? = some (.own es) → σ[i]? = some (some (.ref l)) → σ[j]? = some (some (.ref l)) → i = j
theorem Env.grow {W0 W W' : Wd} {σ : L2.St} {ρ : List En} (E : Env W0 W σ ρ) (g : Grow W W') : Env W0 W' σ ρ :=
  ⟨E.g.trans g, E.len, fun i e h n => let ⟨v, a, r⟩ := E.ent i e h n; ⟨v, a, r.mono g⟩, E.apart⟩
theorem set_get {α : Type} {l : List α} {i j : Nat} {x y : α} (h : (l.set i x)[j]? = some y) : (j = i ∧ y = x ∧ i < l.length) ∨ (j ≠ i ∧ l[j]? = some y) := by
  by_cases q : j = i
  · subst q
    have hl : j < l.length := by
      have := (List.getElem?_eq_some_iff.mp h).1
      simpa using this
    rw [List.getElem?_set_self hl] at h
    exact .inl ⟨rfl, (Option.some.inj h).symm, hl⟩
  · rw [List.getElem?_set_ne (fun e => q e.symm)] at h
    exact .inr ⟨q, h⟩
/-- a slot is given a value that has come -/
theorem Env.set {W0 W W' : Wd} {σ : L2.St} {ρ : List En} (E : Env W0 W σ ρ) (g : Grow W W') {e : En} {v : V} (r : RepV W W' e v) (i : Nat) : Env W0 W' (σ.set i (some v)) (ρ.set i e) := by
  have E' := E.grow g
  refine ⟨E'.g, by rw [List.length_set, List.length_set, E.len], fun j e' h n => ?_, fun j k ds es l h1 h2 h3 h4 => ?_⟩
  · rcases set_get h with ⟨rfl, rfl, hl⟩ | ⟨hne, h⟩
    · exact ⟨v, by rw [List.getElem?_set_self (by rw [E.len]; exact hl)], r.back E.g.h⟩
    · obtain ⟨v', a, b⟩ := E'.ent j e' h n
      exact ⟨v', by rw [List.getElem?_set_ne (fun q => hne q.symm)]; exact a, b⟩
  · have key : ∀ (m : Nat) (fs : List D), m ≠ i → ρ[m]? = some (.own fs) → σ[m]? = some (some (.ref l)) → v = .ref l → (∃ ds, e = .own ds) → False := by
      intro m fs hm a b c ⟨ds, he⟩
      subst he
      obtain ⟨l1, vs, e1, _, _, z, _⟩ := r
      rw [c] at e1
      have : l = l1 := V.ref.inj e1
      subst this
      obtain ⟨v', q1, q2⟩ := E.ent m _ a (fun z => nomatch z)
      rw [b] at q1
      cases q1
      obtain ⟨l2, ws, e2, w1, _⟩ := q2
      have : l = l2 := V.ref.inj e2
      subst this
      rw [z] at w1; cases w1
    rcases set_get h1 with ⟨q1, q, hl⟩ | ⟨n1, m1⟩
    · rcases set_get h2 with ⟨q2, _, _⟩ | ⟨n2, m2⟩
      · rw [q1, q2]
      · rw [q1, List.getElem?_set_self (by rw [E.len]; exact hl)] at h3
        rw [List.getElem?_set_ne (fun q => n2 q.symm)] at h4
        exact (key k es n2 m2 h4 (Option.some.inj (Option.some.inj h3)) ⟨_, q.symm⟩).elim
    · rcases set_get h2 with ⟨q2, q, hl⟩ | ⟨n2, m2⟩
      · rw [q2, List.getElem?_set_self (by rw [E.len]; exact hl)] at h4
        rw [List.getElem?_set_ne (fun q => n1 q.symm)] at h3
        exact (key j ds n1 m1 h3 (Option.some.inj (Option.some.inj h4)) ⟨_, q.symm⟩).elim
      · rw [List.getElem?_set_ne (fun q => n1 q.symm)] at h3
        rw [List.getElem?_set_ne (fun q => n2 q.symm)] at h4
        exact E.apart j k ds es l m1 m2 h3 h4
/-- a slot is forgotten -/
theorem Env.drop {W0 W : Wd} {σ : L2.St} {ρ : List En} (E : Env W0 W σ ρ) (i : Nat) (o : Option V) : Env W0 W (σ.set i o) (ρ.set i .un) := by
  refine ⟨E.g, by rw [List.length_set, List.length_set, E.len], fun j e' h n => ?_, fun j k ds es l h1 h2 h3 h4 => ?_⟩
  · rcases set_get h with ⟨rfl, rfl, hl⟩ | ⟨hne, h⟩
    · exact absurd rfl n
    · obtain ⟨v', a, b⟩ := E.ent j e' h n
      exact ⟨v', by rw [List.getElem?_set_ne (fun q => hne q.symm)]; exact a, b⟩
  · rcases set_get h1 with ⟨rfl, q, hl⟩ | ⟨n1, h1⟩
    · cases q
    · rcases set_get h2 with ⟨rfl, q, hl⟩ | ⟨n2, h2⟩
      · cases q
      · rw [List.getElem?_set_ne (fun q => n1 q.symm)] at h3
        rw [List.getElem?_set_ne (fun q => n2 q.symm)] at h4
        exact E.apart j k ds es l h1 h2 h3 h4
/-- an own list is data from now on -/
theorem Env.freeze {W0 W : Wd} {σ : L2.St} {ρ : List En} (E : Env W0 W σ ρ) {i : Nat} {ds : List D} (h : ρ[i]? = some (.own ds)) : ∃ W' : Wd, W'.h = W.h ∧ Ex W.b W'.b ∧ Env W0 W' σ (ρ.set i (.dat (.lst ds))) := by
  obtain ⟨v, hv, l, vs, rfl, h1, h2, h3, h4⟩ := E.ent i _ h (fun z => nomatch z)
  have hi := (List.getElem?_eq_some_iff.mp h).1
  refine ⟨⟨upd W.b l (.lst vs), W.h, fun a o e => ?_⟩, rfl, Ex.nw h2, ⟨⟨E.g.b.tr (Ex.nw h2), E.g.h, fun a q1 q2 => ?_⟩, by rw [List.length_set, E.len], fun j e' hj n => ?_, fun j k ds' es l' a1 a2 a3 a4 => ?_⟩⟩
  · by_cases q : a = l
    · subst q; rw [upd_same] at e; cases e; exact h1
    · rw [upd_ne q] at e; exact W.le _ _ e
  · show upd W.b l (.lst vs) a = none
    rw [upd_ne (fun e => q2 (by rw [e]; exact h3))]; exact E.g.nw a q1 q2
  · rcases set_get hj with ⟨rfl, rfl, _⟩ | ⟨hne, hj⟩
    · exact ⟨_, hv, .lst upd_same (h4.mono (Ex.nw h2))⟩
    · obtain ⟨v', a, b⟩ := E.ent j e' hj n
      refine ⟨v', a, ?_⟩
      cases e' with
      | un => exact absurd rfl n
      | dat d => exact Rep.mono (Ex.nw h2) b
      | own es =>
        obtain ⟨l2, ws, rfl, w1, w2, w3, w4⟩ := b
        refine ⟨l2, ws, rfl, w1, ?_, w3, w4.mono (Ex.nw h2)⟩
        show upd W.b l (.lst vs) l2 = none
        rw [upd_ne (fun z => hne (E.apart j i es ds l hj h (by rw [← z]; exact a) hv))]
        exact w2
  · rcases set_get a1 with ⟨rfl, q, _⟩ | ⟨n1, a1⟩
    · cases q
    · rcases set_get a2 with ⟨rfl, q, _⟩ | ⟨n2, a2⟩
      · cases q
      · exact E.apart j k ds' es l' a1 a2 a3 a4
end Nt

namespace Nt
open PySem PySem.Spec PyProof.Rows L2
/-! ### what an expression comes to, from slots that are known -/
def EV (te : TE) (ρ : List En) (P : En → Prop) : Prop := ∀ W0 W σ, Env W0 W σ ρ → ∀ Q : VK, (∀ v e W', Grow W W' → RepV W W' e v → P e → Q v W'.h) → te σ W.h Q
def ED (te : TE) (ρ : List En) (P : D → Prop) : Prop := ∀ W0 W σ, Env W0 W σ ρ → ∀ Q : VK, (∀ v d W', Grow W W' → Rep W'.b d v → P d → Q v W'.h) → te σ W.h Q
def ET (tt : TT) (ρ : List En) (P : Bool → Prop) : Prop := ∀ W0 W σ, Env W0 W σ ρ → ∀ Q : Bool → Hp → Prop, (∀ b W', Grow W W' → P b → Q b W'.h) → tt σ W.h Q
def EA (ta : TA) (ρ : List En) (P : List D → Prop) : Prop := ∀ W0 W σ, Env W0 W σ ρ → ∀ Q : List V → Hp → Prop, (∀ vs ds W', Grow W W' → Reps W'.b ds vs → P ds → Q vs W'.h) → ta σ W.h Q
def EO (to : TO) (ρ : List En) (P : Option Int → Prop) : Prop := ∀ W0 W σ, Env W0 W σ ρ → ∀ Q : Option Int → Hp → Prop, (∀ o W', Grow W W' → P o → Q o W'.h) → to σ W.h Q
/-- what an operation, a call come to, by values -/
def OD (r : R2) (x y : D) (P : En → Prop) : Prop := ∀ (W : Wd) v w, Rep W.b x v → Rep W.b y w → ∀ Q : VK, (∀ u e W', Grow W W' → RepV W W' e u → P e → Q u W'.h) → r v w W.h Q
def UD (r : V → Hp → VK → Prop) (x : D) (P : En → Prop) : Prop := ∀ (W : Wd) v, Rep W.b x v → ∀ Q : VK, (∀ u e W', Grow W W' → RepV W W' e u → P e → Q u W'.h) → r v W.h Q
def CD (r : List V → Hp → VK → Prop) (ds : List D) (P : En → Prop) : Prop := ∀ (W : Wd) vs, Reps W.b ds vs → ∀ Q : VK, (∀ u e W', Grow W W' → RepV W W' e u → P e → Q u W'.h) → r vs W.h Q
def MD (r : V → List V → Hp → VK → Prop) (x : D) (ds : List D) (P : En → Prop) : Prop := ∀ (W : Wd) v vs, Rep W.b x v → Reps W.b ds vs → ∀ Q : VK, (∀ u e W', Grow W W' → RepV W W' e u → P e → Q u W'.h) → r v vs W.h Q
section
variable {K : PySem.W.Frag} {ta tb te : TE} {tt tu : TT} {ar : TA} {ρ : List En} {P P' PA PB : D → Prop} {R R' : En → Prop} {b : Bool}
theorem EV.imp (h : EV te ρ R) (k : ∀ e, R e → R' e) : EV te ρ R' := fun W0 W σ E Q q => h W0 W σ E Q fun v e W' g r p => q v e W' g r (k e p)
theorem ED.imp (h : ED te ρ P) (k : ∀ d, P d → P' d) : ED te ρ P' := fun W0 W σ E Q q => h W0 W σ E Q fun v e W' g r p => q v e W' g r (k e p)
theorem ED.is {x y : D} (h : ED te ρ (· = x)) (k : x = y) : ED te ρ (· = y) := k ▸ h
theorem ET.imp {T T' : Bool → Prop} (h : ET tt ρ T) (k : ∀ e, T e → T' e) : ET tt ρ T' := fun W0 W σ E Q q => h W0 W σ E Q fun e W' g p => q e W' g (k e p)
theorem ET.is {a c : Bool} (h : ET tt ρ (· = a)) (k : a = c) : ET tt ρ (· = c) := k ▸ h
theorem EA.imp {T T' : List D → Prop} (h : EA ar ρ T) (k : ∀ e, T e → T' e) : EA ar ρ T' := fun W0 W σ E Q q => h W0 W σ E Q fun v e W' g r p => q v e W' g r (k e p)
/-- data come to stay -/
theorem EV.ed (h : EV te ρ R) (k : ∀ e, R e → ∃ d, e.frz = some d ∧ P d) : ED te ρ P := fun W0 W σ E Q q => h W0 W σ E Q fun v e W' g r p => by
  obtain ⟨d, hd, pd⟩ := k e p
  obtain ⟨W2, h2, g2, _, r2⟩ := r.frz g hd
  rw [← h2]
  exact q v d W2 g2 r2 pd
theorem ED.ev (h : ED te ρ P) : EV te ρ (fun e => ∃ d, e = .dat d ∧ P d) := fun W0 W σ E Q q => h W0 W σ E Q fun v d W' g r p => q v (.dat d) W' g r ⟨d, rfl, p⟩
theorem EV.d1 {d : D} (h : EV te ρ (· = .dat d)) : ED te ρ (· = d) := h.ed fun e q => ⟨d, by rw [q]; rfl, rfl⟩
theorem EV.o1 {ds : List D} (h : EV te ρ (· = .own ds)) : ED te ρ (· = .lst ds) := h.ed fun e q => ⟨.lst ds, by rw [q]; rfl, rfl⟩
theorem e_var {i : Nat} {d : D} (h : ρ[i]? = some (.dat d)) : ED (tVar i) ρ (· = d) := fun W0 W σ E Q q => by
  obtain ⟨v, a, r⟩ := E.ent i _ h (fun z => nomatch z)
  exact ⟨v, a, q v d W (Grow.refl W) r rfl⟩
theorem e_c {v : V} {d : D} (h : ∀ H, Rep H d v) : ED (tC v) ρ (· = d) := fun W0 W σ E Q q => q v d W (Grow.refl W) (h _) rfl
theorem e_int {i : Int} : ED (tC (.int i)) ρ (· = .int i) := e_c fun _ => .int i
theorem e_bl {b : Bool} : ED (tC (.bl b)) ρ (· = .bl b) := e_c fun _ => .bl b
theorem e_non : ED (tC .non) ρ (· = .non) := e_c fun _ => .non
theorem tx_eq (z : Str) : V.str z = tx z.cps.toList := by
  unfold tx
  obtain ⟨c⟩ := z
  simp
theorem rep_str {H : Hp} (z : Str) : Rep H (.str z.cps.toList) (.str z) := by
  rw [tx_eq]
  exact .str _
theorem e_strz {z : Str} : ED (tC (.str z)) ρ (· = .str z.cps.toList) := e_c fun _ => rep_str z
theorem e_str {z : Str} {s : List Nat} (h : z.cps.toList = s) : ED (tC (.str z)) ρ (· = .str s) := h ▸ e_strz
theorem e_op {r : R2} (ha : ED ta ρ PA) (hb : ED tb ρ PB) (hr : ∀ x y, PA x → PB y → OD r x y R) : EV (tOp r ta tb) ρ R := fun W0 W σ E Q q =>
  ha W0 W σ E _ fun v x W1 g1 r1 p1 => hb W0 W1 σ (E.grow g1) _ fun w y W2 g2 r2 p2 => hr x y p1 p2 W2 v w (r1.mono g2.b) r2 Q fun u e W3 g3 r3 p3 => q u e W3 ((g1.trans g2).trans g3) (r3.back (g1.trans g2).h) p3
theorem e_op1 {r : R2} {x y : D} (ha : ED ta ρ (· = x)) (hb : ED tb ρ (· = y)) (hr : OD r x y R) : EV (tOp r ta tb) ρ R := e_op ha hb fun _ _ a b => by rw [a, b]; exact hr
theorem e_opd {r : R2} {x y z : D} (ha : ED ta ρ (· = x)) (hb : ED tb ρ (· = y)) (hr : OD r x y (· = .dat z)) : ED (tOp r ta tb) ρ (· = z) := (e_op1 ha hb hr).d1
theorem e_un {r : V → Hp → VK → Prop} {x : D} (ha : ED ta ρ (· = x)) (hr : UD r x R) : EV (tUn r ta) ρ R := fun W0 W σ E Q q =>
  ha W0 W σ E _ fun v x' W1 g1 r1 p1 => hr W1 v (by subst p1; exact r1) Q fun u e W3 g3 r3 p3 => q u e W3 (g1.trans g3) (r3.back g1.h) p3
/-! tests -/
theorem et_val {T : Bool → Prop} (h : ED te ρ (fun d => ∃ b, d = .bl b ∧ T b)) : ET (tB te) ρ T := fun W0 W σ E Q q => h W0 W σ E _ fun v d W' g r ⟨b, e, p⟩ => by
  subst e; cases r; exact ⟨b, rfl, q b W' g p⟩
theorem et_test {T : Bool → Prop} (h : ED te ρ (fun d => ∃ b, d = .bl b ∧ T b)) : ET (tTest te) ρ T := fun W0 W σ E Q q => h W0 W σ E _ fun v d W' g r ⟨b, e, p⟩ => by
  subst e; cases r; exact ⟨b, rfl, q b W' g p⟩
theorem et_v1 {a : Bool} (h : ED te ρ (· = .bl a)) : ET (tB te) ρ (· = a) := et_val (h.imp fun d e => ⟨a, e, rfl⟩)
theorem et_t1 {a : Bool} (h : ED te ρ (· = .bl a)) : ET (tTest te) ρ (· = a) := et_test (h.imp fun d e => ⟨a, e, rfl⟩)
theorem et_and {T1 T : Bool → Prop} (h : ET tt ρ T1) (h1 : T1 true → ET tu ρ T) (h2 : T1 false → T false) : ET (tAnd tt tu) ρ T := fun W0 W σ E Q q => h W0 W σ E _ fun b W' g p => by
  cases b with
  | true => exact iteT (h1 p W0 W' σ (E.grow g) Q fun b W2 g2 p2 => q b W2 (g.trans g2) p2)
  | false => exact iteF (q false W' g (h2 p))
theorem et_or {T1 T : Bool → Prop} (h : ET tt ρ T1) (h1 : T1 false → ET tu ρ T) (h2 : T1 true → T true) : ET (tOr tt tu) ρ T := fun W0 W σ E Q q => h W0 W σ E _ fun b W' g p => by
  cases b with
  | false => exact iteF (h1 p W0 W' σ (E.grow g) Q fun b W2 g2 p2 => q b W2 (g.trans g2) p2)
  | true => exact iteT (q true W' g (h2 p))
theorem et_and1 {a c : Bool} (h : ET tt ρ (· = a)) (h1 : a = true → ET tu ρ (· = c)) : ET (tAnd tt tu) ρ (· = (a && c)) :=
  et_and h (fun p => by subst p; exact h1 rfl) (fun p => by subst p; rfl)
theorem et_or1 {a c : Bool} (h : ET tt ρ (· = a)) (h1 : a = false → ET tu ρ (· = c)) : ET (tOr tt tu) ρ (· = (a || c)) :=
  et_or h (fun p => by subst p; exact h1 rfl) (fun p => by subst p; rfl)
theorem et_not {T : Bool → Prop} (h : ET tt ρ fun b => T (!b)) : ET (tNot tt) ρ T := fun W0 W σ E Q q => h W0 W σ E _ fun b W' g p => q (!b) W' g p
theorem et_not1 {a : Bool} (h : ET tt ρ (· = a)) : ET (tNot tt) ρ (· = !a) := et_not (h.imp fun e q => by rw [q])
theorem et_yes : ET tYes ρ (· = true) := fun W0 W σ E Q q => q true W (Grow.refl W) rfl
theorem e_and {a c : Bool} (h : ED ta ρ (· = .bl a)) (h1 : a = true → ED tb ρ (· = .bl c)) : ED (tAndV ta tb) ρ (· = .bl (a && c)) := fun W0 W σ E Q q => h W0 W σ E _ fun v d W' g r p => by
  subst p; cases r
  refine ⟨a, rfl, ?_⟩
  cases a with
  | true => exact iteT (h1 rfl W0 W' σ (E.grow g) Q fun v d W2 g2 r2 p2 => q v d W2 (g.trans g2) r2 p2)
  | false => exact iteF (q _ _ W' g (.bl false) rfl)
theorem e_or {a c : Bool} (h : ED ta ρ (· = .bl a)) (h1 : a = false → ED tb ρ (· = .bl c)) : ED (tOrV ta tb) ρ (· = .bl (a || c)) := fun W0 W σ E Q q => h W0 W σ E _ fun v d W' g r p => by
  subst p; cases r
  refine ⟨a, rfl, ?_⟩
  cases a with
  | false => exact iteF (h1 rfl W0 W' σ (E.grow g) Q fun v d W2 g2 r2 p2 => q v d W2 (g.trans g2) r2 p2)
  | true => exact iteT (q _ _ W' g (.bl true) rfl)
theorem e_not {a : Bool} (h : ED ta ρ (· = .bl a)) : ED (tNotV ta) ρ (· = .bl (!a)) := fun W0 W σ E Q q => h W0 W σ E _ fun v d W' g r p => by
  subst p; cases r
  exact ⟨a, rfl, q _ _ W' g (.bl _) rfl⟩
theorem e_if {T : Bool → Prop} (h : ET tt ρ T) (h1 : T true → EV ta ρ R) (h2 : T false → EV tb ρ R) : EV (tIf tt ta tb) ρ R := fun W0 W σ E Q q => h W0 W σ E _ fun b W' g p => by
  cases b with
  | true => exact iteT (h1 p W0 W' σ (E.grow g) Q fun v e W2 g2 r2 p2 => q v e W2 (g.trans g2) (r2.back g.h) p2)
  | false => exact iteF (h2 p W0 W' σ (E.grow g) Q fun v e W2 g2 r2 p2 => q v e W2 (g.trans g2) (r2.back g.h) p2)
theorem e_ifd {T : Bool → Prop} (h : ET tt ρ T) (h1 : T true → ED ta ρ P) (h2 : T false → ED tb ρ P) : ED (tIf tt ta tb) ρ P :=
  (e_if h (fun p => (h1 p).ev) (fun p => (h2 p).ev)).ed fun e ⟨d, q, p⟩ => ⟨d, by rw [q]; rfl, p⟩
/-! arguments -/
theorem ea_nil : EA tNil ρ (· = []) := fun W0 W σ E Q q => q [] [] W (Grow.refl W) .nil rfl
theorem ea_cons {T T' : List D → Prop} (h : ED ta ρ P) (h1 : ∀ x, P x → EA ar ρ (fun ds => T (x :: ds))) : EA (tCons ta ar) ρ T := fun W0 W σ E Q q =>
  h W0 W σ E _ fun v d W1 g1 r1 p1 => h1 d p1 W0 W1 σ (E.grow g1) _ fun vs ds W2 g2 r2 p2 => q (v :: vs) (d :: ds) W2 (g1.trans g2) (.cons (r1.mono g2.b) r2) p2
theorem ea_c {x : D} {ds : List D} (h : ED ta ρ (· = x)) (h1 : EA ar ρ (· = ds)) : EA (tCons ta ar) ρ (· = x :: ds) :=
  ea_cons (T' := fun _ => True) h fun y e => h1.imp fun z q => by rw [e, q]
theorem ea_1 (h : ED ta ρ P) : EA (tCons ta tNil) ρ (fun ds => ∃ x, ds = [x] ∧ P x) := ea_cons (T' := fun _ => True) h fun y e => ea_nil.imp fun z q => by rw [q]; exact ⟨y, rfl, e⟩
theorem e_cb {r : List V → Hp → VK → Prop} {T : List D → Prop} (h : EA ar ρ T) (hr : ∀ ds, T ds → CD r ds R) : EV (tCB r ar) ρ R := fun W0 W σ E Q q =>
  h W0 W σ E _ fun vs ds W1 g1 r1 p1 => hr ds p1 W1 vs r1 Q fun u e W3 g3 r3 p3 => q u e W3 (g1.trans g3) (r3.back g1.h) p3
theorem e_cb1 {r : List V → Hp → VK → Prop} {ds : List D} (h : EA ar ρ (· = ds)) (hr : CD r ds R) : EV (tCB r ar) ρ R := e_cb h fun _ e => by rw [e]; exact hr
theorem e_tup {T : List D → Prop} (h : EA ar ρ T) (hl : ∀ ds, T ds → ds.length ≤ 100000) : ED (tTup ar) ρ (fun d => ∃ ds, d = .tup ds ∧ T ds) := fun W0 W σ E Q q =>
  h W0 W σ E _ fun vs ds W1 g1 r1 p1 => ⟨Evl.sz_of (by rw [r1.len]; exact hl ds p1), fun p hp => q (.ref p) (.tup ds) (W1.put p (.tup vs)) (g1.trans (Grow.put hp)) (.tup upd_same (r1.mono (Grow.put hp).b)) ⟨ds, rfl, p1⟩⟩
theorem e_tup1 {ds : List D} (h : EA ar ρ (· = ds)) (hl : ds.length ≤ 100000) : ED (tTup ar) ρ (· = .tup ds) := (e_tup h fun _ e => by rw [e]; exact hl).imp fun d ⟨_, e, p⟩ => by rw [e, p]
/-- a new list that has come at p -/
theorem new_own {W W1 : Wd} (g1 : Grow W W1) {p : Addr} {ds : List D} {vs : List V} (hp : W1.h p = none) (r : Reps W1.b ds vs) : Grow W (W1.add p (.lst vs) hp) ∧ RepV W (W1.add p (.lst vs) hp) (.own ds) (.ref p) :=
  ⟨g1.trans (Grow.add hp), p, vs, rfl, upd_same, W1.le.none' hp, g1.h.none' hp, r⟩
theorem e_lst {T : List D → Prop} (h : EA ar ρ T) (hl : ∀ ds, T ds → ds.length ≤ 100000) : EV (tLst ar) ρ (fun e => ∃ ds, e = .own ds ∧ T ds) := fun W0 W σ E Q q =>
  h W0 W σ E _ fun vs ds W1 g1 r1 p1 => ⟨Evl.sz_of (by rw [r1.len]; exact hl ds p1), fun p hp => by
    obtain ⟨a, c⟩ := new_own g1 hp r1
    exact q (.ref p) (.own ds) _ a c ⟨ds, rfl, p1⟩⟩
theorem e_lst1 {ds : List D} (h : EA ar ρ (· = ds)) (hl : ds.length ≤ 100000) : EV (tLst ar) ρ (· = .own ds) := (e_lst h fun _ e => by rw [e]; exact hl).imp fun d ⟨_, e, p⟩ => by rw [e, p]
/-! calls of own defs -/
/-- a promise about data: for what arguments, what comes -/
def SpE (Rg : List D → (En → Prop) → Prop) : Sp := fun vs H Q _ => ∃ (W : Wd) (ds : List D) (P : En → Prop), W.h = H ∧ Reps W.b ds vs ∧ Rg ds P ∧ ∀ v e W', Grow W W' → RepV W W' e v → P e → Q v W'.h
theorem e_call {Rg : List D → (En → Prop) → Prop} {dvs : List V} {cs : List D} {X : XK} {T : List D → Prop} (h : EA ar ρ T) (hc : Reps (fun _ => none) cs dvs) (hr : ∀ ds, T ds → Rg (ds ++ cs) R) : EV (tCall (SpE Rg) dvs X ar) ρ R := fun W0 W σ E Q q =>
  h W0 W σ E _ fun vs ds W1 g1 r1 p1 => ⟨W1, ds ++ cs, R, rfl, r1.app (hc.mono fun _ _ z => by
      have z' : (none : Option HO) = some _ := z
      cases z'), hr ds p1, fun v e W3 g3 r3 p3 => q v e W3 (g1.trans g3) (r3.back g1.h) p3⟩
theorem e_call0 {Rg : List D → (En → Prop) → Prop} {X : XK} {ds : List D} (h : EA ar ρ (· = ds)) (hr : Rg ds R) : EV (tCall (SpE Rg) [] X ar) ρ R := e_call h .nil fun x e => by rw [e, List.append_nil]; exact hr
theorem e_callP {Rg : List D → (En → Prop) → Prop} {X : XK} {T : List D → Prop} (h : EA ar ρ T) (hr : ∀ ds, T ds → Rg ds R) : EV (tCall (SpE Rg) [] X ar) ρ R := e_call h .nil fun x e => by rw [List.append_nil]; exact hr x e
/-! methods -/
theorem e_bm {r : V → List V → Hp → VK → Prop} {Ty : String} {x : D} {T : List D → Prop} (h : ED te ρ (· = x)) (ht : ∀ (W : Wd) v, Rep W.b x v → tyV K Ty v W.h) (ha : EA ar ρ T) (hr : ∀ ds, T ds → MD r x ds R) : EV (tBM K Ty r te ar) ρ R := fun W0 W σ E Q q =>
  h W0 W σ E _ fun v d W1 g1 r1 p1 => by
    subst p1
    exact ⟨ht W1 v r1, ha W0 W1 σ (E.grow g1) _ fun vs ds W2 g2 r2 p2 => hr ds p2 W2 v vs (r1.mono g2.b) r2 Q fun u e W3 g3 r3 p3 => q u e W3 ((g1.trans g2).trans g3) (r3.back (g1.trans g2).h) p3⟩
theorem e_m1 {r : V → List V → Hp → VK → Prop} {s : List Nat} (h : ED te ρ (· = .str s)) (ha : ED ta ρ P) (hr : ∀ y, P y → MD r (.str s) [y] R) : EV (tM1 r te ta) ρ R := fun W0 W σ E Q q =>
  h W0 W σ E _ fun v d W1 g1 r1 p1 => by
    subst p1
    refine ⟨by cases r1; exact ⟨_, rfl⟩, ha W0 W1 σ (E.grow g1) _ fun w y W2 g2 r2 p2 => hr y p2 W2 v [w] (r1.mono g2.b) (.cons r2 .nil) Q fun u e W3 g3 r3 p3 => q u e W3 ((g1.trans g2).trans g3) (r3.back (g1.trans g2).h) p3⟩
/-! slices -/
theorem eo_none : EO tNoPart ρ (· = none) := fun W0 W σ E Q q => q none W (Grow.refl W) rfl
end
end Nt

namespace Nt
open PySem PySem.Spec PyProof.Rows L2
/-! ### what is walked: single things, pairs -/
structure It1 (J : It) (ds : List D) (W : Wd) : Prop where
  go : ∀ W' : Wd, Ex W.b W'.b → ∀ i, i < ds.length → J.go i W'.h
  stop : ∀ W' : Wd, Ex W.b W'.b → J.stop ds.length W'.h
  yld : ∀ W' : Wd, Ex W.b W'.b → ∀ i x H', i < ds.length → J.yld i W'.h x H' → H' = W'.h ∧ ∃ d, ds[i]? = some d ∧ Rep W'.b d x
structure It2 (J : It) (ps : List (D × D)) (W : Wd) : Prop where
  go : ∀ W' : Wd, Ex W.b W'.b → ∀ i, i < ps.length → J.go i W'.h
  stop : ∀ W' : Wd, Ex W.b W'.b → J.stop ps.length W'.h
  yld : ∀ W' : Wd, Ex W.b W'.b → ∀ i v H', i < ps.length → J.yld i W'.h v H' → ∃ T x y p, v = .ref T ∧ W'.h T = none ∧ H' = upd W'.h T (.tup [x, y]) ∧ ps[i]? = some p ∧ Rep W'.b p.1 x ∧ Rep W'.b p.2 y
theorem It1.mono {J : It} {ds : List D} {W W1 : Wd} (j : It1 J ds W) (e : Ex W.b W1.b) : It1 J ds W1 := ⟨fun W' a => j.go W' (e.tr a), fun W' a => j.stop W' (e.tr a), fun W' a => j.yld W' (e.tr a)⟩
theorem It2.mono {J : It} {ds : List (D × D)} {W W1 : Wd} (j : It2 J ds W) (e : Ex W.b W1.b) : It2 J ds W1 := ⟨fun W' a => j.go W' (e.tr a), fun W' a => j.stop W' (e.tr a), fun W' a => j.yld W' (e.tr a)⟩
def IV1 (wi : TI) (ρ : List En) (P : List D → Prop) : Prop := ∀ W0 W σ, Env W0 W σ ρ → ∀ R : It → Hp → Prop, (∀ J ds W', Grow W W' → It1 J ds W' → P ds → R J W'.h) → wi σ W.h R
def IV2 (wi : TI) (ρ : List En) (P : List (D × D) → Prop) : Prop := ∀ W0 W σ, Env W0 W σ ρ → ∀ R : It → Hp → Prop, (∀ J ps W', Grow W W' → It2 J ps W' → P ps → R J W'.h) → wi σ W.h R
section
variable {K : PySem.W.Frag} {ta tb te : TE} {tt : TT} {ar : TA} {ρ : List En} {P PA PB : D → Prop} {R : En → Prop}
theorem sq_l {H : Hp} {a : Addr} {xs : List V} (h : H a = some (.lst xs)) : SqL K H a xs := .inl (.inl h)
theorem sq_t {H : Hp} {a : Addr} {xs : List V} (h : H a = some (.tup xs)) : SqT K H a xs := .inl (.inl h)
theorem iv_list (h : ED te ρ (fun d => ∃ ds, d = .lst ds ∧ P (.lst ds))) : IV1 (iList K te) ρ (fun ds => P (.lst ds)) := fun W0 W σ E R q => h W0 W σ E _ fun v d W' g r ⟨ds, e, p⟩ => by
  subst e
  cases r with
  | lst ha hr =>
    rename_i a ws
    have hl := hr.len
    refine ⟨a, rfl, ⟨ws, sq_l (W'.le _ _ ha)⟩, q _ ds W' g ⟨fun W2 e2 i hi => ⟨ws, ws[i]'(by omega), sq_l (W2.le _ _ (e2 _ _ ha)), List.getElem?_eq_getElem (by omega)⟩, fun W2 e2 => ⟨ws, sq_l (W2.le _ _ (e2 _ _ ha)), by omega⟩, fun W2 e2 i x H' hi y => ?_⟩ p⟩
    have hx := y.2 ws (sq_l (W2.le _ _ (e2 _ _ ha)))
    obtain ⟨d, e, r⟩ := (hr.mono e2).at hx
    exact ⟨y.1, d, e, r⟩
theorem iv_listL {ds : List D} (h : ED te ρ (· = .lst ds)) : IV1 (iList K te) ρ (· = ds) := fun W0 W σ E R q =>
  iv_list (P := fun d => d = .lst ds) (h.imp fun d e => ⟨ds, e, e.symm ▸ rfl⟩) W0 W σ E R fun J es W' g i p => q J es W' g i (D.lst.inj p)
theorem iv_tupT {ds : List D} (h : ED te ρ (· = .tup ds)) : IV1 (iTup K te) ρ (· = ds) := fun W0 W σ E R q => h W0 W σ E _ fun v d W' g r e => by
  subst e
  cases r with
  | tup ha hr =>
    rename_i a ws
    have hl := hr.len
    refine ⟨a, rfl, ⟨ws, sq_t (W'.le _ _ ha)⟩, q _ ds W' g ⟨fun W2 e2 i hi => ⟨ws, ws[i]'(by omega), sq_t (W2.le _ _ (e2 _ _ ha)), List.getElem?_eq_getElem (by omega)⟩, fun W2 e2 => ⟨ws, sq_t (W2.le _ _ (e2 _ _ ha)), by omega⟩, fun W2 e2 i x H' hi y => ?_⟩ rfl⟩
    have hx := y.2 ws (sq_t (W2.le _ _ (e2 _ _ ha)))
    obtain ⟨d, e, r⟩ := (hr.mono e2).at hx
    exact ⟨y.1, d, e, r⟩
/-- a walk over a list or a tuple -/
def iSeq (K : PySem.W.Frag) (tl : TE) : TI := fun σ H R => iList K tl σ H R ∨ iTup K tl σ H R
theorem iv_list1 {ds : List D} (h : ED te ρ (· = .lst ds)) : IV1 (iSeq K te) ρ (· = ds) := fun W0 W σ E R q => .inl (iv_listL h W0 W σ E R q)
theorem iv_tup1 {ds : List D} (h : ED te ρ (· = .tup ds)) : IV1 (iSeq K te) ρ (· = ds) := fun W0 W σ E R q => .inr (iv_tupT h W0 W σ E R q)
inductive Sq : D → List D → Prop where
  | lst (ds : List D) : Sq (.lst ds) ds
  | tup (ds : List D) : Sq (.tup ds) ds
theorem iv_sq {x : D} {ds : List D} (s : Sq x ds) (h : ED te ρ (· = x)) : IV1 (iSeq K te) ρ (· = ds) := by
  cases s with
  | lst => exact iv_list1 h
  | tup => exact iv_tup1 h
def chs (s : List Nat) : List D := s.map fun c => .str [c]
theorem iv_str1 {s : List Nat} (h : ED te ρ (· = .str s)) : IV1 (iStr te) ρ (· = chs s) := fun W0 W σ E R q => h W0 W σ E _ fun v d W' g r e => by
  subst e
  cases r
  refine ⟨⟨s.toArray⟩, rfl, q _ (chs s) W' g ⟨fun W2 e2 i hi => ?_, fun W2 e2 => ?_, fun W2 e2 i x H' hi y => ?_⟩ rfl⟩
  · have : i < s.length := by simpa [chs] using hi
    simpa [Its] using this
  · simp [Its, chs]
  · obtain ⟨c, h1, h2⟩ := y.2
    have h1' : s[i]? = some c := by simpa using h1
    exact ⟨y.1, .str [c], by simp [chs, h1'], by rw [h2]; exact .str [c]⟩
def ixs (n : Nat) : List D := (List.range n).map fun (i : Nat) => D.int (i : Int)
theorem ixs_get {n i : Nat} (h : i < n) : (ixs n)[i]? = some (.int i) := by simp [ixs, h]
theorem iv_rngP {T : Int → Prop} (h : EA ar ρ (fun ds => ∃ n, ds = [.int n] ∧ n ≤ 100000 ∧ -100000 ≤ n ∧ T n)) : IV1 (iRng1 ar) ρ (fun ds => ∃ n : Int, ds = ixs n.toNat ∧ T n) := fun W0 W σ E R q => h W0 W σ E _ fun vs ds W' g r ⟨n, e, h1, h2, t⟩ => by
  subst e
  cases r with
  | cons r rr =>
    cases rr
    cases r
    refine ⟨n, rfl, by omega, by omega, q _ (ixs n.toNat) W' g ⟨fun W2 e2 i hi => ?_, fun W2 e2 => ?_, fun W2 e2 i x H' hi y => ?_⟩ ⟨n, rfl, t⟩⟩
    · have : i < n.toNat := by simpa [ixs] using hi
      exact this
    · show n.toNat ≤ (ixs n.toNat).length
      simp [ixs]
    · have hi' : i < n.toNat := by simpa [ixs] using hi
      refine ⟨y.1, .int i, ixs_get hi', ?_⟩
      have e3 : x = .int (0 + (i : Int)) := y.2
      rw [e3, Int.zero_add]
      exact .int _
theorem iv_rng1 {n : Int} (h : EA ar ρ (· = [.int n])) (h1 : n ≤ 100000) (h2 : -100000 ≤ n) : IV1 (iRng1 ar) ρ (· = ixs n.toNat) := fun W0 W σ E R q =>
  iv_rngP (T := fun m => m = n) (h.imp fun ds e => ⟨n, e, h1, h2, rfl⟩) W0 W σ E R fun J ds W' g i ⟨m, e, e2⟩ => q J ds W' g i (by rw [e, e2])
/-- what zip goes over -/
inductive Its1 : D → List D → Prop where
  | lst (ds : List D) : Its1 (.lst ds) ds
  | tup (ds : List D) : Its1 (.tup ds) ds
  | str (s : List Nat) : Its1 (.str s) (chs s)
theorem Sq.its {x : D} {ds : List D} (s : Sq x ds) : Its1 x ds := by
  cases s with
  | lst => exact .lst _
  | tup => exact .tup _
theorem src {H : Hp} {d : D} {ds : List D} {v : V} (i : Its1 d ds) (r : Rep H d v) : ∃ (k : Sk) (xs : List V), v = k.val ∧ Reps H ds xs ∧ ∀ H', Ex H H' → k.has K H' xs := by
  cases i with
  | lst =>
    cases r with
    | lst ha hr => exact ⟨.lst _, _, rfl, hr, fun H' e => sq_l (e _ _ ha)⟩
  | tup =>
    cases r with
    | tup ha hr => exact ⟨.tup _, _, rfl, hr, fun H' e => sq_t (e _ _ ha)⟩
  | str s =>
    cases r
    refine ⟨.txt ⟨s.toArray⟩, s.map fun c => .str ⟨#[c]⟩, rfl, ?_, fun H' e => by simp [Sk.has]⟩
    induction s with
    | nil => exact .nil
    | cons c s ih => exact .cons (.str [c]) ih
theorem iv_zip {x y : D} {xs ys : List D} (hx : Its1 x xs) (hy : Its1 y ys) (h : EA ar ρ (· = [x, y])) : IV2 (iZipG K ar) ρ (· = xs.zip ys) := fun W0 W σ E R q => h W0 W σ E _ fun vs ds W' g r e => by
  subst e
  cases r with
  | cons r1 rr =>
    cases rr with
    | cons r2 rr =>
      cases rr
      obtain ⟨k1, us, rfl, ru, hu⟩ := src (K := K) hx r1
      obtain ⟨k2, ws, rfl, rw', hw⟩ := src (K := K) hy r2
      have l1 := ru.len
      have l2 := rw'.len
      refine ⟨k1, k2, us, ws, rfl, hu _ W'.le, hw _ W'.le, q _ (xs.zip ys) W' g ⟨fun W2 e2 i hi => ?_, fun W2 e2 => ?_, fun W2 e2 i v H' hi y => ?_⟩ rfl⟩
      · have : i < min xs.length ys.length := by simpa using hi
        exact ⟨us, ws, hu _ (e2.tr W2.le), hw _ (e2.tr W2.le), by omega, by omega⟩
      · refine ⟨us, ws, hu _ (e2.tr W2.le), hw _ (e2.tr W2.le), ?_⟩
        rw [List.length_zip]; omega
      · obtain ⟨T, a, c, h1, h2, h3, h4, h5⟩ := y
        obtain ⟨d1, e3, q1⟩ := (ru.mono e2).at (h4 us (hu _ (e2.tr W2.le)))
        obtain ⟨d2, e4, q2⟩ := (rw'.mono e2).at (h5 ws (hw _ (e2.tr W2.le)))
        exact ⟨T, a, c, (d1, d2), h1, h2, h3, by rw [List.getElem?_zip_eq_some]; exact ⟨e3, e4⟩, q1, q2⟩
theorem iv_enum {s : List Nat} (h : EA ar ρ (· = [.str s])) : IV2 (iEnumS ar) ρ (· = (ixs s.length).zip (chs s)) := fun W0 W σ E R q => h W0 W σ E _ fun vs ds W' g r e => by
  subst e
  cases r with
  | cons r rr =>
    cases rr
    cases r
    have hl : ((ixs s.length).zip (chs s)).length = s.length := by simp [ixs, chs]
    refine ⟨⟨s.toArray⟩, rfl, q _ _ W' g ⟨fun W2 e2 i hi => ?_, fun W2 e2 => ?_, fun W2 e2 i v H' hi y => ?_⟩ rfl⟩
    · rw [hl] at hi
      show i < s.toArray.size
      simpa using hi
    · rw [hl]
      show s.length = s.toArray.size
      simp
    · rw [hl] at hi
      obtain ⟨T, c, h1, h2, h3, h4⟩ := y
      have h4' : s[i]? = some c := by simpa using h4
      refine ⟨T, _, _, (.int i, .str [c]), h1, h2, h3, ?_, .int _, .str [c]⟩
      rw [List.getElem?_zip_eq_some]
      exact ⟨ixs_get hi, by simp [chs, h4']⟩
end
/-! ### comprehensions -/
section
variable {ρ : List En} {te : TE} {tt : TT} {wi : TI}
/-- what stands within a comprehension -/
structure Lc (W : Wd) (Dd : Addr) (Inv : Nat → List D → Prop) (i : Nat) (H : Hp) : Prop where
  ex : ∃ (W' : Wd) (acc : List D) (ws : List V), W'.h = H ∧ Grow W W' ∧ W'.h Dd = some (.lst ws) ∧ W'.b Dd = none ∧ Reps W'.b acc ws ∧ acc.length ≤ i ∧ Inv i acc
theorem lc_step {W0 W W' : Wd} {σ : L2.St} {ρ' : List En} {Dd : Addr} {Inv : Nat → List D → Prop} {i : Nat} {acc : List D} {ws : List V} (hD : W.h Dd = none) (E : Env W0 W' σ ρ') (g : Grow W W') (h1 : W'.h Dd = some (.lst ws)) (h2 : W'.b Dd = none) (r : Reps W'.b acc ws) (hl : acc.length ≤ i) (hi : i < 100000)
    (t : ET tt ρ' fun b => if b = true then ED te ρ' fun y => Inv (i + 1) (acc ++ [y]) else Inv (i + 1) acc) :
    tt σ W'.h fun b H3 => if b = true then te σ H3 fun y H4 => ∃ acc, H4 Dd = some (.lst acc) ∧ acc.length < sizeLine ∧ Lc W Dd Inv (i + 1) (upd H4 Dd (.lst (acc ++ [y]))) else Lc W Dd Inv (i + 1) H3 := by
  refine t W0 W' σ E _ fun b W2 g2 p => ?_
  cases b with
  | false => exact iteF ⟨W2, acc, ws, rfl, g.trans g2, g2.h _ _ h1, g2.nw Dd h2 (by rw [h1]; exact fun z => nomatch z), r.mono g2.b, by omega, p⟩
  | true =>
    refine iteT (p W0 W2 σ (E.grow g2) _ fun y d W3 g3 r3 p3 => ?_)
    have k1 : W3.h Dd = some (.lst ws) := g3.h _ _ (g2.h _ _ h1)
    have k2 : W3.b Dd = none := g3.nw Dd (g2.nw Dd h2 (by rw [h1]; exact fun z => nomatch z)) (by rw [g2.h _ _ h1]; exact fun z => nomatch z)
    have hlen := r.len
    refine ⟨ws, k1, Evl.sz_lt (by omega), ⟨⟨W3.b, upd W3.h Dd (.lst (ws ++ [y])), fun a o e => ?_⟩, acc ++ [d], ws ++ [y], rfl, ⟨((g.trans g2).trans g3).b, fun a o e => ?_, ((g.trans g2).trans g3).nw⟩, upd_same, k2, (r.mono (g2.trans g3).b).app (.cons r3 .nil), by rw [List.length_append]; simp; omega, p3⟩⟩
    · show upd W3.h Dd _ a = some o
      rw [upd_ne (fun z => by rw [z, k2] at e; cases e)]; exact W3.le _ _ e
    · show upd W3.h Dd _ a = some o
      rw [upd_ne (ne_of_none e hD)]; exact ((g.trans g2).trans g3).h _ _ e
theorem set_wipe {σ : L2.St} {j : Nat} {x : Option V} : (((σ.set j none).set j x).set j none) = σ.set j none := by rw [List.set_set, List.set_set]
theorem e_lc1 {j : Nat} {T : List D → Prop} {Inv : List D → Nat → List D → Prop} (h : IV1 wi ρ T) (hn : ∀ ds, T ds → ds.length ≤ 100000) (h0 : ∀ ds, T ds → Inv ds 0 [])
    (hs : ∀ ds i d acc, T ds → ds[i]? = some d → Inv ds i acc → ET tt (ρ.set j (.dat d)) fun b => if b = true then ED te (ρ.set j (.dat d)) fun y => Inv ds (i + 1) (acc ++ [y]) else Inv ds (i + 1) acc) :
    EV (tLc wi (gName j) tt te [j]) ρ (fun e => ∃ ds acc, e = .own acc ∧ T ds ∧ Inv ds ds.length acc) := fun W0 W σ E Q q => h W0 W σ E _ fun J ds W1 g1 it t Dd hD => by
  have E1 := E.grow g1
  refine ⟨fun i m H => i ≤ ds.length ∧ m = ds.length - i ∧ Lc W1 Dd (Inv ds) i H, ⟨ds.length, Nat.zero_le _, rfl, ⟨W1.add Dd (.lst []) hD, [], [], rfl, Grow.add hD, upd_same, W1.le.none' hD, .nil, Nat.le_refl _, h0 ds t⟩⟩, ?_⟩
  rintro i m H ⟨hi, hm, ⟨W', acc, ws, rfl, g, k1, k2, r, hl, inv⟩⟩
  by_cases hlt : i < ds.length
  · refine .inr ⟨it.go W' g.b i hlt, fun H' => Lc W1 Dd (Inv ds) (i + 1) H', fun H' l => ⟨ds.length - (i + 1), by omega, hlt, rfl, l⟩, fun x H' y => ?_⟩
    obtain ⟨e, d, hd, rd⟩ := it.yld W' g.b i x H' hlt y
    subst e
    have E2 : Env W0 W' ((σ.set j none).set j (some x)) ((ρ.set j .un).set j (.dat d)) := Env.set ((E1.grow g).drop j none) (Grow.refl W') (e := .dat d) rd j
    have er : (ρ.set j .un).set j (.dat d) = ρ.set j (.dat d) := List.set_set ..
    rw [er] at E2
    exact ⟨set_wipe, lc_step hD E2 g k1 k2 r hl (by have := hn ds t; omega) (hs ds i d acc t hd inv)⟩
  · have e : i = ds.length := by omega
    subst e
    exact .inl ⟨it.stop W' g.b, q _ (.own acc) W' (g1.trans g) ⟨Dd, ws, rfl, k1, k2, g1.h.none' hD, r⟩ ⟨ds, acc, rfl, t, inv⟩⟩
theorem set_wipe2 {σ : L2.St} {j k : Nat} {x y : Option V} (hjk : j ≠ k) : ((((((σ.set k none).set j none).set j x).set k y).set k none).set j none) = (σ.set k none).set j none := by
  have a : ((σ.set k none).set j none).set j x = (σ.set k none).set j x := List.set_set ..
  have b : (((σ.set k none).set j x).set k y).set k none = ((σ.set k none).set j x).set k none := List.set_set ..
  have c : ((σ.set k none).set j x).set k none = ((σ.set k none).set k none).set j x := List.set_comm _ _ hjk
  have d : (σ.set k none).set k none = σ.set k none := List.set_set ..
  rw [a, b, c, d]
  exact List.set_set ..
theorem e_lc2 {j k : Nat} {T : List (D × D) → Prop} {Inv : List (D × D) → Nat → List D → Prop} (h : IV2 wi ρ T) (hjk : j ≠ k) (hn : ∀ ds, T ds → ds.length ≤ 100000) (h0 : ∀ ds, T ds → Inv ds 0 [])
    (hs : ∀ ds i d acc, T ds → ds[i]? = some d → Inv ds i acc → ET tt ((ρ.set j (.dat d.1)).set k (.dat d.2)) fun b => if b = true then ED te ((ρ.set j (.dat d.1)).set k (.dat d.2)) fun y => Inv ds (i + 1) (acc ++ [y]) else Inv ds (i + 1) acc) {K : PySem.W.Frag} :
    EV (tLc wi (gTup K 2 (gCons (gName j) (gCons (gName k) gNil))) tt te [j, k]) ρ (fun e => ∃ ds acc, e = .own acc ∧ T ds ∧ Inv ds ds.length acc) := fun W0 W σ E Q q => h W0 W σ E _ fun J ds W1 g1 it t Dd hD => by
  have E1 := E.grow g1
  refine ⟨fun i m H => i ≤ ds.length ∧ m = ds.length - i ∧ Lc W1 Dd (Inv ds) i H, ⟨ds.length, Nat.zero_le _, rfl, ⟨W1.add Dd (.lst []) hD, [], [], rfl, Grow.add hD, upd_same, W1.le.none' hD, .nil, Nat.le_refl _, h0 ds t⟩⟩, ?_⟩
  rintro i m H ⟨hi, hm, ⟨W', acc, ws, rfl, g, k1, k2, r, hl, inv⟩⟩
  by_cases hlt : i < ds.length
  · refine .inr ⟨it.go W' g.b i hlt, fun H' => Lc W1 Dd (Inv ds) (i + 1) H', fun H' l => ⟨ds.length - (i + 1), by omega, hlt, rfl, l⟩, fun v H' yy => ?_⟩
    obtain ⟨Tt, x, y, d, rfl, hT, rfl, hd, rx, ry⟩ := it.yld W' g.b i v H' hlt yy
    have gT := Grow.add (W := W') (o := .tup [x, y]) hT
    have neD : Dd ≠ Tt := fun z => by rw [z, hT] at k1; cases k1
    have E2 : Env W0 (W'.add Tt (.tup [x, y]) hT) (((σ.set k none).set j none).set j (some x)) (((ρ.set k .un).set j .un).set j (.dat d.1)) := Env.set ((((E1.grow g).grow gT).drop k none).drop j none) (Grow.refl _) (e := .dat d.1) rx j
    have E3 := Env.set E2 (Grow.refl _) (e := .dat d.2) ry k
    have er : ((((ρ.set k .un).set j .un).set j (.dat d.1)).set k (.dat d.2)) = ((ρ.set j (.dat d.1)).set k (.dat d.2)) := by
      rw [List.set_set, List.set_comm _ _ (show k ≠ j from hjk.symm), List.set_set]
    rw [er] at E3
    refine ⟨Tt, [x, y], rfl, sq_t upd_same, rfl, x, [y], rfl, y, [], rfl, rfl, set_wipe2 hjk, ?_⟩
    exact lc_step (W' := W'.add Tt (.tup [x, y]) hT) hD E3 (g.trans gT) (by show upd W'.h Tt _ Dd = _; rw [upd_ne neD]; exact k1) k2 r hl (by have := hn ds t; omega) (hs ds i d acc t hd inv)
  · have e : i = ds.length := by omega
    subst e
    exact .inl ⟨it.stop W' g.b, q _ (.own acc) W' (g1.trans g) ⟨Dd, ws, rfl, k1, k2, g1.h.none' hD, r⟩ ⟨ds, acc, rfl, t, inv⟩⟩
end
end Nt

namespace Nt
open PySem PySem.Spec PyProof.Rows L2
/-! ### own lists that change -/
theorem Env.mut {W0 W : Wd} {σ : L2.St} {ρ : List En} (E : Env W0 W σ ρ) {i : Nat} {ds ds' : List D} (h : ρ[i]? = some (.own ds)) :
    ∃ l vs, σ[i]? = some (some (.ref l)) ∧ W.h l = some (.lst vs) ∧ W0.h l = none ∧ Reps W.b ds vs ∧ ∀ vs', Reps W.b ds' vs' → ∃ W' : Wd, W'.b = W.b ∧ W'.h = upd W.h l (.lst vs') ∧ Env W0 W' σ (ρ.set i (.own ds')) := by
  obtain ⟨v, hv, l, vs, rfl, h1, h2, h3, h4⟩ := E.ent i _ h (fun z => nomatch z)
  refine ⟨l, vs, hv, h1, h3, h4, fun vs' r => ⟨⟨W.b, upd W.h l (.lst vs'), fun a o e => ?_⟩, rfl, rfl, ⟨⟨E.g.b, fun a o e => ?_, E.g.nw⟩, by rw [List.length_set, E.len], fun j e' hj n => ?_, fun j k ds1 es l' a1 a2 a3 a4 => ?_⟩⟩⟩
  · show upd W.h l _ a = some o
    rw [upd_ne (fun z => by rw [z, h2] at e; cases e)]; exact W.le _ _ e
  · show upd W.h l _ a = some o
    rw [upd_ne (ne_of_none e h3)]; exact E.g.h _ _ e
  · rcases set_get hj with ⟨rfl, rfl, _⟩ | ⟨hne, hj⟩
    · exact ⟨_, hv, l, vs', rfl, upd_same, h2, h3, r⟩
    · obtain ⟨v', a, b⟩ := E.ent j e' hj n
      refine ⟨v', a, ?_⟩
      cases e' with
      | un => exact absurd rfl n
      | dat d => exact b
      | own es =>
        obtain ⟨l2, ws, rfl, w1, w2, w3, w4⟩ := b
        refine ⟨l2, ws, rfl, ?_, w2, w3, w4⟩
        show upd W.h l _ l2 = _
        rw [upd_ne (fun z => hne (E.apart j i es ds l hj h (by rw [← z]; exact a) hv))]
        exact w1
  · rcases set_get a1 with ⟨q1, q, _⟩ | ⟨n1, m1⟩
    · rcases set_get a2 with ⟨q2, q', _⟩ | ⟨n2, m2⟩
      · rw [q1, q2]
      · rw [q1] at a3 ⊢
        exact E.apart i k ds es l' h m2 a3 a4
    · rcases set_get a2 with ⟨q2, q', _⟩ | ⟨n2, m2⟩
      · rw [q2] at a4 ⊢
        exact E.apart j i ds1 ds l' m1 h a3 a4
      · exact E.apart j k ds1 es l' m1 m2 a3 a4
/-- an own list is asked, what comes is flat -/
theorem Env.lend {W0 W : Wd} {σ : L2.St} {ρ : List En} (E : Env W0 W σ ρ) {i : Nat} {ds : List D} (h : ρ[i]? = some (.own ds)) :
    ∃ W1 : Wd, W1.h = W.h ∧ Env W0 W1 σ (ρ.set i (.dat (.lst ds))) ∧ ∀ W2 : Wd, Grow W1 W2 → ∃ W3 : Wd, W3.h = W2.h ∧ Grow W W3 := by
  obtain ⟨W1, e1, e2, E1⟩ := E.freeze h
  have gh : ∀ W2 : Wd, Grow W1 W2 → Ex W.h W2.h := fun W2 g => by rw [← e1]; exact g.h
  exact ⟨W1, e1, E1, fun W2 g => ⟨⟨W.b, W2.h, W.le.tr (gh W2 g)⟩, rfl, ⟨Ex.rfl', gh W2 g, fun _ z _ => z⟩⟩⟩
/-! ### statements -/
structure Ps where
  N : List En → Prop
  R : En → Prop
  B : List En → Prop := fun _ => False
  C : List En → Prop := fun _ => False
def TT' (ts : TS) (ρ : List En) (p : Ps) : Prop := ∀ W0 W σ, Env W0 W σ ρ → ∀ Dd : Ends, (∀ σ' W' ρ', Env W0 W' σ' ρ' → Ex W.b W'.b → p.N ρ' → Dd.nx σ' W'.h) → (∀ v e W', Grow W0 W' → RepV W0 W' e v → p.R e → Dd.rt v W'.h) →
  (∀ σ' W' ρ', Env W0 W' σ' ρ' → Ex W.b W'.b → p.B ρ' → Dd.bk σ' W'.h) → (∀ σ' W' ρ', Env W0 W' σ' ρ' → Ex W.b W'.b → p.C ρ' → Dd.ct σ' W'.h) → ts Dd σ W.h
section
variable {K : PySem.W.Frag} {ta tb te : TE} {tt : TT} {ar : TA} {ρ : List En} {p : Ps} {t u : TS} {wi : TI} {P : En → Prop} {PD : D → Prop} {T : Bool → Prop}
theorem t_seq {M : List En → Prop} (h : TT' t ρ { p with N := M }) (k : ∀ ρ', M ρ' → TT' u ρ' p) : TT' (tSeq t u) ρ p := fun W0 W σ E Dd nx rt bk ct =>
  h W0 W σ E { Dd with nx := u Dd } (fun σ' W' ρ' E' e m => k ρ' m W0 W' σ' E' Dd (fun σ2 W2 ρ2 E2 e2 n => nx σ2 W2 ρ2 E2 (e.tr e2) n) rt (fun σ2 W2 ρ2 E2 e2 n => bk σ2 W2 ρ2 E2 (e.tr e2) n) (fun σ2 W2 ρ2 E2 e2 n => ct σ2 W2 ρ2 E2 (e.tr e2) n)) rt bk ct
theorem t_next (h : p.N ρ) : TT' tNext ρ p := fun W0 W σ E Dd nx _ _ _ => nx σ W ρ E Ex.rfl' h
theorem t_break (h : p.B ρ) : TT' tBreak ρ p := fun W0 W σ E Dd _ _ bk _ => bk σ W ρ E Ex.rfl' h
theorem t_cont (h : p.C ρ) : TT' tCont ρ p := fun W0 W σ E Dd _ _ _ ct => ct σ W ρ E Ex.rfl' h
theorem t_asg {i : Nat} (h : EV te ρ P) (k : ∀ e, P e → p.N (ρ.set i e)) : TT' (tAsg te (gName i)) ρ p := fun W0 W σ E Dd nx _ _ _ => h W0 W σ E _ fun v e W' g r q => nx _ W' _ (E.set g r i) g.b (k e q)
theorem t_asgd {i : Nat} (h : ED te ρ PD) (k : ∀ d, PD d → p.N (ρ.set i (.dat d))) : TT' (tAsg te (gName i)) ρ p := t_asg h.ev fun e ⟨d, q, r⟩ => by rw [q]; exact k d r
theorem q_asg {i : Nat} (h : EV te ρ P) (k : ∀ e, P e → TT' u (ρ.set i e) p) : TT' (tSeq (tAsg te (gName i)) u) ρ p := t_seq (M := fun ρ' => TT' u ρ' p) (t_asg h k) fun _ q => q
theorem q_asgd {i : Nat} (h : ED te ρ PD) (k : ∀ d, PD d → TT' u (ρ.set i (.dat d)) p) : TT' (tSeq (tAsg te (gName i)) u) ρ p := t_seq (M := fun ρ' => TT' u ρ' p) (t_asgd h k) fun _ q => q
theorem q_asg1 {i : Nat} {d : D} (h : ED te ρ (· = d)) (k : TT' u (ρ.set i (.dat d)) p) : TT' (tSeq (tAsg te (gName i)) u) ρ p := q_asgd h fun x e => by rw [e]; exact k
theorem q_asgo {i : Nat} {ds : List D} (h : EV te ρ (· = .own ds)) (k : TT' u (ρ.set i (.own ds)) p) : TT' (tSeq (tAsg te (gName i)) u) ρ p := q_asg h fun x e => by rw [e]; exact k
theorem t_ret (h : EV te ρ P) (k : ∀ e, P e → p.R e) : TT' (tRet te) ρ p := fun W0 W σ E Dd _ rt _ _ => h W0 W σ E _ fun v e W' g r q => rt v e W' (E.g.trans g) (r.back E.g.h) (k e q)
theorem t_retd (h : ED te ρ PD) (k : ∀ d, PD d → p.R (.dat d)) : TT' (tRet te) ρ p := t_ret h.ev fun e ⟨d, q, r⟩ => by rw [q]; exact k d r
theorem t_ret1 {d : D} (h : ED te ρ (· = d)) (k : p.R (.dat d)) : TT' (tRet te) ρ p := t_retd h fun _ e => by rw [e]; exact k
/-- an own list is handed back -/
theorem t_retO {i : Nat} {ds : List D} (h : ρ[i]? = some (.own ds)) (k : p.R (.own ds)) : TT' (tRet (tVar i)) ρ p := fun W0 W σ E Dd _ rt _ _ => by
  obtain ⟨v, a, r⟩ := E.ent i _ h (fun z => nomatch z)
  exact ⟨v, a, rt v _ W E.g r k⟩
theorem t_if (h : ET tt ρ T) (h1 : T true → TT' t ρ p) (h2 : T false → TT' u ρ p) : TT' (tIfS tt t u) ρ p := fun W0 W σ E Dd nx rt bk ct => h W0 W σ E _ fun b W' g q => by
  have f : ∀ {X : List En → Prop} {Y : L2.St → Hp → Prop}, (∀ σ' W' ρ', Env W0 W' σ' ρ' → Ex W.b W'.b → X ρ' → Y σ' W'.h) → (∀ σ' W2 ρ', Env W0 W2 σ' ρ' → Ex W'.b W2.b → X ρ' → Y σ' W2.h) := fun z σ' W2 ρ' E2 e2 x => z σ' W2 ρ' E2 (g.b.tr e2) x
  cases b with
  | true => exact iteT (h1 q W0 W' σ (E.grow g) Dd (f nx) rt (f bk) (f ct))
  | false => exact iteF (h2 q W0 W' σ (E.grow g) Dd (f nx) rt (f bk) (f ct))
theorem q_if (h : ET tt ρ T) (h1 : T true → TT' t ρ { p with N := fun ρ' => TT' u ρ' p }) (h2 : T false → TT' u ρ p) : TT' (tSeq (tIfS tt t tNext) u) ρ p :=
  t_seq (M := fun ρ' => TT' u ρ' p) (t_if h h1 fun q => t_next (h2 q)) fun _ q => q
theorem q_if1 {b : Bool} (h : ET tt ρ (· = b)) (h1 : b = true → TT' t ρ { p with N := fun ρ' => TT' u ρ' p }) (h2 : b = false → TT' u ρ p) : TT' (tSeq (tIfS tt t tNext) u) ρ p := q_if h (fun e => h1 e.symm) fun e => h2 e.symm
theorem q_ife {v : TS} (h : ET tt ρ T) (h1 : T true → TT' t ρ { p with N := fun ρ' => TT' u ρ' p }) (h2 : T false → TT' v ρ { p with N := fun ρ' => TT' u ρ' p }) : TT' (tSeq (tIfS tt t v) u) ρ p :=
  t_seq (M := fun ρ' => TT' u ρ' p) (t_if h h1 h2) fun _ q => q
theorem t_imp {p' : Ps} (h : TT' t ρ p') (n : ∀ r, p'.N r → p.N r) (r : ∀ r, p'.R r → p.R r) (b : ∀ r, p'.B r → p.B r) (c : ∀ r, p'.C r → p.C r) : TT' t ρ p := fun W0 W σ E Dd nx rt bk ct =>
  h W0 W σ E Dd (fun a b c d e f => nx a b c d e (n _ f)) (fun v e W' g q z => rt v e W' g q (r _ z)) (fun a x c d e f => bk a x c d e (b _ f)) (fun a b x d e f => ct a b x d e (c _ f))
/-- an own list is data from here on -/
theorem t_freeze {i : Nat} {ds : List D} (h : ρ[i]? = some (.own ds)) (k : TT' t (ρ.set i (.dat (.lst ds))) p) : TT' t ρ p := fun W0 W σ E Dd nx rt bk ct => by
  obtain ⟨W1, e1, e2, E1⟩ := E.freeze h
  rw [← e1]
  exact k W0 W1 σ E1 Dd (fun σ' W' ρ' E' e n => nx σ' W' ρ' E' (e2.tr e) n) rt (fun σ' W' ρ' E' e n => bk σ' W' ρ' E' (e2.tr e) n) (fun σ' W' ρ' E' e n => ct σ' W' ρ' E' (e2.tr e) n)
theorem e_lend {i : Nat} {ds : List D} (h : ρ[i]? = some (.own ds)) (k : ED te (ρ.set i (.dat (.lst ds))) PD) (f : ∀ d, PD d → d.flat = true) : ED te ρ PD := fun W0 W σ E Q q => by
  obtain ⟨W1, e1, E1, z⟩ := E.lend h
  rw [← e1]
  refine k W0 W1 σ E1 Q fun v d W2 g r pd => ?_
  obtain ⟨W3, e3, g3⟩ := z W2 g
  rw [← e3]
  exact q v d W3 g3 (r.flat (f d pd)) pd
theorem et_lend {i : Nat} {ds : List D} (h : ρ[i]? = some (.own ds)) (k : ET tt (ρ.set i (.dat (.lst ds))) T) : ET tt ρ T := fun W0 W σ E Q q => by
  obtain ⟨W1, e1, E1, z⟩ := E.lend h
  rw [← e1]
  refine k W0 W1 σ E1 Q fun b W2 g pd => ?_
  obtain ⟨W3, e3, g3⟩ := z W2 g
  rw [← e3]
  exact q b W3 g3 pd
/-! loops -/
theorem t_for1 {j : Nat} {Ti : List D → Prop} (h : IV1 wi ρ Ti) (Inv : List D → Nat → List En → Prop) (h0 : ∀ ds, Ti ds → Inv ds 0 ρ)
    (hs : ∀ ds i d ρ', Ti ds → ds[i]? = some d → Inv ds i ρ' → TT' t (ρ'.set j (.dat d)) { N := Inv ds (i + 1), R := p.R, B := p.N, C := Inv ds (i + 1) }) (hd : ∀ ds ρ', Ti ds → Inv ds ds.length ρ' → p.N ρ') : TT' (tFor wi (gName j) t) ρ p := fun W0 W σ E Dd nx rt bk ct =>
  h W0 W σ E _ fun J ds W1 g1 it ti => by
    refine ⟨fun i m σ' H => i ≤ ds.length ∧ m = ds.length - i ∧ ∃ W' ρ', W'.h = H ∧ Env W0 W' σ' ρ' ∧ Ex W1.b W'.b ∧ Inv ds i ρ', ⟨ds.length, Nat.zero_le _, rfl, W1, ρ, rfl, E.grow g1, Ex.rfl', h0 ds ti⟩, ?_⟩
    rintro i m σ' H ⟨hi, hm, W', ρ', rfl, E', e', inv⟩
    by_cases hlt : i < ds.length
    · refine .inr ⟨it.go W' e' i hlt, fun σ2 H2 => ∃ W' ρ', W'.h = H2 ∧ Env W0 W' σ2 ρ' ∧ Ex W1.b W'.b ∧ Inv ds (i + 1) ρ', fun σ2 H2 l => ⟨ds.length - (i + 1), by omega, hlt, rfl, l⟩, fun x H' y => ?_⟩
      obtain ⟨e, d, hd', rd⟩ := it.yld W' e' i x H' hlt y
      subst e
      exact hs ds i d ρ' ti hd' inv W0 W' _ (E'.set (Grow.refl W') (e := .dat d) rd j) _ (fun σ2 W2 ρ2 E2 e2 n => ⟨W2, ρ2, rfl, E2, e'.tr e2, n⟩) rt (fun σ2 W2 ρ2 E2 e2 n => nx σ2 W2 ρ2 E2 ((g1.b.tr e').tr e2) n) (fun σ2 W2 ρ2 E2 e2 n => ⟨W2, ρ2, rfl, E2, e'.tr e2, n⟩)
    · have e : i = ds.length := by omega
      subst e
      exact .inl ⟨it.stop W' e', nx σ' W' ρ' E' (g1.b.tr e') (hd ds ρ' ti inv)⟩
theorem t_while (Inv : Nat → List En → Prop) (m0 : Nat) (h0 : Inv m0 ρ)
    (hs : ∀ m ρ', Inv m ρ' → ∃ T : Bool → Prop, ET tt ρ' T ∧ (T true → TT' t ρ' { N := fun r => ∃ m', m' < m ∧ Inv m' r, R := p.R, B := p.N, C := fun r => ∃ m', m' < m ∧ Inv m' r }) ∧ (T false → p.N ρ')) : TT' (tWhile tt t) ρ p := fun W0 W σ E Dd nx rt bk ct => by
  refine ⟨fun m σ' H => ∃ W' ρ', W'.h = H ∧ Env W0 W' σ' ρ' ∧ Ex W.b W'.b ∧ Inv m ρ', ⟨m0, W, ρ, rfl, E, Ex.rfl', h0⟩, ?_⟩
  rintro m σ' H ⟨W', ρ', rfl, E', e', inv⟩
  obtain ⟨T, h, h1, h2⟩ := hs m ρ' inv
  refine h W0 W' σ' E' _ fun b W2 g2 q => ?_
  cases b with
  | true =>
    refine iteT ⟨fun σ2 H2 => ∃ m', m' < m ∧ ∃ W' ρ', W'.h = H2 ∧ Env W0 W' σ2 ρ' ∧ Ex W.b W'.b ∧ Inv m' ρ', fun σ2 H2 l => l, ?_⟩
    exact h1 q W0 W2 σ' (E'.grow g2) _ (fun σ2 W3 ρ2 E2 e2 ⟨m', a, b⟩ => ⟨m', a, W3, ρ2, rfl, E2, (e'.tr g2.b).tr e2, b⟩) rt (fun σ2 W3 ρ2 E2 e2 n => nx σ2 W3 ρ2 E2 ((e'.tr g2.b).tr e2) n) (fun σ2 W3 ρ2 E2 e2 ⟨m', a, b⟩ => ⟨m', a, W3, ρ2, rfl, E2, (e'.tr g2.b).tr e2, b⟩)
  | false => exact iteF (nx σ' W2 ρ' (E'.grow g2) (e'.tr g2.b) (h2 q))
theorem q_of {M : List En → Prop} (h : TT' t ρ { p with N := M }) (k : ∀ ρ', M ρ' → TT' u ρ' p) : TT' (tSeq t u) ρ p := t_seq h k
/-! own lists by their methods -/
theorem t_app {i : Nat} {ds : List D} (h : ρ[i]? = some (.own ds)) (he : ED te ρ PD) (hl : ds.length < 100000) (k : ∀ d, PD d → p.N (ρ.set i (.own (ds ++ [d])))) : TT' (tDrop (tBM K "list" rAppend (tVar i) (tCons te tNil))) ρ p := fun W0 W σ E Dd nx rt bk ct => by
  obtain ⟨l, vs, hv, h1, _⟩ := E.mut (ds' := []) h
  refine ⟨.ref l, hv, .inl ⟨rfl, _, sq_l h1⟩, ?_⟩
  refine he W0 W σ E _ fun v d W1 g1 r1 pd => ?_
  obtain ⟨l', vs', hv', h1', _, r', z⟩ := (E.grow g1).mut (ds' := ds ++ [d]) h
  rw [hv] at hv'
  cases hv'
  obtain ⟨W2, e1, e2, E2⟩ := z (vs' ++ [v]) (r'.app (.cons r1 .nil))
  have hlen := r'.len
  refine ⟨l, vs', v, rfl, rfl, h1', Evl.sz_lt (by omega), ?_⟩
  rw [← e2]
  exact nx σ W2 _ E2 (by rw [e1]; exact g1.b) (k d pd)
theorem t_pop {i j : Nat} {ds : List D} {d : D} (h : ρ[i]? = some (.own ds)) (hd : ds[ds.length - 1]? = some d) (k : p.N ((ρ.set i (.own ds.dropLast)).set j (.dat d))) : TT' (tAsg (tBM0 K "list" rPop (tVar i)) (gName j)) ρ p := fun W0 W σ E Dd nx rt bk ct => by
  obtain ⟨l, vs, hv, h1, _, r, z⟩ := E.mut (ds' := ds.dropLast) h
  obtain ⟨v, q1, q2⟩ := r.get hd
  obtain ⟨W2, e1, e2, E2⟩ := z vs.dropLast (by rw [List.dropLast_eq_take, List.dropLast_eq_take, r.len]; exact r.take _)
  refine ⟨.ref l, hv, .inl ⟨rfl, _, sq_l h1⟩, l, vs, v, rfl, rfl, h1, by rw [r.len]; exact q1, ?_⟩
  rw [← e2]
  exact nx _ W2 _ (E2.set (Grow.refl W2) (e := .dat d) (by show Rep W2.b d v; rw [e1]; exact q2) j) (by rw [e1]; exact Ex.rfl') k
theorem reps_erase {H : Hp} : ∀ {ds : List D} {vs : List V} (k : Nat), Reps H ds vs → Reps H (ds.eraseIdx k) (vs.eraseIdx k)
  | _, _, 0, .nil => .nil
  | _, _, k + 1, .nil => .nil
  | _, _, 0, .cons _ r => r
  | _, _, k + 1, .cons h r => .cons h (reps_erase k r)
/-- found.append(rest.pop(k)) -/
theorem t_apop {i j : Nat} {xs ys : List D} (hij : i ≠ j) (hi : ρ[i]? = some (.own xs)) (hj : ρ[j]? = some (.own ys)) (ha : EA ar ρ (fun ds => ∃ k : Nat, ds = [.int k] ∧ k < ys.length)) (hl : xs.length < 100000) (hl2 : ys.length ≤ 100000)
    (k : ∀ (k : Nat) y, ys[k]? = some y → p.N ((ρ.set j (.own (ys.eraseIdx k))).set i (.own (xs ++ [y])))) : TT' (tDrop (tBM K "list" rAppend (tVar i) (tCons (tBM K "list" rPopAt (tVar j) ar) tNil))) ρ p := fun W0 W σ E Dd nx rt bk ct => by
  obtain ⟨l, vs, hv, h1, _⟩ := E.mut (ds' := []) hi
  obtain ⟨l2, vs2, hv2, h2, _⟩ := E.mut (ds' := []) hj
  refine ⟨.ref l, hv, .inl ⟨rfl, _, sq_l h1⟩, .ref l2, hv2, .inl ⟨rfl, _, sq_l h2⟩, ?_⟩
  refine ha W0 W σ E _ fun ws ds W1 g1 r1 ⟨n, e, hn⟩ => ?_
  subst e
  cases r1 with
  | cons ra rr =>
    cases rr
    cases ra
    have hy : ys[n]? = some ys[n] := List.getElem?_eq_getElem hn
    obtain ⟨l', us, hu, q1, _, rj, z⟩ := (E.grow g1).mut (ds' := ys.eraseIdx n) hj
    rw [hv2] at hu
    cases hu
    obtain ⟨y, e3, ry⟩ := rj.get hy
    obtain ⟨W2, a1, a2, E2⟩ := z _ (reps_erase n rj)
    have hlen := rj.len
    refine ⟨l2, us, n, n, y, rfl, rfl, q1, by omega, by omega, ?_, e3, ?_⟩
    · rw [seqIndex_of (by omega) (by omega)]
      simp
    · have hi' : (ρ.set j (.own (ys.eraseIdx n)))[i]? = some (.own xs) := by rw [List.getElem?_set_ne hij.symm]; exact hi
      obtain ⟨l4, us4, hu4, q4, _, r4, z4⟩ := E2.mut (ds' := xs ++ [ys[n]]) hi'
      rw [hv] at hu4
      cases hu4
      have hlen4 := r4.len
      rw [a2] at q4
      obtain ⟨W3, b1, b2, E3⟩ := z4 (us4 ++ [y]) (r4.app (.cons (by rw [a1]; exact ry) .nil))
      refine ⟨l, us4, y, rfl, rfl, q4, Evl.sz_lt (by omega), ?_⟩
      rw [← a2, ← b2]
      exact nx σ W3 _ E3 (by rw [b1, a1]; exact g1.b) (k n _ hy)
/-! two at once -/
theorem t_par {i j : Nat} {P1 P2 : En → Prop} (h1 : EV ta ρ P1) (h2 : EV tb ρ P2) (k : ∀ a b, P1 a → P2 b → p.N ((ρ.set i a).set j b)) : TT' (tPar i j (tCons ta (tCons tb tNil))) ρ p := fun W0 W σ E Dd nx rt bk ct =>
  h1 W0 W σ E _ fun v a W1 g1 r1 p1 => h2 W0 W1 σ (E.grow g1) _ fun w b W2 g2 r2 p2 => ⟨v, w, rfl, nx _ W2 _ ((E.set g1 r1 i).set g2 r2 j) (g1.b.tr g2.b) (k a b p1 p2)⟩
theorem t_unp {i j : Nat} {Q2 : D → D → Prop} (h : ED te ρ (fun d => ∃ x y, d = .tup [x, y] ∧ Q2 x y)) (k : ∀ x y, Q2 x y → p.N ((ρ.set i (.dat x)).set j (.dat y))) : TT' (tAsg te (gTup K 2 (gCons (gName i) (gCons (gName j) gNil)))) ρ p := fun W0 W σ E Dd nx rt bk ct =>
  h W0 W σ E _ fun v d W1 g1 r1 ⟨x, y, e, q⟩ => by
    subst e
    cases r1 with
    | tup ha hr =>
      rename_i a ws
      cases hr with
      | cons rx rr =>
        cases rr with
        | cons ry rr =>
          cases rr
          refine ⟨a, _, rfl, sq_t (W1.le _ _ ha), rfl, _, _, rfl, _, _, rfl, rfl, ?_⟩
          exact nx _ W1 _ ((E.set g1 (e := .dat x) rx i).set (Grow.refl W1) (e := .dat y) ry j) g1.b (k x y q)
theorem t_drop (h : EV te ρ P) (k : p.N ρ) : TT' (tDrop te) ρ p := fun W0 W σ E Dd nx _ _ _ => h W0 W σ E _ fun v e W' g r q => nx σ W' ρ (E.grow g) g.b k
end
/-! ### a def by its body -/
theorem fn_body {Rg : List D → (En → Prop) → Prop} {N : List Str} {vs : List V} {H : Hp} {Q : VK} {X : XK} {t : TS} (h : SpE Rg vs H Q X) (hn : vs.length ≤ N.length)
    (k : ∀ ds P, Rg ds P → ds.length = vs.length → TT' t (ds.map En.dat ++ List.replicate (N.length - ds.length) .un) { N := fun _ => P (.dat .non), R := P }) : t { nx := fun _ H' => Q .non H', rt := Q } (start N vs) H := by
  obtain ⟨W, ds, P, rfl, r, hr, q⟩ := h
  have hl := r.len
  refine k ds P hr hl.symm W W (start N vs) ⟨Grow.refl W, ?_, fun i e hi hne => ?_, fun i j xs ys l h1 _ _ _ => ?_⟩ _ (fun σ' W' ρ' E' _ n => q .non (.dat .non) W' E'.g (show Rep W'.b .non .non from .non) n) (fun v e W' g r n => q v e W' g r n) (fun _ _ _ _ _ z => z.elim) (fun _ _ _ _ _ z => z.elim)
  · simp [L2.start]; omega
  · rcases Nat.lt_or_ge i ds.length with hlt | hge
    · rw [List.getElem?_append_left (by simpa using hlt), List.getElem?_map] at hi
      have hd : ds[i]? = some ds[i] := List.getElem?_eq_getElem hlt
      rw [hd] at hi
      cases hi
      obtain ⟨v, hv, rv⟩ := r.get hd
      refine ⟨v, ?_, rv⟩
      unfold L2.start
      rw [List.getElem?_append_left (by simp; omega), List.getElem?_map, hv]
      rfl
    · rw [List.getElem?_append_right (by simpa using hge), List.getElem?_replicate] at hi
      split at hi
      · cases hi; exact absurd rfl hne
      · cases hi
  · rcases Nat.lt_or_ge i ds.length with hlt | hge
    · rw [List.getElem?_append_left (by simpa using hlt), List.getElem?_map] at h1
      have hd : ds[i]? = some ds[i] := List.getElem?_eq_getElem hlt
      rw [hd] at h1
      cases h1
    · rw [List.getElem?_append_right (by simpa using hge), List.getElem?_replicate] at h1
      split at h1 <;> cases h1
end Nt

namespace Nt
open PySem PySem.Spec PyProof.Rows L2
/-! ### operations that serve several kinds -/
theorem OpR.or {X : Cx} {f : Value → Value → Sem Value} {r r' : R2} (h : OpR X f r) (h' : OpR X f r') : OpR X f (fun x y H Q => r x y H Q ∨ r' x y H Q) := fun pins s σ H x y v u Q I a b q => q.elim (h pins s σ H x y v u Q I a b) (h' pins s σ H x y v u Q I a b)
theorem CallR.or {X : Cx} {f : Value} {r r' : List V → Hp → VK → Prop} (h : CallR X f r) (h' : CallR X f r') : CallR X f (fun x H Q => r x H Q ∨ r' x H Q) := fun pins s σ H xs us Q I a q => q.elim (h pins s σ H xs us Q I a) (h' pins s σ H xs us Q I a)
def rAddI : R2 := rI0 fun i j => .int (i + j)
def rAddS : R2 := fun x y H Q => ∃ i j : Str, x = .str i ∧ y = .str j ∧ i.length + j.length ≤ sizeLine ∧ Q (.str (i ++ j)) H
def rPlus : R2 := fun x y H Q => rAddI x y H Q ∨ rAddS x y H Q ∨ rCat x y H Q
theorem op_plus {X : Cx} : OpR X (binaryOp .Add) rPlus := OpR.or op_add (OpR.or op_add_str op_cat)
def rMulS : R2 := fun x y H Q => ∃ (z : Str) (n : Int), x = .str z ∧ y = .int n ∧ 0 ≤ n ∧ n ≤ 100000 ∧ z.length ≤ 100 ∧ Q (.str ⟨((List.replicate n.toNat z.cps.toList).flatten).toArray⟩) H
theorem foldl_cat (z : Array Nat) : ∀ (n : Nat) (acc : Array Nat), ((List.replicate n z).foldl (· ++ ·) acc).toList = acc.toList ++ (List.replicate n z.toList).flatten
  | 0, acc => by simp
  | n + 1, acc => by
    rw [List.replicate_succ, List.foldl_cons, foldl_cat z n, List.replicate_succ, List.flatten_cons]
    simp
theorem txt_mul (z : Str) (n : Int) (h : 0 ≤ n) : Txt.mul z n = ⟨((List.replicate n.toNat z.cps.toList).flatten).toArray⟩ := by
  unfold Txt.mul
  by_cases h1 : n < 1
  · have e : n = 0 := by omega
    subst e
    rw [if_pos (by omega)]
    rfl
  · rw [if_neg h1]
    by_cases h2 : (n == 1 || z.length == 0) = true
    · rw [if_pos h2]
      rw [Bool.or_eq_true, beq_iff_eq, beq_iff_eq] at h2
      rcases h2 with e | e
      · subst e
        obtain ⟨c⟩ := z
        simp [List.replicate]
      · obtain ⟨c⟩ := z
        have e' : c = #[] := Array.eq_empty_of_size_eq_zero e
        subst e'
        have : ∀ m : Nat, (List.replicate m ([] : List Nat)).flatten = [] := fun m => by simp
        simp [this]
    · rw [if_neg h2]
      congr 1
      apply Array.ext'
      rw [foldl_cat]
      simp
theorem op_mulS {X : Cx} : OpR X (binaryOp .Mult) rMulS := by
  intro pins s σ H x y v u Q I rx ry ⟨z, n, e1, e2, h0, h1, h2, q⟩
  subst e1 e2
  obtain ⟨t, rfl⟩ := rx
  obtain ⟨t', rfl⟩ := ry
  have hz : ∀ m : Nat, m ≤ 100000 → Builtin.Str.tooLong (z.length * m) = false := fun m hm => by
    have : z.length * m ≤ 100 * 100000 := Nat.mul_le_mul h2 hm
    unfold Builtin.Str.tooLong
    simp only [decide_eq_false_iff_not, sizeLine_eq]
    omega
  refine PySem.SB.mul ⟨?_, fun a b => ?_, fun a b => hz _ (by omega)⟩ fun t2 k => ⟨.str (Txt.mul z n), H, I.tok _, ⟨t2, rfl⟩, by rw [txt_mul z n h0]; exact q⟩
  · simp only [Bool.or_eq_false_iff, decide_eq_false_iff_not]; constructor <;> omega
  · have h3 : (100 : Int) ≤ (2 ^ 63 - 1) / n := (Int.le_ediv_iff_mul_le (by omega)).mpr (by omega)
    omega
def rTimes : R2 := fun x y H Q => rI CMulW (fun i j => .int (i * j)) x y H Q ∨ rMulS x y H Q ∨ rI CMul (fun i j => .int (i * j)) x y H Q
theorem op_times {X : Cx} : OpR X (binaryOp .Mult) rTimes := OpR.or op_mulW (OpR.or op_mulS op_mul)
def rEqU (K : PySem.W.Frag) : R2 := fun x y H Q => rEq x y H Q ∨ rEqD K x y H Q
def rNeU (K : PySem.W.Frag) : R2 := fun x y H Q => rNe x y H Q ∨ rNeD K x y H Q
theorem op_eqU {X : Cx} (hu : X.A.units + 64 < cLine) : OpR X (compareOp .Eq) (rEqU X.K) := OpR.or op_eq (op_eqD hu)
theorem op_neU {X : Cx} (hu : X.A.units + 64 < cLine) : OpR X (compareOp .NotEq) (rNeU X.K) := OpR.or op_ne (op_neD hu)
def rSgn (neg : Bool) : R2 := fun x y H Q => ∃ (c : Nat) (z : Str), x = .str ⟨#[c]⟩ ∧ y = .str z ∧ Q (.bl (if neg then !decide (c ∈ z.cps.toList) else decide (c ∈ z.cps.toList))) H
def rInU (K : PySem.W.Frag) (neg : Bool) : R2 := fun x y H Q => rSgn neg x y H Q ∨ rIn K neg x y H Q
theorem op_inU {X : Cx} : OpR X (compareOp .In) (rInU X.K false) := OpR.or op_in_sign op_in_seq
theorem op_notInU {X : Cx} : OpR X (compareOp .NotIn) (rInU X.K true) := OpR.or op_notIn_sign op_notIn_seq
def rLenQ (K : PySem.W.Frag) : List V → Hp → VK → Prop := fun xs H Q => ∃ (p : Addr) (ys : List V), xs = [.ref p] ∧ (SqL K H p ys ∨ SqT K H p ys) ∧ Q (.int ys.length) H
def rLenT : List V → Hp → VK → Prop := fun xs H Q => ∃ z : Str, xs = [.str z] ∧ z.length ≤ sizeLine ∧ Q (.int z.length) H
def rLenU (K : PySem.W.Frag) : List V → Hp → VK → Prop := fun xs H Q => rLenQ K xs H Q ∨ rLenT xs H Q
theorem call_lenU {X : Cx} : CallR X (.builtin "len") (rLenU X.K) := CallR.or call_len_seq call_len_str
def rSlU (K : PySem.W.Frag) : V → Option Int → Option Int → Hp → VK → Prop := fun x lo hi H Q => rSlL K x lo hi H Q ∨ rSlS x lo hi H Q ∨ L2.rSlT K x lo hi H Q
theorem sl_U {X : Cx} : L2.SlR X (rSlU X.K) := L2.SlR.or sl_list (L2.SlR.or sl_str L2.sl_tup)
/-! ### .. told over data -/
section
variable {K : PySem.W.Frag} {P : En → Prop}
theorem dat1 {W : Wd} {d : D} {v : V} {Q : VK} (r : Rep W.b d v) (q : ∀ u e W', Grow W W' → RepV W W' e u → e = .dat d → Q u W'.h) : Q v W.h := q v (.dat d) W (Grow.refl W) r rfl
theorem own1 {W : Wd} {ds : List D} {vs : List V} {Q : VK} (r : Reps W.b ds vs) (q : ∀ u e W', Grow W W' → RepV W W' e u → e = .own ds → Q u W'.h) : ∀ p, W.h p = none → Q (.ref p) (upd W.h p (.lst vs)) := fun p hp => by
  obtain ⟨a, b⟩ := new_own (Grow.refl W) hp r
  exact q (.ref p) (.own ds) _ a b rfl
theorem od_addI {i j : Int} : OD rPlus (.int i) (.int j) (· = .dat (.int (i + j))) := fun W v w a b Q q => by
  cases a; cases b
  exact .inl ⟨i, j, rfl, rfl, dat1 (.int (i + j)) q⟩
theorem tx_len (s : List Nat) : (⟨s.toArray⟩ : Str).length = s.length := by simp [Str.length]
theorem od_addS {i j : List Nat} (h : i.length + j.length ≤ 100000) : OD rPlus (.str i) (.str j) (· = .dat (.str (i ++ j))) := fun W v w a b Q q => by
  cases a; cases b
  refine .inr (.inl ⟨_, _, rfl, rfl, Evl.sz_of (by rw [tx_len, tx_len]; exact h), ?_⟩)
  have e : (⟨i.toArray⟩ : Str) ++ (⟨j.toArray⟩ : Str) = ⟨(i ++ j).toArray⟩ := by
    show (⟨i.toArray ++ j.toArray⟩ : Str) = _
    simp
  rw [e]
  exact dat1 (.str (i ++ j)) q
theorem od_addL {i j : List D} (h : i.length + j.length ≤ 100000) : OD rPlus (.lst i) (.lst j) (· = .own (i ++ j)) := fun W v w a b Q q => by
  cases a with
  | lst ha ra =>
    cases b with
    | lst hb rb => exact .inr (.inr ⟨_, _, _, _, rfl, rfl, W.le _ _ ha, W.le _ _ hb, Evl.sz_of (by rw [ra.len, rb.len]; exact h), own1 (ra.app rb) q⟩)
theorem od_subI {i j : Int} : OD (rI0 fun i j => .int (i - j)) (.int i) (.int j) (· = .dat (.int (i - j))) := fun W v w a b Q q => by
  cases a; cases b
  exact ⟨i, j, rfl, rfl, dat1 (.int (i - j)) q⟩
theorem od_mulI {i j : Int} (h : CMulW i j) : OD rTimes (.int i) (.int j) (· = .dat (.int (i * j))) := fun W v w a b Q q => by
  cases a; cases b
  exact .inl ⟨i, j, rfl, rfl, h, dat1 (.int (i * j)) q⟩
theorem od_mulS {s : List Nat} {n : Int} (h0 : 0 ≤ n) (h1 : n ≤ 100000) (h2 : s.length ≤ 100) : OD rTimes (.str s) (.int n) (· = .dat (.str (List.replicate n.toNat s).flatten)) := fun W v w a b Q q => by
  cases a; cases b
  exact .inr (.inl ⟨_, n, rfl, rfl, h0, h1, by rw [tx_len]; exact h2, dat1 (.str (List.replicate n.toNat s).flatten) q⟩)
theorem od_modI {i j : Int} (h : j ≠ 0) : OD (rI (fun _ j => j ≠ 0) fun i j => .int (i.fmod j)) (.int i) (.int j) (· = .dat (.int (i.fmod j))) := fun W v w a b Q q => by
  cases a; cases b
  exact ⟨i, j, rfl, rfl, h, dat1 (.int (i.fmod j)) q⟩
theorem od_divI {i j : Int} (h : CDivW i j) : OD (rI CDivW fun i j => .int (i / j)) (.int i) (.int j) (· = .dat (.int (i / j))) := fun W v w a b Q q => by
  cases a; cases b
  exact ⟨i, j, rfl, rfl, h, dat1 (.int (i / j)) q⟩
theorem od_lt {i j : Int} : OD (rI0 fun i j => .bl (decide (i < j))) (.int i) (.int j) (· = .dat (.bl (decide (i < j)))) := fun W v w a b Q q => by
  cases a; cases b
  exact ⟨i, j, rfl, rfl, dat1 (.bl _) q⟩
theorem od_gt {i j : Int} : OD (rI0 fun i j => .bl (decide (j < i))) (.int i) (.int j) (· = .dat (.bl (decide (j < i)))) := fun W v w a b Q q => by
  cases a; cases b
  exact ⟨i, j, rfl, rfl, dat1 (.bl _) q⟩
theorem od_le {i j : Int} : OD (rI0 fun i j => .bl (decide (i ≤ j))) (.int i) (.int j) (· = .dat (.bl (decide (i ≤ j)))) := fun W v w a b Q q => by
  cases a; cases b
  exact ⟨i, j, rfl, rfl, dat1 (.bl _) q⟩
theorem od_ge {i j : Int} : OD (rI0 fun i j => .bl (decide (j ≤ i))) (.int i) (.int j) (· = .dat (.bl (decide (j ≤ i)))) := fun W v w a b Q q => by
  cases a; cases b
  exact ⟨i, j, rfl, rfl, dat1 (.bl _) q⟩
theorem tx_inj {a b : List Nat} : (tx a = tx b) ↔ a = b := by
  constructor
  · intro h
    have h' := V.str.inj h
    have := congrArg (fun z : Str => z.cps.toList) h'
    simpa using this
  · intro h; rw [h]
theorem od_eqS {a b : List Nat} : OD (rEqU K) (.str a) (.str b) (· = .dat (.bl (decide (a = b)))) := fun W v w r r' Q q => by
  cases r; cases r'
  refine .inl ⟨rfl, ?_⟩
  have e : decide (tx a = tx b) = decide (a = b) := decide_eq_decide.mpr tx_inj
  rw [e]
  exact dat1 (.bl _) q
theorem od_neS {a b : List Nat} : OD (rNeU K) (.str a) (.str b) (· = .dat (.bl (!decide (a = b)))) := fun W v w r r' Q q => by
  cases r; cases r'
  refine .inl ⟨rfl, ?_⟩
  have e : decide (tx a = tx b) = decide (a = b) := decide_eq_decide.mpr tx_inj
  rw [e]
  exact dat1 (.bl _) q
theorem od_eqI {a b : Int} : OD (rEqU K) (.int a) (.int b) (· = .dat (.bl (decide (a = b)))) := fun W v w r r' Q q => by
  cases r; cases r'
  refine .inl ⟨rfl, ?_⟩
  have e : decide (V.int a = V.int b) = decide (a = b) := decide_eq_decide.mpr ⟨V.int.inj, congrArg _⟩
  rw [e]
  exact dat1 (.bl _) q
theorem od_neI {a b : Int} : OD (rNeU K) (.int a) (.int b) (· = .dat (.bl (!decide (a = b)))) := fun W v w r r' Q q => by
  cases r; cases r'
  refine .inl ⟨rfl, ?_⟩
  have e : decide (V.int a = V.int b) = decide (a = b) := decide_eq_decide.mpr ⟨V.int.inj, congrArg _⟩
  rw [e]
  exact dat1 (.bl _) q
theorem od_eqB {a b : Bool} : OD (rEqU K) (.bl a) (.bl b) (· = .dat (.bl (decide (a = b)))) := fun W v w r r' Q q => by
  cases r; cases r'
  refine .inl ⟨rfl, ?_⟩
  have e : decide (V.bl a = V.bl b) = decide (a = b) := decide_eq_decide.mpr ⟨V.bl.inj, congrArg _⟩
  rw [e]
  exact dat1 (.bl _) q
theorem od_neB {a b : Bool} : OD (rNeU K) (.bl a) (.bl b) (· = .dat (.bl (!decide (a = b)))) := fun W v w r r' Q q => by
  cases r; cases r'
  refine .inl ⟨rfl, ?_⟩
  have e : decide (V.bl a = V.bl b) = decide (a = b) := decide_eq_decide.mpr ⟨V.bl.inj, congrArg _⟩
  rw [e]
  exact dat1 (.bl _) q
/-- flat data read as the library's data -/
def D.py : D → PyData
  | .bl b => .bool b
  | .int i => .int i
  | .str s => .str ⟨s.toArray⟩
  | _ => .none
theorem py_dp {H H' : Hp} {d : D} {v : V} (f : d.flat = true) (r : Rep H d v) : Dp K H' v d.py := by
  cases r with
  | non => exact .non
  | bl b => exact .bl b
  | int i => exact .int i
  | str s => exact .str _
  | tup _ _ => cases f
  | lst _ _ => cases f
  | bag _ _ _ => cases f
  | scr _ => cases f
theorem py_dpall {H H' : Hp} : ∀ {ds : List D} {vs : List V}, (∀ d ∈ ds, d.flat = true) → Reps H ds vs → DpAll K H' vs (ds.map D.py)
  | _, _, _, .nil => .nil
  | _, _, f, .cons h r => .cons (py_dp (f _ List.mem_cons_self) h) (py_dpall (fun d hd => f d (List.mem_cons_of_mem _ hd)) r)
/-- flat, its signs signs -/
def D.ok : D → Bool
  | .non | .bl _ | .int _ => true
  | .str s => s.all (· < 0x110000)
  | _ => false
theorem D.ok.fl {d : D} (h : d.ok = true) : d.flat = true := by
  cases d with
  | tup _ => cases h
  | lst _ => cases h
  | bag => cases h
  | scr _ _ => cases h
  | _ => rfl
theorem py_lay {d : D} (h : d.ok = true) : d.py.canLay0 = true := by
  cases d with
  | str s =>
    show PyData.strOk _ = true
    unfold PyData.strOk
    simpa [D.ok] using h
  | _ => rfl
theorem py_layAll : ∀ ds : List D, (∀ d ∈ ds, d.ok = true) → PyData.canLayAll0 (ds.map D.py) = true
  | [], _ => rfl
  | d :: ds, h => by
    show (d.py.canLay0 && PyData.canLayAll0 (ds.map D.py)) = true
    rw [py_lay (h d List.mem_cons_self), py_layAll ds fun x hx => h x (List.mem_cons_of_mem _ hx)]; rfl
theorem py_depth (d : D) : d.py.depth = 0 := by cases d <;> rfl
theorem py_depthAll : ∀ ds : List D, PyData.depthAll (ds.map D.py) = 0
  | [] => rfl
  | d :: ds => by
    show max d.py.depth (PyData.depthAll (ds.map D.py)) = 0
    rw [py_depth, py_depthAll ds]; rfl
theorem py_shaped (ds : List D) (h : ∀ d ∈ ds, d.ok = true) : SeqAt.shaped (.list (ds.map D.py)) = true := by
  unfold SeqAt.shaped
  have h1 : PyData.canLay0 (.list (ds.map D.py)) = true := py_layAll ds h
  have h2 : PyData.depth (.list (ds.map D.py)) = PyData.depthAll (ds.map D.py) + 1 := rfl
  rw [h1, h2, py_depthAll]; rfl
theorem eqv_nil (ds : List D) : PyData.eqv (.list (ds.map D.py)) (.list []) = ds.isEmpty := by
  cases ds with
  | nil => rfl
  | cons d ds => rfl
/-- a list of flat data against the empty one -/
theorem od_eqN {ds : List D} (f : ∀ d ∈ ds, d.ok = true) : OD (rEqU K) (.lst ds) (.lst []) (· = .dat (.bl ds.isEmpty)) := fun W v w r r' Q q => by
  cases r with
  | lst ha ra =>
    cases r' with
    | lst hb rb =>
      cases rb
      refine .inr ⟨.list (ds.map D.py), .list [], .lst (sq_l (W.le _ _ ha)) (py_dpall (fun d hd => D.ok.fl (f d hd)) ra), .lst (sq_l (W.le _ _ hb)) .nil, py_shaped ds f, rfl, ?_⟩
      rw [eqv_nil]
      exact dat1 (.bl _) q
theorem od_neN {ds : List D} (f : ∀ d ∈ ds, d.ok = true) : OD (rNeU K) (.lst ds) (.lst []) (· = .dat (.bl (!ds.isEmpty))) := fun W v w r r' Q q => by
  cases r with
  | lst ha ra =>
    cases r' with
    | lst hb rb =>
      cases rb
      refine .inr ⟨.list (ds.map D.py), .list [], .lst (sq_l (W.le _ _ ha)) (py_dpall (fun d hd => D.ok.fl (f d hd)) ra), .lst (sq_l (W.le _ _ hb)) .nil, py_shaped ds f, rfl, ?_⟩
      rw [eqv_nil]
      exact dat1 (.bl _) q
theorem od_sgn {neg : Bool} {c : Nat} {s : List Nat} : OD (rInU K neg) (.str [c]) (.str s) (· = .dat (.bl (if neg then !decide (c ∈ s) else decide (c ∈ s)))) := fun W v w r r' Q q => by
  cases r; cases r'
  refine .inl ⟨c, _, rfl, rfl, ?_⟩
  show Q (V.bl (if neg then !decide (c ∈ s) else decide (c ∈ s))) W.h
  exact dat1 (.bl _) q
theorem eqV_tx (a b : List Nat) : eqV (tx a) (tx b) = decide (a = b) := by
  show ((⟨a.toArray⟩ : Str) == (⟨b.toArray⟩ : Str)) = decide (a = b)
  have : (⟨a.toArray⟩ : Str) = (⟨b.toArray⟩ : Str) ↔ a = b := by
    constructor
    · intro h; have := congrArg (fun z : Str => z.cps.toList) h; simpa using this
    · intro h; rw [h]
  by_cases h : a = b
  · subst h; simp
  · have h' : ¬ (⟨a.toArray⟩ : Str) = (⟨b.toArray⟩ : Str) := fun z => h (this.mp z)
    simp [h]
theorem in_txs {H : Hp} {s : List Nat} : ∀ {xs : List (List Nat)} {vs : List V}, Reps H (xs.map D.str) vs → inV (tx s) vs = decide (s ∈ xs) ∧ vs.all flatV = true
  | [], _, .nil => ⟨by simp [inV], rfl⟩
  | x :: xs, _, .cons h r => by
    obtain ⟨a, b⟩ := in_txs r
    cases h
    constructor
    · show (eqV (tx x) (tx s) || inV (tx s) _) = _
      rw [a, eqV_tx]
      by_cases e : x = s
      · subst e; simp
      · have e' : ¬ s = x := fun z => e z.symm
        simp [e, e']
    · show (true && _) = true
      rw [b]; rfl
/-- a text in a list of texts -/
theorem od_inL {neg : Bool} {s : List Nat} {xs : List (List Nat)} : OD (rInU K neg) (.str s) (.lst (xs.map D.str)) (· = .dat (.bl (if neg then !decide (s ∈ xs) else decide (s ∈ xs)))) := fun W v w r r' Q q => by
  cases r
  cases r' with
  | lst hb rb =>
    obtain ⟨a, b⟩ := in_txs (s := s) rb
    refine .inr ⟨_, _, rfl, .inl (sq_l (W.le _ _ hb)), rfl, b, ?_⟩
    rw [a]
    exact dat1 (.bl _) q
theorem atI_of {α : Type} {xs : List α} {i : Int} {j : Nat} {v : α} (e : i = (j : Int)) (h : xs[j]? = some v) : atI xs i = some v := by subst e; exact atI_nat h
theorem od_ixL {ds : List D} {i : Int} {j : Nat} {d : D} (e : i = (j : Int)) (h : ds[j]? = some d) : OD (rIx K) (.lst ds) (.int i) (· = .dat d) := fun W v w r r' Q q => by
  cases r'
  cases r with
  | lst ha ra =>
    obtain ⟨u, h1, h2⟩ := ra.get h
    exact .inl ⟨_, _, i, u, rfl, rfl, sq_l (W.le _ _ ha), atI_of e h1, dat1 h2 q⟩
theorem od_ixT {ds : List D} {i : Int} {j : Nat} {d : D} (e : i = (j : Int)) (h : ds[j]? = some d) : OD (rIx K) (.tup ds) (.int i) (· = .dat d) := fun W v w r r' Q q => by
  cases r'
  cases r with
  | tup ha ra =>
    obtain ⟨u, h1, h2⟩ := ra.get h
    exact .inr (.inl ⟨_, _, i, u, rfl, rfl, sq_t (W.le _ _ ha), atI_of e h1, dat1 h2 q⟩)
theorem od_ixS {s : List Nat} {i : Int} {j : Nat} {c : Nat} (e : i = (j : Int)) (h : s[j]? = some c) (hl : s.length ≤ 100000) : OD (rIx K) (.str s) (.int i) (· = .dat (.str [c])) := fun W v w r r' Q q => by
  cases r'
  cases r
  exact .inr (.inr ⟨_, i, c, rfl, rfl, Evl.sz_of (by rw [tx_len]; exact hl), atI_of e h, dat1 (.str [c]) q⟩)
theorem od_ixLlast {ds : List D} {d : D} (h : ds[ds.length - 1]? = some d) : OD (rIx K) (.lst ds) (.int (-1)) (· = .dat d) := fun W v w r r' Q q => by
  cases r'
  cases r with
  | lst ha ra =>
    rename_i a ws
    obtain ⟨u, h1, h2⟩ := ra.get h
    rw [← ra.len] at h1
    refine .inl ⟨a, ws, -1, u, rfl, rfl, sq_l (W.le _ _ ha), ?_, dat1 h2 q⟩
    have hl := (List.getElem?_eq_some_iff.mp h1).1
    have e : ws = ws.dropLast ++ [u] := by
      have hne : ws ≠ [] := fun z => by rw [z] at hl; simp at hl
      have h3 := List.dropLast_concat_getLast hne
      have h4 : ws.getLast hne = u := by
        rw [List.getLast_eq_getElem]
        have := List.getElem?_eq_some_iff.mp h1
        exact this.2
      rw [h4] at h3
      exact h3.symm
    rw [e]
    exact atI_last _ _
theorem cd_lenL {ds : List D} : CD (rLenU K) [.lst ds] (· = .dat (.int ds.length)) := fun W vs r Q q => by
  cases r with
  | cons r rr =>
    cases rr
    cases r with
    | lst ha ra => exact .inl ⟨_, _, rfl, .inl (sq_l (W.le _ _ ha)), by rw [ra.len]; exact dat1 (.int _) q⟩
theorem cd_lenT {ds : List D} : CD (rLenU K) [.tup ds] (· = .dat (.int ds.length)) := fun W vs r Q q => by
  cases r with
  | cons r rr =>
    cases rr
    cases r with
    | tup ha ra => exact .inl ⟨_, _, rfl, .inr (sq_t (W.le _ _ ha)), by rw [ra.len]; exact dat1 (.int _) q⟩
theorem cd_lenSq {x : D} {ds : List D} (s : Sq x ds) : CD (rLenU K) [x] (· = .dat (.int ds.length)) := by
  cases s with
  | lst => exact cd_lenL
  | tup => exact cd_lenT
theorem od_ixSq {x : D} {ds : List D} {i : Int} {j : Nat} {d : D} (s : Sq x ds) (e : i = (j : Int)) (h : ds[j]? = some d) : OD (rIx K) x (.int i) (· = .dat d) := by
  cases s with
  | lst => exact od_ixL e h
  | tup => exact od_ixT e h
theorem od_inT {neg : Bool} {s : List Nat} {xs : List (List Nat)} : OD (rInU K neg) (.str s) (.tup (xs.map D.str)) (· = .dat (.bl (if neg then !decide (s ∈ xs) else decide (s ∈ xs)))) := fun W v w r r' Q q => by
  cases r
  cases r' with
  | tup hb rb =>
    obtain ⟨a, b⟩ := in_txs (s := s) rb
    refine .inr ⟨_, _, rfl, .inr (sq_t (W.le _ _ hb)), rfl, b, ?_⟩
    rw [a]
    exact dat1 (.bl _) q
theorem od_inSq {neg : Bool} {s : List Nat} {xs : List (List Nat)} {x : D} (h : Sq x (xs.map D.str)) : OD (rInU K neg) (.str s) x (· = .dat (.bl (if neg then !decide (s ∈ xs) else decide (s ∈ xs)))) := by
  generalize hy : xs.map D.str = ys at h
  cases h with
  | lst => subst hy; exact od_inL
  | tup => subst hy; exact od_inT
theorem cd_lenS {s : List Nat} (h : s.length ≤ 100000) : CD (rLenU K) [.str s] (· = .dat (.int s.length)) := fun W vs r Q q => by
  cases r with
  | cons r rr =>
    cases rr
    cases r
    refine .inr ⟨_, rfl, Evl.sz_of (by rw [tx_len]; exact h), ?_⟩
    rw [tx_len]
    exact dat1 (.int _) q
def rListC (K : PySem.W.Frag) : List V → Hp → VK → Prop := fun xs H Q => ∃ (p : Addr) (ys : List V), xs = [.ref p] ∧ (SqL K H p ys ∨ SqT K H p ys) ∧ ∀ l, H l = none → Q (.ref l) (upd H l (.lst ys))
theorem call_listC {X : Cx} : CallR X (.type "list") (rListC X.K) := call_list_of
theorem cd_list {ds : List D} : CD (rListC K) [.lst ds] (· = .own ds) := fun W vs r Q q => by
  cases r with
  | cons r rr =>
    cases rr
    cases r with
    | lst ha ra => exact ⟨_, _, rfl, .inl (sq_l (W.le _ _ ha)), own1 ra q⟩
theorem bls_of {H : Hp} : ∀ {bs : List Bool} {vs : List V}, Reps H (bs.map D.bl) vs → vs = bs.map V.bl
  | [], _, .nil => rfl
  | b :: bs, _, .cons h r => by cases h; rw [bls_of r]; rfl
theorem cd_all {bs : List Bool} : CD (rAll K) [.lst (bs.map D.bl)] (· = .dat (.bl (bs.all id))) := fun W vs r Q q => by
  cases r with
  | cons r rr =>
    cases rr
    cases r with
    | lst ha ra => exact ⟨_, bs, rfl, sq_l (by rw [← bls_of ra]; exact W.le _ _ ha), dat1 (.bl _) q⟩
theorem txs_of {H : Hp} : ∀ {xs : List (List Nat)} {vs : List V}, Reps H (xs.map D.str) vs → vs = (xs.map fun s => (⟨s.toArray⟩ : Str)).map V.str
  | [], _, .nil => rfl
  | b :: bs, _, .cons h r => by cases h; rw [txs_of r]; rfl
def rJoin (K : PySem.W.Frag) : V → List V → Hp → VK → Prop := fun x xs H Q => ∃ a p, ∃ ys : List Str, x = .str a ∧ xs = [.ref p] ∧ (SqL K H p (ys.map V.str) ∨ SqT K H p (ys.map V.str)) ∧ (ys.map (·.length)).sum + ys.length * a.length ≤ 16777216 ∧ Q (.str (Txt.join a ys)) H
theorem join0 : ∀ xs : List (List Nat), Txt.join ⟨#[]⟩ (xs.map fun s => (⟨s.toArray⟩ : Str)) = ⟨xs.flatten.toArray⟩ := fun xs => by
  show PySem.Builtin.Str.glued _ _ = _
  rw [PySem.StrLaws.glued_eq_join]
  induction xs with
  | nil => rfl
  | cons x xs ih =>
    rw [List.map_cons]
    have h := PyProof.Rows.join_nil_cons (⟨x.toArray⟩ : Str) (xs.map fun s => (⟨s.toArray⟩ : Str))
    rw [h, ih]
    show (⟨x.toArray ++ xs.flatten.toArray⟩ : Str) = _
    simp
theorem md_join {xs : List (List Nat)} (h : xs.flatten.length ≤ 100000) : MD (rJoin K) (.str []) [.lst (xs.map D.str)] (· = .dat (.str xs.flatten)) := fun W v vs r rs Q q => by
  cases r
  cases rs with
  | cons r rr =>
    cases rr
    cases r with
    | lst ha ra =>
      refine ⟨⟨#[]⟩, _, xs.map fun s => (⟨s.toArray⟩ : Str), rfl, rfl, .inl (sq_l (by rw [← txs_of ra]; exact W.le _ _ ha)), ?_, ?_⟩
      · have e : ((xs.map fun s => (⟨s.toArray⟩ : Str)).map (·.length)).sum = xs.flatten.length := by
          rw [List.map_map, List.length_flatten]
          have e2 : (fun x : Str => x.length) ∘ (fun s : List Nat => (⟨s.toArray⟩ : Str)) = List.length := funext fun s => tx_len s
          rw [e2]
        rw [e]
        have z : (⟨#[]⟩ : Str).length = 0 := rfl
        rw [z, Nat.mul_zero]
        omega
      · rw [join0]
        exact dat1 (.str xs.flatten) q
theorem ud_neg {i : Int} : UD (rU fun i => .int (-i)) (.int i) (· = .dat (.int (-i))) := fun W v r Q q => by
  cases r
  exact ⟨i, rfl, dat1 (.int _) q⟩
end
end Nt

namespace Nt
open PySem PySem.Spec PyProof.Rows L2
section
variable {K : PySem.W.Frag} {ta tb te : TE} {tt tu : TT} {tl th : TO} {ar : TA} {ρ : List En} {PA : D → Prop} {R : En → Prop}
/-! ### slices -/
def SD (r : V → Option Int → Option Int → Hp → VK → Prop) (x : D) (lo hi : Option Int) (P : En → Prop) : Prop := ∀ (W : Wd) v, Rep W.b x v → ∀ Q : VK, (∀ u e W', Grow W W' → RepV W W' e u → P e → Q u W'.h) → r v lo hi W.h Q
theorem eo_part {i : Int} (h : ED te ρ (· = .int i)) : EO (tPart te) ρ (· = some i) := fun W0 W σ E Q q => h W0 W σ E _ fun v d W' g r p => by subst p; cases r; exact ⟨i, rfl, q _ W' g rfl⟩
theorem e_sl {r : V → Option Int → Option Int → Hp → VK → Prop} {x : D} {lo hi : Option Int} (h : ED te ρ (· = x)) (hl : EO tl ρ (· = lo)) (hh : EO th ρ (· = hi)) (hr : SD r x lo hi R) : EV (tSl r te tl th) ρ R := fun W0 W σ E Q q =>
  h W0 W σ E _ fun v d W1 g1 r1 p1 => by
    subst p1
    refine hl W0 W1 σ (E.grow g1) _ fun o W2 g2 e2 => ?_
    subst e2
    refine hh W0 W2 σ ((E.grow g1).grow g2) _ fun o W3 g3 e3 => ?_
    subst e3
    exact hr W3 v ((r1.mono g2.b).mono g3.b) Q fun u e W4 g4 r4 p4 => q u e W4 (((g1.trans g2).trans g3).trans g4) (r4.back ((g1.trans g2).trans g3).h) p4
def cutN {α : Type} (xs : List α) (lo hi : Option Int) : List α := (xs.drop (HT.sIx xs.length 0 lo)).take (HT.sIx xs.length xs.length hi - HT.sIx xs.length 0 lo)
theorem sd_str {s : List Nat} {lo hi : Option Int} (h : s.length ≤ 100000) : SD (rSlU K) (.str s) lo hi (· = .dat (.str (cutN s lo hi))) := fun W v r Q q => by
  cases r
  refine .inr (.inl ⟨_, rfl, Evl.sz_of (by rw [tx_len]; exact h), ?_⟩)
  have e : V.str (cutS ⟨s.toArray⟩ lo hi) = tx (cutN s lo hi) := by
    unfold cutS cutN tx
    rw [tx_len]
  rw [e]
  exact dat1 (.str (cutN s lo hi)) q
theorem sd_lst {ds : List D} {lo hi : Option Int} : SD (rSlU K) (.lst ds) lo hi (· = .own (cutN ds lo hi)) := fun W v r Q q => by
  cases r with
  | lst ha ra =>
    rename_i a ws
    refine .inl ⟨a, ws, rfl, sq_l (W.le _ _ ha), ?_⟩
    unfold cutV
    rw [ra.len]
    exact own1 ((ra.drop _).take _) q
theorem sd_tup {ds : List D} {lo hi : Option Int} (hne : ¬ (HT.sIx ds.length 0 lo = 0 ∧ HT.sIx ds.length ds.length hi = ds.length)) : SD (rSlU K) (.tup ds) lo hi (· = .dat (.tup (cutN ds lo hi))) := fun W v r Q q => by
  cases r with
  | tup ha ra =>
    rename_i a ws
    refine .inr (.inr ⟨a, ws, rfl, sq_t (W.le _ _ ha), by rw [ra.len]; exact hne, fun p hp => ?_⟩)
    have e : Reps W.b (cutN ds lo hi) (cutV ws lo hi) := by
      unfold cutV cutN
      rw [ra.len]
      exact (ra.drop _).take _
    exact q (.ref p) (.dat (.tup (cutN ds lo hi))) (W.put p _) (Grow.put hp) (.tup upd_same (e.mono (Ex.nw (W.le.none' hp)))) rfl
theorem reps_int {H : Hp} : ∀ ns : List Int, Reps H (ns.map D.int) (ns.map V.int)
  | [] => .nil
  | n :: ns => .cons (.int n) (reps_int ns)
theorem cutV_int (ns : List Int) (lo hi : Option Int) : cutV (ns.map V.int) lo hi = (cutN ns lo hi).map V.int := by
  unfold cutV cutN
  rw [List.length_map, List.map_take, List.map_drop]
theorem sd_scr {ns : List Int} {lo hi : Option Int} : SD (rSlU K) (.scr K ns) lo hi (· = .own ((cutN ns lo hi).map D.int)) := fun W v r Q q => by
  cases r with
  | scr h =>
    refine .inl ⟨_, _, rfl, Evl.ex_l W.le h, ?_⟩
    rw [cutV_int]
    exact own1 (reps_int _) q
theorem cut_to {α : Type} {xs : List α} {i : Int} {k : Nat} (e : i = k) (h : k ≤ xs.length) : cutN xs none (some i) = xs.take k := by
  subst e
  unfold cutN
  rw [HT.sIx_none, HT.sIx_nat, List.drop_zero, Nat.min_eq_left h, Nat.sub_zero]
theorem cut_from {α : Type} {xs : List α} {i : Int} {k : Nat} (e : i = k) (h : k ≤ xs.length) : cutN xs (some i) none = xs.drop k := by
  subst e
  unfold cutN
  rw [HT.sIx_none, HT.sIx_nat, Nat.min_eq_left h]
  exact List.take_of_length_le (by simp)
theorem e_rev {ds : List D} (h : ED te ρ (· = .lst ds)) : EV (tRevL K te) ρ (· = .own ds.reverse) := fun W0 W σ E Q q => h W0 W σ E _ fun v d W1 g1 r1 p1 => by
  subst p1
  cases r1 with
  | lst ha ra =>
    refine ⟨_, _, rfl, sq_l (W1.le _ _ ha), fun p hp => ?_⟩
    obtain ⟨a, b⟩ := new_own g1 hp ra.rev
    exact q (.ref p) (.own ds.reverse) _ a b rfl
/-! ### isinstance -/
def D.ty : D → String
  | .non => "NoneType"
  | .bl _ => "bool"
  | .int _ => "int"
  | .str _ => "str"
  | .tup _ => "tuple"
  | .lst _ => "list"
  | .bag => "list"
  | .scr _ _ => "list"
/-- no list that is not of the program's own -/
def D.pl : D → Bool
  | .bag | .scr _ _ => false
  | _ => true
theorem ty_of {H H' : Hp} {d : D} {v : V} (nb : d.pl = true) (e : Ex H H') (r : Rep H d v) : TyX K H' v (.type d.ty) := by
  cases r with
  | non => exact .base .non
  | bl b => exact .base (.bl b)
  | int i => exact .base (.int i)
  | str s => exact .base (.str _)
  | tup h _ => exact .base (.tup (e _ _ h))
  | lst h _ => exact .base (.lst (e _ _ h))
  | bag _ _ _ => cases nb
  | scr _ => cases nb
theorem e_isi {d : D} {T : String} {b : Bool} (h : ED te ρ (· = d)) (nb : d.pl = true) (hk : kitB d.ty T = some b) : ED (tCB (rIsi K) (tCons te (tCons (tC (.ty T)) tNil))) ρ (· = .bl b) := fun W0 W σ E Q q => h W0 W σ E _ fun v x W1 g1 r1 p1 => by
  subst p1
  exact ⟨v, .ty T, .type x.ty, .type T, b, rfl, .ty T, ty_of nb W1.le r1, kit_ty hk, q _ _ W1 g1 (.bl b) rfl⟩
theorem kit_any2 {a b c : String} {x y : Bool} (h1 : kitB a b = some x) (h2 : kitB a c = some y) : PySem.W.kitAny K (.type a) [.type b, .type c] = some (x || y) := by
  refine kitAny_cons (kit_ty h1) (fun e => ?_) (fun e => by rw [e]; rfl)
  subst e
  exact kitAny_cons (kit_ty h2) (fun e => by subst e; exact kitAny_nil) (fun e => by subst e; rfl)
theorem e_isi2 {d : D} {T U : String} {x y : Bool} (h : ED te ρ (· = d)) (nb : d.pl = true) (h1 : kitB d.ty T = some x) (h2 : kitB d.ty U = some y) :
    ED (tCB (rIsiT K) (tCons te (tCons (tTup (tCons (tC (.ty T)) (tCons (tC (.ty U)) tNil))) tNil))) ρ (· = .bl (x || y)) := fun W0 W σ E Q q => h W0 W σ E _ fun v d' W1 g1 r1 p1 => by
  subst p1
  refine ⟨by show 2 ≤ sizeLine; decide, fun p hp => ?_⟩
  have g2 := Grow.add (W := W1) (o := .tup [.ty T, .ty U]) hp
  exact ⟨v, p, [.ty T, .ty U], .type d'.ty, [.type T, .type U], _, rfl, upd_same, .cons (.ty T) (.cons (.ty U) .nil), ty_of nb (W1.add p (.tup [.ty T, .ty U]) hp).le r1, kit_any2 h1 h2, q _ _ (W1.add p (.tup [.ty T, .ty U]) hp) (g1.trans g2) (.bl _) rfl⟩
/-! ### None -/
def D.isN : D → Bool
  | .non => true
  | _ => false
theorem isN_of {H : Hp} {d : D} {v : V} (r : Rep H d v) : decide (v = .non) = d.isN := by
  cases r <;> simp [D.isN, tx]
def rIsNU : R2 := fun x y H Q => y = .non ∧ Q (.bl (decide (x = .non))) H
def rNotNU : R2 := fun x y H Q => y = .non ∧ Q (.bl (!decide (x = .non))) H
theorem op_isNU {X : Cx} : OpR X (compareOp .Is) rIsNU := op_isN
theorem op_notNU {X : Cx} : OpR X (compareOp .IsNot) rNotNU := op_notN
theorem od_isN {d : D} : OD rIsNU d .non (· = .dat (.bl d.isN)) := fun W v w r r' Q q => by
  cases r'
  refine ⟨rfl, ?_⟩
  rw [isN_of r]
  exact dat1 (.bl _) q
theorem od_notN {d : D} : OD rNotNU d .non (· = .dat (.bl (!d.isN))) := fun W v w r r' Q q => by
  cases r'
  refine ⟨rfl, ?_⟩
  rw [isN_of r]
  exact dat1 (.bl _) q
/-! ### truth -/
def tTru (K : PySem.W.Frag) (ta : TE) : TT := fun σ H Q => ta σ H fun x H' => ∃ k, TruV K x H' k ∧ Q k H'
theorem et_tru {ds : List D} (h : ED te ρ (· = .lst ds)) : ET (tTru K te) ρ (· = !ds.isEmpty) := fun W0 W σ E Q q => h W0 W σ E _ fun v d W1 g1 r1 p1 => by
  subst p1
  cases r1 with
  | lst ha ra =>
    refine ⟨_, .inl ⟨_, sq_l (W1.le _ _ ha), rfl⟩, q _ W1 g1 ?_⟩
    cases ra <;> rfl
theorem pe_joinU {X : Cx} {o e : Expr} {to te : TE} {apos pos : Pos} (ho : PE X o to) (he : PE X e te) (hs : starEach [e] X.env = [(false, eval e X.env)] := by rfl) (hbase : attributeBase o "join" X.env (eval o X.env) = eval o X.env := by rfl) (hline : (apos.endLine == pos.line) = true := by rfl) :
    PE X (.Call (.Attribute o "join" apos) [e] [] pos) (tM1 (rJoin X.K) to te) := pe_join ho he hs hbase hline
theorem pt_tru {X : Cx} {a : Expr} {ta : TE} (ha : PE X a ta) (he : ∀ whole, isTrue a X.env whole = (do let v ← whole; standAt a.pos; holding [v] (truthy v)) := by intro _; rfl) : PT X a (tTru X.K ta) := pt_truth ha he
/-! ### str(n), int(n), abs(n) -/
def rStrI : List V → Hp → VK → Prop := fun xs H Q => ∃ i : Int, xs = [.int i] ∧ i.natAbs.log2 < 1920 ∧ Q (.str (toString i)) H
theorem call_strI {X : Cx} : CallR X (.type "str") rStrI := call_str_int
theorem digit_str : ∀ n : Nat, n < 10 → ((toString (n : Int) : Str)).cps.toList = [48 + n] := by
  intro n hn
  have : n = 0 ∨ n = 1 ∨ n = 2 ∨ n = 3 ∨ n = 4 ∨ n = 5 ∨ n = 6 ∨ n = 7 ∨ n = 8 ∨ n = 9 := by omega
  rcases this with e | e | e | e | e | e | e | e | e | e <;> (subst e; decide +kernel)
theorem cd_digit {n : Nat} (h : n < 10) : CD rStrI [.int n] (· = .dat (.str [48 + n])) := fun W vs r Q q => by
  cases r with
  | cons r rr =>
    cases rr
    cases r
    refine ⟨n, rfl, ?_, ?_⟩
    · have h2 : (n : Int).natAbs.log2 ≤ n := by
        rw [Int.natAbs_natCast]
        exact Nat.log2_le_self n
      omega
    · rw [tx_eq, digit_str n h]
      exact dat1 (.str [48 + n]) q
def rIntI : List V → Hp → VK → Prop := fun xs H Q => (∃ i : Int, xs = [.int i] ∧ Q (.int i) H) ∨ ∃ k : Bool, xs = [.bl k] ∧ Q (.int (if k then 1 else 0)) H
theorem call_intI {X : Cx} : CallR X (.type "int") rIntI := call_int1
theorem cd_int {i : Int} : CD rIntI [.int i] (· = .dat (.int i)) := fun W vs r Q q => by
  cases r with
  | cons r rr =>
    cases rr
    cases r
    exact .inl ⟨i, rfl, dat1 (.int i) q⟩
def rAbsI : List V → Hp → VK → Prop := fun xs H Q => ∃ i : Int, xs = [.int i] ∧ Q (.int (if i < 0 then -i else i)) H
theorem call_absI {X : Cx} : CallR X (.builtin "abs") rAbsI := call_abs
theorem cd_abs {i : Int} : CD rAbsI [.int i] (· = .dat (.int (if i < 0 then -i else i))) := fun W vs r Q q => by
  cases r with
  | cons r rr =>
    cases rr
    cases r
    exact ⟨i, rfl, dat1 (.int _) q⟩
end
/-! ### the same heap, read otherwise -/
structure Rty (H H' : Hp) : Prop where
  non : ∀ b, H b = none → H' b = none
  tup : ∀ b xs, H b = some (.tup xs) → H' b = some (.tup xs)
  frz : ∀ b o u, H b = some (.frz o u) → H' b = some (.frz o u)
  tbl : ∀ b ps, H b = some (.tbl ps) → H' b = some (.tbl ps)
theorem fn_rty {P : Program} {w : World} {K : PySem.W.Frag} {mg : Str → Option Value} {base : Heap} {k : Nat} {f : Addr} {fd : FuncData} {ps : List Str} {sp sp' : Sp} (F : FnOk P w K mg base CX0 k f fd ps sp) (len : ∀ vs H Q E, sp' vs H Q E → vs.length = ps.length)
    (h : ∀ vs H Q E hp, sp' vs H Q E → HOk P w H hp → ∃ H1, Rty H H1 ∧ HOk P w H1 hp ∧ sp vs H1 (fun v H' => ∀ hp', HOk P w H' hp' → ∃ H'', Rty H' H'' ∧ HOk P w H'' hp' ∧ Q v H'') E) : FnOk P w K mg base CX0 k f fd ps sp' := by
  refine ⟨len, fun A outer s H args us vs Q E hr he hb hv hsp => ?_⟩
  obtain ⟨H1, t, ok, q⟩ := h vs H Q E s.heap hsp he.hok
  refine codeAny_mono (F.run A outer s H1 args us vs _ E hr ⟨he.frames, he.mod, fun b o e => ⟨(he.bs b o e).1, t.non b (he.bs b o e).2⟩, he.bsz, he.funs, fun b hb => t.non b (he.frf b hb), ok, he.bare⟩ hb hv q) fun r s' hq => ?_
  cases r with
  | error e => exact hq
  | ok fl =>
    cases fl with
    | ret u =>
      obtain ⟨v, H', a1, a2, un, ok', r1, z⟩ := hq
      obtain ⟨H'', t2, ok2, q2⟩ := z s'.heap ok'
      exact ⟨v, H'', a1, a2, ⟨fun b o x y => un.keep b o x (t.non b y), fun b o x y => un.slot b o x (t.non b y), fun b o x y n => t2.non b (un.free b o x (t.non b y) n), un.there, fun b xs x => t2.tup b xs (un.tups b xs (t.tup b xs x)), fun b o u x => t2.frz b o u (un.frzs b o u (t.frz b o u x)), fun b ps x => by
        obtain ⟨m, y⟩ := un.tbls b ps (t.tbl b ps x)
        exact ⟨m, t2.tbl b _ y⟩⟩, ok2, r1, q2⟩
    | next => exact hq.elim
    | brk => exact hq.elim
    | cont => exact hq.elim
theorem bag_ne {b c : Addr} {u : HO} (h : ∀ φ, u ≠ .ext φ) : bagO b c ≠ u := fun e => h _ e.symm
theorem rty_upd {H : Hp} {b : Addr} {o u : HO} (h : H b = some o) (n1 : ∀ xs, o ≠ .tup xs) (n2 : ∀ a v, o ≠ .frz a v) (n3 : ∀ ps, o ≠ .tbl ps) : Rty H (upd H b u) :=
  ⟨fun a e => by rw [upd_ne (fun z => by rw [z, h] at e; cases e)]; exact e, fun a xs e => by rw [upd_ne (fun z => by rw [z, h] at e; exact n1 xs (Option.some.inj e))]; exact e,
    fun a o' v e => by rw [upd_ne (fun z => by rw [z, h] at e; exact n2 o' v (Option.some.inj e))]; exact e, fun a ps e => by rw [upd_ne (fun z => by rw [z, h] at e; exact n3 ps (Option.some.inj e))]; exact e⟩
theorem hok_upd {P : Program} {w : World} {H : Hp} {hp : Heap} {b : Addr} {o u : HO} (ok : HOk P w H hp) (h : H b = some o) (n1 : ∀ xs, o ≠ .tup xs) (n2 : ∀ a, o ≠ .own a) (new : ObjOk P w (upd H b u) hp b u) : HOk P w (upd H b u) hp := fun a q e => by
  by_cases z : a = b
  · subst z; rw [upd_same] at e; cases e; exact new
  · rw [upd_ne z] at e
    exact (ok a q e).stay (fun _ _ _ y => y) (fun c y => by rw [upd_ne (fun z => by rw [z, h] at y; exact n2 a (Option.some.inj y))]; exact y) (fun c xs y => by rw [upd_ne (fun z => by rw [z, h] at y; exact n1 xs (Option.some.inj y))]; exact y)
/-- the bag's list -/
def bagL (c : Addr) (i r m n : Int) : HO := .lst [.ref c, .int i, .int r, .int m, .int n]
theorem bag_out {P : Program} {w : World} {H : Hp} {hp : Heap} {b c : Addr} (ok : HOk P w H hp) (h : H b = some (bagO b c)) :
    ∃ i r m n, 0 ≤ i ∧ 0 ≤ r ∧ 0 ≤ m ∧ m < 2147483648 ∧ Rty H (upd H b (bagL c i r m n)) ∧ HOk P w (upd H b (bagL c i r m n)) hp := by
  have q : ObjOk P w H hp b (.ext _) := ok b _ h
  obtain ⟨⟨i, r, m, n, its, nn, v, e, h1, h2, h3, h4⟩, _, _⟩ := q
  have ne : ∀ {u : HO}, (∀ φ, u ≠ .ext φ) → bagO b c ≠ u := fun h => bag_ne h
  exact ⟨i, r, m, n, h1, h2, h3, h4, rty_upd h (fun xs => ne fun _ z => nomatch z) (fun a v => ne fun _ z => nomatch z) (fun ps => ne fun _ z => nomatch z), hok_upd ok h (fun xs => ne fun _ z => nomatch z) (fun a => ne fun _ z => nomatch z) ⟨by show 5 ≤ sizeLine; decide, its, nn, v, e⟩⟩
theorem bag_in {P : Program} {w : World} {H : Hp} {hp : Heap} {b c : Addr} {i r m n : Int} (ok : HOk P w H hp) (h : H b = some (bagL c i r m n)) (h1 : 0 ≤ i) (h2 : 0 ≤ r) (h3 : 0 ≤ m) (h4 : m < 2147483648) :
    Rty H (upd H b (bagO b c)) ∧ HOk P w (upd H b (bagO b c)) hp := by
  have q : ObjOk P w H hp b (.lst [.ref c, .int i, .int r, .int m, .int n]) := ok b _ h
  obtain ⟨_, its, nn, v, e⟩ := q
  refine ⟨rty_upd h (fun xs z => nomatch z) (fun a v z => nomatch z) (fun ps z => nomatch z), hok_upd ok h (fun xs z => nomatch z) (fun a z => nomatch z) ⟨⟨i, r, m, n, its, nn, v, e, h1, h2, h3, h4⟩, ⟨_, e⟩, fun hp1 hp2 ⟨i, r, m, n, its, nn, v, e, y⟩ k => ⟨i, r, m, n, its, nn, v, k _ e, y⟩⟩⟩
end Nt

namespace Nt
open PySem PySem.Spec PyProof.Rows L2
theorem take_step {α : Type} {l : List α} {i : Nat} {x : α} (h : l[i]? = some x) : l.take (i + 1) = l.take i ++ [x] := by rw [List.take_add_one, h]; rfl
theorem take_all {α : Type} (l : List α) : l.take l.length = l := List.take_length
theorem map_get' {α β : Type} {f : α → β} {s : List α} {i : Nat} {d : β} (h : (s.map f)[i]? = some d) : ∃ c, s[i]? = some c ∧ d = f c := by
  rw [List.getElem?_map] at h
  cases hc : s[i]? with
  | none => rw [hc] at h; cases h
  | some c => rw [hc] at h; exact ⟨c, rfl, (Option.some.inj h).symm⟩
section
variable {K : PySem.W.Frag} {ρ : List En} {te : TE} {tt : TT} {wi : TI} {j k : Nat}
theorem lc1_filt {α : Type} {ds : List α} {emb : α → D} {t : α → Bool} {f : α → D} (h : IV1 wi ρ (· = ds.map emb)) (hn : ds.length ≤ 100000) (ht : ∀ (i : Nat) d, ds[i]? = some d → ET tt (ρ.set j (.dat (emb d))) (· = t d)) (he : ∀ (i : Nat) d, ds[i]? = some d → t d = true → ED te (ρ.set j (.dat (emb d))) (· = f d)) :
    EV (tLc wi (gName j) tt te [j]) ρ (· = .own ((ds.filter t).map f)) :=
  (e_lc1 (T := fun x => x = ds.map emb) (Inv := fun _ i acc => acc = ((ds.take i).filter t).map f) h (fun x e => by rw [e, List.length_map]; exact hn) (fun x e => rfl) (fun x i d acc e hd ha => by
    subst e
    obtain ⟨c, hc, rfl⟩ := map_get' hd
    refine (ht i c hc).imp fun b hb => ?_
    cases b with
    | true =>
      refine iteT ((he i c hc hb.symm).imp fun y hy => ?_)
      rw [take_step hc, List.filter_append, List.map_append, ha, hy]
      simp [← hb]
    | false =>
      refine iteF ?_
      rw [take_step hc, List.filter_append, List.map_append, ha]
      simp [← hb])).imp fun e ⟨x, acc, e1, e2, e3⟩ => by rw [e1, e3, e2, List.length_map, take_all]
theorem lc1_map {α : Type} {ds : List α} {emb : α → D} {f : α → D} (h : IV1 wi ρ (· = ds.map emb)) (hn : ds.length ≤ 100000) (he : ∀ (i : Nat) d, ds[i]? = some d → ED te (ρ.set j (.dat (emb d))) (· = f d)) : EV (tLc wi (gName j) tYes te [j]) ρ (· = .own (ds.map f)) :=
  (lc1_filt (t := fun _ => true) h hn (fun i d hd => et_yes) (fun i d hd _ => he i d hd)).imp fun e q => by rw [q, List.filter_eq_self.mpr fun _ _ => rfl]
theorem lc2_filt {α : Type} {ds : List α} {emb : α → D × D} {t : α → Bool} {f : α → D} (hjk : j ≠ k) (h : IV2 wi ρ (· = ds.map emb)) (hn : ds.length ≤ 100000) (ht : ∀ (i : Nat) d, ds[i]? = some d → ET tt ((ρ.set j (.dat (emb d).1)).set k (.dat (emb d).2)) (· = t d)) (he : ∀ (i : Nat) d, ds[i]? = some d → t d = true → ED te ((ρ.set j (.dat (emb d).1)).set k (.dat (emb d).2)) (· = f d)) :
    EV (tLc wi (gTup K 2 (gCons (gName j) (gCons (gName k) gNil))) tt te [j, k]) ρ (· = .own ((ds.filter t).map f)) :=
  (e_lc2 (T := fun x => x = ds.map emb) (Inv := fun _ i acc => acc = ((ds.take i).filter t).map f) h hjk (fun x e => by rw [e, List.length_map]; exact hn) (fun x e => rfl) (fun x i d acc e hd ha => by
    subst e
    obtain ⟨c, hc, rfl⟩ := map_get' hd
    refine (ht i c hc).imp fun b hb => ?_
    cases b with
    | true =>
      refine iteT ((he i c hc hb.symm).imp fun y hy => ?_)
      rw [take_step hc, List.filter_append, List.map_append, ha, hy]
      simp [← hb]
    | false =>
      refine iteF ?_
      rw [take_step hc, List.filter_append, List.map_append, ha]
      simp [← hb])).imp fun e ⟨x, acc, e1, e2, e3⟩ => by rw [e1, e3, e2, List.length_map, take_all]
theorem lc2_map {α : Type} {ds : List α} {emb : α → D × D} {f : α → D} (hjk : j ≠ k) (h : IV2 wi ρ (· = ds.map emb)) (hn : ds.length ≤ 100000) (he : ∀ (i : Nat) d, ds[i]? = some d → ED te ((ρ.set j (.dat (emb d).1)).set k (.dat (emb d).2)) (· = f d)) :
    EV (tLc wi (gTup K 2 (gCons (gName j) (gCons (gName k) gNil))) tYes te [j, k]) ρ (· = .own (ds.map f)) :=
  (lc2_filt (t := fun _ => true) hjk h hn (fun i d hd => et_yes) (fun i d hd _ => he i d hd)).imp fun e q => by rw [q, List.filter_eq_self.mpr fun _ _ => rfl]
/-- pairs of signs -/
def pr (p : Nat × Nat) : D × D := (.str [p.1], .str [p.2])
theorem iv_zipS {K' : PySem.W.Frag} {ar : TA} {x y : List Nat} (h : EA ar ρ (· = [.str x, .str y])) : IV2 (iZipG K' ar) ρ (· = (x.zip y).map pr) := by
  have e : (chs x).zip (chs y) = (x.zip y).map pr := by
    unfold chs pr
    rw [List.zip_map]
    rfl
  have h' := iv_zip (K := K') (.str x) (.str y) h
  rw [e] at h'
  exact h'
/-- a number and a sign -/
def ipr (p : Nat × Nat) : D × D := (.int p.1, .str [p.2])
theorem iv_enumZ {ar : TA} {s : List Nat} (h : EA ar ρ (· = [.str s])) : IV2 (iEnumS ar) ρ (· = ((List.range s.length).zip s).map ipr) := by
  have e : (ixs s.length).zip (chs s) = ((List.range s.length).zip s).map ipr := by
    unfold ixs chs ipr
    rw [List.zip_map]
    rfl
  have h' := iv_enum h
  rw [e] at h'
  exact h'
theorem iv_strS {s : List Nat} (h : ED te ρ (· = .str s)) : IV1 (iStr te) ρ (· = s.map fun c => .str [c]) := iv_str1 h
theorem iv_rngN {ar : TA} {n : Nat} (h : EA ar ρ (· = [.int n])) (hn : n ≤ 100000) : IV1 (iRng1 ar) ρ (· = (List.range n).map fun (i : Nat) => .int i) := by
  have h' := iv_rng1 h (by omega) (by omega)
  rw [Int.toNat_natCast] at h'
  exact h'
end
theorem hu64 {A : Around} {k : Nat} (hr : Room k A) : A.units + 64 < cLine := by have := hr.un; omega
theorem spE_len {Rg : List D → (En → Prop) → Prop} {vs : List V} {H : Hp} {Q : VK} {X : XK} {n : Nat} (h : SpE Rg vs H Q X) (hl : ∀ ds P, Rg ds P → ds.length = n) : vs.length = n := by
  obtain ⟨W, ds, P, _, r, hr, _⟩ := h
  rw [r.len]; exact hl ds P hr
/-- list index of a zip -/
theorem zip_get {α β : Type} {xs : List α} {ys : List β} {i : Nat} {p : α × β} (h : (xs.zip ys)[i]? = some p) : xs[i]? = some p.1 ∧ ys[i]? = some p.2 := by
  rw [List.getElem?_zip_eq_some] at h; exact h
theorem chs_get {s : List Nat} {i : Nat} {d : D} (h : (chs s)[i]? = some d) : ∃ c, s[i]? = some c ∧ d = .str [c] := by
  unfold chs at h
  rw [List.getElem?_map] at h
  cases hc : s[i]? with
  | none => rw [hc] at h; cases h
  | some c => rw [hc] at h; exact ⟨c, rfl, (Option.some.inj h).symm⟩
theorem map_get {α : Type} {f : α → D} {s : List α} {i : Nat} {d : D} (h : (s.map f)[i]? = some d) : ∃ c, s[i]? = some c ∧ d = f c := by
  rw [List.getElem?_map] at h
  cases hc : s[i]? with
  | none => rw [hc] at h; cases h
  | some c => rw [hc] at h; exact ⟨c, rfl, (Option.some.inj h).symm⟩
theorem ixs_get' {n i : Nat} {d : D} (h : (ixs n)[i]? = some d) : i < n ∧ d = .int i := by
  have hl := (List.getElem?_eq_some_iff.mp h).1
  have hl' : i < n := by simpa [ixs] using hl
  rw [ixs_get hl'] at h
  exact ⟨hl', (Option.some.inj h).symm⟩
end Nt
namespace Nt
open PySem PySem.Spec PyProof.Rows L2
/-! ### the rules with the written part named -/
section
variable {X : Cx} {K : PySem.W.Frag}
theorem op_eqK (hK : X.K = K) (hu : X.A.units + 64 < cLine) : OpR X (compareOp .Eq) (rEqU K) := hK ▸ op_eqU hu
theorem op_neK (hK : X.K = K) (hu : X.A.units + 64 < cLine) : OpR X (compareOp .NotEq) (rNeU K) := hK ▸ op_neU hu
theorem op_inK (hK : X.K = K) : OpR X (compareOp .In) (rInU K false) := hK ▸ op_inU
theorem op_notInK (hK : X.K = K) : OpR X (compareOp .NotIn) (rInU K true) := hK ▸ op_notInU
theorem ix_K (hK : X.K = K) : IxR X (rIx K) := hK ▸ ix_seq
theorem sl_K (hK : X.K = K) : L2.SlR X (rSlU K) := hK ▸ sl_U
theorem call_lenK (hK : X.K = K) : CallR X (.builtin "len") (rLenU K) := hK ▸ call_lenU
theorem call_listK (hK : X.K = K) : CallR X (.type "list") (rListC K) := hK ▸ call_listC
theorem call_allK (hK : X.K = K) (hc : X.calm = true) : CallR X (.builtin "all") (rAll K) := hK ▸ cr_all hc
theorem call_isiK1 (hK : X.K = K) : CallR X (.builtin "isinstance") (rIsi K) := hK ▸ call_isi
theorem call_isiK2 (hK : X.K = K) : CallR X (.builtin "isinstance") (rIsiT K) := hK ▸ call_isiT
theorem pe_joinK {o e : Expr} {to te : TE} {apos pos : Pos} (hK : X.K = K) (ho : PE X o to) (he : PE X e te) (hs : starEach [e] X.env = [(false, eval e X.env)] := by rfl) (hbase : attributeBase o "join" X.env (eval o X.env) = eval o X.env := by rfl) (hline : (apos.endLine == pos.line) = true := by rfl) :
    PE X (.Call (.Attribute o "join" apos) [e] [] pos) (tM1 (rJoin K) to te) := hK ▸ pe_joinU ho he hs hbase hline
theorem pt_truK {a : Expr} {ta : TE} (hK : X.K = K) (ha : PE X a ta) (he : ∀ whole, isTrue a X.env whole = (do let v ← whole; standAt a.pos; holding [v] (truthy v)) := by intro _; rfl) : PT X a (tTru K ta) := hK ▸ pt_tru ha he
theorem pe_revK {e : Expr} {te : TE} {k : Nat} {p1 p2 p3 pos : Pos} (hK : X.K = K) (he : PE X e te) : PE X (.Subscript e (.Slice none none (some (.UnaryOp .USub (.Constant (.int 1) k p1) p2)) p3) pos) (tRevL K te) := hK ▸ pe_revL he
theorem pi_listK {tg l : Expr} {tl : TE} (hK : X.K = K) (hl : PE X l tl) : PI X tg l (iSeq K tl) := ⟨fun pins s σ H R I h => by
  subst hK
  rcases h with h | h
  · exact (pi_list hl).run pins s σ H R I h
  · exact (pi_tup hl).run pins s σ H R I h⟩
theorem pi_zipK {e e2 : Expr} {ta : TA} {p pos tpos : Pos} {elts : List Expr} {kk : Nat} (hK : X.K = K) (hg : Gl X "zip") (hm : X.mg "zip" = none) (ha : PA X [e, e2] ta)
    (hs : starEach [e, e2] X.env = (false, eval e X.env) :: starEach [e2] X.env := by rfl) (hpl : (backTo pos (starEach [e2] X.env)).any (·.1) = false := by rfl) :
    PI X (.Tuple elts kk tpos) (.Call (.Name "zip" p) [e, e2] [] pos) (iZipG K ta) := hK ▸ pi_zipG hg hm ha hs hpl
end
end Nt

namespace Nt
open PySem PySem.Spec PyProof.Rows L2
/-! ### sets of texts -/
abbrev tK (P : Program) (w : World) := PySem.strKind P w
def ky (e : Int × Value) : Str := match e.2 with | .str x _ => x | _ => Str.empty
def Gd (P : Program) (w : World) (e : Int × Value) : Prop := ∃ x tk, e.2 = Value.str x tk ∧ e.1 = (tK P w).hash x
/-- the set of the texts of L (each once) stands at a -/
def SetS (P : Program) (w : World) (h : Heap) (a : Addr) (L : List Str) : Prop := ∃ o es ep t, h.get? a = some o ∧ o.ExactSet ∧ o.data = .set es ep t ∧ (∀ e ∈ es.toList, Gd P w e) ∧ (es.toList.map ky).Perm L ∧ L.Nodup ∧ es.size < scanBound ∧ t.fits es.size = true ∧ Ris t.place.toList ∧ (w.params.followText "set-order" = true ∨ t.led = true)
section
variable {P : Program} {w : World} {h h' : Heap} {a : Addr} {L : List Str}
theorem SetS.at (R : SetS P w h a L) (k : ∀ o, h.get? a = some o → h'.get? a = some o) : SetS P w h' a L := by
  rcases R with ⟨o, es, ep, t, e0, more⟩
  exact ⟨o, es, ep, t, k o e0, more⟩
theorem gd_elems {l : List (Int × Value)} (g : ∀ e ∈ l, Gd P w e) : ElemsOf (tK P w) l := fun e he => by
  rcases g e he with ⟨x, tk, q1, q2⟩
  refine ⟨⟨x, ?_, q2⟩, ?_⟩
  · rw [q1]; exact strKind_is P w x tk
  · rw [q1]; rfl
theorem gd_is {e : Int × Value} (g : Gd P w e) (x : Str) : (tK P w).is x e.2 = true ↔ ky e = x := by
  rcases g with ⟨y, tk, q1, _⟩
  unfold ky
  rw [q1]
  show Value.isStrOf x (.str y tk) = true ↔ y = x
  simp only [Value.isStrOf, beq_iff_eq, decide_eq_true_eq]
  try exact eq_comm
theorem gd_mem {l : List (Int × Value)} (g : ∀ e ∈ l, Gd P w e) (x : Str) : x ∈ l.map ky ↔ ∃ e ∈ l, (tK P w).is x e.2 = true := by
  rw [List.mem_map]
  exact ⟨fun ⟨e, he, q⟩ => ⟨e, he, (gd_is (g e he) x).mpr q⟩, fun ⟨e, he, q⟩ => ⟨e, he, (gd_is (g e he) x).mp q⟩⟩
end
section
variable {P : Program} {w : World} {A : Around} {E : Value → Shared → Prop} {s : Shared} {a : Addr} {L : List Str}
theorem sets_tail {g : Bool → Sem Unit} (hg : ∀ (b : Bool) (s₁ : Shared) (Q' : Unit → Shared → Prop), Q' () s₁ → wpAny (model P w) A (g b) Q' E s₁) {o : Obj} {es : Array (Int × Value)} {ep : Nat} {t : SetTable} (ho : s.heap.get? a = some o) (hex : o.ExactSet) (hd : o.data = .set es ep t)
    {es1 : Array (Int × Value)} {t2 : SetTable} (g1 : ∀ e ∈ es1.toList, Gd P w e) (m1 : (es1.toList.map ky).Perm L) (nd : L.Nodup) (hb1 : es1.size < scanBound) (hf2 : t2.fits es1.size = true) (hr : Ris t2.place.toList) (hl : w.params.followText "set-order" = true ∨ t2.led = true) {wasDummy : Bool} {R : Option Bool → Shared → Prop}
    (hR : ∀ h', Heap.SameBut a s.heap h' → SetS P w h' a L → R (some true) { s with heap := h' }) :
    wpAny (model P w) A (do storeSet a es1 t2; if (!wasDummy && t2.tooFull) = true then (do g (relayAll t2 es1 (SetTable.grown es1.size)).2.2; storeSet a (relayAll t2 es1 (SetTable.grown es1.size)).1 (relayAll t2 es1 (SetTable.grown es1.size)).2.1; pure (some true)) else pure (some true)) R E s := by
  refine wpAny_bind (wpAny_storeSet_of ho hd ?_ (fits_of_scanBound hb1))
  have o1 := store_at (es' := es1) (t' := t2) ho hd
  have b1 := Heap.SameBut.update s.heap a (Obj.putSet es1 t2)
  by_cases hc : (!wasDummy && t2.tooFull) = true
  · rw [if_pos hc]
    have v1 := relayAll_perm t2 es1 (SetTable.grown es1.size)
    have v2 := relayAll_fits t2 es1 (SetTable.grown es1.size)
    have v3 := relayAll_ris t2 es1 (SetTable.grown es1.size)
    have v4 := relayAll_led t2 es1 (SetTable.grown es1.size)
    generalize relayAll t2 es1 (SetTable.grown es1.size) = Z at v1 v2 v3 v4 ⊢
    rcases Z with ⟨z1, z2, z3⟩
    dsimp only at v1 v2 v3 v4 ⊢
    have e1 : z1.size = es1.size := by rw [← Array.length_toList, v1.length_eq, Array.length_toList]
    have e2 : z1.size < scanBound := e1 ▸ hb1
    refine wpAny_bind (hg _ _ _ (wpAny_bind (wpAny_storeSet_of o1 rfl ?_ (fits_of_scanBound e2))))
    have o2 := store_at (es' := z1) (t' := z2) o1 rfl
    refine wpAny_pure (hR _ (b1.trans (Heap.SameBut.update _ a _)) ⟨_, z1, _, z2, o2, hex, rfl, fun e he => g1 e (v1.mem_iff.mp he), (v1.map ky).trans m1, nd, e2, v2, v3, ?_⟩)
    rcases hl with z | z
    · exact .inl z
    · exact .inr (by rw [v4]; exact z)
  · rw [if_neg hc]
    exact wpAny_pure (hR _ b1 ⟨_, es1, _, t2, o1, hex, rfl, g1, m1, nd, hb1, hf2, hr, hl⟩)
theorem sets_add {x : Str} {tk : Tok} {Q : Bool → Shared → Prop} (R : SetS P w s.heap a L) (room : L.length + 1 < scanBound)
    (hQ : ∀ h', Heap.SameBut a s.heap h' → SetS P w h' a (if x ∈ L then L else x :: L) → ∀ b, Q b { s with heap := h' }) :
    wpAny (model P w) A (setAddHashed a (.str x tk) ((tK P w).hash x)) Q E s := by
  rcases R with ⟨o, es, ep, t, ho, hex, hd, g, pm0, nd0, hb, hf, hr, hl⟩
  have hkey : (tK P w).is x (.str x tk) = true := strKind_is P w x tk
  have hsc : (Value.str x tk).scannable = true := rfl
  have hel := gd_elems g
  have hlen : es.size = L.length := by rw [← pm0.length_eq, List.length_map, Array.length_toList]
  unfold setAddHashed setAddHashedIn
  refine wpAny_holding (wpAny_bind (wpAny_setState_of ho hd hf ?_))
  dsimp only
  rw [byScan_of hsc hb hel]
  simp only [↓reduceIte]
  unfold setAddByScan
  refine wpAny_bind (wpAny_bind (wpAny_rule (wpAny_bind (wpAny_setScan_of hkey ho hd hf hel ?_))))
  cases hfi : List.findIdx? (fun e => (tK P w).is x e.2) es.toList with
  | some j =>
    dsimp only
    obtain ⟨hj, pj, _⟩ := List.findIdx?_eq_some_iff_getElem.mp hfi
    have hx : x ∈ L := pm0.mem_iff.mp ((gd_mem (P := P) (w := w) g x).mpr ⟨es.toList[j], List.getElem_mem hj, pj⟩)
    refine wpAny_pure (wpAny_pure (hQ s.heap (Heap.SameBut.refl a s.heap) ?_ _))
    rw [if_pos hx]
    exact ⟨o, es, ep, t, ho, hex, hd, g, pm0, nd0, hb, hf, hr, hl⟩
  | none =>
    dsimp only
    have hx : x ∉ L := fun z => by
      rcases (gd_mem (P := P) (w := w) g x).mp (pm0.mem_iff.mpr z) with ⟨e, he, q⟩
      have c := List.findIdx?_eq_none_iff.mp hfi e he
      rw [c] at q; exact Bool.noConfusion q
    rw [if_neg hx] at hQ
    have hgw : ∀ (b : Bool) {s₁ : Shared} {Q' : Unit → Shared → Prop}, Q' () s₁ → wpAny (model P w) A (match b with | true => rule "set.scan.the-table-gave-way" | false => pure ()) Q' E s₁ := fun b _ _ q => match b with
      | true => wpAny_rule q
      | false => wpAny_pure q
    have v1 := layNew_perm t es ((tK P w).hash x) (.str x tk)
    have v2 := layNew_fits t es ((tK P w).hash x) (.str x tk)
    have v3 := layNew_ris t es ((tK P w).hash x) (.str x tk) hr
    have v4 := layNew_led t es ((tK P w).hash x) (.str x tk)
    generalize layNew t es ((tK P w).hash x) (.str x tk) = Z at v1 v2 v3 v4 ⊢
    rcases Z with ⟨es1, t1, wasDummy, gave⟩
    dsimp only at v1 v2 v3 v4 ⊢
    rw [Array.toList_push] at v1
    have pc : es1.toList.Perm (((tK P w).hash x, Value.str x tk) :: es.toList) := v1.trans (List.perm_append_singleton _ _)
    have pk : (es1.toList.map ky).Perm (x :: L) := (pc.map ky).trans (pm0.cons x)
    have g1 : ∀ e ∈ es1.toList, Gd P w e := fun e he => by
      rcases List.mem_cons.mp (pc.mem_iff.mp he) with z | z
      · rw [z]; exact ⟨x, tk, rfl, rfl⟩
      · exact g e z
    have nd1 : (x :: L).Nodup := List.nodup_cons.mpr ⟨hx, nd0⟩
    have hb1 : es1.size < scanBound := by
      have : es1.size = L.length + 1 := by rw [← Array.length_toList, ← List.length_map (f := ky), pk.length_eq]; rfl
      rw [this]; exact room
    have hled : w.params.followText "set-order" = true ∨ t1.led = true := hl.imp id fun z => v4.trans z
    refine wpAny_bind (hgw _ ?_)
    split
    · refine wpAny_bind ?_
      rw [hashByValue_scannable 8 hsc]
      refine wpAny_pure (sets_tail (L := x :: L) ?_ ho hex hd g1 pk nd1 hb1 ?_ ?_ ?_ ?_)
      · intro b s₁ Q' q; cases b <;> first | exact wpAny_pure q | exact wpAny_rule q
      · first | (split <;> first | exact v2 | exact SetTable.fits_plain_off v2) | exact v2
      · first | (split <;> exact v3) | exact v3
      · first | (split <;> exact hled) | exact hled
      · exact fun h' sb r => by dsimp only; exact wpAny_pure (hQ h' sb r _)
    · refine wpAny_bind (wpAny_pure ?_)
      simp only [↓reduceIte]
      refine sets_tail (L := x :: L) ?_ ho hex hd g1 pk nd1 hb1 v2 v3 hled ?_
      · intro b s₁ Q' q; cases b <;> first | exact wpAny_pure q | exact wpAny_rule q
      · exact fun h' sb r => by dsimp only; exact wpAny_pure (hQ h' sb r _)
end
end Nt

set_option maxHeartbeats 6400000
namespace Nt
open PySem PySem.Spec PyProof.Rows L2
theorem setS_fresh {P : Program} {w : World} {h : Heap} {a : Addr} (ho : h.get? a = some { cls := .type "set", dict := none, data := .set #[] 0 (.fresh 0 0 (!w.params.followText "set-order")) }) : SetS P w h a [] := by
  refine ⟨_, #[], 0, _, ho, ⟨rfl, rfl, rfl⟩, rfl, fun e he => by simp at he, List.Perm.refl _, List.nodup_nil, by decide, by rfl, List.Pairwise.nil, ?_⟩
  show _ ∨ (!w.params.followText "set-order") = true
  cases w.params.followText "set-order"
  · exact .inr rfl
  · exact .inl rfl
section
variable {P : Program} {w : World} {A : Around} {E : Value → Shared → Prop} {s : Shared}
theorem sets_loop {I : Addr} {fp wr : List Addr} {G : Array GenState → Array GenState → Prop} {n : Nat} {Pv : Nat → Value → Prop} {St : Nat → Shared → Prop} {R : Result → Shared → Prop} (W : WalksS P w A.in1 I fp wr G n Pv St) (S : Addr) (hSf : S ∉ fp) (xs : List Str) (hn : n = xs.length)
    (hb : xs.length + 1 < scanBound) (hval : ∀ i v, Pv i v → ∃ k t, xs[i]? = some k ∧ v = .str k t) : ∀ (k i : Nat) (s : Shared), n - i = k → i ≤ n → St i s → (∃ L, SetS P w s.heap S L ∧ L.length ≤ i ∧ ∀ z, z ∈ L ↔ z ∈ xs.take i) →
      (∀ s' L, Moved (S :: wr) G s s' → SetS P w s'.heap S L → L.length ≤ n → (∀ z, z ∈ L ↔ z ∈ xs) → R (.ok (.ret .none)) s') → codeAny (model P w) A (.builtin "set.update.loop" ⟨[.ref S, .ref I], []⟩) R s := by
  have nw : S ∉ wr := fun z => hSf (W.sub _ z)
  have up : ∀ b ∈ wr, b ∈ S :: wr := fun b z => List.mem_cons_of_mem _ z
  intro k
  induction k with
  | zero =>
    rintro i s hk' hi hst ⟨L, hS, hc, hm0⟩ hR
    obtain rfl : i = n := by omega
    refine codeAny_builtin F.entry_set_update_loop ?_; rw [Around.under_plainId F.plain_set_update_loop _]
    show wpAny _ A.in1 (pyNext (.ref I) >>= _) _ _ s
    refine wpAny_bind (W.done s _ _ hst fun s' hm => ?_); show wpAny _ A.in1 (ret Value.none) _ _ s'
    rw [show xs.take i = xs from List.take_of_length_le (by omega)] at hm0
    exact wpAny_pure (hR s' L (hm.mono up) (hS.at fun o e => hm.heap S o nw e) hc hm0)
  | succ k ih =>
    rintro i s hk' hi hst ⟨L, hS, hc, hm0⟩ hR
    have hlt : i < n := by omega
    refine codeAny_builtin F.entry_set_update_loop ?_; rw [Around.under_plainId F.plain_set_update_loop _]
    show wpAny _ A.in1 (pyNext (.ref I) >>= _) _ _ s
    refine wpAny_bind (W.item i s _ _ hlt hst fun v s' hP hst' hm => ?_)
    rcases hval i v hP with ⟨z, t, hz, rfl⟩
    have hS' : SetS P w s'.heap S L := hS.at fun o e => hm.heap S o nw e
    show wpAny _ A.in1 (holding [Value.str z t] (setAdd S (.str z t)) >>= _) _ _ s'
    refine wpAny_bind (wpAny_holding ?_); unfold setAdd
    refine wpAny_holding (wpAny_bind ((PySem.strKind P w).pyHash (k := z) (strKind_is _ _ _ _) ?_))
    refine sets_add (s := { s' with toks := s'.toks + 1 }) hS' (by omega) fun h' hsb hS2 b => ?_
    have hc3 : (if z ∈ L then L else z :: L).length ≤ i + 1 := by
      split
      · omega
      · rw [List.length_cons]; omega
    have hm3 : ∀ y, y ∈ (if z ∈ L then L else z :: L) ↔ y ∈ xs.take (i + 1) := fun y => by
      rw [List.take_add_one, hz, List.mem_append, ← hm0 y, Option.toList_some, List.mem_singleton]
      split
      · exact ⟨.inl, fun q => q.elim id fun e => by rw [e]; assumption⟩
      · rw [List.mem_cons]; exact Or.comm
    refine wpAny_pure ⟨plainId_quiet F.plain_set_update_loop _, ih (i + 1) _ (by omega) hlt (W.frame _ s' _ _ hst' (Nat.le_succ _) fun b hb o e => ?_) ⟨_, hS2, hc3, hm3⟩ fun s'' L2 hm'' hS'' hc'' hm4 => ?_⟩
    · rw [hsb.2 b (fun q : b = S => hSf (q ▸ hb))]; exact e
    · refine hR s'' L2 (Moved.trans W.gtrans ((hm.mono up).then_heap (Nat.le_succ _) fun b o hb e => ?_) hm'') hS'' hc'' hm4
      rw [hsb.2 b (fun q : b = S => hb (q ▸ List.mem_cons_self))]; exact e

theorem call_set_listT {l : Addr} {items : Array Value} (xs : List Str) {Q : Value → Shared → Prop} (hh : A.handled = none) (hl : s.heap.IsList l items) (hit : StrsAre items.toList xs) (hb : xs.length + 1 < scanBound)
    (h : ∀ (h' : Heap) (tk : Nat) (L : List Str), SetS P w h' s.heap.objs.size L → L.length ≤ xs.length → (∀ z, z ∈ L ↔ z ∈ xs) → (∀ b o, s.heap.get? b = some o → h'.get? b = some o) → Q (.ref s.heap.objs.size) { s with heap := h', toks := tk }) : wpAny (model P w) A (call (.type "set") [.ref l]) Q E s := by
  have hisz : items.size = xs.length := by rw [← StrsAre.length hit, Array.length_toList]
  rcases F.called_set.mro with ⟨c, tl, hmro⟩
  have hmade := F.called_set.made; have hsub := F.called_set.sub
  refine wpAny_call (codeAny_of_tree ?_); show wpAny _ _ (callAny (.type "set") _) _ _ _
  refine wpAny_pure ⟨Code.quiet_builtin _ (by decide +kernel), codeAny_builtin F.entry_type_call ?_⟩; rw [Around.under_plain (weight_type_call_type "set" [.ref l] []) rfl]
  have h1 := F.called_set.notType; have h2 := F.called_set.canCreate; have hct := F.typeCall_set_1 (.ref l)
  repeat (any_goals (first | assumption | wp_step))
  let so : Obj := { cls := .type "set", dict := none, data := .set #[] 0 (.fresh 0 0 (!w.params.followText "set-order")) }
  refine codeAny_mono (code_set_led1 (.ref l) (E := E) (Q₁ := fun obj s₁ => obj = .ref s.heap.objs.size ∧ s₁ = { s with heap := s.heap.push so }) ⟨rfl, rfl⟩) fun r s₁ hr => ?_
  rcases r with e | fl
  · exact hr
  cases fl with
  | ret obj =>
    rcases hr with ⟨rfl, rfl⟩
    have hS : (s.heap.push so).get? s.heap.objs.size = some so := Heap.get?_push_size _ rfl
    have hT : Shared.TypeIs { s with heap := s.heap.push so } (.ref s.heap.objs.size) "set" := ⟨_, hS, rfl⟩
    have hli := F.called_set.init.lookup; have hbi := F.called_set.init.bind (.ref s.heap.objs.size)
    repeat (any_goals (first | assumption | wp_step))
    refine codeAny_mono (codeAny_call_builtin (R := wants (fun r s₂ => r = .none ∧ ∃ h' tk L, s₂ = { s with heap := h', toks := tk } ∧ SetS P w h' s.heap.objs.size L ∧ L.length ≤ xs.length ∧ (∀ z, z ∈ L ↔ z ∈ xs) ∧ (∀ b o, s.heap.get? b = some o → h'.get? b = some o)) E) F.called_set.init.plain F.entry_set_init (check_set_init_1 hT ?_)) fun r₂ s₂ hr₂ => ?_
    · rcases hl with ⟨⟨ocls, odict, odata, oslots⟩, hol, hcl, nl, hdl⟩
      simp only at hcl hdl
      subst hcl hdl
      have hol' : (s.heap.push so).get? l = some { cls := .type "list", dict := odict, data := .seq items nl, slots := oslots } := Heap.get?_push_of_some _ hol
      have hsls := F.sub_list_set; have hslf := F.sub_list_frozenset
      have hne : (Value.type "list" == Value.type "dict") = false := by decide
      have hl1 : (s.heap.push so).IsList l items := ⟨_, hol', rfl, nl, rfl⟩
      unfold Builtin.«set.__init__» noKeywords Builtin.Frozenset.updateFrom; generalize hPI : pyIter = PI; wp_walk; subst hPI
      refine wpAny_pyIter_list hl1 (wpAny_bind (wpAny_runValue ?_))
      have hlS : l < s.heap.objs.size := Heap.lt_size hol
      have hh3 : A.in1.in1.in1.handled = none := by simp [hh]
      have hz : (s.heap.push so).objs.size = s.heap.objs.size + 1 := Heap.size_push ..
      have hneI : l ≠ (s.heap.push so).objs.size := by rw [hz]; exact Nat.ne_of_lt (Nat.lt_succ_of_lt hlS)
      have hSf : s.heap.objs.size ∉ [(s.heap.push so).objs.size, l] := by
        rw [hz]; intro z
        rcases List.mem_cons.mp z with z | z
        · exact absurd z (Nat.ne_of_lt (Nat.lt_succ_self _))
        · exact absurd (List.mem_singleton.mp z) (Nat.ne_of_gt hlS)
      have hval : ∀ (i : Nat) (v : Value), items[i]? = some v → ∃ k t, xs[i]? = some k ∧ v = .str k t := fun i v hv => by
        rcases StrsAre.item hit i v (by rw [Array.getElem?_toList]; exact hv) with ⟨y, t, q1, q2⟩
        exact ⟨y, t, q2, q1⟩
      refine sets_loop ((Walks.list hh3 _ l hneI items).toS) s.heap.objs.size hSf xs hisz hb hval (items.size - 0) 0 _ (by omega) (Nat.zero_le _) ⟨⟨_, Heap.get?_push_size _ rfl, rfl, rfl⟩, (hl1.push _)⟩ ?hS0 ?hR
      case hS0 => exact ⟨[], setS_fresh (Heap.get?_push_of_some _ hS), Nat.le_refl 0, fun z => by simp⟩
      case hR =>
        rintro ⟨h', g2, d', tk', os'⟩ L' hm hS' hc' hmem
        have eg : g2 = s.gens := hm.gens; have ed : d' = s.drawn := hm.drawn; have eo : os' = s.os := hm.os
        subst eg ed eo
        show wpAny _ _ _ _ _ _
        refine wpAny_pure ?_; show wpAny _ _ (ret Value.none) _ _ _
        rw [hisz] at hc'
        refine wpAny_pure ⟨rfl, h', tk', L', rfl, hS', hc', hmem, fun b o e => hm.heap b o ?_ (Heap.get?_push_of_some _ (Heap.get?_push_of_some _ e))⟩
        have hb0 : b < s.heap.objs.size := Heap.lt_size e
        intro z
        rcases List.mem_cons.mp z with z | z
        · exact absurd z (Nat.ne_of_lt hb0)
        · have z := List.mem_singleton.mp z
          rw [hz] at z
          exact absurd z (Nat.ne_of_lt (Nat.lt_succ_of_lt hb0))
    · rcases r₂ with e | fl₂
      · exact hr₂
      cases fl₂ with
      | ret r =>
        rcases hr₂ with ⟨rfl, h', tk, L', rfl, hS', hc', hmem, hk'⟩
        repeat (any_goals (first | assumption | wp_step))
        exact h _ _ _ hS' hc' hmem hk'
      | _ => exact hr₂.elim
  | _ => exact hr.elim

theorem call_set_tupT {l : Addr} {items : Array Value} (xs : List Str) {Q : Value → Shared → Prop} (hh : A.handled = none) (hl : s.heap.IsTuple l items) (hit : StrsAre items.toList xs) (hb : xs.length + 1 < scanBound)
    (h : ∀ (h' : Heap) (tk : Nat) (L : List Str), SetS P w h' s.heap.objs.size L → L.length ≤ xs.length → (∀ z, z ∈ L ↔ z ∈ xs) → (∀ b o, s.heap.get? b = some o → h'.get? b = some o) → Q (.ref s.heap.objs.size) { s with heap := h', toks := tk }) : wpAny (model P w) A (call (.type "set") [.ref l]) Q E s := by
  have hisz : items.size = xs.length := by rw [← StrsAre.length hit, Array.length_toList]
  rcases F.called_set.mro with ⟨c, tl, hmro⟩
  have hmade := F.called_set.made; have hsub := F.called_set.sub
  refine wpAny_call (codeAny_of_tree ?_); show wpAny _ _ (callAny (.type "set") _) _ _ _
  refine wpAny_pure ⟨Code.quiet_builtin _ (by decide +kernel), codeAny_builtin F.entry_type_call ?_⟩; rw [Around.under_plain (weight_type_call_type "set" [.ref l] []) rfl]
  have h1 := F.called_set.notType; have h2 := F.called_set.canCreate; have hct := F.typeCall_set_1 (.ref l)
  repeat (any_goals (first | assumption | wp_step))
  let so : Obj := { cls := .type "set", dict := none, data := .set #[] 0 (.fresh 0 0 (!w.params.followText "set-order")) }
  refine codeAny_mono (code_set_led1 (.ref l) (E := E) (Q₁ := fun obj s₁ => obj = .ref s.heap.objs.size ∧ s₁ = { s with heap := s.heap.push so }) ⟨rfl, rfl⟩) fun r s₁ hr => ?_
  rcases r with e | fl
  · exact hr
  cases fl with
  | ret obj =>
    rcases hr with ⟨rfl, rfl⟩
    have hS : (s.heap.push so).get? s.heap.objs.size = some so := Heap.get?_push_size _ rfl
    have hT : Shared.TypeIs { s with heap := s.heap.push so } (.ref s.heap.objs.size) "set" := ⟨_, hS, rfl⟩
    have hli := F.called_set.init.lookup; have hbi := F.called_set.init.bind (.ref s.heap.objs.size)
    repeat (any_goals (first | assumption | wp_step))
    refine codeAny_mono (codeAny_call_builtin (R := wants (fun r s₂ => r = .none ∧ ∃ h' tk L, s₂ = { s with heap := h', toks := tk } ∧ SetS P w h' s.heap.objs.size L ∧ L.length ≤ xs.length ∧ (∀ z, z ∈ L ↔ z ∈ xs) ∧ (∀ b o, s.heap.get? b = some o → h'.get? b = some o)) E) F.called_set.init.plain F.entry_set_init (check_set_init_1 hT ?_)) fun r₂ s₂ hr₂ => ?_
    · rcases hl with ⟨⟨ocls, odict, odata, oslots⟩, hol, hcl, nl, hdl⟩
      simp only at hcl hdl
      subst hcl hdl
      have hol' : (s.heap.push so).get? l = some { cls := .type "tuple", dict := odict, data := .seq items nl, slots := oslots } := Heap.get?_push_of_some _ hol
      have hsls := F.sub_tuple_set; have hslf := F.sub_tuple_frozenset
      have hne : (Value.type "tuple" == Value.type "dict") = false := by decide
      have hl1 : (s.heap.push so).IsTuple l items := ⟨_, hol', rfl, nl, rfl⟩
      unfold Builtin.«set.__init__» noKeywords Builtin.Frozenset.updateFrom; generalize hPI : pyIter = PI; wp_walk; subst hPI
      refine wpAny_pyIter_tuple hl1 (wpAny_bind (wpAny_runValue ?_))
      have hlS : l < s.heap.objs.size := Heap.lt_size hol
      have hh3 : A.in1.in1.in1.handled = none := by simp [hh]
      have hz : (s.heap.push so).objs.size = s.heap.objs.size + 1 := Heap.size_push ..
      have hneI : l ≠ (s.heap.push so).objs.size := by rw [hz]; exact Nat.ne_of_lt (Nat.lt_succ_of_lt hlS)
      have hSf : s.heap.objs.size ∉ [(s.heap.push so).objs.size, l] := by
        rw [hz]; intro z
        rcases List.mem_cons.mp z with z | z
        · exact absurd z (Nat.ne_of_lt (Nat.lt_succ_self _))
        · exact absurd (List.mem_singleton.mp z) (Nat.ne_of_gt hlS)
      have hval : ∀ (i : Nat) (v : Value), items[i]? = some v → ∃ k t, xs[i]? = some k ∧ v = .str k t := fun i v hv => by
        rcases StrsAre.item hit i v (by rw [Array.getElem?_toList]; exact hv) with ⟨y, t, q1, q2⟩
        exact ⟨y, t, q2, q1⟩
      refine sets_loop ((Walks.tuple hh3 _ l hneI items).toS) s.heap.objs.size hSf xs hisz hb hval (items.size - 0) 0 _ (by omega) (Nat.zero_le _) ⟨⟨_, Heap.get?_push_size _ rfl, rfl, rfl⟩, (hl1.push _)⟩ ?hS0 ?hR
      case hS0 => exact ⟨[], setS_fresh (Heap.get?_push_of_some _ hS), Nat.le_refl 0, fun z => by simp⟩
      case hR =>
        rintro ⟨h', g2, d', tk', os'⟩ L' hm hS' hc' hmem
        have eg : g2 = s.gens := hm.gens; have ed : d' = s.drawn := hm.drawn; have eo : os' = s.os := hm.os
        subst eg ed eo
        show wpAny _ _ _ _ _ _
        refine wpAny_pure ?_; show wpAny _ _ (ret Value.none) _ _ _
        rw [hisz] at hc'
        refine wpAny_pure ⟨rfl, h', tk', L', rfl, hS', hc', hmem, fun b o e => hm.heap b o ?_ (Heap.get?_push_of_some _ (Heap.get?_push_of_some _ e))⟩
        have hb0 : b < s.heap.objs.size := Heap.lt_size e
        intro z
        rcases List.mem_cons.mp z with z | z
        · exact absurd z (Nat.ne_of_lt hb0)
        · have z := List.mem_singleton.mp z
          rw [hz] at z
          exact absurd z (Nat.ne_of_lt (Nat.lt_succ_of_lt hb0))
    · rcases r₂ with e | fl₂
      · exact hr₂
      cases fl₂ with
      | ret r =>
        rcases hr₂ with ⟨rfl, h', tk, L', rfl, hS', hc', hmem, hk'⟩
        repeat (any_goals (first | assumption | wp_step))
        exact h _ _ _ hS' hc' hmem hk'
      | _ => exact hr₂.elim
  | _ => exact hr.elim

end
end Nt

namespace Nt
open PySem PySem.Spec PyProof.Rows L2
/-! ### sorted(set of texts) -/
def kv (v : Value) : Str := match v with | .str x _ => x | _ => Str.empty
theorem strs_of : ∀ (l : List Value), (∀ v ∈ l, ∃ x tk, v = Value.str x tk) → StrsAre l (l.map kv)
  | [], _ => .nil
  | v :: l, h => by
    rcases h v List.mem_cons_self with ⟨x, tk, rfl⟩
    exact .cons x tk (strs_of l fun u hu => h u (List.mem_cons_of_mem _ hu))
section
variable {P : Program} {w : World} {A : Around} {E : Value → Shared → Prop} {s : Shared} {a : Addr}
theorem sorted_setS {L : List Str} {Q : Value → Shared → Prop} (R : SetS P w s.heap a L) (hh : A.handled = none)
    (hQ : ∀ s' p (out : Array Value) (c : Nat) (ys : List Str), (∀ b o, s.heap.get? b = some o → s'.heap.get? b = some o) → s'.gens = s.gens → s'.os = s.os → s.heap.objs.size ≤ p → s'.heap.get? p = some (seqObj "list" out c) → StrsAre out.toList ys → ys.Perm L → sortedS ys = true → Q (.ref p) s') :
    wpAny (model P w) A (call (.builtin "sorted") [.ref a]) Q E s := by
  rcases R with ⟨o, es, ep, t, ho, hex, hd, g, pm0, nd0, hb, hf, hr, hl⟩
  refine Calls.call_function_entry kind_sorted plain_sorted entry_sorted (args_sorted1 _) ?_
  unfold Builtin.«sorted»
  refine wpAny_bind (m := checkCount "sorted" 1 1 _) (wpAny_pure (wpAny_bind (collect_set (A := A.in1) hh ⟨o, ho, hex.1, hd⟩ hf hb hr hl fun s1 vs k1 hz g1 o1 pm => ?_)))
  have hvl : vs.length = es.size := by rw [pm.length_eq, List.length_map, Array.length_toList]
  have hI : StrsAre vs (vs.map kv) := strs_of vs fun v hv => by
    rcases List.mem_map.mp (pm.mem_iff.mp hv) with ⟨e, he, q⟩
    rcases g e he with ⟨x, tk, q1, _⟩
    exact ⟨x, tk, by rw [← q]; exact q1⟩
  have pk : (vs.map kv).Perm L := by
    have q := pm.map kv
    rw [List.map_map] at q
    exact q.trans pm0
  have hsl : vs.length ≤ sizeLine := by rw [hvl]; exact fits_of_scanBound hb
  refine wpAny_bind (wpAny_newList ?_ hsl)
  have hoL : (s1.heap.push (seqObj "list" vs.toArray 0)).get? s1.heap.objs.size = some (seqObj "list" vs.toArray 0) := Heap.get?_push_size _ rfl
  refine wpAny_bind (wpAny_holding (wpAny_call_entry slot_list_sort ⟨_, hoL, rfl⟩ entry_list_sort (list_sort_treeKAny strKind_oneLt hoL hI.keysOf (fun v₁ v₂ rest e => keyKind_strs (by rw [← e]; exact hI)) hsl fun st' hp hs => ⟨_, rfl, ?_⟩) (args_list_sort _)))
  rcases sorted_out_str hI hp hs with ⟨ys, y1, y2, y3⟩
  rcases sortedHeap_at (vs := vs) (out := (arrOf st').map (·.2)) hoL with ⟨c, hc⟩
  refine wpAny_pure ⟨_, rfl, hQ _ s1.heap.objs.size _ c ys (fun b u e => ?_) g1 o1 hz hc y1 (y2.trans pk) y3⟩
  have q := k1 b u e
  have hlt := Heap.lt_size q
  show (sortedHeap (s1.heap.push (seqObj "list" vs.toArray 0)) s1.heap.objs.size vs _).get? b = some u
  rw [sortedHeap_old (Nat.ne_of_lt hlt) (by rw [size_push']; exact Nat.lt_succ_of_lt hlt)]
  exact Heap.get?_push_of_some _ q
end
/-! ### sorted(set(xs)) in one -/
/-- xs a list or a tuple of texts: a new list with each once, sorted -/
def tSSet (K : PySem.W.Frag) (ta : TE) : TE := fun σ H Q => ta σ H fun x H1 => ∃ (l : Addr) (xs : List Str), x = .ref l ∧ (SqL K H1 l (xs.map V.str) ∨ SqT K H1 l (xs.map V.str)) ∧ xs.length ≤ 1000 ∧
  ∀ (ys : List Str) (p : Addr), (∀ z, z ∈ ys ↔ z ∈ xs) → ys.Nodup → sortedS ys = true → H1 p = none → Q (.ref p) (upd H1 p (.lst (ys.map V.str)))
section
variable {X : Cx} {e : Expr} {ta : TE}
theorem pe_sortedSet {p p2 q pos : Pos} (hc : X.calm = true) (hg : Gl X "sorted") (hm : X.mg "sorted" = none) (hg2 : Gl X "set") (hm2 : X.mg "set" = none) (ha : PE X e ta)
    (na : starEach [e] X.env = [(false, eval e X.env)] := by rfl) (nb : starEach [(.Call (.Name "set" p2) [e] [] q)] X.env = [(false, eval (.Call (.Name "set" p2) [e] [] q) X.env)] := by rfl) :
    PE X (.Call (.Name "sorted" p) [.Call (.Name "set" p2) [e] [] q] [] pos) (tSSet X.K ta) := by
  refine ⟨fun pins s σ H Q I h => ?_⟩
  refine Call_ (ld_blt I hg hm (show bootBuiltins "sorted" = some (.builtin "sorted") from by decide +kernel) ?_)
  refine PyProof.Rows.callWith_builtin1 (PyProof.Rows.args_cons ?_ nb) rfl rfl
  refine Call_ (ld_blt I hg2 hm2 boot_set ?_)
  refine PyProof.Rows.callWith_type1 (PyProof.Rows.args_cons (thn (ha.run pins s σ H _ I h) fun v s1 ⟨x, H1, I1, r1, q1⟩ => PyProof.Rows.args_nil ?_) na) na rfl
  rcases q1 with ⟨l, xs, rfl, hq, h1, q1⟩
  cases r1
  have fin : ∀ (its : List Value), Vals (xs.map V.str) its → ∀ (h' : Heap) (tk : Nat) (L : List Str), SetS X.prog X.w h' s1.heap.objs.size L → L.length ≤ xs.length → (∀ z, z ∈ L ↔ z ∈ xs) → (∀ b o, s1.heap.get? b = some o → h'.get? b = some o) →
      wpAny (model X.prog X.w) X.A (spliced (backTo pos (starEach [] X.env))) (fun vs s₂ => wpAny (model X.prog X.w) X.A (call (.builtin "sorted") (Value.ref s1.heap.objs.size :: vs)) (EP X pins σ Q) X.xe s₂) X.xe { s1 with heap := h', toks := tk } := fun its r h' tk L hS hle hmem hk => by
    refine PyProof.Rows.args_nil ?_
    have I2 : L2.Inv X pins σ H1 { s1 with heap := h', toks := tk } := I1.kept hk
    refine sorted_setS (s := { s1 with heap := h', toks := tk }) hS (I1.ok.hd hc) fun s' p out c ys k g o hp hg hout pm so => ?_
    have hn : H1 p = none := I2.hok.fresh hp
    have nd : L.Nodup := by
      rcases hS with ⟨_, _, _, _, _, _, _, _, _, nd, _⟩
      exact nd
    have hlen : (ys.map V.str).length ≤ sizeLine := by rw [List.length_map, pm.length_eq, sizeLine_eq]; omega
    have J := I2.call (ch := []) (g' := s'.gens) (t' := s'.toks) (d' := s'.drawn) (Un.laid k hp hn) (I2.hok.laid k hp (o := .lst (ys.map V.str)) ⟨hlen, out.toList, c, vals_of_strs hout, hg⟩) (by rw [g]; exact I2.bare) (fun _ z => nomatch z)
    have e : s' = { s1 with heap := s'.heap, gens := s'.gens, drawn := s'.drawn, toks := s'.toks } := by
      cases s'; cases o; rfl
    rw [e]
    exact ⟨.ref p, _, J, rfl, q1 ys p (fun z => pm.mem_iff.trans (hmem z)) (pm.nodup_iff.mpr nd) so hn⟩
  rcases hq with hq | hq
  · rcases I1.list hq with ⟨its, r, pl, hz⟩
    exact call_set_listT xs (I1.ok.hd hc) pl.isList (by simpa using r.strs) (by unfold scanBound; omega) fun h' tk L hS hle hmem hk => fin its r h' tk L hS hle hmem hk
  · rcases I1.tuple hq with ⟨its, r, pl, hz⟩
    exact call_set_tupT xs (I1.ok.hd hc) pl (by simpa using r.strs) (by unfold scanBound; omega) fun h' tk L hS hle hmem hk => fin its r h' tk L hS hle hmem hk
end
end Nt

namespace Nt
open PySem PySem.Spec PyProof.Rows L2 SrtO
/-! ### sorted of tuples (int, text) -/
def IsNS (h : Heap) (v : Value) (k : Int × Str) : Prop := ∃ a o t u n, v = .ref a ∧ h.get? a = some o ∧ o.cls = .type "tuple" ∧ o.data = .seq #[.int k.1 t, .str k.2 u] n
theorem IsNS.keeps {h h' : Heap} {v : Value} {k : Int × Str} (p : IsNS h v k) (q : ∀ b o, h.get? b = some o → o.cls = .type "tuple" → h'.get? b = some o) : IsNS h' v k := by
  rcases p with ⟨a, o, t, u, n, e, z1, z2, z3⟩
  exact ⟨a, o, t, u, n, e, q _ _ z1 z2, z2, z3⟩
def ltNS (p q : Int × Str) : Bool := if p.1 = q.1 then decide (p.2.cps.toList < q.2.cps.toList) else decide (p.1 < q.1)
theorem ltNS_iff {p q : Int × Str} : ltNS p q = true ↔ p.1 < q.1 ∨ (p.1 = q.1 ∧ p.2.cps.toList < q.2.cps.toList) := by
  unfold ltNS
  split
  · rename_i e
    rw [decide_eq_true_eq]
    exact ⟨fun z => .inr ⟨e, z⟩, fun z => z.elim (fun y => by omega) (·.2)⟩
  · rename_i e
    rw [decide_eq_true_eq]
    exact ⟨.inl, fun z => z.elim id fun y => absurd y.1 e⟩
theorem ltNS_no {p q : Int × Str} : ltNS p q = false ↔ ¬ (p.1 < q.1 ∨ (p.1 = q.1 ∧ p.2.cps.toList < q.2.cps.toList)) := by
  rw [← ltNS_iff]
  cases ltNS p q <;> simp
theorem lst_tr {a b c : List Nat} (h1 : ¬ b < a) (h2 : ¬ c < b) : ¬ c < a := by
  rw [List.not_lt] at h1 h2 ⊢
  exact List.le_trans h1 h2
theorem swo_NS : Swo ltNS := by
  refine ⟨fun x y h => ?_, fun x y z h1 h2 => ?_⟩
  · have a := ltNS_iff.mp h
    refine ltNS_no.mpr fun b => ?_
    rcases a with a | ⟨a1, a2⟩ <;> rcases b with b | ⟨b1, b2⟩
    · omega
    · omega
    · omega
    · exact List.lt_irrefl _ (List.lt_trans a2 b2)
  · have a := ltNS_no.mp h1
    have b := ltNS_no.mp h2
    refine ltNS_no.mpr fun c => ?_
    rcases c with c | ⟨c1, c2⟩
    · have a' : ¬ y.1 < x.1 := fun q => a (.inl q)
      have b' : ¬ z.1 < y.1 := fun q => b (.inl q)
      omega
    · have e1 : y.1 = x.1 := by
        have a' : ¬ y.1 < x.1 := fun q => a (.inl q)
        have b' : ¬ z.1 < y.1 := fun q => b (.inl q)
        omega
      exact lst_tr (fun q => a (.inr ⟨e1, q⟩)) (fun q => b (.inr ⟨by omega, q⟩)) c2
section
variable {prog : Program} {w : World} {A : Around} {E : Value → Shared → Prop} {s : Shared}
theorem ns_cmp {vs : List Value} {k : Value → Int × Str} (hp : ∀ v ∈ vs, IsNS s.heap v (k v)) : SrtO.Cmp prog w A s (tuples' true) (fun p => p.1 ∈ vs) (SrtO.lt2 fun v u => ltNS (k v) (k u)) := by
  intro p q hm hm'
  have h1 := hp _ hm
  have h2 := hp _ hm'
  show wpAny (model prog w) A (keyLt' (tuples' true) p.1 q.1) (fun r s' => s' = s ∧ r = ltNS (k p.1) (k q.1)) (fun _ _ => False) s
  unfold ltNS
  generalize k p.1 = K1 at h1 ⊢
  generalize k q.1 = K2 at h2 ⊢
  rcases K1 with ⟨x, y⟩
  rcases K2 with ⟨x', y'⟩
  rcases h1 with ⟨a, o, t, u, n, e, ho, hc, hd⟩
  rcases h2 with ⟨a', o', t', u', n', e', ho', hc', hd'⟩
  dsimp only at hd hd' ⊢
  rw [e, e']
  refine PySem.W.kat_lt ho hd ho' hd' ?_
  show PySem.W.KatLex prog w A true (decide (2 < 2)) _ [(.int x t, .int x' t'), (.str y u, .str y' u')] 0 s
  refine PySem.W.kat_cons (SeqAt.EqAt.int_int x t x' t' prog w _ _ (PySem.W.kat_go (fun e1 => ?_) (fun e1 => ?_)))
  · have ex : x = x' := by simpa using e1
    rw [if_pos ex]
    refine PySem.W.kat_yes (PySem.W.kat_cons (SeqAt.EqAt.str_str y u y' u' prog w _ _ (PySem.W.kat_go (fun e2 => ?_) (fun e2 => ?_))))
    · have ey : y = y' := by simpa using e2
      subst ey
      refine PySem.W.kat_yes (PySem.W.kat_nil ⟨rfl, ?_⟩)
      exact (decide_eq_false (List.lt_irrefl _)).symm
    · refine PySem.W.kat_no (PySem.W.kat_one _ _ (PyProof.Rows.lt_str ?_))
      exact ⟨rfl, rfl⟩
  · have ex : ¬ x = x' := by simpa using e1
    rw [if_neg ex]
    exact PySem.W.kat_no (oneLt_int ⟨rfl, rfl⟩)
theorem ns_firsts {h : Heap} {k : Value → Int × Str} : ∀ {vs : List Value}, (∀ v ∈ vs, IsNS h v (k v)) → ∃ fs : List Value, PySem.W.KatTups h vs fs ∧ fs.length = vs.length ∧ ∀ f ∈ fs, ∃ x t, f = Value.int x t
  | [], _ => ⟨[], PySem.W.KatTups.nil, rfl, fun _ z => nomatch z⟩
  | v :: vs, hp => by
    rcases ns_firsts (vs := vs) fun v' hm => hp v' (List.mem_cons_of_mem _ hm) with ⟨fs, q1, q2, q3⟩
    rcases hp v List.mem_cons_self with ⟨a, o, t, u, n, e, z1, z2, z3⟩
    generalize k v = kk at z3
    subst e
    refine ⟨.int kk.1 t :: fs, PySem.W.KatTups.cons z1 z2 z3 rfl q1, congrArg (· + 1) q2, fun f hm => ?_⟩
    rcases List.mem_cons.mp hm with z | z
    · exact ⟨_, _, z⟩
    · exact q3 f z
theorem ns_sortable {a : Addr} {vs : List Value} {k : Value → Int × Str} (h0 : 0 < vs.length) (hp : ∀ v ∈ vs, IsNS s.heap v (k v)) (ha : ∀ o, s.heap.get? a = some o → o.cls ≠ .type "tuple") : SrtO.SortableO prog w A s a vs fun v u => ltNS (k v) (k u) := by
  intro h' keep
  have hp' : ∀ v ∈ vs, IsNS h' v (k v) := fun v hm => (hp v hm).keeps fun b o e c => keep b o (fun z => ha o (z ▸ e) c) e
  rcases ns_firsts hp' with ⟨fs, q1, q2, q3⟩
  refine ⟨tuples' true, fun Q E hq => ?_, ns_cmp hp'⟩
  refine PySem.W.kat_kind (T := .type "int") q1 (by omega) (fun f hm => ?_) (by rfl) ?_
  · rcases q3 f hm with ⟨x, t, rfl⟩
    exact PySem.W.Looks.now
  · rw [show (Value.type "int" != Value.type "tuple") = true from by decide]
    exact hq
theorem sorted_NS {l : Addr} {vs : List Value} {k : Value → Int × Str} {Q : Value → Shared → Prop} (hl : s.heap.IsList l vs.toArray) (hz : vs.length ≤ sizeLine) (hp : ∀ v ∈ vs, IsNS s.heap v (k v))
    (h : ∀ (h' : Heap) (d : Addr) (out : List Value), SrtO.Srtd (fun v u => ltNS (k v) (k u)) out → out.Perm vs → (∀ b o, s.heap.get? b = some o → h'.get? b = some o) → s.heap.objs.size ≤ d → (∃ n, h'.get? d = some (seqObj "list" out.toArray n)) → Q (.ref d) { s with heap := h' }) :
    wpAny (model prog w) A (call (.builtin "sorted") [.ref l]) Q E s := by
  have O : Swo fun v u => ltNS (k v) (k u) := ⟨fun x y => swo_NS.asym (k x) (k y), fun x y z => swo_NS.tr (k x) (k y) (k z)⟩
  refine sorted_ord O hl hz (fun h2 h₁ a ha kk => ns_sortable (s := { s with heap := h₁ }) (by omega) (fun v hm => (hp v hm).keeps fun b o e _ => (kk b o e).2) fun o e => ?_) fun out hs hb => h _ _ out hs hb.perm (fun b o e => sortedAll_old e) (Nat.le_succ _) (sortedAll_at s.heap vs out.toArray)
  have e' := e.symm.trans ha
  cases e'
  exact fun c => absurd (Value.type.inj c) (by decide)
end
/-- sorted(xs), xs a list of tuples (int, text); k tells each one's -/
def rSortedNS (K : PySem.W.Frag) : List V → Hp → VK → Prop := fun vs H Q => ∃ (a : Addr) (xs : List V) (k : V → Int × Str), vs = [V.ref a] ∧ SqL K H a xs ∧ (∀ x ∈ xs, ∃ t, x = V.ref t ∧ H t = some (.tup [.int (k x).1, .str (k x).2])) ∧
  ∀ ys p, SrtO.Srtd (fun x y => ltNS (k x) (k y)) ys → ys.Perm xs → H p = none → Q (.ref p) (upd H p (.lst ys))
section
variable {X : Cx}
theorem cr_sortedNS : CallR X (.builtin "sorted") (rSortedNS X.K) := by
  intro pins s σ H vs us Q I r h
  rcases h with ⟨a, xs, k, rfl, hs, hx, q⟩
  rcases I.list hs with ⟨its, rv, hl, hz⟩
  rcases vals1 r with ⟨u, rfl, ru⟩
  obtain rfl : u = Value.ref a := ru
  rcases refs_back rv fun x m => (hx x m).imp fun t z => z.1 with ⟨e1, e2⟩
  refine sorted_NS (k := fun u => k (backV u)) hl.isList (by rw [← rv.length]; exact hz) (fun v hv => ?_) fun h' d out h1 h2 kp hd hn => ?_
  · rcases e2 v hv with ⟨t, rfl⟩
    have hm : V.ref t ∈ xs := by rw [e1]; exact List.mem_map.mpr ⟨_, hv, rfl⟩
    rcases hx _ hm with ⟨t', e, ht⟩
    cases e
    rcases I.hok _ _ ht with ⟨_, its2, r2, o, ho, hc, n, hd⟩
    rcases vals2 r2 with ⟨u1, u2, rfl, ri, rj⟩
    rcases ri with ⟨t1, rfl⟩
    rcases rj with ⟨t2, rfl⟩
    exact ⟨t, o, t1, t2, n, rfl, ho, hc, hd⟩
  · have h3 : ∀ u ∈ out, ∃ a, u = Value.ref a := fun u hu => e2 u (h2.mem_iff.mp hu)
    rcases hn with ⟨n, hn⟩
    have hb : (out.map backV).Perm xs := by rw [e1]; exact h2.map backV
    refine ⟨.ref d, upd H d (.lst (out.map backV)), I.laid (t' := s.toks) kp hd ⟨by rw [hb.length_eq]; exact hz, out, n, vals_back h3, hn⟩, rfl, q _ d (SrtO.srtd_map h1) hb (I.hok.fresh hd)⟩
end
end Nt

namespace Nt
open PySem PySem.Spec PyProof.Rows L2 SrtO
/-! ### sorted(xs, key=f), f a def that gives an int -/
section
variable {P : Program} {w : World} {A : Around} {E : Value → Shared → Prop} {s : Shared} {a kS : Addr} {vs : List Value} {R : PySem.Fin → Shared → Prop}
theorem key_tail {st : SortSt} {keys : Array Value} {e e1 : Nat} (ck : s.heap.get? kS = some (seqObj "list" keys e)) (ca : s.heap.get? a = some (seqObj "list" #[] e1)) (hka : kS ≠ a) (hz : (arrOf st).size ≤ 100000) (hk : keys.size ≤ 100000) (hfl : failedOf st = none)
    (h : ∀ h' c, (∀ b o, b ≠ kS → b ≠ a → s.heap.get? b = some o → h'.get? b = some o) → h'.get? a = some (seqObj "list" ((arrOf st).map (·.2)) c) → R (.done (.ret .none)) { s with heap := h' }) : wpAny (model P w) A (ksk_tail a false e1 (.ref kS) st) R E s := by
  have b1 := Heap.SameBut.update s.heap kS (Obj.mapSeq fun _ => (#[] : Array Value))
  have ca1 : (s.heap.update kS (Obj.mapSeq fun _ => (#[] : Array Value))).get? a = some (seqObj "list" #[] e1) := (b1.2 a hka.symm).trans ca
  have b2 := Heap.SameBut.update (s.heap.update kS (Obj.mapSeq fun _ => (#[] : Array Value))) a (Obj.mapSeq fun _ => (arrOf st).map (·.2))
  obtain ⟨c2, hc2⟩ : ∃ c2, ((s.heap.update kS (Obj.mapSeq fun _ => (#[] : Array Value))).update a (Obj.mapSeq fun _ => (arrOf st).map (·.2))).get? a = some (seqObj "list" ((arrOf st).map (·.2)) c2) := ⟨_, get?_update_seq ca1 fun _ => (arrOf st).map (·.2)⟩
  unfold ksk_tail
  try dsimp only
  refine wpAny_bind (listUpdate_at ck rfl ?_ (by rw [sizeLine_eq]; omega) (Nat.zero_le _))
  refine wpAny_bind (wpAny_letGo (wpAny_bind (seqEpoch_at ca1 rfl ?_)))
  refine wpAny_bind (listUpdate_at ca1 rfl ?_ (Nat.zero_le _) (by simp only [Bool.false_eq_true, if_false, Array.size_map]; rw [sizeLine_eq]; omega))
  rw [hfl]
  simp only [bne_self_eq_false, Bool.false_eq_true, if_false]
  exact wpAny_pure (h _ c2 (fun b o n1 n2 q => (b2.2 b n2).trans ((b1.2 b n1).trans q)) hc2)
/-- the pairs of keys and items, as they come out -/
def Outs (keys : List Value) (vs : List Value) (ps : List Keyed) : Prop := Srtd (lt2 ltIv) ps ∧ Stb (lt2 ltIv) ps (keys.zip vs)
theorem key_end {keys : Array Value} {kz : List Int} {e e1 : Nat} (ck : s.heap.get? kS = some (seqObj "list" keys e)) (ca : s.heap.get? a = some (seqObj "list" #[] e1)) (hka : kS ≠ a) (hI : IntsAre keys.toList kz) (hlen : kz.length = vs.length) (hz : vs.length ≤ 100000)
    (h : ∀ h' c ps, (∀ b o, b ≠ kS → b ≠ a → s.heap.get? b = some o → h'.get? b = some o) → h'.get? a = some (seqObj "list" ((ps : List Keyed).map (·.2)).toArray c) → Outs keys.toList vs ps → R (.done (.ret .none)) { s with heap := h' }) : wpAny (model P w) A (ksk_end a false vs.toArray e1 (.ref kS) keys) R E s := by
  have hks : keys.size = vs.length := by rw [← hlen, ← hI.length, Array.length_toList]
  have ezip : (keys.zip vs.toArray).toList = keys.toList.zip vs := ksk_zip keys vs
  have hzs : (keys.zip vs.toArray).size = vs.length := by rw [Array.size_zip, hks, List.size_toArray, Nat.min_self]
  have fin : ∀ st : SortSt, Srtd (lt2 ltIv) (arrOf st).toList → Stb (lt2 ltIv) (arrOf st).toList (keys.zip vs.toArray).toList → failedOf st = none → wpAny (model P w) A (ksk_tail a false e1 (.ref kS) st) R E s := fun st h1 h2 h3 => by
    refine key_tail ck ca hka ?_ (by rw [hks]; exact hz) h3 fun h' c k q => h h' c (arrOf st).toList k ?_ ⟨h1, ezip ▸ h2⟩
    · have hl := h2.len
      rw [Array.length_toList, Array.length_toList, hzs] at hl
      rw [hl]; exact hz
    · rw [q, ← Array.toList_map, Array.toArray_toList]
  unfold ksk_end
  try dsimp only
  rw [if_neg (show ¬ (false = true) by decide), if_neg (show ¬ (false = true) by decide)]
  by_cases h2 : vs.toArray.size < 2
  · rw [if_pos h2, if_pos h2]
    refine wpAny_bind (wpAny_pure ?_)
    rw [StateT.run_pure]
    refine wpAny_bind (wpAny_pure ?_)
    try dsimp only
    refine fin (SortSt.mk' general' (keys.zip vs.toArray) #[] 7 none) ?_ (Stb.refl _) rfl
    show Srtd (lt2 ltIv) (keys.zip vs.toArray).toList
    rw [List.size_toArray] at h2
    have hl : (keys.zip vs.toArray).toList.length < 2 := by rw [Array.length_toList, hzs]; exact h2
    match (keys.zip vs.toArray).toList, hl with
    | [], _ => exact List.Pairwise.nil
    | [v], _ => exact List.pairwise_singleton _ _
    | _ :: _ :: l, hl => exact absurd hl (by simp)
  · rw [if_neg h2, if_neg h2]
    rw [List.size_toArray] at h2
    rw [ksk_kind hI (by rw [hks]; omega)]
    refine wpAny_bind (wpAny_pure ?_)
    have hall : AllL (fun p : Keyed => p.1 ∈ keys.toList) (keys.zip vs.toArray).toList := fun p hm => by
      rw [ezip] at hm
      exact (List.of_mem_zip hm).1
    refine wpAny_bind (wpAny_mono (wpS_sortO (st0 := SortSt.mk' oneType' (keys.zip vs.toArray) #[] 7 none) (Q := fun _ st' => Srtd (lt2 ltIv) (arrOf st').toList ∧ Stb (lt2 ltIv) (arrOf st').toList (keys.zip vs.toArray).toList ∧ failedOf st' = none) (swo2 swo_int) (int_cmp hI) rfl hall rfl rfl fun st' a1 a2 a3 => ⟨a1, a2, a3⟩) ?_ fun _ _ e => e)
    rintro ⟨⟨⟩, st'⟩ s' ⟨rfl, q1, q2, q3⟩
    try dsimp only
    exact fin st' q1 q2 q3
end
end Nt

namespace Nt
open PySem PySem.Spec PyProof.Rows L2 SrtO
section
variable {X : Cx} {pins : List (Addr × Obj)} {σ : L2.St} {H : Hp} {A : Around} {E : Value → Shared → Prop}
/-- an untracked object of ours is tracked from now on -/
theorem inv_track {s : Shared} {a : Addr} {o : HO} (I : L2.Inv X pins σ H s) (ok : FpOk X pins H a) (new : ObjOk X.prog X.w (upd H a o) s.heap a o) : L2.Inv X pins σ (upd H a o) s := by
  have hn := ok.1
  have ne : ∀ b u, H b = some u → b ≠ a := fun b u e => ne_of_none e hn
  have hok : HOk X.prog X.w (upd H a o) s.heap := fun b u e => by
    by_cases hb : b = a
    · subst hb; rw [upd_same] at e; cases e; exact new
    · rw [upd_ne hb] at e
      exact (I.hok b u e).stay (fun c v _ q => q) (fun c q => by rw [upd_ne (ne_of_none q hn)]; exact q) fun c xs q => by rw [upd_ne (ne_of_none q hn)]; exact q
  refine I.call (g' := s.gens) (t' := s.toks) (d' := s.drawn) (ch := [a]) ⟨fun b u q _ _ _ => q, fun b u q _ _ _ => ⟨u.slots, q⟩, fun b u q n hx => ?_, fun b u q _ => ⟨u, q⟩, fun b xs q => ?_, fun b v u q => ?_, fun b ps q => ?_⟩ hok I.bare fun b hb => ?_
  · rw [upd_ne (fun z => hx (List.mem_singleton.mpr z))]; exact n
  · rw [upd_ne (ne b _ q)]; exact q
  · rw [upd_ne (ne b _ q)]; exact q
  · exact ⟨#[], by rw [upd_ne (ne b _ q), q]; simp⟩
  · rw [List.mem_singleton.mp hb]
    exact ⟨ok.2.2.2.1, ok.2.1, ok.2.2.2.2.1, ok.2.2.2.2.2⟩
def Turn (X : Cx) (pins : List (Addr × Obj)) (σ : L2.St) (H : Hp) (A : Around) (f v : Value) (k : Int) : Prop := ∀ (H' : Hp) (s' : Shared), Ex H H' → L2.Inv X pins σ H' s' →
  wpAny (model X.prog X.w) A (call f [v]) (fun r s'' => ∃ H'' t, r = .int k t ∧ Ex H' H'' ∧ L2.Inv X pins σ H'' s'' ∧ ∀ b o, s'.heap.get? b = some o → FpOk X pins H' b → b ∉ frs X.stack → s''.heap.get? b = some o ∧ H'' b = none) (fun _ _ => False) s'
theorem fp_none {H' : Hp} {b : Addr} (o : FpOk X pins H b) (n : H' b = none) : FpOk X pins H' b := ⟨n, o.2⟩
theorem key_rest {R : PySem.Fin → Shared → Prop} {f : Value} {a kS : Addr} {kz : List Int} {vs : List Value} {e1 : Nat} {s : Shared} (I : L2.Inv X pins σ H s) (ra : FpOk X pins H a) (rk : FpOk X pins H kS) (fa : a ∉ frs X.stack) (fk : kS ∉ frs X.stack) (hka : kS ≠ a)
    (ca : s.heap.get? a = some (seqObj "list" #[] e1)) (ck : s.heap.get? kS = some (seqObj "list" #[] 0)) (hlen : kz.length = vs.length) (hz : vs.length ≤ 1000) (turn : ∀ (i : Nat) v k, vs[i]? = some v → kz[i]? = some k → Turn X pins σ H A f v k)
    (h : ∀ H' s' c keys ps, Ex H H' → L2.Inv X pins σ H' s' → FpOk X pins H' a → s'.heap.get? a = some (seqObj "list" ((ps : List Keyed).map (·.2)).toArray c) → IntsAre keys kz → Outs keys vs ps → R (.done (.ret .none)) s') :
    wpAny (model X.prog X.w) A (ksk_rest a f false vs.toArray e1 (.ref kS)) R E s := by
  unfold ksk_rest
  refine wpAny_bind (wpAny_rule ?_)
  first
    | rw [List.forIn_toArray]
    | (rw [← Array.forIn_toList]; simp only [List.toList_toArray])
    | rw [← Array.forIn_toList]
  refine wpAny_bind (ksk_fold (fun i s' => ∃ H' kA e, Ex H H' ∧ L2.Inv X pins σ H' s' ∧ H' a = none ∧ H' kS = none ∧ s'.heap.get? a = some (seqObj "list" #[] e1) ∧ s'.heap.get? kS = some (seqObj "list" kA e) ∧ IntsAre kA.toList (kz.take i)) vs 0 s ⟨H, #[], 0, Ex.rfl', I, ra.1, rk.1, ca, ck, by simpa using IntsAre.nil⟩ ?step ?done)
  case step =>
    rintro j x s' hx ⟨H', kA, e, ex, I', na, nk, ca', ck', hk⟩
    simp only [Nat.zero_add] at hk ⊢
    have hj : j < vs.length := (List.getElem?_eq_some_iff.mp hx).1
    obtain ⟨k, hkj⟩ : ∃ k, kz[j]? = some k := ⟨_, List.getElem?_eq_getElem (by omega)⟩
    have hsz : kA.size ≤ vs.length := by
      have h1 := hk.length
      rw [Array.length_toList, List.length_take] at h1
      omega
    refine wpAny_bind (wpAny_attempt (wpAny_mono (turn j x k hx hkj H' s' ex I') (fun v s'' he => ?_) fun _ _ hF => hF.elim))
    rcases he with ⟨H2, t2, rfl, ex2, I2, kp⟩
    try dsimp only
    obtain ⟨ca2, na2⟩ := kp a _ ca' (fp_none ra na) fa
    obtain ⟨ck2, nk2⟩ := kp kS _ ck' (fp_none rk nk) fk
    have b1 := Heap.SameBut.update s''.heap kS (Obj.mapSeq (·.push (.int k t2)))
    obtain ⟨c2, hc2⟩ : ∃ c2, (s''.heap.update kS (Obj.mapSeq (·.push (.int k t2)))).get? kS = some (seqObj "list" (kA.push (.int k t2)) c2) := ⟨_, get?_update_seq ck2 (·.push (.int k t2))⟩
    have ek : kz.take (j + 1) = kz.take j ++ [k] := by rw [List.take_add_one, hkj]; simp
    have ea : (kA.push (Value.int k t2)).toList = kA.toList ++ [Value.int k t2] := by simp
    refine wpAny_bind (listUpdate_at ck2 rfl ?_ (by rw [sizeLine_eq]; omega) (Nat.le_trans (Nat.le_of_eq (Array.size_push ..)) (by rw [sizeLine_eq]; omega)))
    have I3 := I2.turnedL (t' := s''.toks) (ch := [kS]) (h' := s''.heap.update kS (Obj.mapSeq (·.push (.int k t2)))) (fun b o hb q => (b1.2 b (fun z => hb (List.mem_singleton.mpr z))).trans q) fun b hb => by rw [List.mem_singleton.mp hb]; exact fp_none rk nk2
    exact wpAny_pure ⟨rfl, H2, kA.push (.int k t2), c2, ex.tr ex2, I3, na2, nk2, (b1.2 a hka.symm).trans ca2, hc2, by rw [ea, ek]; exact ksk_snoc hk⟩
  case done =>
    rintro s' ⟨H', kA, e, ex, I', na, nk, ca', ck', hk⟩
    have hk' : IntsAre kA.toList kz := by
      have e3 : kz.take (0 + vs.length) = kz := List.take_of_length_le (by omega)
      rw [e3] at hk
      exact hk
    try dsimp only
    refine wpAny_bind (listItems_at ck' rfl ?_)
    refine key_end ck' ca' hka hk' hlen (by omega) fun h' c ps kp hc ho => ?_
    have I3 := I'.turnedL (t' := s'.toks) (ch := [kS, a]) (h' := h') (fun b o hb q => kp b o (fun z => hb (z ▸ List.mem_cons_self)) (fun z => hb (z ▸ List.mem_cons_of_mem _ List.mem_cons_self)) q) fun b hb => by
      rcases List.mem_cons.mp hb with z | z
      · rw [z]; exact fp_none rk nk
      · rw [List.mem_singleton.mp z]; exact fp_none ra na
    exact h H' _ c kA.toList ps ex I3 (fp_none ra na) hc hk' ho
theorem fr_new {s : Shared} {b : Addr} (I : L2.Inv X pins σ H s) (hb : s.heap.objs.size ≤ b) : b ∉ frs X.stack := fun hb' => by
  rcases List.mem_cons.mp (I.stkSub b hb') with e | e
  · exact absurd e (Nat.ne_of_gt (Nat.lt_of_lt_of_le I.lt hb))
  · exact I.nofs hb e
theorem key_tree {R : PySem.Fin → Shared → Prop} {f : Value} {a : Addr} {kz : List Int} {vs : List Value} {n : Nat} {s : Shared} (I : L2.Inv X pins σ H s) (ra : FpOk X pins H a) (fa : a ∉ frs X.stack) (ho : s.heap.get? a = some (seqObj "list" vs.toArray n)) (hlen : kz.length = vs.length) (hz : vs.length ≤ 1000)
    (turn : ∀ (i : Nat) v k, vs[i]? = some v → kz[i]? = some k → Turn X pins σ H A f v k)
    (h : ∀ H' s' c keys ps, Ex H H' → L2.Inv X pins σ H' s' → FpOk X pins H' a → s'.heap.get? a = some (seqObj "list" ((ps : List Keyed).map (·.2)).toArray c) → IntsAre keys kz → Outs keys vs ps → R (.done (.ret .none)) s') :
    wpAny (model X.prog X.w) A (ksk_tree a f false) R E s := by
  have hla : a < s.heap.objs.size := Heap.lt_size ho
  have b1 := Heap.SameBut.update s.heap a (Obj.mapSeq fun _ => (#[] : Array Value))
  obtain ⟨e1, ho1⟩ : ∃ e1, (s.heap.update a (Obj.mapSeq fun _ => (#[] : Array Value))).get? a = some (seqObj "list" #[] e1) := ⟨_, get?_update_seq ho fun _ => #[]⟩
  have hsz : ((s.heap.update a (Obj.mapSeq fun _ => (#[] : Array Value))).push (seqObj "tuple" vs.toArray 0)).objs.size = s.heap.objs.size + 1 := by rw [size_push', Heap.size_update]
  have I1 := I.turnedL (t' := s.toks) (ch := [a]) (h' := s.heap.update a (Obj.mapSeq fun _ => (#[] : Array Value))) (fun b o hb q => (b1.2 b (fun z => hb (List.mem_singleton.mpr z))).trans q) fun b hb => by rw [List.mem_singleton.mp hb]; exact ra
  have I2 := I1.kept (t' := s.toks) (h' := ((s.heap.update a (Obj.mapSeq fun _ => (#[] : Array Value))).push (seqObj "tuple" vs.toArray 0)).push (seqObj "list" #[] 0)) fun b o q => Heap.get?_push_of_some _ (Heap.get?_push_of_some _ q)
  have ge : s.heap.objs.size ≤ ((s.heap.update a (Obj.mapSeq fun _ => (#[] : Array Value))).push (seqObj "tuple" vs.toArray 0)).objs.size := by rw [hsz]; exact Nat.le_succ _
  unfold ksk_tree
  refine wpAny_bind (listItems_at ho rfl (wpAny_bind (listUpdate_at ho rfl ?_ (by rw [List.size_toArray, sizeLine_eq]; omega) (Nat.zero_le _))))
  refine wpAny_bind (seqEpoch_at ho1 rfl (wpAny_bind (wpAny_newTuple ?_ (by show vs.length ≤ _; rw [sizeLine_eq]; omega))))
  refine wpAny_bind (wpAny_newList ?_ (Nat.zero_le _))
  refine wpAny_holding ?_
  exact key_rest (s := { s with heap := ((s.heap.update a (Obj.mapSeq fun _ => (#[] : Array Value))).push (seqObj "tuple" vs.toArray 0)).push (seqObj "list" #[] 0) }) (kS := ((s.heap.update a (Obj.mapSeq fun _ => (#[] : Array Value))).push (seqObj "tuple" vs.toArray 0)).objs.size) I2 ra (I.fpOk ge (I.hok.fresh ge)) fa (fr_new I ge) (by rw [hsz]; exact Nat.ne_of_gt (Nat.lt_succ_of_lt hla)) (Heap.get?_push_of_some _ (Heap.get?_push_of_some _ ho1)) (Heap.get?_push_size _ rfl) hlen hz turn h
end
end Nt

namespace Nt
open PySem PySem.Spec PyProof.Rows L2 SrtO
abbrev lt3 (a b : Int × Str) : Bool := decide (a.1 < b.1)
theorem swo3 : Swo lt3 := by
  refine ⟨fun x y h => ?_, fun x y z h1 h2 => ?_⟩
  · have a := of_decide_eq_true h
    exact decide_eq_false (by omega)
  · have a := of_decide_eq_false h1
    have b := of_decide_eq_false h2
    exact decide_eq_false (by omega)
/-- xs, sorted by kf, as pairs (key, text) -/
def KeyOut (kf : Str → Int) (xs : List Str) (qs : List (Int × Str)) : Prop := Srtd lt3 qs ∧ Stb lt3 qs (xs.map fun x => (kf x, x))
def psi (p : Keyed) : Int × Str := (iv p.1, kv p.2)
theorem zip_psi {kf : Str → Int} : ∀ (xs : List Str) {keys vs : List Value}, IntsAre keys (xs.map kf) → StrsAre vs xs → (keys.zip vs).map psi = xs.map fun x => (kf x, x)
  | [], _, _, hk, hv => by
    cases hk; cases hv; rfl
  | x :: xs, _, _, hk, hv => by
    rw [List.map_cons] at hk
    cases hk with
    | cons n t r =>
      cases hv with
      | cons y u q => exact congrArg ((kf x, x) :: ·) (zip_psi xs r q)
theorem outs_key {kf : Str → Int} {keys vs : List Value} {xs : List Str} {ps : List Keyed} (hk : IntsAre keys (xs.map kf)) (hv : StrsAre vs xs) (h : Outs keys vs ps) : KeyOut kf xs (ps.map psi) := by
  refine ⟨srtd_map h.1, ?_⟩
  rw [← zip_psi xs hk hv]
  exact Stb.map swo3 psi h.2
theorem outs_vals {keys vs : List Value} {xs : List Str} {ps : List Keyed} (hv : StrsAre vs xs) (h : Outs keys vs ps) : Vals ((ps.map fun p => kv p.2).map V.str) (ps.map (·.2)) := by
  have hm : ∀ v ∈ ps.map (·.2), ∃ x tk, v = Value.str x tk := fun v hm => by
    obtain ⟨p, hp, rfl⟩ := List.mem_map.mp hm
    have hz := (List.of_mem_zip (show (p.1, p.2) ∈ keys.zip vs from h.2.perm.mem_iff.mp hp)).2
    exact hv.all _ hz
  have q := vals_of_strs (strs_of _ hm)
  have e : (ps.map (·.2)).map kv = ps.map fun p => kv p.2 := by rw [List.map_map]; rfl
  rw [e] at q
  exact q
section
variable {X : Cx} {pins : List (Addr × Obj)} {σ : L2.St} {H : Hp}
theorem turn_of {A : Around} {k : Nat} {g : Addr} {fd : FuncData} {pn : Str} {Rg : List D → (En → Prop) → Prop} (F : FnOk X.prog X.w X.K X.mg X.base CX0 k g fd [pn] (SpE Rg)) (hr : Room k A) (hA : A.frames = some X.stack) (hb : Binds X.K fd [pn] []) {z : Str} {t : Tok} {kx : Int}
    (hRg : ∀ P : En → Prop, P (.dat (.int kx)) → Rg [.str z.cps.toList] P) : Turn X pins σ H A (.ref g) (.str z t) kx := by
  intro H' s' ex I'
  have e0 := I'.env0
  have e1 : Env0 X.prog X.w X.K X.mg X.base A X.stack s' H' := ⟨hA, e0.mod, e0.bs, e0.bsz, e0.funs, e0.frf, e0.hok, e0.bare⟩
  have rv : RelV (tx z.cps.toList) (Value.str z t) := by rw [← tx_eq]; exact ⟨t, rfl⟩
  refine wpAny_call (codeAny_mono (F.run A X.stack s' H' ⟨[.str z t], []⟩ [.str z t] [tx z.cps.toList] (fun v H2 => v = .int kx ∧ Ex H' H2) (fun _ _ _ => False) hr e1 (hb s' [.str z t] I'.kIn rfl) (.cons rv .nil) ⟨⟨H', H', Ex.rfl'⟩, [.str z.cps.toList], fun e => e = .dat (.int kx), rfl, .cons (.str _) .nil, hRg _ rfl, fun v e W' g r p => by
    subst p
    cases r
    exact ⟨rfl, g.h⟩⟩) fun rr s2 hrr => ?_)
  cases rr with
  | error e => exact hrr
  | ok fl =>
    cases fl with
    | next => exact False.elim hrr
    | brk => exact False.elim hrr
    | cont => exact False.elim hrr
    | ret v =>
      obtain ⟨v', H2, os, bare, un, hok, rv', ev, ex2⟩ := (show CE X.stack X.prog X.w H' s' _ v s2 from hrr)
      subst ev
      obtain ⟨t2, rfl⟩ := rv'
      exact ⟨H2, t2, rfl, ex2, I'.call' os un hok bare (fun b y => absurd y List.not_mem_nil), fun b o hb fp fr => ⟨un.keep _ _ hb fp.1 fr List.not_mem_nil, un.free _ _ hb fp.1 List.not_mem_nil⟩⟩
theorem key_sorted {kf : Str → Int} {g l : Addr} {xs : List Str} {its : List Value} {s : Shared} {Q : VK} (I : L2.Inv X pins σ H s) (hl : s.heap.IsList l its.toArray) (hv : Vals (xs.map V.str) its) (hz : xs.length ≤ 1000)
    (turn : ∀ (i : Nat) v k, its[i]? = some v → (xs.map kf)[i]? = some k → Turn X pins σ H X.A.in1.in1 (.ref g) v k)
    (q : ∀ H' qs p, Ex H H' → KeyOut kf xs qs → H' p = none → Q (.ref p) (upd H' p (.lst (qs.map fun y => V.str y.2)))) :
    wpAny (model X.prog X.w) X.A (call (.builtin "sorted") [.ref l] [(Str.ofString "key", .ref g)]) (EP X pins σ Q) X.xe s := by
  have hs : StrsAre its xs := hv.strs
  have hlen : its.length = xs.length := hs.length
  refine call_function_entry_kw kind_sorted plain_sorted entry_sorted (ksk_s1 _ _) ?_
  unfold Builtin.«sorted»
  refine wpAny_bind (m := checkCount "sorted" 1 1 _) (wpAny_pure ?_)
  refine wpAny_bind (collect_list hl ?_ (by rw [sizeLine_eq]; omega))
  refine wpAny_bind (wpAny_newList ?_ (by rw [sizeLine_eq]; omega))
  have hsz : ((s.heap.push (seqObj "list" #[] 0)).update s.heap.objs.size (Obj.mapSeq (· ++ its.toArray))).objs.size = s.heap.objs.size + 1 := by rw [Heap.size_update, size_push']
  have hoL : (((s.heap.push (seqObj "list" #[] 0)).update s.heap.objs.size (Obj.mapSeq (· ++ its.toArray))).push (seqObj "list" its.toArray 0)).get? (s.heap.objs.size + 1) = some (seqObj "list" its.toArray 0) := by rw [← hsz]; exact Heap.get?_push_size _ rfl
  have keep : ∀ b o, s.heap.get? b = some o → (((s.heap.push (seqObj "list" #[] 0)).update s.heap.objs.size (Obj.mapSeq (· ++ its.toArray))).push (seqObj "list" its.toArray 0)).get? b = some o := fun b o e => by
    refine Heap.get?_push_of_some _ ?_
    rw [Heap.get?_update_ne _ _ _ _ (Nat.ne_of_lt (Heap.lt_size e))]
    exact Heap.get?_push_of_some _ e
  show wpAny _ _ _ _ _ { s with heap := ((s.heap.push (seqObj "list" #[] 0)).update s.heap.objs.size (Obj.mapSeq (· ++ its.toArray))).push (seqObj "list" its.toArray 0) }
  rw [hsz]
  refine wpAny_bind (wpAny_holding (wpAny_call_entry_kw slot_list_sort ⟨_, hoL, rfl⟩ entry_list_sort ?body (ksk_l1 _ _)))
  case body =>
    rw [ksk_t1]
    have I1 := I.kept (t' := s.toks) keep
    have ge : s.heap.objs.size ≤ s.heap.objs.size + 1 := Nat.le_succ _
    refine key_tree (s := { s with heap := ((s.heap.push (seqObj "list" #[] 0)).update s.heap.objs.size (Obj.mapSeq (· ++ its.toArray))).push (seqObj "list" its.toArray 0) }) (kz := xs.map kf) I1 (I.fpOk ge (I.hok.fresh ge)) (fr_new I ge) hoL (by rw [List.length_map, hlen]) (by omega) turn fun H' s' c keys ps ex I' fp hc hk ho => ⟨_, rfl, ?_⟩
    have hpl : ps.length = xs.length := by
      have h1 := ho.2.len
      rw [List.length_zip, hk.length, List.length_map, hlen, Nat.min_self] at h1
      exact h1
    have I2 := inv_track (o := .lst ((ps.map fun p => kv p.2).map V.str)) I' fp ⟨by rw [List.length_map, List.length_map, hpl, sizeLine_eq]; omega, ps.map (·.2), c, outs_vals hs ho, hc⟩
    refine wpAny_pure ⟨_, rfl, .ref _, _, I2, rfl, ?_⟩
    have e : ((ps.map fun p => kv p.2).map V.str) = (ps.map psi).map fun y => V.str y.2 := by rw [List.map_map, List.map_map]; rfl
    rw [e]
    exact q H' _ _ ex (outs_key hk hs ho) fp.1
end
end Nt

namespace Nt
open PySem PySem.Spec PyProof.Rows L2 SrtO
/-- sorted(xs, key=g): kf is what g gives -/
def rSKey (K : PySem.W.Frag) (g : Addr) (kf : Str → Int) (ok : Str → Prop) : List V → List V → Hp → VK → Prop := fun vs zs H Q => ∃ (l : Addr) (xs : List Str), vs = [.ref l] ∧ zs = [.ref g] ∧ SqL K H l (xs.map V.str) ∧ xs.length ≤ 1000 ∧ (∀ z ∈ xs, ok z) ∧
  ∀ H' qs p, Ex H H' → KeyOut kf xs qs → H' p = none → Q (.ref p) (upd H' p (.lst (qs.map fun y => V.str y.2)))
theorem cr_sKey {X : Cx} {K : PySem.W.Frag} {k : Nat} {g : Addr} {fd : FuncData} {pn : Str} {Rg : List D → (En → Prop) → Prop} {kf : Str → Int} {ok : Str → Prop} (hK : X.K = K) (F : FnOk X.prog X.w X.K X.mg X.base CX0 k g fd [pn] (SpE Rg)) (hr : Room (k + 2) X.A) (hb : Binds X.K fd [pn] [])
    (hRg : ∀ z, ok z → ∀ P : En → Prop, P (.dat (.int (kf z))) → Rg [.str z.cps.toList] P) : CallRK X (.builtin "sorted") [Str.ofString "key"] (rSKey K g kf ok) := by
  subst hK
  intro pins s σ H vs zs us ws Q I r rz h
  rcases h with ⟨l, xs, rfl, rfl, hs, hz, hok, q⟩
  obtain rfl := Vals.ref1 r
  obtain rfl := Vals.ref1 rz
  rcases I.list hs with ⟨its, rv, pl, _⟩
  refine key_sorted I pl.isList rv hz (fun i v kk hv hk => ?_) q
  rcases StrsAre.item rv.strs i v hv with ⟨y, t, rfl, hy⟩
  rw [List.getElem?_map, hy] at hk
  cases hk
  exact turn_of F (Room.in1 (Room.in1 hr)) I.env0.frames hb (hRg y (hok y (List.mem_of_getElem? hy)))
theorem reps_strs {H : Hp} : ∀ {xs : List (List Nat)} {ws : List V}, Reps H (xs.map D.str) ws → ws = (xs.map fun z => (⟨z.toArray⟩ : Str)).map V.str
  | [], _, .nil => rfl
  | x :: xs, _, .cons a b => by
    cases a
    rw [List.map_cons, List.map_cons, ← reps_strs b]; rfl
theorem strs_reps {H : Hp} : ∀ qs : List (Int × Str), Reps H (qs.map fun y => D.str y.2.cps.toList) (qs.map fun y => V.str y.2)
  | [] => .nil
  | y :: qs => .cons (rep_str y.2) (strs_reps qs)
/-- the same, read: a list of texts of ours, sorted -/
theorem e_skey {K : PySem.W.Frag} {ρ : List En} {te : TE} {g : Addr} {kf : Str → Int} {ok : Str → Prop} {R : En → Prop} (h : EV te ρ (fun e => ∃ xs : List (List Nat), e = .own (xs.map D.str) ∧ xs.length ≤ 1000 ∧ (∀ z ∈ xs, ok ⟨z.toArray⟩) ∧ ∀ qs, KeyOut kf (xs.map fun z => ⟨z.toArray⟩) qs → R (.own (qs.map fun y => .str y.2.cps.toList)))) :
    EV (tCKw (rSKey K g kf ok) (tCons te tNil) (tCons (tC (.ref g)) tNil)) ρ R := fun W0 W σ E Q q => h W0 W σ E _ fun v e W1 g1 r1 ⟨xs, e1, hl, hok, k⟩ => by
  subst e1
  obtain ⟨l, ws, rfl, h2, h3, h4, r2⟩ := r1
  have ew := reps_strs r2
  subst ew
  refine ⟨l, _, rfl, rfl, sq_l h2, by rw [List.length_map]; exact hl, fun z hz => ?_, fun H' qs p ex ho hp => ?_⟩
  · obtain ⟨y, hy, rfl⟩ := List.mem_map.mp hz
    exact hok y hy
  · have W2 : ∃ W2 : Wd, W2.h = H' ∧ Grow W1 W2 := ⟨⟨W1.b, H', W1.le.tr ex⟩, rfl, Ex.rfl', ex, fun _ z _ => z⟩
    obtain ⟨W2, rfl, g2⟩ := W2
    have rr := strs_reps (H := W2.b) qs
    obtain ⟨a, b⟩ := new_own (g1.trans g2) hp rr
    exact q (.ref p) _ _ a b (k qs ho)
end Nt

namespace Nt
open PySem PySem.Spec PyProof.Rows L2

def top (i : Nat) : Stmt := PySem.Challenge.pw_newesttells_k03_whole_rows_laid_over.main.body.getD i (.Pass ⟨0, 0, 0, 0⟩)
abbrev s_over : Stmt := top 3
abbrev N_over : List Str := ["newer", "older", "sign", "under"]
abbrev s_laid : Stmt := top 4
abbrev N_laid : List Str := ["rows", "standing", "row"]
abbrev s_lot_of : Stmt := top 5
abbrev N_lot_of : List Str := ["row", "sign"]
abbrev s_blank : Stmt := top 6
abbrev N_blank : List Str := ["many"]
abbrev s_within : Stmt := top 7
abbrev N_within : List Str := ["one", "other", "sign", "holding"]
abbrev s_union : Stmt := top 8
abbrev N_union : List Str := ["one", "other"]
abbrev s_agree : Stmt := top 9
abbrev N_agree : List Str := ["one", "other", "sign", "beside"]
abbrev s_cut : Stmt := top 10
abbrev N_cut : List Str := ["row", "places", "place"]
abbrev s_lot_size : Stmt := top 11
abbrev N_lot_size : List Str := ["lot"]
abbrev s_ordered_lots : Stmt := top 12
abbrev N_ordered_lots : List Str := ["lots"]
abbrev s_law_bag : Stmt := top 14
abbrev N_law_bag : List Str := ["_law_script", "_law_mixed_here", "_law_piece"]
abbrev s_law_draw : Stmt := top 15
abbrev N_law_draw : List Str := ["_law_bag_here", "_law_sides", "_law_piece", "_law_digit", "_law_state"]
abbrev s_law_of : Stmt := top 16
abbrev N_law_of : List Str := ["_law_bag_here", "_law_things"]
abbrev s_law_mixed : Stmt := top 17
abbrev N_law_mixed : List Str := ["_law_bag_here", "_law_things", "_law_rest", "_law_found", "_law_k"]
abbrev s_law_same : Stmt := top 18
abbrev N_law_same : List Str := ["_law_found", "_law_due", "_law_mark", "_law_x", "_law_y"]
abbrev s_law_title : Stmt := top 19
abbrev N_law_title : List Str := ["_law_bag_here", "_law_taken", "_law_title_here", "_law_k", "_law_sign"]
abbrev s_law_frame : Stmt := top 20
abbrev N_law_frame : List Str := ["_law_bag_here", "_law_size", "_law_widest", "_law_frame_here", "_law_taken", "_law_k"]
abbrev s_law_row : Stmt := top 21
abbrev N_law_row : List Str := ["_law_bag_here", "_law_frame_here", "_law_thin", "_law_pair"]
abbrev s_law_once : Stmt := top 22
abbrev N_law_once : List Str := ["_law_things", "_law_found", "_law_thing"]
abbrev s_law_lay : Stmt := top 23
abbrev N_law_lay : List Str := ["_law_newer_row", "_law_older_row", "_law_x", "_law_y"]
abbrev s_law_lot : Stmt := top 24
abbrev N_law_lot : List Str := ["_law_r", "_law_sign"]
abbrev s_law_join : Stmt := top 25
abbrev N_law_join : List Str := ["_law_x", "_law_y", "_law_a", "_law_b"]
abbrev s_law_inner : Stmt := top 26
abbrev N_law_inner : List Str := ["_law_x", "_law_y", "_law_k"]
abbrev s_law_lots : Stmt := top 27
abbrev N_law_lots : List Str := ["_law_told", "_law_found", "_law_x", "_law_size"]
abbrev s_law_meet : Stmt := top 28
abbrev N_law_meet : List Str := ["_law_x", "_law_y", "_law_k"]
abbrev s_law_bent : Stmt := top 29
abbrev N_law_bent : List Str := ["_law_bag_here", "_law_frame_here", "_law_r", "_law_spot"]
abbrev s_law_pair_so : Stmt := top 30
abbrev N_law_pair_so : List Str := ["_law_x", "_law_y", "_law_a", "_law_b", "_law_due", "_law_told"]
abbrev s_law_cuts_so : Stmt := top 31
abbrev N_law_cuts_so : List Str := ["_law_bag_here", "_law_frame_here", "_law_x", "_law_spots", "_law_kept", "_law_due", "_law_told", "_law_twice", "_law_k"]
abbrev s_law_order_so : Stmt := top 32
abbrev N_law_order_so : List Str := ["_law_bag_here", "_law_rows_here", "_law_wide", "_law_listed", "_law_kept", "_law_due", "_law_answer", "_law_r"]
abbrev s_law : Stmt := top 33
abbrev N_law : List Str := ["_law_script", "_law_bag_here", "_law_frame_here", "_law_x", "_law_y", "_law_z", "_law_pair", "_law_due", "_law_pile", "_law_k"]
/-- what the top has written -/
structure Txt (K : PySem.W.Frag) (mg : Str → Option Value) where
  a_over : Addr
  d_over : FuncData
  a_laid : Addr
  d_laid : FuncData
  a_lot_of : Addr
  d_lot_of : FuncData
  a_blank : Addr
  d_blank : FuncData
  a_within : Addr
  d_within : FuncData
  a_union : Addr
  d_union : FuncData
  a_agree : Addr
  d_agree : FuncData
  a_cut : Addr
  d_cut : FuncData
  a_lot_size : Addr
  d_lot_size : FuncData
  a_ordered_lots : Addr
  d_ordered_lots : FuncData
  a_law_bag : Addr
  d_law_bag : FuncData
  a_law_draw : Addr
  d_law_draw : FuncData
  a_law_of : Addr
  d_law_of : FuncData
  a_law_mixed : Addr
  d_law_mixed : FuncData
  a_law_same : Addr
  d_law_same : FuncData
  a_law_title : Addr
  d_law_title : FuncData
  a_law_frame : Addr
  d_law_frame : FuncData
  a_law_row : Addr
  d_law_row : FuncData
  a_law_once : Addr
  d_law_once : FuncData
  a_law_lay : Addr
  d_law_lay : FuncData
  a_law_lot : Addr
  d_law_lot : FuncData
  a_law_join : Addr
  d_law_join : FuncData
  a_law_inner : Addr
  d_law_inner : FuncData
  a_law_lots : Addr
  d_law_lots : FuncData
  a_law_meet : Addr
  d_law_meet : FuncData
  a_law_bent : Addr
  d_law_bent : FuncData
  a_law_pair_so : Addr
  d_law_pair_so : FuncData
  a_law_cuts_so : Addr
  d_law_cuts_so : FuncData
  a_law_order_so : Addr
  d_law_order_so : FuncData
  a_law : Addr
  d_law : FuncData
  F_over : Fun K "over" "over" s_over a_over d_over
  g_over : mg "over" = some (.ref a_over)
  F_laid : Fun K "laid" "laid" s_laid a_laid d_laid
  g_laid : mg "laid" = some (.ref a_laid)
  F_lot_of : Fun K "lot_of" "lot_of" s_lot_of a_lot_of d_lot_of
  g_lot_of : mg "lot_of" = some (.ref a_lot_of)
  F_blank : Fun K "blank" "blank" s_blank a_blank d_blank
  g_blank : mg "blank" = some (.ref a_blank)
  F_within : Fun K "within" "within" s_within a_within d_within
  g_within : mg "within" = some (.ref a_within)
  F_union : Fun K "union" "union" s_union a_union d_union
  g_union : mg "union" = some (.ref a_union)
  F_agree : Fun K "agree" "agree" s_agree a_agree d_agree
  g_agree : mg "agree" = some (.ref a_agree)
  F_cut : Fun K "cut" "cut" s_cut a_cut d_cut
  g_cut : mg "cut" = some (.ref a_cut)
  F_lot_size : Fun K "lot_size" "lot_size" s_lot_size a_lot_size d_lot_size
  g_lot_size : mg "lot_size" = some (.ref a_lot_size)
  F_ordered_lots : Fun K "ordered_lots" "ordered_lots" s_ordered_lots a_ordered_lots d_ordered_lots
  g_ordered_lots : mg "ordered_lots" = some (.ref a_ordered_lots)
  F_law_bag : Fun K "_law_bag" "_law_bag" s_law_bag a_law_bag d_law_bag
  g_law_bag : mg "_law_bag" = some (.ref a_law_bag)
  F_law_draw : Fun K "_law_draw" "_law_draw" s_law_draw a_law_draw d_law_draw
  g_law_draw : mg "_law_draw" = some (.ref a_law_draw)
  F_law_of : Fun K "_law_of" "_law_of" s_law_of a_law_of d_law_of
  g_law_of : mg "_law_of" = some (.ref a_law_of)
  F_law_mixed : Fun K "_law_mixed" "_law_mixed" s_law_mixed a_law_mixed d_law_mixed
  g_law_mixed : mg "_law_mixed" = some (.ref a_law_mixed)
  F_law_same : Fun K "_law_same" "_law_same" s_law_same a_law_same d_law_same
  g_law_same : mg "_law_same" = some (.ref a_law_same)
  F_law_title : Fun K "_law_title" "_law_title" s_law_title a_law_title d_law_title
  g_law_title : mg "_law_title" = some (.ref a_law_title)
  F_law_frame : Fun K "_law_frame" "_law_frame" s_law_frame a_law_frame d_law_frame
  g_law_frame : mg "_law_frame" = some (.ref a_law_frame)
  F_law_row : FunD K "_law_row" "_law_row" (defArgs s_law_row) (defBody s_law_row) (defScope s_law_row) [.int 2] [] a_law_row d_law_row
  g_law_row : mg "_law_row" = some (.ref a_law_row)
  F_law_once : Fun K "_law_once" "_law_once" s_law_once a_law_once d_law_once
  g_law_once : mg "_law_once" = some (.ref a_law_once)
  F_law_lay : Fun K "_law_lay" "_law_lay" s_law_lay a_law_lay d_law_lay
  g_law_lay : mg "_law_lay" = some (.ref a_law_lay)
  F_law_lot : Fun K "_law_lot" "_law_lot" s_law_lot a_law_lot d_law_lot
  g_law_lot : mg "_law_lot" = some (.ref a_law_lot)
  F_law_join : Fun K "_law_join" "_law_join" s_law_join a_law_join d_law_join
  g_law_join : mg "_law_join" = some (.ref a_law_join)
  F_law_inner : Fun K "_law_inner" "_law_inner" s_law_inner a_law_inner d_law_inner
  g_law_inner : mg "_law_inner" = some (.ref a_law_inner)
  F_law_lots : Fun K "_law_lots" "_law_lots" s_law_lots a_law_lots d_law_lots
  g_law_lots : mg "_law_lots" = some (.ref a_law_lots)
  F_law_meet : Fun K "_law_meet" "_law_meet" s_law_meet a_law_meet d_law_meet
  g_law_meet : mg "_law_meet" = some (.ref a_law_meet)
  F_law_bent : Fun K "_law_bent" "_law_bent" s_law_bent a_law_bent d_law_bent
  g_law_bent : mg "_law_bent" = some (.ref a_law_bent)
  F_law_pair_so : Fun K "_law_pair_so" "_law_pair_so" s_law_pair_so a_law_pair_so d_law_pair_so
  g_law_pair_so : mg "_law_pair_so" = some (.ref a_law_pair_so)
  F_law_cuts_so : Fun K "_law_cuts_so" "_law_cuts_so" s_law_cuts_so a_law_cuts_so d_law_cuts_so
  g_law_cuts_so : mg "_law_cuts_so" = some (.ref a_law_cuts_so)
  F_law_order_so : Fun K "_law_order_so" "_law_order_so" s_law_order_so a_law_order_so d_law_order_so
  g_law_order_so : mg "_law_order_so" = some (.ref a_law_order_so)
  F_law : Fun K "law" "law" s_law a_law d_law
  g_law : mg "law" = some (.ref a_law)
  n_len : mg "len" = none
  n_all : mg "all" = none
  n_range : mg "range" = none
  n_zip : mg "zip" = none
  n_isinstance : mg "isinstance" = none
  n_list : mg "list" = none
  n_tuple : mg "tuple" = none
  n_dict : mg "dict" = none
  n_str : mg "str" = none
  n_int : mg "int" = none
  n_bool : mg "bool" = none
  n_abs : mg "abs" = none
  n_sorted : mg "sorted" = none
  n_set : mg "set" = none
  t_DOT : Tok
  c_DOT : mg "DOT" = some (.str "." t_DOT)
  t_PLUS : Tok
  c_PLUS : mg "PLUS" = some (.str "+" t_PLUS)
theorem sc_over : FnScope N_over ["newer", "older"] (defScope s_over) := ⟨rfl, rfl, rfl, by decide +kernel, rfl, by decide +kernel, by decide +kernel⟩
theorem sc_laid : FnScope N_laid ["rows"] (defScope s_laid) := ⟨rfl, rfl, rfl, by decide +kernel, rfl, by decide +kernel, by decide +kernel⟩
theorem sc_lot_of : FnScope N_lot_of ["row"] (defScope s_lot_of) := ⟨rfl, rfl, rfl, by decide +kernel, rfl, by decide +kernel, by decide +kernel⟩
theorem sc_blank : FnScope N_blank ["many"] (defScope s_blank) := ⟨rfl, rfl, rfl, by decide +kernel, rfl, by decide +kernel, by decide +kernel⟩
theorem sc_within : FnScope N_within ["one", "other"] (defScope s_within) := ⟨rfl, rfl, rfl, by decide +kernel, rfl, by decide +kernel, by decide +kernel⟩
theorem sc_union : FnScope N_union ["one", "other"] (defScope s_union) := ⟨rfl, rfl, rfl, by decide +kernel, rfl, by decide +kernel, by decide +kernel⟩
theorem sc_agree : FnScope N_agree ["one", "other"] (defScope s_agree) := ⟨rfl, rfl, rfl, by decide +kernel, rfl, by decide +kernel, by decide +kernel⟩
theorem sc_cut : FnScope N_cut ["row", "places"] (defScope s_cut) := ⟨rfl, rfl, rfl, by decide +kernel, rfl, by decide +kernel, by decide +kernel⟩
theorem sc_lot_size : FnScope N_lot_size ["lot"] (defScope s_lot_size) := ⟨rfl, rfl, rfl, by decide +kernel, rfl, by decide +kernel, by decide +kernel⟩
theorem sc_ordered_lots : FnScope N_ordered_lots ["lots"] (defScope s_ordered_lots) := ⟨rfl, rfl, rfl, by decide +kernel, rfl, by decide +kernel, by decide +kernel⟩
theorem sc_law_bag : FnScope N_law_bag ["_law_script"] (defScope s_law_bag) := ⟨rfl, rfl, rfl, by decide +kernel, rfl, by decide +kernel, by decide +kernel⟩
theorem sc_law_draw : FnScope N_law_draw ["_law_bag_here", "_law_sides"] (defScope s_law_draw) := ⟨rfl, rfl, rfl, by decide +kernel, rfl, by decide +kernel, by decide +kernel⟩
theorem sc_law_of : FnScope N_law_of ["_law_bag_here", "_law_things"] (defScope s_law_of) := ⟨rfl, rfl, rfl, by decide +kernel, rfl, by decide +kernel, by decide +kernel⟩
theorem sc_law_mixed : FnScope N_law_mixed ["_law_bag_here", "_law_things"] (defScope s_law_mixed) := ⟨rfl, rfl, rfl, by decide +kernel, rfl, by decide +kernel, by decide +kernel⟩
theorem sc_law_same : FnScope N_law_same ["_law_found", "_law_due"] (defScope s_law_same) := ⟨rfl, rfl, rfl, by decide +kernel, rfl, by decide +kernel, by decide +kernel⟩
theorem sc_law_title : FnScope N_law_title ["_law_bag_here", "_law_taken"] (defScope s_law_title) := ⟨rfl, rfl, rfl, by decide +kernel, rfl, by decide +kernel, by decide +kernel⟩
theorem sc_law_frame : FnScope N_law_frame ["_law_bag_here", "_law_size", "_law_widest"] (defScope s_law_frame) := ⟨rfl, rfl, rfl, by decide +kernel, rfl, by decide +kernel, by decide +kernel⟩
theorem sc_law_row : FnScope N_law_row ["_law_bag_here", "_law_frame_here", "_law_thin"] (defScope s_law_row) := ⟨rfl, rfl, rfl, by decide +kernel, rfl, by decide +kernel, by decide +kernel⟩
theorem sc_law_once : FnScope N_law_once ["_law_things"] (defScope s_law_once) := ⟨rfl, rfl, rfl, by decide +kernel, rfl, by decide +kernel, by decide +kernel⟩
theorem sc_law_lay : FnScope N_law_lay ["_law_newer_row", "_law_older_row"] (defScope s_law_lay) := ⟨rfl, rfl, rfl, by decide +kernel, rfl, by decide +kernel, by decide +kernel⟩
theorem sc_law_lot : FnScope N_law_lot ["_law_r"] (defScope s_law_lot) := ⟨rfl, rfl, rfl, by decide +kernel, rfl, by decide +kernel, by decide +kernel⟩
theorem sc_law_join : FnScope N_law_join ["_law_x", "_law_y"] (defScope s_law_join) := ⟨rfl, rfl, rfl, by decide +kernel, rfl, by decide +kernel, by decide +kernel⟩
theorem sc_law_inner : FnScope N_law_inner ["_law_x", "_law_y"] (defScope s_law_inner) := ⟨rfl, rfl, rfl, by decide +kernel, rfl, by decide +kernel, by decide +kernel⟩
theorem sc_law_lots : FnScope N_law_lots ["_law_told"] (defScope s_law_lots) := ⟨rfl, rfl, rfl, by decide +kernel, rfl, by decide +kernel, by decide +kernel⟩
theorem sc_law_meet : FnScope N_law_meet ["_law_x", "_law_y"] (defScope s_law_meet) := ⟨rfl, rfl, rfl, by decide +kernel, rfl, by decide +kernel, by decide +kernel⟩
theorem sc_law_bent : FnScope N_law_bent ["_law_bag_here", "_law_frame_here", "_law_r"] (defScope s_law_bent) := ⟨rfl, rfl, rfl, by decide +kernel, rfl, by decide +kernel, by decide +kernel⟩
theorem sc_law_pair_so : FnScope N_law_pair_so ["_law_x", "_law_y"] (defScope s_law_pair_so) := ⟨rfl, rfl, rfl, by decide +kernel, rfl, by decide +kernel, by decide +kernel⟩
theorem sc_law_cuts_so : FnScope N_law_cuts_so ["_law_bag_here", "_law_frame_here", "_law_x"] (defScope s_law_cuts_so) := ⟨rfl, rfl, rfl, by decide +kernel, rfl, by decide +kernel, by decide +kernel⟩
theorem sc_law_order_so : FnScope N_law_order_so ["_law_bag_here", "_law_rows_here", "_law_wide"] (defScope s_law_order_so) := ⟨rfl, rfl, rfl, by decide +kernel, rfl, by decide +kernel, by decide +kernel⟩
theorem sc_law : FnScope N_law ["_law_script"] (defScope s_law) := ⟨rfl, rfl, rfl, by decide +kernel, rfl, by decide +kernel, by decide +kernel⟩
theorem b_over {K : PySem.W.Frag} {mg : Str → Option Value} (T : Txt K mg) : Binds K T.d_over ["newer", "older"] [] := T.F_over.binds (ps := ["newer", "older"]) fun _ _ _ _ _ _ us hl => match us, hl with | [_, _], _ => rfl
theorem b_laid {K : PySem.W.Frag} {mg : Str → Option Value} (T : Txt K mg) : Binds K T.d_laid ["rows"] [] := T.F_laid.binds (ps := ["rows"]) fun _ _ _ _ _ _ us hl => match us, hl with | [_], _ => rfl
theorem b_lot_of {K : PySem.W.Frag} {mg : Str → Option Value} (T : Txt K mg) : Binds K T.d_lot_of ["row"] [] := T.F_lot_of.binds (ps := ["row"]) fun _ _ _ _ _ _ us hl => match us, hl with | [_], _ => rfl
theorem b_blank {K : PySem.W.Frag} {mg : Str → Option Value} (T : Txt K mg) : Binds K T.d_blank ["many"] [] := T.F_blank.binds (ps := ["many"]) fun _ _ _ _ _ _ us hl => match us, hl with | [_], _ => rfl
theorem b_within {K : PySem.W.Frag} {mg : Str → Option Value} (T : Txt K mg) : Binds K T.d_within ["one", "other"] [] := T.F_within.binds (ps := ["one", "other"]) fun _ _ _ _ _ _ us hl => match us, hl with | [_, _], _ => rfl
theorem b_union {K : PySem.W.Frag} {mg : Str → Option Value} (T : Txt K mg) : Binds K T.d_union ["one", "other"] [] := T.F_union.binds (ps := ["one", "other"]) fun _ _ _ _ _ _ us hl => match us, hl with | [_, _], _ => rfl
theorem b_agree {K : PySem.W.Frag} {mg : Str → Option Value} (T : Txt K mg) : Binds K T.d_agree ["one", "other"] [] := T.F_agree.binds (ps := ["one", "other"]) fun _ _ _ _ _ _ us hl => match us, hl with | [_, _], _ => rfl
theorem b_cut {K : PySem.W.Frag} {mg : Str → Option Value} (T : Txt K mg) : Binds K T.d_cut ["row", "places"] [] := T.F_cut.binds (ps := ["row", "places"]) fun _ _ _ _ _ _ us hl => match us, hl with | [_, _], _ => rfl
theorem b_lot_size {K : PySem.W.Frag} {mg : Str → Option Value} (T : Txt K mg) : Binds K T.d_lot_size ["lot"] [] := T.F_lot_size.binds (ps := ["lot"]) fun _ _ _ _ _ _ us hl => match us, hl with | [_], _ => rfl
theorem b_ordered_lots {K : PySem.W.Frag} {mg : Str → Option Value} (T : Txt K mg) : Binds K T.d_ordered_lots ["lots"] [] := T.F_ordered_lots.binds (ps := ["lots"]) fun _ _ _ _ _ _ us hl => match us, hl with | [_], _ => rfl
theorem b_law_bag {K : PySem.W.Frag} {mg : Str → Option Value} (T : Txt K mg) : Binds K T.d_law_bag ["_law_script"] [] := T.F_law_bag.binds (ps := ["_law_script"]) fun _ _ _ _ _ _ us hl => match us, hl with | [_], _ => rfl
theorem b_law_draw {K : PySem.W.Frag} {mg : Str → Option Value} (T : Txt K mg) : Binds K T.d_law_draw ["_law_bag_here", "_law_sides"] [] := T.F_law_draw.binds (ps := ["_law_bag_here", "_law_sides"]) fun _ _ _ _ _ _ us hl => match us, hl with | [_, _], _ => rfl
theorem b_law_of {K : PySem.W.Frag} {mg : Str → Option Value} (T : Txt K mg) : Binds K T.d_law_of ["_law_bag_here", "_law_things"] [] := T.F_law_of.binds (ps := ["_law_bag_here", "_law_things"]) fun _ _ _ _ _ _ us hl => match us, hl with | [_, _], _ => rfl
theorem b_law_mixed {K : PySem.W.Frag} {mg : Str → Option Value} (T : Txt K mg) : Binds K T.d_law_mixed ["_law_bag_here", "_law_things"] [] := T.F_law_mixed.binds (ps := ["_law_bag_here", "_law_things"]) fun _ _ _ _ _ _ us hl => match us, hl with | [_, _], _ => rfl
theorem b_law_same {K : PySem.W.Frag} {mg : Str → Option Value} (T : Txt K mg) : Binds K T.d_law_same ["_law_found", "_law_due"] [] := T.F_law_same.binds (ps := ["_law_found", "_law_due"]) fun _ _ _ _ _ _ us hl => match us, hl with | [_, _], _ => rfl
theorem b_law_title {K : PySem.W.Frag} {mg : Str → Option Value} (T : Txt K mg) : Binds K T.d_law_title ["_law_bag_here", "_law_taken"] [] := T.F_law_title.binds (ps := ["_law_bag_here", "_law_taken"]) fun _ _ _ _ _ _ us hl => match us, hl with | [_, _], _ => rfl
theorem b_law_frame {K : PySem.W.Frag} {mg : Str → Option Value} (T : Txt K mg) : Binds K T.d_law_frame ["_law_bag_here", "_law_size", "_law_widest"] [] := T.F_law_frame.binds (ps := ["_law_bag_here", "_law_size", "_law_widest"]) fun _ _ _ _ _ _ us hl => match us, hl with | [_, _, _], _ => rfl
theorem b_law_once {K : PySem.W.Frag} {mg : Str → Option Value} (T : Txt K mg) : Binds K T.d_law_once ["_law_things"] [] := T.F_law_once.binds (ps := ["_law_things"]) fun _ _ _ _ _ _ us hl => match us, hl with | [_], _ => rfl
theorem b_law_lay {K : PySem.W.Frag} {mg : Str → Option Value} (T : Txt K mg) : Binds K T.d_law_lay ["_law_newer_row", "_law_older_row"] [] := T.F_law_lay.binds (ps := ["_law_newer_row", "_law_older_row"]) fun _ _ _ _ _ _ us hl => match us, hl with | [_, _], _ => rfl
theorem b_law_lot {K : PySem.W.Frag} {mg : Str → Option Value} (T : Txt K mg) : Binds K T.d_law_lot ["_law_r"] [] := T.F_law_lot.binds (ps := ["_law_r"]) fun _ _ _ _ _ _ us hl => match us, hl with | [_], _ => rfl
theorem b_law_join {K : PySem.W.Frag} {mg : Str → Option Value} (T : Txt K mg) : Binds K T.d_law_join ["_law_x", "_law_y"] [] := T.F_law_join.binds (ps := ["_law_x", "_law_y"]) fun _ _ _ _ _ _ us hl => match us, hl with | [_, _], _ => rfl
theorem b_law_inner {K : PySem.W.Frag} {mg : Str → Option Value} (T : Txt K mg) : Binds K T.d_law_inner ["_law_x", "_law_y"] [] := T.F_law_inner.binds (ps := ["_law_x", "_law_y"]) fun _ _ _ _ _ _ us hl => match us, hl with | [_, _], _ => rfl
theorem b_law_lots {K : PySem.W.Frag} {mg : Str → Option Value} (T : Txt K mg) : Binds K T.d_law_lots ["_law_told"] [] := T.F_law_lots.binds (ps := ["_law_told"]) fun _ _ _ _ _ _ us hl => match us, hl with | [_], _ => rfl
theorem b_law_meet {K : PySem.W.Frag} {mg : Str → Option Value} (T : Txt K mg) : Binds K T.d_law_meet ["_law_x", "_law_y"] [] := T.F_law_meet.binds (ps := ["_law_x", "_law_y"]) fun _ _ _ _ _ _ us hl => match us, hl with | [_, _], _ => rfl
theorem b_law_bent {K : PySem.W.Frag} {mg : Str → Option Value} (T : Txt K mg) : Binds K T.d_law_bent ["_law_bag_here", "_law_frame_here", "_law_r"] [] := T.F_law_bent.binds (ps := ["_law_bag_here", "_law_frame_here", "_law_r"]) fun _ _ _ _ _ _ us hl => match us, hl with | [_, _, _], _ => rfl
theorem b_law_pair_so {K : PySem.W.Frag} {mg : Str → Option Value} (T : Txt K mg) : Binds K T.d_law_pair_so ["_law_x", "_law_y"] [] := T.F_law_pair_so.binds (ps := ["_law_x", "_law_y"]) fun _ _ _ _ _ _ us hl => match us, hl with | [_, _], _ => rfl
theorem b_law_cuts_so {K : PySem.W.Frag} {mg : Str → Option Value} (T : Txt K mg) : Binds K T.d_law_cuts_so ["_law_bag_here", "_law_frame_here", "_law_x"] [] := T.F_law_cuts_so.binds (ps := ["_law_bag_here", "_law_frame_here", "_law_x"]) fun _ _ _ _ _ _ us hl => match us, hl with | [_, _, _], _ => rfl
theorem b_law_order_so {K : PySem.W.Frag} {mg : Str → Option Value} (T : Txt K mg) : Binds K T.d_law_order_so ["_law_bag_here", "_law_rows_here", "_law_wide"] [] := T.F_law_order_so.binds (ps := ["_law_bag_here", "_law_rows_here", "_law_wide"]) fun _ _ _ _ _ _ us hl => match us, hl with | [_, _, _], _ => rfl
theorem b_law {K : PySem.W.Frag} {mg : Str → Option Value} (T : Txt K mg) : Binds K T.d_law ["_law_script"] [] := T.F_law.binds (ps := ["_law_script"]) fun _ _ _ _ _ _ us hl => match us, hl with | [_], _ => rfl
end Nt

namespace Nt
open PySem PySem.Spec PyProof.Rows L2

theorem flat1 {α : Type} (l : List α) (f : α → Nat) : (l.map fun a => [f a]).flatten = l.map f := by
  induction l with
  | nil => rfl
  | cons a l ih => rw [List.map_cons, List.flatten_cons, ih]; rfl
section
variable {K : PySem.W.Frag} {ta tb te to : TE} {tt : TT} {ρ : List En}
theorem e_joinc {α : Type} {src : List α} {f : α → Nat} (h0 : ED to ρ (· = .str [])) (h : EV te ρ (· = .own (src.map fun a => .str [f a]))) (hl : src.length ≤ 100000) : ED (tM1 (rJoin K) to te) ρ (· = .str (src.map f)) := by
  have e : (src.map fun a => D.str [f a]) = (src.map fun a => [f a]).map D.str := by rw [List.map_map]; rfl
  refine EV.d1 (e_m1 h0 h.o1 fun y hy => ?_)
  subst hy
  rw [e, ← flat1]
  exact md_join (by rw [flat1, List.length_map]; exact hl)
theorem e_ifc {c : Prop} [Decidable c] {x y : D} (h : ET tt ρ (· = decide c)) (h1 : c → ED ta ρ (· = x)) (h2 : ¬ c → ED tb ρ (· = y)) : ED (tIf tt ta tb) ρ (· = if c then x else y) := by
  refine e_ifd h (fun e => ?_) (fun e => ?_)
  · have hc : c := of_decide_eq_true e.symm
    rw [if_pos hc]; exact h1 hc
  · have hc : ¬ c := of_decide_eq_false e.symm
    rw [if_neg hc]; exact h2 hc
theorem et_eqS {a b : List Nat} (ha : ED ta ρ (· = .str a)) (hb : ED tb ρ (· = .str b)) : ET (tTest (tOp (rEqU K) ta tb)) ρ (· = decide (a = b)) := et_t1 (e_opd ha hb od_eqS)
theorem et_neS {a b : List Nat} (ha : ED ta ρ (· = .str a)) (hb : ED tb ρ (· = .str b)) : ET (tTest (tOp (rNeU K) ta tb)) ρ (· = !decide (a = b)) := et_t1 (e_opd ha hb od_neS)
theorem str1 (a b : Nat) : decide ([a] = [b]) = decide (a = b) := decide_eq_decide.mpr ⟨fun h => List.cons.inj h |>.1, fun h => by rw [h]⟩
end
theorem rep46 (n : Nat) : (List.replicate n [46]).flatten = List.replicate n 46 := by
  induction n with
  | zero => rfl
  | succ n ih => rw [List.replicate_succ, List.flatten_cons, ih]; rfl
/-! ### rows as lists of codes -/
def ov (x y : List Nat) : List Nat := (x.zip y).map fun p => if p.1 = 46 then p.2 else p.1
def lotOf (x : List Nat) : List Nat := x.map fun c => if c = 46 then 46 else 43
def Rg_over (ds : List D) (P : En → Prop) : Prop := ∃ x y, ds = [.str x, .str y] ∧ x.length ≤ 1000 ∧ P (.dat (.str (ov x y)))
def Rg_lot_of (ds : List D) (P : En → Prop) : Prop := ∃ x, ds = [.str x] ∧ x.length ≤ 1000 ∧ P (.dat (.str (lotOf x)))
def Rg_blank (ds : List D) (P : En → Prop) : Prop := ∃ n : Nat, ds = [.int n] ∧ n ≤ 1000 ∧ P (.dat (.str (List.replicate n 46)))
abbrev Rg_union := Rg_over
theorem len_over (ds P) (h : Rg_over ds P) : ds.length = 2 := by obtain ⟨x, y, rfl, _⟩ := h; rfl
theorem len_union (ds P) (h : Rg_union ds P) : ds.length = 2 := by obtain ⟨x, y, rfl, _⟩ := h; rfl
theorem len_lot_of (ds P) (h : Rg_lot_of ds P) : ds.length = 1 := by obtain ⟨x, rfl, _⟩ := h; rfl
theorem len_blank (ds P) (h : Rg_blank ds P) : ds.length = 1 := by obtain ⟨x, rfl, _⟩ := h; rfl
section
variable {P : Program} {w : World} {K : PySem.W.Frag} {mg : Str → Option Value} {base : Heap}
theorem ok_over (T : Txt K mg)  : FnOk P w K mg base CX0 1 T.a_over T.d_over ["newer", "older"] (SpE Rg_over) := by
  refine T.F_over.ok sc_over (fun vs H Q E h => spE_len h len_over) (fun cdv A outer s H vs Q E hr h => ?_)
  have hu := hu64 hr
  have hvl : vs.length = 2 := spE_len h len_over
  refine ⟨_, (pss_one (ps_ret (pe_joinK (K := K) rfl pe_str (pe_lc (own := [("sign", 2), ("under", 3)]) (g := gTup K 2 (gCons (gName 2) (gCons (gName 3) gNil))) (tt := tYes) rfl sc_over.nd (pi_zipK (K := K) rfl (by rfl) T.n_zip (pa_cons (pv 0) (pa_cons (pv 1) pa_nil))) (blkOk_by (N := N_over) (sc := defScope s_over) (by decide +kernel)) (fun _ _ _ _ _ => (pg_tup rfl (pgs_cons (pg_name (i := 2) sc_over.nd rfl (Or.inl rfl)) (pgs_cons (pg_name (i := 3) sc_over.nd rfl (Or.inl rfl)) pgs_nil)))) (fun _ _ _ _ _ => pts_nil) (fun _ _ _ _ _ => (pe_ifExp (pt_cmpR (op_eqK (K := K) rfl hu) (pv 2) (pe_glob (v := .str ".") rfl T.c_DOT ⟨_, rfl⟩) (nomark _)) (pv 3) (pv 2))))))), fn_body h (by rw [hvl]; decide) (fun ds R hR hl => ?_)⟩
  obtain ⟨x, y, rfl, hx, q⟩ := hR
  refine t_ret1 (e_joinc (f := fun p : Nat × Nat => if p.1 = 46 then p.2 else p.1) (e_str rfl) (lc2_map (by decide) (iv_zipS (ea_c (e_var rfl) (ea_c (e_var rfl) ea_nil))) (by rw [List.length_zip]; omega) fun i p hp => ?_) (by rw [List.length_zip]; omega)) q
  refine (e_ifc (et_eqS (e_var rfl) (e_str (s := [46]) (by decide +kernel))) (fun _ => e_var rfl) (fun _ => e_var rfl)).is ?_
  by_cases h : p.1 = 46
  · rw [if_pos (by rw [h]), if_pos h]; rfl
  · rw [if_neg (fun z => h (List.cons.inj z).1), if_neg h]; rfl

theorem ok_lot_of (T : Txt K mg)  : FnOk P w K mg base CX0 1 T.a_lot_of T.d_lot_of ["row"] (SpE Rg_lot_of) := by
  refine T.F_lot_of.ok sc_lot_of (fun vs H Q E h => spE_len h len_lot_of) (fun cdv A outer s H vs Q E hr h => ?_)
  have hu := hu64 hr
  have hvl : vs.length = 1 := spE_len h len_lot_of
  refine ⟨_, (pss_one (ps_ret (pe_joinK (K := K) rfl pe_str (pe_lc (own := [("sign", 1)]) (g := gName 1) (tt := tYes) rfl sc_lot_of.nd (pi_str (pv 0)) (blkOk_by (N := N_lot_of) (sc := defScope s_lot_of) (by decide +kernel)) (fun _ _ _ _ _ => (pg_name (i := 1) sc_lot_of.nd rfl (Or.inl rfl))) (fun _ _ _ _ _ => pts_nil) (fun _ _ _ _ _ => (pe_ifExp (pt_cmpR (op_eqK (K := K) rfl hu) (pv 1) (pe_glob (v := .str ".") rfl T.c_DOT ⟨_, rfl⟩) (nomark _)) (pe_glob (v := .str ".") rfl T.c_DOT ⟨_, rfl⟩) (pe_glob (v := .str "+") rfl T.c_PLUS ⟨_, rfl⟩))))))), fn_body h (by rw [hvl]; decide) (fun ds R hR hl => ?_)⟩
  obtain ⟨x, rfl, hx, q⟩ := hR
  refine t_ret1 (e_joinc (f := fun c : Nat => if c = 46 then 46 else 43) (e_str rfl) (lc1_map (iv_strS (e_var rfl)) (by omega) fun i c hc => ?_) (by omega)) q
  refine (e_ifc (et_eqS (e_var rfl) (e_str (s := [46]) (by decide +kernel))) (fun _ => e_str (s := [46]) (by decide +kernel)) (fun _ => e_str (s := [43]) (by decide +kernel))).is ?_
  by_cases h : c = 46
  · rw [if_pos (by rw [h]), if_pos h]
  · rw [if_neg (fun z => h (List.cons.inj z).1), if_neg h]

theorem ok_blank (T : Txt K mg)  : FnOk P w K mg base CX0 1 T.a_blank T.d_blank ["many"] (SpE Rg_blank) := by
  refine T.F_blank.ok sc_blank (fun vs H Q E h => spE_len h len_blank) (fun cdv A outer s H vs Q E hr h => ?_)
  have hu := hu64 hr
  have hvl : vs.length = 1 := spE_len h len_blank
  refine ⟨_, (pss_one (ps_ret (pe_op op_times (pe_glob (v := .str ".") rfl T.c_DOT ⟨_, rfl⟩) (pv 0)))), fn_body h (by rw [hvl]; decide) (fun ds R hR hl => ?_)⟩
  obtain ⟨n, rfl, hn, q⟩ := hR
  refine t_ret1 ((e_opd (e_str (s := [46]) (by decide +kernel)) (e_var rfl) (od_mulS (by omega) (by omega) (by decide))).is ?_) q
  rw [Int.toNat_natCast]
  rw [rep46]

theorem ok_union (T : Txt K mg) (G_over : FnOk P w K mg base CX0 1 T.a_over T.d_over ["newer", "older"] (SpE Rg_over)) : FnOk P w K mg base CX0 2 T.a_union T.d_union ["one", "other"] (SpE Rg_union) := by
  refine T.F_union.ok sc_union (fun vs H Q E h => spE_len h len_union) (fun cdv A outer s H vs Q E hr h => ?_)
  have hu := hu64 hr
  have hvl : vs.length = 2 := spE_len h len_union
  refine ⟨_, (pss_one (ps_ret (pe_call G_over (hr.mono (by decide)) (by rfl) T.g_over T.F_over.kp (b_over T) .nil pass0 (pa_cons (pv 0) (pa_cons (pv 1) pa_nil))))), fn_body h (by rw [hvl]; decide) (fun ds R hR hl => ?_)⟩
  obtain ⟨x, y, rfl, hx, q⟩ := hR
  exact t_ret (e_call0 (R := fun e => e = .dat (.str (ov x y))) (ea_c (e_var rfl) (ea_c (e_var rfl) ea_nil)) ⟨x, y, rfl, hx, rfl⟩) fun e he => by rw [he]; exact q

end
end Nt

namespace Nt
open PySem PySem.Spec PyProof.Rows L2


/-! ### the told lot -/
def cellD (c : List Nat × Nat) : D := .tup [.str c.1, .int c.2]
def rowOk (cs : List (List Nat × Nat)) (r : List Nat) : Bool := ((r.zip cs).map fun p => decide (p.1 = 46) || decide (p.1 ∈ [48, 49, 50, 51].take p.2.2)).all id
def outP (told : List Nat) (p : Nat × Nat) : Bool := !decide (p.2 = 46) && decide (told.getD p.1 0 = 46)
def outs (s told : List Nat) : List Nat := (((List.range s.length).zip s).filter (outP told)).map Prod.fst
def bars (s told r : List Nat) : List Nat := (outs s told).filter fun i => !decide (r.getD i 0 = s.getD i 0)
def canT (s told r : List Nat) : Bool := decide ((0 : Int) < ((outs s told).length : Int)) && decide (((bars s told r).length : Int) = 0)
theorem rng_zip {s : List Nat} {i : Nat} {p : Nat × Nat} (h : ((List.range s.length).zip s)[i]? = some p) : p.1 = i ∧ s[i]? = some p.2 ∧ i < s.length := by
  obtain ⟨h1, h2⟩ := zip_get h
  have hl := (List.getElem?_eq_some_iff.mp h2).1
  rw [List.getElem?_range hl] at h1
  exact ⟨(Option.some.inj h1).symm, h2, hl⟩
theorem mem_zipr {s : List Nat} {p : Nat × Nat} : p ∈ (List.range s.length).zip s ↔ s[p.1]? = some p.2 := by
  constructor
  · intro h
    obtain ⟨i, hi⟩ := List.mem_iff_getElem?.mp h
    obtain ⟨a, b, _⟩ := rng_zip hi
    rw [a]; exact b
  · intro h
    have hl := (List.getElem?_eq_some_iff.mp h).1
    refine List.mem_iff_getElem?.mpr ⟨p.1, ?_⟩
    rw [List.getElem?_zip_eq_some]
    exact ⟨List.getElem?_range hl, h⟩
theorem mem_outs {s told : List Nat} {i : Nat} : i ∈ outs s told ↔ ∃ c, s[i]? = some c ∧ c ≠ 46 ∧ told.getD i 0 = 46 := by
  unfold outs
  rw [List.mem_map]
  constructor
  · rintro ⟨p, hp, rfl⟩
    obtain ⟨h1, h2⟩ := List.mem_filter.mp hp
    rw [mem_zipr] at h1
    unfold outP at h2
    simp only [Bool.and_eq_true, Bool.not_eq_true', decide_eq_false_iff_not, decide_eq_true_eq] at h2
    exact ⟨p.2, h1, h2.1, h2.2⟩
  · rintro ⟨c, h1, h2, h3⟩
    refine ⟨(i, c), List.mem_filter.mpr ⟨mem_zipr.mpr h1, ?_⟩, rfl⟩
    unfold outP
    simp only [Bool.and_eq_true, Bool.not_eq_true', decide_eq_false_iff_not, decide_eq_true_eq]
    exact ⟨h2, h3⟩
theorem outs_lt {s told : List Nat} {i : Nat} (h : i ∈ outs s told) : i < s.length := by
  obtain ⟨c, h, _⟩ := mem_outs.mp h
  exact (List.getElem?_eq_some_iff.mp h).1
theorem outs_len (s told : List Nat) : (outs s told).length ≤ s.length := by
  unfold outs
  rw [List.length_map]
  refine Nat.le_trans (List.length_filter_le _ _) ?_
  rw [List.length_zip, List.length_range]
  omega
inductive Run (S : List (List Nat)) (r : List Nat) : List (List Nat) → List Nat → Prop where
  | nil : Run S r [] (List.replicate r.length 46)
  | snoc {tk : List (List Nat)} {t s : List Nat} : Run S r tk t → s ∈ S → canT s t r = true → Run S r (tk ++ [s]) (ov t (lotOf s))
def Fin (S : List (List Nat)) (r t : List Nat) : Prop := ∀ s ∈ S, canT s t r = false
/-- rows of one length -/
def Len (n : Nat) (S : List (List Nat)) : Prop := ∀ s ∈ S, s.length = n
theorem ov_len (x y : List Nat) : (ov x y).length = min x.length y.length := by unfold ov; rw [List.length_map, List.length_zip]
theorem lotOf_len (x : List Nat) : (lotOf x).length = x.length := by unfold lotOf; rw [List.length_map]
theorem run_len {S : List (List Nat)} {r t : List Nat} {tk : List (List Nat)} (hS : Len r.length S) (h : Run S r tk t) : t.length = r.length := by
  induction h with
  | nil => rw [List.length_replicate]
  | snoc _ hs _ ih => rw [ov_len, lotOf_len, ih, hS _ hs, Nat.min_self]
theorem run_mem {S : List (List Nat)} {r t : List Nat} {tk : List (List Nat)} (h : Run S r tk t) : ∀ s ∈ tk, s ∈ S := by
  induction h with
  | nil => intro s h; cases h
  | snoc _ hs _ ih =>
    intro s h
    rcases List.mem_append.mp h with h | h
    · exact ih s h
    · rw [List.mem_singleton.mp h]; exact hs
theorem ov_get {x y : List Nat} {i a b : Nat} (h1 : x[i]? = some a) (h2 : y[i]? = some b) : (ov x y)[i]? = some (if a = 46 then b else a) := by
  unfold ov
  rw [List.getElem?_map]
  have : (x.zip y)[i]? = some (a, b) := by rw [List.getElem?_zip_eq_some]; exact ⟨h1, h2⟩
  rw [this]; rfl
theorem lot_get {x : List Nat} {i a : Nat} (h : x[i]? = some a) : (lotOf x)[i]? = some (if a = 46 then 46 else 43) := by
  unfold lotOf
  rw [List.getElem?_map, h]; rfl
theorem canT_outs {s t r : List Nat} (h : canT s t r = true) : ∃ i, i ∈ outs s t := by
  unfold canT at h
  rw [Bool.and_eq_true, decide_eq_true_eq] at h
  cases hq : outs s t with
  | nil => rw [hq] at h; simp at h
  | cons i l => exact ⟨i, List.mem_cons_self⟩
theorem bars_nil {s t r : List Nat} (h : canT s t r = true) : ∀ i ∈ outs s t, r.getD i 0 = s.getD i 0 := by
  unfold canT at h
  rw [Bool.and_eq_true, decide_eq_true_eq, decide_eq_true_eq] at h
  have hb : bars s t r = [] := by
    have : (bars s t r).length = 0 := by have := h.2; omega
    exact List.eq_nil_of_length_eq_zero this
  intro i hi
  have hn : i ∉ bars s t r := by rw [hb]; simp
  unfold bars at hn
  rw [List.mem_filter] at hn
  by_cases e : r.getD i 0 = s.getD i 0
  · exact e
  · exact absurd ⟨hi, by simpa using e⟩ hn
theorem canT_of {s t r : List Nat} (h0 : ∃ i, i ∈ outs s t) (h : ∀ i ∈ outs s t, r.getD i 0 = s.getD i 0) : canT s t r = true := by
  unfold canT
  rw [Bool.and_eq_true, decide_eq_true_eq, decide_eq_true_eq]
  obtain ⟨i, hi⟩ := h0
  have hl : 0 < (outs s t).length := List.length_pos_of_mem hi
  have hb : bars s t r = [] := by
    unfold bars
    rw [List.filter_eq_nil_iff]
    intro j hj
    rw [h j hj]
    simp
  rw [hb]
  exact ⟨by omega, rfl⟩
/-- dots of a told lot: fewer with each step -/
def dots (t : List Nat) : Nat := t.count 46
theorem count_le_of {x y : List Nat} (hl : x.length = y.length) (h : ∀ i : Nat, x[i]? = some 46 → y[i]? = some 46) : x.count 46 ≤ y.count 46 := by
  induction x generalizing y with
  | nil => simp
  | cons a x ih =>
    cases y with
    | nil => simp at hl
    | cons b y =>
      have ih' := ih (y := y) (by simpa using hl) fun i hi => by simpa using h (i + 1) (by simpa using hi)
      rw [List.count_cons, List.count_cons]
      by_cases ha : a = 46
      · have hb : b = 46 := by have := h 0 (by simp [ha]); simpa using this
        simp [ha, hb]; omega
      · have e : (a == 46) = false := by simpa using ha
        rw [e]; simp; omega
theorem count_lt_of {x y : List Nat} (hl : x.length = y.length) (h : ∀ i : Nat, x[i]? = some 46 → y[i]? = some 46) {j : Nat} (h1 : y[j]? = some 46) (h2 : x[j]? ≠ some 46) : x.count 46 < y.count 46 := by
  induction x generalizing y j with
  | nil =>
    cases y with
    | nil => simp at h1
    | cons b y => simp at hl
  | cons a x ih =>
    cases y with
    | nil => simp at hl
    | cons b y =>
      have hl' : x.length = y.length := by simpa using hl
      have h' : ∀ i : Nat, x[i]? = some 46 → y[i]? = some 46 := fun i hi => by simpa using h (i + 1) (by simpa using hi)
      have le := count_le_of hl' h'
      rw [List.count_cons, List.count_cons]
      cases j with
      | zero =>
        have hb : b = 46 := by simpa using h1
        have ha : (a == 46) = false := by simpa using h2
        rw [ha]; simp [hb]; omega
      | succ j =>
        have lt := ih (y := y) hl' h' (j := j) (by simpa using h1) (by simpa using h2)
        by_cases ha : a = 46
        · have hb : b = 46 := by have := h 0 (by simp [ha]); simpa using this
          simp [ha, hb]; omega
        · have e : (a == 46) = false := by simpa using ha
          rw [e]; simp; omega
theorem getD_of {l : List Nat} {i a : Nat} (h : l[i]? = some a) : l.getD i 0 = a := by rw [List.getD_eq_getElem?_getD, h]; rfl
theorem get_of_lt {l : List Nat} {i : Nat} (h : i < l.length) : l[i]? = some (l.getD i 0) := by rw [List.getD_eq_getElem?_getD, List.getElem?_eq_getElem h]; rfl
theorem ov_lot_dots {s t r : List Nat} (hl : s.length = t.length) (h : canT s t r = true) : dots (ov t (lotOf s)) < dots t := by
  obtain ⟨i, hi⟩ := canT_outs h
  obtain ⟨c, h1, h2, h3⟩ := mem_outs.mp hi
  have hlen : (ov t (lotOf s)).length = t.length := by rw [ov_len, lotOf_len, hl, Nat.min_self]
  have hs := (List.getElem?_eq_some_iff.mp h1).1
  have ht : t[i]? = some 46 := by rw [get_of_lt (by omega), h3]
  refine count_lt_of hlen (fun j hj => ?_) ht ?_
  · have hjl := (List.getElem?_eq_some_iff.mp hj).1
    have a1 := get_of_lt (l := t) (i := j) (by omega)
    have a2 := lot_get (get_of_lt (l := s) (i := j) (by omega))
    rw [ov_get a1 a2] at hj
    by_cases e : t.getD j 0 = 46
    · rw [a1, e]
    · rw [if_neg e] at hj
      exact absurd (Option.some.inj hj) e
  · have a2 := lot_get h1
    rw [ov_get ht a2, if_pos rfl, if_neg h2]
    simp


def Rg_is_row (ds : List D) (P : En → Prop) : Prop := ∃ (xc : D) (cs : List (List Nat × Nat)) (r : List Nat), ds = [xc, .str r] ∧ Sq xc (cs.map cellD) ∧ r.length = cs.length ∧ cs.length ≤ 20 ∧ (∀ c ∈ cs, c.2 ≤ 4) ∧ P (.dat (.bl (rowOk cs r)))
def Rg_outside (ds : List D) (P : En → Prop) : Prop := ∃ s t : List Nat, ds = [.str s, .str t] ∧ s.length = t.length ∧ s.length ≤ 1000 ∧ P (.own ((outs s t).map fun (i : Nat) => .int i))
def Rg_barring (ds : List D) (P : En → Prop) : Prop := ∃ s t r : List Nat, ds = [.str s, .str t, .str r] ∧ s.length = t.length ∧ s.length = r.length ∧ s.length ≤ 1000 ∧ P (.own ((bars s t r).map fun (i : Nat) => .int i))
def Rg_can_be_taken (ds : List D) (P : En → Prop) : Prop := ∃ s t r : List Nat, ds = [.str s, .str t, .str r] ∧ s.length = t.length ∧ s.length = r.length ∧ s.length ≤ 1000 ∧ P (.dat (.bl (canT s t r)))
def nextD (S : List (List Nat)) (t r : List Nat) : D := match S.find? (fun s => canT s t r) with | some s => .str s | none => .non
def Rg_next_taken (ds : List D) (P : En → Prop) : Prop := ∃ (xs : D) (S : List (List Nat)) (t r : List Nat), ds = [xs, .str t, .str r] ∧ Sq xs (S.map D.str) ∧ S.length ≤ 1000 ∧ Len r.length S ∧ t.length = r.length ∧ r.length ≤ 1000 ∧ P (.dat (nextD S t r))
def Rg_taking (ds : List D) (P : En → Prop) : Prop := ∃ (xs : D) (S : List (List Nat)) (r : List Nat), ds = [xs, .str r] ∧ Sq xs (S.map D.str) ∧ S.length ≤ 1000 ∧ Len r.length S ∧ r.length ≤ 1000 ∧ ∀ tk t, Run S r tk t → Fin S r t → P (.dat (.tup [.lst (tk.map .str), .str t]))
def Rg_tellers_outside (ds : List D) (P : En → Prop) : Prop := ∃ (xs : D) (S : List (List Nat)) (t : List Nat), ds = [xs, .str t] ∧ Sq xs (S.map D.str) ∧ S.length ≤ 1000 ∧ Len t.length S ∧ t.length ≤ 1000 ∧ P (.own ((S.filter fun s => decide ((0 : Int) < ((outs s t).length : Int))).map .str))
def Rg_comes_to (ds : List D) (P : En → Prop) : Prop := ∃ (xs : D) (S : List (List Nat)) (r : List Nat), ds = [xs, .str r] ∧ Sq xs (S.map D.str) ∧ S.length ≤ 1000 ∧ Len r.length S ∧ r.length ≤ 1000 ∧ ∀ tk t, Run S r tk t → Fin S r t → P (.dat (.bl (decide (t = lotOf r))))
/-- cells and a row of them -/
def CR (cs : List (List Nat × Nat)) (r : List Nat) : Prop := r.length = cs.length ∧ cs.length ≤ 20 ∧ (∀ c ∈ cs, c.2 ≤ 4) ∧ rowOk cs r = true
def Rg_told_lot (ds : List D) (P : En → Prop) : Prop := ∃ (xc xs : D) (cs : List (List Nat × Nat)) (S : List (List Nat)) (r : List Nat), ds = [xc, xs, .str r] ∧ Sq xc (cs.map cellD) ∧ Sq xs (S.map D.str) ∧ CR cs r ∧ S.length ≤ 1000 ∧ Len r.length S ∧ ∀ tk t, Run S r tk t → Fin S r t → P (.dat (.str t))
def Rg_is_made (ds : List D) (P : En → Prop) : Prop := ∃ (xc xs : D) (cs : List (List Nat × Nat)) (S : List (List Nat)) (r : List Nat), ds = [xc, xs, .str r] ∧ Sq xc (cs.map cellD) ∧ Sq xs (S.map D.str) ∧ CR cs r ∧ S.length ≤ 1000 ∧ Len r.length S ∧ ∀ tk t, Run S r tk t → Fin S r t → P (.dat (.bl (decide (t = lotOf r))))

theorem len_is_row (ds P) (h : Rg_is_row ds P) : ds.length = 2 := by unfold Rg_is_row at h; (first | (obtain ⟨_, _, rfl, _⟩ := h; rfl) | (obtain ⟨_, _, _, rfl, _⟩ := h; rfl) | (obtain ⟨_, _, _, _, rfl, _⟩ := h; rfl) | (obtain ⟨_, _, _, _, _, rfl, _⟩ := h; rfl))
theorem len_outside (ds P) (h : Rg_outside ds P) : ds.length = 2 := by unfold Rg_outside at h; (first | (obtain ⟨_, _, rfl, _⟩ := h; rfl) | (obtain ⟨_, _, _, rfl, _⟩ := h; rfl) | (obtain ⟨_, _, _, _, rfl, _⟩ := h; rfl) | (obtain ⟨_, _, _, _, _, rfl, _⟩ := h; rfl))
theorem len_barring (ds P) (h : Rg_barring ds P) : ds.length = 3 := by unfold Rg_barring at h; (first | (obtain ⟨_, _, rfl, _⟩ := h; rfl) | (obtain ⟨_, _, _, rfl, _⟩ := h; rfl) | (obtain ⟨_, _, _, _, rfl, _⟩ := h; rfl) | (obtain ⟨_, _, _, _, _, rfl, _⟩ := h; rfl))
theorem len_can_be_taken (ds P) (h : Rg_can_be_taken ds P) : ds.length = 3 := by unfold Rg_can_be_taken at h; (first | (obtain ⟨_, _, rfl, _⟩ := h; rfl) | (obtain ⟨_, _, _, rfl, _⟩ := h; rfl) | (obtain ⟨_, _, _, _, rfl, _⟩ := h; rfl) | (obtain ⟨_, _, _, _, _, rfl, _⟩ := h; rfl))
theorem len_next_taken (ds P) (h : Rg_next_taken ds P) : ds.length = 3 := by unfold Rg_next_taken at h; (first | (obtain ⟨_, _, rfl, _⟩ := h; rfl) | (obtain ⟨_, _, _, rfl, _⟩ := h; rfl) | (obtain ⟨_, _, _, _, rfl, _⟩ := h; rfl) | (obtain ⟨_, _, _, _, _, rfl, _⟩ := h; rfl))
theorem len_taking (ds P) (h : Rg_taking ds P) : ds.length = 2 := by unfold Rg_taking at h; (first | (obtain ⟨_, _, rfl, _⟩ := h; rfl) | (obtain ⟨_, _, _, rfl, _⟩ := h; rfl) | (obtain ⟨_, _, _, _, rfl, _⟩ := h; rfl) | (obtain ⟨_, _, _, _, _, rfl, _⟩ := h; rfl))
theorem len_tellers_outside (ds P) (h : Rg_tellers_outside ds P) : ds.length = 2 := by unfold Rg_tellers_outside at h; (first | (obtain ⟨_, _, rfl, _⟩ := h; rfl) | (obtain ⟨_, _, _, rfl, _⟩ := h; rfl) | (obtain ⟨_, _, _, _, rfl, _⟩ := h; rfl) | (obtain ⟨_, _, _, _, _, rfl, _⟩ := h; rfl))
theorem len_comes_to (ds P) (h : Rg_comes_to ds P) : ds.length = 2 := by unfold Rg_comes_to at h; (first | (obtain ⟨_, _, rfl, _⟩ := h; rfl) | (obtain ⟨_, _, _, rfl, _⟩ := h; rfl) | (obtain ⟨_, _, _, _, rfl, _⟩ := h; rfl) | (obtain ⟨_, _, _, _, _, rfl, _⟩ := h; rfl))
theorem len_told_lot (ds P) (h : Rg_told_lot ds P) : ds.length = 3 := by unfold Rg_told_lot at h; (first | (obtain ⟨_, _, rfl, _⟩ := h; rfl) | (obtain ⟨_, _, _, rfl, _⟩ := h; rfl) | (obtain ⟨_, _, _, _, rfl, _⟩ := h; rfl) | (obtain ⟨_, _, _, _, _, rfl, _⟩ := h; rfl))
theorem len_is_made (ds P) (h : Rg_is_made ds P) : ds.length = 3 := by unfold Rg_is_made at h; (first | (obtain ⟨_, _, rfl, _⟩ := h; rfl) | (obtain ⟨_, _, _, rfl, _⟩ := h; rfl) | (obtain ⟨_, _, _, _, rfl, _⟩ := h; rfl) | (obtain ⟨_, _, _, _, _, rfl, _⟩ := h; rfl))
section
variable {P : Program} {w : World} {K : PySem.W.Frag} {mg : Str → Option Value} {base : Heap}





end
end Nt

namespace Nt
open PySem PySem.Spec PyProof.Rows L2


theorem nextD_cases (S : List (List Nat)) (t r : List Nat) : (∃ s, nextD S t r = .str s ∧ s ∈ S ∧ canT s t r = true) ∨ (nextD S t r = .non ∧ Fin S r t) := by
  cases h : S.find? (fun s => canT s t r) with
  | none =>
    refine .inr ⟨by unfold nextD; rw [h], fun s hs => ?_⟩
    rw [List.find?_eq_none] at h
    simpa using h s hs
  | some s => exact .inl ⟨s, by unfold nextD; rw [h], List.mem_of_find?_eq_some h, by simpa using List.find?_some h⟩
theorem dots_rep (n : Nat) : dots (List.replicate n 46) = n := by unfold dots; rw [List.count_replicate_self]
theorem run_dots {S : List (List Nat)} {r t : List Nat} {tk : List (List Nat)} (hS : Len r.length S) (h : Run S r tk t) : tk.length + dots t ≤ r.length := by
  induction h with
  | nil => rw [dots_rep]; simp
  | @snoc tk t s h1 hs hc ih =>
    have := ov_lot_dots (by rw [hS s hs, run_len hS h1]) hc
    rw [List.length_append]
    simp
    omega
/-- the lines of a paper -/
def lRow (r : List Nat) : D := .tup [.str [114, 111, 119], .str r]
def lTake (s : List Nat) : D := .tup [.str [116, 97, 107, 101], .str s]
def lMade : D := .tup [.str [109, 97, 100, 101]]
def lBarred : D := .tup [.str [98, 97, 114, 114, 101, 100]]
def isBar (d : D) : Prop := ∃ a b c, d = .tup [a, b, c]
def Rg_come (ds : List D) (P : En → Prop) : Prop := ∃ (xc xs : D) (cs : List (List Nat × Nat)) (S : List (List Nat)) (r : List Nat), ds = [xc, xs, .str r] ∧ Sq xc (cs.map cellD) ∧ Sq xs (S.map D.str) ∧ CR cs r ∧ S.length ≤ 1000 ∧ Len r.length S ∧
  ∀ tk t bs e, Run S r tk t → Fin S r t → (∀ b ∈ bs, isBar b) → e = (if t = lotOf r then lMade else lBarred) → bs.length ≤ 1000 → P (.own (lRow r :: tk.map lTake ++ bs ++ [e]))
theorem len_come (ds P) (h : Rg_come ds P) : ds.length = 3 := by unfold Rg_come at h; obtain ⟨_, _, _, _, _, rfl, _⟩ := h; rfl
section
variable {P : Program} {w : World} {K : PySem.W.Frag} {mg : Str → Option Value} {base : Heap}
/-- a call of taking, unpacked -/
theorem t_taking {i j : Nat} {te : TE} {ρ : List En} {p : Ps} {S : List (List Nat)} {r : List Nat} (h : EV te ρ (fun e => ∃ tk t, e = .dat (.tup [.lst (tk.map .str), .str t]) ∧ Run S r tk t ∧ Fin S r t))
    (k : ∀ tk t, Run S r tk t → Fin S r t → p.N ((ρ.set i (.dat (.lst (tk.map .str)))).set j (.dat (.str t)))) : TT' (tAsg te (gTup K 2 (gCons (gName i) (gCons (gName j) gNil)))) ρ p :=
  t_unp (Q2 := fun x y => ∃ tk t, x = .lst (tk.map .str) ∧ y = .str t ∧ Run S r tk t ∧ Fin S r t) (h.ed fun e ⟨tk, t, e1, h1, h2⟩ => ⟨.tup [.lst (tk.map .str), .str t], by rw [e1]; rfl, _, _, rfl, tk, t, rfl, rfl, h1, h2⟩) fun x y ⟨tk, t, e1, e2, h1, h2⟩ => by rw [e1, e2]; exact k tk t h1 h2
/-- paper.extend(xs) -/
theorem t_ext {i : Nat} {ds es : List D} {te : TE} {ρ : List En} {p : Ps} (h : ρ[i]? = some (.own ds)) (he : EV te ρ (· = .own es)) (hl : ds.length + es.length ≤ 100000) (k : p.N (ρ.set i (.own (ds ++ es)))) : TT' (tDrop (tBM K "list" rExtend (tVar i) (tCons te tNil))) ρ p := fun W0 W σ E Dd nx rt bk ct => by
  obtain ⟨l, vs, hv, h1, _⟩ := E.mut (ds' := []) h
  refine ⟨.ref l, hv, .inl ⟨rfl, _, sq_l h1⟩, ?_⟩
  refine he W0 W σ E _ fun v e W1 g1 r1 pe => ?_
  subst pe
  obtain ⟨l2, ws, rfl, h2, _, _, r2⟩ := r1
  obtain ⟨l', vs', hv', h1', _, r', z⟩ := (E.grow g1).mut (ds' := ds ++ es) h
  rw [hv] at hv'
  cases hv'
  obtain ⟨W2, e1, e2, E2⟩ := z (vs' ++ ws) (r'.app r2)
  refine ⟨l, l2, vs', ws, rfl, rfl, h1', h2, Evl.sz_of (by rw [r'.len, r2.len]; exact hl), ?_⟩
  rw [← e2]
  exact nx σ W2 _ E2 (by rw [e1]; exact g1.b) k






end
end Nt

namespace Nt
open PySem PySem.Spec PyProof.Rows L2


/-! ### the draws -/
def Rg_law_bagL (K : PySem.W.Frag) (ds : List D) (P : En → Prop) : Prop := ∃ (ns : List Int), ds = [.scr K ns] ∧ ns.length ≤ 63 ∧ ∀ m : Int, 0 ≤ m → m < 2147483648 → P (.own [.lst (ns.map .int), .int 0, .int 0, .int m, .int 0])
def Rg_law_bag (K : PySem.W.Frag) (ds : List D) (P : En → Prop) : Prop := ∃ (ns : List Int), ds = [.scr K ns] ∧ ns.length ≤ 63 ∧ P (.dat .bag)
theorem len_law_bag {K} (ds P) (h : Rg_law_bagL K ds P) : ds.length = 1 := by unfold Rg_law_bagL at h; obtain ⟨_, rfl, _⟩ := h; rfl
theorem len_law_bag' {K} (ds P) (h : Rg_law_bag K ds P) : ds.length = 1 := by unfold Rg_law_bag at h; obtain ⟨_, rfl, _⟩ := h; rfl
theorem fmod_lt {i j : Int} (h : 0 < j) : 0 ≤ i.fmod j ∧ i.fmod j < j := ⟨Int.fmod_nonneg_of_pos i h, Int.fmod_lt_of_pos i h⟩
theorem cut63 {α : Type} {ns : List α} (h : ns.length ≤ 63) : cutN ns none (some 63) = ns := by
  have e : (63 : Int) = ((63 : Nat) : Int) := rfl
  unfold cutN
  rw [HT.sIx_none, e, HT.sIx_nat, List.drop_zero, Nat.sub_zero]
  exact List.take_of_length_le (by omega)
def spDrawL : Sp := fun vs H Q _ => ∃ (b c : Addr) (k i r m n : Int) (ns : List Int), vs = [.ref b, .int k] ∧ H b = some (bagL c i r m n) ∧ H c = some (.lst (ns.map .int)) ∧ 1 ≤ k ∧ k.natAbs.log2 < 9000 ∧ 0 ≤ i ∧ 0 ≤ r ∧ 0 ≤ m ∧ m < 2147483648 ∧
  ∀ j i' r' m' n', 0 ≤ j → j < k → 0 ≤ i' → 0 ≤ r' → 0 ≤ m' → m' < 2147483648 → Q (.int j) (upd H b (bagL c i' r' m' n'))
theorem len_law_drawL {vs : List V} {H : Hp} {Q : VK} {E : XK} (h : spDrawL vs H Q E) : vs.length = 2 := by obtain ⟨_, _, _, _, _, _, _, _, rfl, _⟩ := h; rfl
theorem upd_upd {H : Hp} {b : Addr} {x y : HO} : upd (upd H b x) b y = upd H b y := by
  funext a
  by_cases e : a = b
  · rw [e, upd_same, upd_same]
  · rw [upd_ne e, upd_ne e, upd_ne e]
/-! values that leave the heap as it is -/
def Vl (te : TE) (σ : L2.St) (H : Hp) (v : V) : Prop := ∀ Q : VK, Q v H → te σ H Q
def Vt (te : TT) (σ : L2.St) (H : Hp) (v : Bool) : Prop := ∀ Q : Bool → Hp → Prop, Q v H → te σ H Q
section
variable {K : PySem.W.Frag} {σ : L2.St} {H : Hp} {ta tb : TE} {tt tu : TT} {i j : Int} {v : V}
theorem vl_var {k : Nat} (h : σ[k]? = some (some v)) : Vl (tVar k) σ H v := fun Q q => ⟨v, h, q⟩
theorem vl_c : Vl (tC v) σ H v := fun Q q => q
theorem vl_add (ha : Vl ta σ H (.int i)) (hb : Vl tb σ H (.int j)) : Vl (tOp rPlus ta tb) σ H (.int (i + j)) := fun Q q => ha _ (hb _ (.inl ⟨i, j, rfl, rfl, q⟩))
theorem vl_mul (ha : Vl ta σ H (.int i)) (hb : Vl tb σ H (.int j)) (h : CMulW i j) : Vl (tOp rTimes ta tb) σ H (.int (i * j)) := fun Q q => ha _ (hb _ (.inl ⟨i, j, rfl, rfl, h, q⟩))
theorem vl_mulN (ha : Vl ta σ H (.int i)) (hb : Vl tb σ H (.int j)) (h : CMul i j) : Vl (tOp rTimes ta tb) σ H (.int (i * j)) := fun Q q => ha _ (hb _ (.inr (.inr ⟨i, j, rfl, rfl, h, q⟩)))
theorem vl_mod (ha : Vl ta σ H (.int i)) (hb : Vl tb σ H (.int j)) (h : j ≠ 0) : Vl (tOp (rI (fun _ j => j ≠ 0) fun i j => .int (i.fmod j)) ta tb) σ H (.int (i.fmod j)) := fun Q q => ha _ (hb _ ⟨i, j, rfl, rfl, h, q⟩)
theorem vl_div (ha : Vl ta σ H (.int i)) (hb : Vl tb σ H (.int j)) (h : CDivW i j) : Vl (tOp (rI CDivW fun i j => .int (i / j)) ta tb) σ H (.int (i / j)) := fun Q q => ha _ (hb _ ⟨i, j, rfl, rfl, h, q⟩)
theorem vl_pow (ha : Vl ta σ H (.int i)) (hb : Vl tb σ H (.int j)) (h : CPow i j) : Vl (tOp (rI CPow fun i j => .int (i ^ j.toNat)) ta tb) σ H (.int (i ^ j.toNat)) := fun Q q => ha _ (hb _ ⟨i, j, rfl, rfl, h, q⟩)
theorem vl_int (ha : Vl ta σ H (.int i)) : Vl (tCB rIntI (tCons ta tNil)) σ H (.int i) := fun Q q => ha _ (.inl ⟨i, rfl, q⟩)
theorem vl_abs (ha : Vl ta σ H (.int i)) : Vl (tCB rAbsI (tCons ta tNil)) σ H (.int (if i < 0 then -i else i)) := fun Q q => ha _ ⟨i, rfl, q⟩
theorem vl_ix {b : Addr} {xs : List V} {k : Nat} (ha : Vl ta σ H (.ref b)) (hb : Vl tb σ H (.int k)) (h : H b = some (.lst xs)) (hx : xs[k]? = some v) : Vl (tOp (rIx K) ta tb) σ H v := fun Q q => ha _ (hb _ (.inl ⟨b, xs, k, v, rfl, rfl, sq_l h, atI_nat hx, q⟩))
theorem vl_len {b : Addr} {xs : List V} (ha : Vl ta σ H (.ref b)) (h : H b = some (.lst xs)) : Vl (tCB (rLenU K) (tCons ta tNil)) σ H (.int xs.length) := fun Q q => ha _ (.inl ⟨b, xs, rfl, .inl (sq_l h), q⟩)
theorem vt_eq (ha : Vl ta σ H (.int i)) (hb : Vl tb σ H (.int j)) : Vt (tTest (tOp (rEqU K) ta tb)) σ H (decide (i = j)) := fun Q q => ha _ (hb _ (.inl ⟨rfl, _, rfl, by
  have e : decide (V.int i = V.int j) = decide (i = j) := decide_eq_decide.mpr ⟨V.int.inj, congrArg _⟩
  rw [e]; exact q⟩))
theorem vt_lt (ha : Vl ta σ H (.int i)) (hb : Vl tb σ H (.int j)) : Vt (tTest (tOp (rI0 fun i j => .bl (decide (i < j))) ta tb)) σ H (decide (i < j)) := fun Q q => ha _ (hb _ ⟨i, j, rfl, rfl, _, rfl, q⟩)
theorem vt_gt (ha : Vl ta σ H (.int i)) (hb : Vl tb σ H (.int j)) : Vt (tTest (tOp (rI0 fun i j => .bl (decide (j < i))) ta tb)) σ H (decide (j < i)) := fun Q q => ha _ (hb _ ⟨i, j, rfl, rfl, _, rfl, q⟩)
theorem vt_ge (ha : Vl ta σ H (.int i)) (hb : Vl tb σ H (.int j)) : Vt (tTest (tOp (rI0 fun i j => .bl (decide (j ≤ i))) ta tb)) σ H (decide (j ≤ i)) := fun Q q => ha _ (hb _ ⟨i, j, rfl, rfl, _, rfl, q⟩)
theorem vt_and {a b : Bool} (h1 : Vt tt σ H a) (h2 : Vt tu σ H b) : Vt (tAnd tt tu) σ H (a && b) := fun Q q => h1 _ (by
  cases a with
  | true => exact iteT (h2 _ q)
  | false => exact iteF q)
/-- b[k] = v -/
theorem st_set {te : TE} {b : Addr} {xs : List V} {k : Nat} {D : Ends} (ha : Vl te σ H v) (ho : Vl ta σ H (.ref b)) (hi : Vl tb σ H (.int k)) (h : H b = some (.lst xs)) (hk : k < xs.length) (q : D.nx σ (upd H b (.lst (xs.set k v)))) : tAsg te (gSub ta tb rSetL) D σ H := by
  refine ha _ (ho _ (hi _ ⟨b, xs, k, k, rfl, rfl, h, ?_, q⟩))
  unfold ixN
  rw [if_pos (by omega), if_pos (by omega)]
  simp
theorem st_name {te : TE} {k : Nat} {D : Ends} (ha : Vl te σ H v) (q : D.nx (σ.set k (some v)) H) : tAsg te (gName k) D σ H := ha _ q
theorem st_if {a : Bool} {t u : TS} {D : Ends} (h : Vt tt σ H a) (h1 : a = true → t D σ H) (h2 : a = false → u D σ H) : tIfS tt t u D σ H := h _ (by
  cases a with
  | true => exact iteT (h1 rfl)
  | false => exact iteF (h2 rfl))
end
theorem mulS {i j : Int} {a b : Nat} (h0 : 0 ≤ i) (h1 : i < 2 ^ a) (g0 : 0 ≤ j) (g1 : j < 2 ^ b) (ha : 0 < a) (hb : 0 < b) (h : a + b ≤ 1000000) : CMulW i j := by
  have e1 : ((2 ^ a : Nat) : Int) = 2 ^ a := by rw [Int.natCast_pow]; rfl
  have e2 : ((2 ^ b : Nat) : Int) = 2 ^ b := by rw [Int.natCast_pow]; rfl
  exact wide_mul (a := a) (b := b) (by omega) (by omega) ha hb h
section
variable {P : Program} {w : World} {K : PySem.W.Frag} {mg : Str → Option Value} {base : Heap}
theorem ok_law_bagL (T : Txt K mg)  : FnOk P w K mg base CX0 1 T.a_law_bag T.d_law_bag ["_law_script"] (SpE (Rg_law_bagL K)) := by
  refine T.F_law_bag.ok sc_law_bag (fun vs H Q E h => spE_len h len_law_bag) (fun cdv A outer s H vs Q E hr h => ?_)
  have hu := hu64 hr
  have hvl : vs.length = 1 := spE_len h len_law_bag
  refine ⟨_, (pss_cons (ps_set (i := 1) sc_law_bag.nd rfl (Or.inl rfl) pe_int) (pss_cons (ps_for PassesOwn.never rfl (pi_listK (K := K) rfl (pe_slice (sl_K (K := K) rfl) (pv 0) po_none (po_some pe_int))) (pg_name (i := 2) sc_law_bag.nd rfl (Or.inl rfl)) (pss_one (ps_set (i := 1) sc_law_bag.nd rfl (Or.inl rfl) (pe_op op_modN (pe_callTy call_intI (by rfl) T.n_int (by decide +kernel) (pa_cons (pe_op op_plus (pe_op op_plus (pe_op op_times (pv 1) pe_int) (pe_op op_times (pe_op op_modN (pe_callTy call_intI (by rfl) T.n_int (by decide +kernel) (pa_cons (pv 2) pa_nil)) pe_int) pe_int)) pe_int) pa_nil)) pe_int)))) (pss_one (ps_ret (pe_lst (pa_cons (pe_callTy (call_listK (K := K) rfl) (by rfl) T.n_list (by decide +kernel) (pa_cons (pe_slice (sl_K (K := K) rfl) (pv 0) po_none (po_some pe_int)) pa_nil)) (pa_cons pe_int (pa_cons pe_int (pa_cons (pv 1) (pa_cons pe_int pa_nil)))))))))), fn_body h (by rw [hvl]; decide) (fun ds R hR hl => ?_)⟩
  obtain ⟨ns, rfl, hn, q⟩ := hR
  refine q_asg1 e_int ?_
  refine t_seq (M := fun ρ' => ∃ m x, ρ' = [.dat (.scr K ns), .dat (.int m), x] ∧ 0 ≤ m ∧ m < 2147483648) (t_for1 (iv_list1 (EV.o1 (e_sl (e_var rfl) eo_none (eo_part e_int) sd_scr))) (fun ds i ρ' => ∃ m x, ρ' = [.dat (.scr K ns), .dat (.int m), x] ∧ 0 ≤ m ∧ m < 2147483648) (fun ds e => ⟨42012, .un, rfl, by decide, by decide⟩) (fun ds i d ρ' e hd inv => ?_) (fun ds ρ' e h => h)) fun ρ' hm => ?_
  · subst e
    obtain ⟨m, x, rfl, h0, h1⟩ := inv
    obtain ⟨z, hz, rfl⟩ := map_get hd
    refine t_asgd (e_opd (EV.d1 (e_cb1 (ea_c (e_opd (e_opd (e_opd (e_var rfl) e_int (od_mulI (mulS (a := 31) (b := 16) h0 (by omega) (by decide) (by decide) (by decide) (by decide) (by decide)))) (e_opd (e_opd (EV.d1 (e_cb1 (ea_c (e_var rfl) ea_nil) cd_int)) e_int (od_modI (by decide))) e_int (od_mulI (mulS (a := 20) (b := 10) (fmod_lt (by decide)).1 (by have := (fmod_lt (i := z) (j := 999983) (by decide)).2; omega) (by decide) (by decide) (by decide) (by decide) (by decide)))) od_addI) e_int od_addI) ea_nil) cd_int)) e_int (od_modI (by decide))) fun d hd => ?_
    subst hd
    exact ⟨_, _, rfl, (fmod_lt (by decide)).1, by have := (fmod_lt (i := m * 40692 + z.fmod 999983 * 617 + 71) (j := 2147483399) (by decide)).2; omega⟩
  · obtain ⟨m, x, rfl, h0, h1⟩ := hm
    refine t_ret (e_lst1 (ds := [.lst (ns.map .int), .int 0, .int 0, .int m, .int 0]) (ea_c (EV.o1 ((e_cb1 (ea_c (EV.o1 (e_sl (e_var rfl) eo_none (eo_part e_int) sd_scr)) ea_nil) cd_list).imp fun e he => ?_)) (ea_c e_int (ea_c e_int (ea_c (e_var rfl) (ea_c e_int ea_nil))))) (by simp)) fun e he => by rw [he]; exact q m h0 h1
    rw [he, cut63 hn]

theorem ok_law_drawL (T : Txt K mg) : FnOk P w K mg base CX0 1 T.a_law_draw T.d_law_draw ["_law_bag_here", "_law_sides"] spDrawL := by
  refine T.F_law_draw.ok sc_law_draw (fun vs H Q E h => len_law_drawL h) (fun cdv A outer s H vs Q E hr h => ?_)
  have hu := hu64 hr
  refine ⟨_, (pss_cons (ps_asg (pe_op op_plus (pe_ix (ix_K (K := K) rfl) (pv 0) pe_int (fun _ _ => rfl)) pe_int) (pg_sub (pv 0) pe_int set_list)) (Evl.pss_cut (ps_if (PW.pt (pw_and (pt_cmpR (op_eqK (K := K) rfl hu) (pe_ix (ix_K (K := K) rfl) (pv 0) pe_int (fun _ _ => rfl)) pe_int (nomark _)) (pw_and1 (pt_cmpR op_lt (pe_ix (ix_K (K := K) rfl) (pv 0) pe_int (fun _ _ => rfl)) (pe_callB (call_lenK (K := K) rfl) (by rfl) T.n_len (by decide +kernel) (pa_cons (pe_ix (ix_K (K := K) rfl) (pv 0) pe_int (fun _ _ => rfl)) pa_nil)) (nomark _))))) (pss_cons (ps_set (i := 2) sc_law_draw.nd rfl (Or.inl rfl) (pe_callB call_absI (by rfl) T.n_abs (by decide +kernel) (pa_cons (pe_callTy call_intI (by rfl) T.n_int (by decide +kernel) (pa_cons (pe_ix (ix_K (K := K) rfl) (pe_ix (ix_K (K := K) rfl) (pv 0) pe_int (fun _ _ => rfl)) (pe_ix (ix_K (K := K) rfl) (pv 0) pe_int (fun _ _ => rfl)) (fun _ _ => rfl)) pa_nil)) pa_nil))) (pss_cons (ps_asg (pe_op op_plus (pe_ix (ix_K (K := K) rfl) (pv 0) pe_int (fun _ _ => rfl)) pe_int) (pg_sub (pv 0) pe_int set_list)) (pss_one (ps_if (pt_cmpR op_ge (pv 2) (pe_op op_pow pe_int pe_int) (nomark _)) (pss_one (ps_asg (pv 2) (pg_sub (pv 0) pe_int set_list))) (pss_one (ps_asg (pe_op op_modN (pe_callTy call_intI (by rfl) T.n_int (by decide +kernel) (pa_cons (pe_op op_plus (pe_op op_plus (pe_op op_times (pe_ix (ix_K (K := K) rfl) (pv 0) pe_int (fun _ _ => rfl)) pe_int) (pe_op op_times (pe_op op_modN (pv 2) pe_int) pe_int)) pe_int) pa_nil)) pe_int) (pg_sub (pv 0) pe_int set_list))))))) pss_nil) (pss_cons (ps_if (pt_cmpR op_gt (pe_ix (ix_K (K := K) rfl) (pv 0) pe_int (fun _ _ => rfl)) pe_int (nomark _)) (pss_cons (ps_set (i := 3) sc_law_draw.nd rfl (Or.inl rfl) (pe_op op_modN (pe_callTy call_intI (by rfl) T.n_int (by decide +kernel) (pa_cons (pe_ix (ix_K (K := K) rfl) (pv 0) pe_int (fun _ _ => rfl)) pa_nil)) (pv 1))) (pss_cons (ps_asg (pe_op op_fdivW (pe_ix (ix_K (K := K) rfl) (pv 0) pe_int (fun _ _ => rfl)) (pv 1)) (pg_sub (pv 0) pe_int set_list)) (pss_one (ps_ret (pv 3))))) pss_nil) (pss_cons (ps_set (i := 4) sc_law_draw.nd rfl (Or.inl rfl) (pe_callTy call_intI (by rfl) T.n_int (by decide +kernel) (pa_cons (pe_ix (ix_K (K := K) rfl) (pv 0) pe_int (fun _ _ => rfl)) pa_nil))) (pss_cons (ps_asg (pe_op op_modN (pe_callTy call_intI (by rfl) T.n_int (by decide +kernel) (pa_cons (pe_op op_plus (pe_op op_plus (pe_op op_plus (pe_op op_times (pe_op op_times (pv 4) (pv 4)) pe_int) (pe_op op_times (pv 4) pe_int)) (pe_op op_times (pe_ix (ix_K (K := K) rfl) (pv 0) pe_int (fun _ _ => rfl)) pe_int)) pe_int) pa_nil)) pe_int) (pg_sub (pv 0) pe_int set_list)) (pss_one (ps_ret (pe_op op_modN (pe_callTy call_intI (by rfl) T.n_int (by decide +kernel) (pa_cons (pe_op op_plus (pe_op op_fdivW (pe_ix (ix_K (K := K) rfl) (pv 0) pe_int (fun _ _ => rfl)) pe_int) (pe_op op_times (pe_op op_modN (pe_callTy call_intI (by rfl) T.n_int (by decide +kernel) (pa_cons (pe_ix (ix_K (K := K) rfl) (pv 0) pe_int (fun _ _ => rfl)) pa_nil)) pe_int) pe_int)) pa_nil)) (pv 1))))))))), ?_⟩
  obtain ⟨b, c, k, i, r, m, n, ns, rfl, hb, hc, hk, hk2, h1, h2, h3, h4, q⟩ := h
  have hbc : c ≠ b := fun e => by
    rw [e, hb] at hc
    have h5 := HO.lst.inj (Option.some.inj hc)
    cases ns with
    | nil => cases h5
    | cons z ns => cases h5
  have hcu : ∀ {o : HO}, (upd H b o) c = some (.lst (ns.map .int)) := by intro o; rw [upd_ne hbc]; exact hc
  -- bag[4] = bag[4] + 1
  refine st_set (k := 4) (vl_add (vl_ix (k := 4) (vl_var rfl) vl_c hb rfl) vl_c) (vl_var rfl) vl_c hb (show 4 < 5 by decide) ?_
  -- the first if
  refine ⟨fun σ' H' => ∃ i' r' m' n' x2, σ' = [some (.ref b), some (.int k), x2, none, none] ∧ H' = upd H b (bagL c i' r' m' n') ∧ 0 ≤ i' ∧ 0 ≤ r' ∧ 0 ≤ m' ∧ m' < 2147483648, ?_, fun σ' H' hm => ?_⟩
  · refine st_if (vt_and (vt_eq (vl_ix (k := 2) (vl_var rfl) vl_c upd_same rfl) vl_c) (vt_lt (vl_ix (k := 1) (vl_var rfl) vl_c upd_same rfl) (vl_len (vl_ix (k := 0) (vl_var rfl) vl_c upd_same rfl) hcu))) (fun e => ?_) (fun e => ?_)
    · rw [Bool.and_eq_true, decide_eq_true_eq, decide_eq_true_eq, List.length_map] at e
      have hil : i.toNat < ns.length := by omega
      have hiN : ((i.toNat : Nat) : Int) = i := by omega
      have hz : (ns.map V.int)[i.toNat]? = some (.int ns[i.toNat]) := by rw [List.getElem?_map, List.getElem?_eq_getElem hil]; rfl
      refine st_name (vl_abs (vl_int (vl_ix (k := i.toNat) (vl_ix (k := 0) (vl_var rfl) vl_c upd_same rfl) (by rw [hiN]; exact vl_ix (k := 1) (vl_var rfl) vl_c upd_same rfl) hcu hz))) ?_
      generalize hp : (if ns[i.toNat] < 0 then -ns[i.toNat] else ns[i.toNat]) = p
      have hp0 : 0 ≤ p := by rw [← hp]; split <;> omega
      refine st_set (k := 1) (vl_add (vl_ix (k := 1) (vl_var rfl) vl_c upd_same rfl) vl_c) (vl_var rfl) vl_c upd_same (show 1 < 5 by decide) ?_
      rw [upd_upd]
      refine st_if (vt_ge (vl_var rfl) (vl_pow vl_c vl_c ⟨by decide, by decide, by decide⟩)) (fun e2 => ?_) (fun e2 => ?_)
      · refine st_set (k := 2) (vl_var rfl) (vl_var rfl) vl_c upd_same (show 2 < 5 by decide) ?_
        rw [upd_upd]
        exact ⟨i + 1, p, m, n + 1, _, rfl, rfl, by omega, hp0, h3, h4⟩
      · have f1 := fmod_lt (i := p) (j := 999983) (by decide)
        refine st_set (k := 3) (vl_mod (vl_int (vl_add (vl_add (vl_mul (vl_ix (k := 3) (vl_var rfl) vl_c upd_same rfl) vl_c (mulS (a := 31) (b := 16) h3 (by omega) (by decide) (by decide) (by decide) (by decide) (by decide))) (vl_mul (vl_mod (vl_var rfl) vl_c (by decide)) vl_c (mulS (a := 20) (b := 10) f1.1 (by omega) (by decide) (by decide) (by decide) (by decide) (by decide)))) vl_c)) vl_c (by decide)) (vl_var rfl) vl_c upd_same (show 3 < 5 by decide) ?_
        rw [upd_upd]
        have f2 := fmod_lt (i := m * 39373 + p.fmod 999983 * 823 + 37) (j := 2147483563) (by decide)
        exact ⟨i + 1, r, _, n + 1, _, rfl, rfl, by omega, h2, f2.1, by omega⟩
    · exact ⟨i, r, m, n + 1, none, rfl, rfl, h1, h2, h3, h4⟩
  · obtain ⟨i', r', m', n', x2, rfl, rfl, g1, g2, g3, g4⟩ := hm
    refine st_if (vt_gt (vl_ix (k := 2) (vl_var rfl) vl_c upd_same rfl) vl_c) (fun e => ?_) (fun e => ?_)
    · have f1 := fmod_lt (i := r') (j := k) (by omega)
      have hne : k ≠ 0 := by omega
      have hdv : 0 ≤ r' / k := Int.ediv_nonneg g2 (by omega)
      refine st_name (vl_mod (vl_int (vl_ix (k := 2) (vl_var rfl) vl_c upd_same rfl)) (vl_var rfl) hne) ?_
      refine st_set (k := 2) (vl_div (vl_ix (k := 2) (vl_var rfl) vl_c upd_same rfl) (vl_var rfl) ⟨by omega, hk2⟩) (vl_var rfl) vl_c upd_same (show 2 < 5 by decide) ?_
      rw [upd_upd]
      exact vl_var rfl _ (q _ i' (r' / k) m' n' f1.1 f1.2 g1 hdv g3 g4)
    · refine st_name (vl_int (vl_ix (k := 3) (vl_var rfl) vl_c upd_same rfl)) ?_
      have hm2 : 0 ≤ m' * m' := Int.mul_nonneg g3 g3
      have hm3 : m' * m' < 2 ^ 62 := by
        have : m' * m' ≤ 2147483647 * 2147483647 := Int.mul_le_mul (by omega) (by omega) g3 (by decide)
        omega
      refine st_set (k := 3) (vl_mod (vl_int (vl_add (vl_add (vl_add (vl_mul (vl_mul (vl_var rfl) (vl_var rfl) (mulS (a := 31) (b := 31) g3 (by omega) g3 (by omega) (by decide) (by decide) (by decide))) vl_c (mulS (a := 62) (b := 5) hm2 hm3 (by decide) (by decide) (by decide) (by decide) (by decide))) (vl_mul (vl_var rfl) vl_c (mulS (a := 31) (b := 16) g3 (by omega) (by decide) (by decide) (by decide) (by decide) (by decide)))) (vl_mulN (vl_ix (k := 4) (vl_var rfl) vl_c upd_same rfl) vl_c (.inr ⟨by decide, by decide⟩))) vl_c)) vl_c (by decide)) (vl_var rfl) vl_c upd_same (show 3 < 5 by decide) ?_
      rw [upd_upd]
      have f2 := fmod_lt (i := m' * m' * 23 + m' * 46021 + n' * 104729 + 60013) (j := 2147483543) (by decide)
      generalize (m' * m' * 23 + m' * 46021 + n' * 104729 + 60013).fmod 2147483543 = m2 at f2
      have f3 := fmod_lt (i := m2) (j := 8009) (by decide)
      have hkz : k ≠ 0 := by omega
      have f4 := fun x => fmod_lt (i := x) (j := k) (by omega)
      refine vl_mod (vl_int (vl_add (vl_div (vl_ix (k := 3) (vl_var rfl) vl_c upd_same rfl) vl_c ⟨by decide, by decide⟩) (vl_mul (vl_mod (vl_int (vl_ix (k := 3) (vl_var rfl) vl_c upd_same rfl)) vl_c (by decide)) vl_c (mulS (a := 13) (b := 6) f3.1 (by omega) (by decide) (by decide) (by decide) (by decide) (by decide))))) (vl_var rfl) hkz _ ?_
      exact q _ i' r' m2 n' (f4 _).1 (f4 _).2 g1 g2 f2.1 (by omega)


theorem ints_of {H : Hp} : ∀ {ns : List Int} {vs : List V}, Reps H (ns.map D.int) vs → vs = ns.map V.int
  | [], _, .nil => rfl
  | n :: ns, _, .cons h r => by cases h; rw [ints_of r]; rfl
theorem Rty.refl (H : Hp) : Rty H H := ⟨fun _ h => h, fun _ _ h => h, fun _ _ _ h => h, fun _ _ h => h⟩
theorem ok_law_bag (T : Txt K mg) : FnOk P w K mg base CX0 1 T.a_law_bag T.d_law_bag ["_law_script"] (SpE (Rg_law_bag K)) := by
  refine fn_rty (ok_law_bagL T) (fun vs H Q E h => spE_len h len_law_bag') fun vs H Q E hp h ok => ?_
  obtain ⟨W, ds, P1, rfl, r, ⟨ns, rfl, hn, q⟩, k⟩ := h
  refine ⟨W.h, Rty.refl _, ok, W, _, fun e => ∃ m : Int, 0 ≤ m ∧ m < 2147483648 ∧ e = .own [.lst (ns.map .int), .int 0, .int 0, .int m, .int 0], rfl, r, ⟨ns, rfl, hn, fun m h0 h1 => ⟨m, h0, h1, rfl⟩⟩, fun v e W' g rv pe hp' ok' => ?_⟩
  obtain ⟨m, h0, h1, rfl⟩ := pe
  obtain ⟨l, vs', rfl, e1, e2, e3, e4⟩ := rv
  cases e4 with
  | cons ra e4 => cases e4 with
    | cons rb e4 => cases e4 with
      | cons rc e4 => cases e4 with
        | cons rd e4 => cases e4 with
          | cons re e4 =>
            cases e4
            cases rb; cases rc; cases rd; cases re
            cases ra with
            | lst hc rc =>
              rename_i c ws
              have hw := ints_of rc
              subst hw
              obtain ⟨t, ok2⟩ := bag_in ok' e1 (Int.le_refl 0) (Int.le_refl 0) h0 h1
              refine ⟨_, t, ok2, ?_⟩
              have hcl : c ≠ l := fun z => by rw [z, e2] at hc; cases hc
              exact k (.ref l) (.dat .bag) ⟨upd W'.b l (bagO l c), upd W'.h l (bagO l c), W'.le.two⟩ ⟨g.b.tr (Ex.nw e2), fun a o e => by
                show upd W'.h l _ a = some o
                rw [upd_ne (ne_of_none e e3)]; exact g.h _ _ e, fun a q1 q2 => by
                show upd W'.b l _ a = none
                rw [upd_ne (fun z => q2 (by rw [z]; exact e3))]; exact g.nw a q1 q2⟩ (.bag upd_same (by
                show upd W'.b l _ c = _
                rw [upd_ne hcl]; exact hc) hn) q
def Rg_law_draw (ds : List D) (P : En → Prop) : Prop := ∃ k : Int, ds = [.bag, .int k] ∧ 1 ≤ k ∧ k.natAbs.log2 < 9000 ∧ ∀ j, 0 ≤ j → j < k → P (.dat (.int j))
theorem len_law_draw (ds P) (h : Rg_law_draw ds P) : ds.length = 2 := by unfold Rg_law_draw at h; obtain ⟨_, rfl, _⟩ := h; rfl
theorem ok_law_draw (T : Txt K mg) : FnOk P w K mg base CX0 1 T.a_law_draw T.d_law_draw ["_law_bag_here", "_law_sides"] (SpE Rg_law_draw) := by
  refine fn_rty (ok_law_drawL T) (fun vs H Q E h => spE_len h len_law_draw) fun vs H Q E hp h ok => ?_
  obtain ⟨W, ds, P1, rfl, r, ⟨k, rfl, hk, hk2, q⟩, kk⟩ := h
  cases r with
  | cons ra r => cases r with
    | cons rb r =>
      cases r
      cases rb
      cases ra with
      | bag hb hc hn =>
        rename_i b c ns
        obtain ⟨i, r, m, n, h1, h2, h3, h4, t, ok1⟩ := bag_out ok (W.le _ _ hb)
        have hcb : c ≠ b := fun z => by
          rw [z, hb] at hc
          exact bag_ne (u := .lst (ns.map V.int)) (fun _ z => nomatch z) (Option.some.inj hc)
        refine ⟨_, t, ok1, b, c, k, i, r, m, n, ns, rfl, upd_same, by rw [upd_ne hcb]; exact W.le _ _ hc, hk, hk2, h1, h2, h3, h4, fun j i' r' m' n' j0 j1 a1 a2 a3 a4 hp' ok' => ?_⟩
        obtain ⟨t2, ok2⟩ := bag_in ok' upd_same a1 a2 a3 a4
        refine ⟨_, t2, ok2, ?_⟩
        have e : upd (upd (upd W.h b (bagL c i r m n)) b (bagL c i' r' m' n')) b (bagO b c) = W.h := by
          rw [upd_upd, upd_upd]
          funext a
          by_cases z : a = b
          · rw [z, upd_same, W.le _ _ hb]
          · rw [upd_ne z]
        rw [e]
        exact kk (.int j) (.dat (.int j)) W (Grow.refl W) (.int j) (q j j0 j1)
/-- things that are drawn from -/
inductive Src : D → List D → Prop where
  | lst (ds : List D) : Src (.lst ds) ds
  | str (s : List Nat) : Src (.str s) (chs s)
def Rg_law_of (ds : List D) (P : En → Prop) : Prop := ∃ (x : D) (xs : List D), ds = [.bag, x] ∧ Src x xs ∧ 1 ≤ xs.length ∧ xs.length ≤ 1000 ∧ ∀ d ∈ xs, P (.dat d)
theorem len_law_of (ds P) (h : Rg_law_of ds P) : ds.length = 2 := by unfold Rg_law_of at h; obtain ⟨_, _, rfl, _⟩ := h; rfl
theorem log_small {n : Nat} (h : n ≤ 1000) : ((n : Int)).natAbs.log2 < 9000 := by
  rw [Int.natAbs_natCast]
  have := Nat.log2_le_self n
  omega

theorem ok_law_of (T : Txt K mg) (G_law_draw : FnOk P w K mg base CX0 1 T.a_law_draw T.d_law_draw ["_law_bag_here", "_law_sides"] (SpE Rg_law_draw)) : FnOk P w K mg base CX0 2 T.a_law_of T.d_law_of ["_law_bag_here", "_law_things"] (SpE Rg_law_of) := by
  refine T.F_law_of.ok sc_law_of (fun vs H Q E h => spE_len h len_law_of) (fun cdv A outer s H vs Q E hr h => ?_)
  have hu := hu64 hr
  have hvl : vs.length = 2 := spE_len h len_law_of
  refine ⟨_, (pss_one (ps_ret (pe_ix (ix_K (K := K) rfl) (pv 1) (pe_call G_law_draw (hr.mono (by decide)) (by rfl) T.g_law_draw T.F_law_draw.kp (b_law_draw T) .nil pass0 (pa_cons (pv 0) (pa_cons (pe_callB (call_lenK (K := K) rfl) (by rfl) T.n_len (by decide +kernel) (pa_cons (pv 1) pa_nil)) pa_nil))) (fun _ _ => rfl)))), fn_body h (by rw [hvl]; decide) (fun ds R hR hl => ?_)⟩
  obtain ⟨x, xs, rfl, hx, h1, h2, q⟩ := hR
  have hlen : CD (rLenU K) [x] (· = .dat (.int (xs.length : Nat))) := by
    cases hx with
    | lst => exact cd_lenL
    | str s =>
      have e : (chs s).length = s.length := by simp [chs]
      rw [e] at h2 ⊢
      exact cd_lenS (by omega)
  refine t_ret (P := fun e => ∃ d, d ∈ xs ∧ e = .dat d) (e_op (PA := fun d => d = x) (PB := fun d => ∃ j : Nat, j < xs.length ∧ d = .int j) (e_var rfl) (EV.ed (R := fun e => ∃ j : Nat, j < xs.length ∧ e = .dat (.int j)) (e_callP (ea_c (e_var rfl) (ea_c (EV.d1 (e_cb1 (ea_c (e_var rfl) ea_nil) hlen)) ea_nil)) fun ds e => by rw [e]; exact ⟨(xs.length : Nat), rfl, by omega, log_small h2, fun j j0 j1 => ⟨j.toNat, by omega, by rw [show ((j.toNat : Nat) : Int) = j by omega]⟩⟩) fun e ⟨j, hj, he⟩ => ⟨.int j, by rw [he]; rfl, j, hj, rfl⟩) fun a b ha hb => ?_) fun e ⟨d, hd, he⟩ => by rw [he]; exact q d hd
  obtain ⟨j, hj, rfl⟩ := hb
  subst ha
  cases hx with
  | lst =>
    intro W v w r1 r2 Q q2
    exact od_ixL (K := K) (j := j) rfl (List.getElem?_eq_getElem hj) W v w r1 r2 Q fun u e W' g r p => q2 u e W' g r ⟨_, List.getElem_mem hj, p⟩
  | str s =>
    have e : (chs s).length = s.length := by simp [chs]
    have hj' : j < s.length := by omega
    intro W v w r1 r2 Q q2
    refine od_ixS (K := K) (j := j) rfl (List.getElem?_eq_getElem hj') (by omega) W v w r1 r2 Q fun u e W' g r p => q2 u e W' g r ⟨_, ?_, p⟩
    exact List.mem_map.mpr ⟨_, List.getElem_mem hj', rfl⟩

end
end Nt

namespace Nt
open PySem PySem.Spec PyProof.Rows L2


def jn (x y : List Nat) : List Nat := (x.zip y).map fun p => if 43 ∈ [p.1, p.2] then 43 else 46
def frs (s t : List Nat) : List Nat := (List.range s.length).filter fun k => !decide (s.getD k 0 = 46) && decide (t.getD k 0 = 46)
def fitsB (s r t : List Nat) : Bool := (!(frs s t).isEmpty) && ((frs s t).filter fun k => !decide (r.getD k 0 = s.getD k 0)).isEmpty
theorem mem_frs {s t : List Nat} {i : Nat} : i ∈ frs s t ↔ i ∈ outs s t := by
  unfold frs
  rw [List.mem_filter, List.mem_range, mem_outs]
  simp only [Bool.and_eq_true, Bool.not_eq_true', decide_eq_false_iff_not, decide_eq_true_eq]
  constructor
  · rintro ⟨h1, h2, h3⟩
    exact ⟨_, get_of_lt h1, h2, h3⟩
  · rintro ⟨c, h1, h2, h3⟩
    refine ⟨(List.getElem?_eq_some_iff.mp h1).1, ?_, h3⟩
    rw [getD_of h1]; exact h2
theorem fits_canT (s r t : List Nat) : fitsB s r t = canT s t r := by
  have e1 : canT s t r = true ↔ fitsB s r t = true := by
    unfold fitsB
    rw [Bool.and_eq_true, Bool.not_eq_true', List.isEmpty_eq_false_iff, List.isEmpty_iff, List.filter_eq_nil_iff]
    constructor
    · intro h
      obtain ⟨i, hi⟩ := canT_outs h
      refine ⟨List.ne_nil_of_mem (mem_frs.mpr hi), fun j hj => ?_⟩
      rw [bars_nil h j (mem_frs.mp hj)]; simp
    · rintro ⟨h1, h2⟩
      obtain ⟨i, hi⟩ := List.exists_mem_of_ne_nil _ h1
      refine canT_of ⟨i, mem_frs.mp hi⟩ fun j hj => ?_
      have := h2 j (mem_frs.mpr hj)
      simpa using this
  cases h1 : fitsB s r t <;> cases h2 : canT s t r
  · rfl
  · rw [e1.mp h2] at h1; cases h1
  · rw [e1.mpr h1] at h2; cases h2
  · rfl
/-- lots alone -/
def Bin (t : List Nat) : Prop := ∀ c ∈ t, c = 46 ∨ c = 43
theorem bin_lot (s : List Nat) : Bin (lotOf s) := by
  intro c h
  unfold lotOf at h
  obtain ⟨a, _, rfl⟩ := List.mem_map.mp h
  by_cases e : a = 46
  · rw [if_pos e]; exact .inl rfl
  · rw [if_neg e]; exact .inr rfl
theorem bin_rep (n : Nat) : Bin (List.replicate n 46) := fun c h => .inl (List.eq_of_mem_replicate h)
theorem bin_ov {x y : List Nat} (hx : Bin x) (hy : Bin y) : Bin (ov x y) := by
  intro c h
  unfold ov at h
  obtain ⟨p, hp, rfl⟩ := List.mem_map.mp h
  obtain ⟨i, hi⟩ := List.mem_iff_getElem?.mp hp
  obtain ⟨a, b⟩ := zip_get hi
  by_cases e : p.1 = 46
  · rw [if_pos e]; exact hy _ (List.mem_of_getElem? b)
  · rw [if_neg e]; exact hx _ (List.mem_of_getElem? a)
theorem jn_ov {x y : List Nat} (hx : Bin x) (hy : Bin y) : jn x y = ov x y := by
  unfold jn ov
  apply List.map_congr_left
  intro p hp
  obtain ⟨i, hi⟩ := List.mem_iff_getElem?.mp hp
  obtain ⟨a, b⟩ := zip_get hi
  rcases hx _ (List.mem_of_getElem? a) with h1 | h1 <;> rcases hy _ (List.mem_of_getElem? b) with h2 | h2 <;> rw [h1, h2] <;> decide
theorem run_bin {S : List (List Nat)} {r t : List Nat} {tk : List (List Nat)} (h : Run S r tk t) : Bin t := by
  induction h with
  | nil => exact bin_rep _
  | snoc _ _ _ ih => exact bin_ov ih (bin_lot _)
theorem fin_of_dots {S : List (List Nat)} {r t : List Nat} (h : dots t = 0) (hl : ∀ s ∈ S, s.length = t.length) : Fin S r t := by
  intro s hs
  cases hc : canT s t r with
  | false => rfl
  | true =>
    have := ov_lot_dots (hl s hs) hc
    omega
abbrev Rg_law_lay := Rg_over
abbrev Rg_law_lot := Rg_lot_of
def Rg_law_join (ds : List D) (P : En → Prop) : Prop := ∃ x y, ds = [.str x, .str y] ∧ x.length ≤ 1000 ∧ P (.dat (.str (jn x y)))
def Rg_law_blank (ds : List D) (P : En → Prop) : Prop := ∃ xs : List D, ds = [.lst xs] ∧ xs.length ≤ 1000 ∧ P (.dat (.str (List.replicate xs.length 46)))
def Rg_law_fresh (ds : List D) (P : En → Prop) : Prop := ∃ s t : List Nat, ds = [.str s, .str t] ∧ s.length = t.length ∧ s.length ≤ 1000 ∧ P (.own ((frs s t).map fun (i : Nat) => .int i))
def Rg_law_fits (ds : List D) (P : En → Prop) : Prop := ∃ s r t : List Nat, ds = [.str s, .str r, .str t] ∧ s.length = t.length ∧ s.length = r.length ∧ s.length ≤ 1000 ∧ P (.dat (.bl (canT s t r)))
def Rg_law_last_first (ds : List D) (P : En → Prop) : Prop := ∃ (S : List (List Nat)) (r : List Nat), ds = [.lst (S.map .str), .str r] ∧ S.length ≤ 1000 ∧ Len r.length S ∧ r.length ≤ 1000 ∧ ∀ tk t, Run S r tk t → Fin S r t → P (.dat (.str t))
/-- what come gives -/
def paper (r : List Nat) (tk : List (List Nat)) (bs : List D) (e : D) : List D := lRow r :: tk.map lTake ++ bs ++ [e]
def Rg_law_takes (ds : List D) (P : En → Prop) : Prop := ∃ (r : List Nat) (tk : List (List Nat)) (bs : List D) (e : D), ds = [.lst (paper r tk bs e)] ∧ (∀ b ∈ bs, isBar b) ∧ (e = lMade ∨ e = lBarred) ∧ tk.length ≤ 1000 ∧ bs.length ≤ 1000 ∧ P (.own (tk.map .str))
def Rg_law_end (ds : List D) (P : En → Prop) : Prop := ∃ (r : List Nat) (tk : List (List Nat)) (bs : List D) (e : D), ds = [.lst (paper r tk bs e)] ∧ P (.dat e)
theorem len_law_lay (ds P) (h : Rg_law_lay ds P) : ds.length = 2 := len_over ds P h
theorem len_law_lot (ds P) (h : Rg_law_lot ds P) : ds.length = 1 := len_lot_of ds P h
theorem len_law_join (ds P) (h : Rg_law_join ds P) : ds.length = 2 := by obtain ⟨_, _, rfl, _⟩ := h; rfl
theorem len_law_blank (ds P) (h : Rg_law_blank ds P) : ds.length = 1 := by obtain ⟨_, rfl, _⟩ := h; rfl
theorem len_law_fresh (ds P) (h : Rg_law_fresh ds P) : ds.length = 2 := by obtain ⟨_, _, rfl, _⟩ := h; rfl
theorem len_law_fits (ds P) (h : Rg_law_fits ds P) : ds.length = 3 := by obtain ⟨_, _, _, rfl, _⟩ := h; rfl
theorem len_law_last_first (ds P) (h : Rg_law_last_first ds P) : ds.length = 2 := by obtain ⟨_, _, rfl, _⟩ := h; rfl
theorem len_law_takes (ds P) (h : Rg_law_takes ds P) : ds.length = 1 := by obtain ⟨_, _, _, _, rfl, _⟩ := h; rfl
theorem len_law_end (ds P) (h : Rg_law_end ds P) : ds.length = 1 := by obtain ⟨_, _, _, _, rfl, _⟩ := h; rfl
/-- the take lines -/
def isTk : D → Bool
  | .tup [.str w, _] => decide (w = [116, 97, 107, 101])
  | _ => false
def sec : D → D
  | .tup [_, y] => y
  | d => d
theorem takes_paper {r : List Nat} {tk : List (List Nat)} {bs : List D} {e : D} (hb : ∀ b ∈ bs, isBar b) (he : e = lMade ∨ e = lBarred) : ((paper r tk bs e).filter isTk).map sec = tk.map .str := by
  unfold paper
  have h1 : (tk.map lTake).filter isTk = tk.map lTake := List.filter_eq_self.mpr fun d hd => by
    obtain ⟨s, _, rfl⟩ := List.mem_map.mp hd
    rfl
  have h2 : bs.filter isTk = [] := List.filter_eq_nil_iff.mpr fun d hd => by
    obtain ⟨a, b, c, rfl⟩ := hb d hd
    simp [isTk]
  have h3 : [e].filter isTk = [] := by rcases he with h | h <;> subst h <;> rfl
  have h4 : isTk (lRow r) = false := by
    show decide ([114, 111, 119] = [116, 97, 107, 101]) = false
    decide
  rw [List.filter_append, List.filter_append, List.filter_cons, h4, if_neg (by decide), h1, h2, h3, List.append_nil, List.append_nil, List.map_map]
  rfl
/-- a line of a paper, told by its length -/
theorem paper_line {r : List Nat} {tk : List (List Nat)} {bs : List D} {e : D} (hb : ∀ b ∈ bs, isBar b) (he : e = lMade ∨ e = lBarred) {d : D} (hd : d ∈ paper r tk bs e) : ∃ xs, d = .tup xs ∧ ((xs.length = 2 ∧ ∃ w y, xs = [.str w, y] ∧ isTk d = decide (w = [116, 97, 107, 101])) ∨ (xs.length ≠ 2 ∧ isTk d = false)) := by
  unfold paper at hd
  rw [List.mem_append, List.mem_append, List.mem_cons] at hd
  rcases hd with ((h | h) | h) | h
  · subst h; exact ⟨_, rfl, .inl ⟨rfl, _, _, rfl, rfl⟩⟩
  · obtain ⟨s, _, rfl⟩ := List.mem_map.mp h
    exact ⟨_, rfl, .inl ⟨rfl, _, _, rfl, rfl⟩⟩
  · obtain ⟨a, b, c, rfl⟩ := hb d h
    exact ⟨_, rfl, .inr ⟨by simp, by simp [isTk]⟩⟩
  · rw [List.mem_singleton.mp h]
    rcases he with h | h <;> subst h <;> exact ⟨_, rfl, .inr ⟨by simp, rfl⟩⟩
section
variable {P : Program} {w : World} {K : PySem.W.Frag} {mg : Str → Option Value} {base : Heap}
theorem ok_law_lay (T : Txt K mg)  : FnOk P w K mg base CX0 1 T.a_law_lay T.d_law_lay ["_law_newer_row", "_law_older_row"] (SpE Rg_law_lay) := by
  refine T.F_law_lay.ok sc_law_lay (fun vs H Q E h => spE_len h len_law_lay) (fun cdv A outer s H vs Q E hr h => ?_)
  have hu := hu64 hr
  have hvl : vs.length = 2 := spE_len h len_law_lay
  refine ⟨_, (pss_one (ps_ret (pe_joinK (K := K) rfl pe_str (pe_lc (own := [("_law_x", 2), ("_law_y", 3)]) (g := gTup K 2 (gCons (gName 2) (gCons (gName 3) gNil))) (tt := tYes) rfl sc_law_lay.nd (pi_zipK (K := K) rfl (by rfl) T.n_zip (pa_cons (pv 0) (pa_cons (pv 1) pa_nil))) (blkOk_by (N := N_law_lay) (sc := defScope s_law_lay) (by decide +kernel)) (fun _ _ _ _ _ => (pg_tup rfl (pgs_cons (pg_name (i := 2) sc_law_lay.nd rfl (Or.inl rfl)) (pgs_cons (pg_name (i := 3) sc_law_lay.nd rfl (Or.inl rfl)) pgs_nil)))) (fun _ _ _ _ _ => pts_nil) (fun _ _ _ _ _ => (pe_ifExp (pt_cmpR (op_eqK (K := K) rfl hu) (pv 2) pe_str (nomark _)) (pv 3) (pv 2))))))), fn_body h (by rw [hvl]; decide) (fun ds R hR hl => ?_)⟩
  obtain ⟨x, y, rfl, hx, q⟩ := hR
  refine t_ret1 (e_joinc (f := fun p : Nat × Nat => if p.1 = 46 then p.2 else p.1) (e_str rfl) (lc2_map (by decide) (iv_zipS (ea_c (e_var rfl) (ea_c (e_var rfl) ea_nil))) (by rw [List.length_zip]; omega) fun i p hp => ?_) (by rw [List.length_zip]; omega)) q
  refine (e_ifc (et_eqS (e_var rfl) (e_str (s := [46]) (by decide +kernel))) (fun _ => e_var rfl) (fun _ => e_var rfl)).is ?_
  by_cases h : p.1 = 46
  · rw [if_pos (by rw [h]), if_pos h]; rfl
  · rw [if_neg (fun z => h (List.cons.inj z).1), if_neg h]; rfl

theorem ok_law_lot (T : Txt K mg)  : FnOk P w K mg base CX0 1 T.a_law_lot T.d_law_lot ["_law_r"] (SpE Rg_law_lot) := by
  refine T.F_law_lot.ok sc_law_lot (fun vs H Q E h => spE_len h len_law_lot) (fun cdv A outer s H vs Q E hr h => ?_)
  have hu := hu64 hr
  have hvl : vs.length = 1 := spE_len h len_law_lot
  refine ⟨_, (pss_one (ps_ret (pe_joinK (K := K) rfl pe_str (pe_lc (own := [("_law_sign", 1)]) (g := gName 1) (tt := tYes) rfl sc_law_lot.nd (pi_str (pv 0)) (blkOk_by (N := N_law_lot) (sc := defScope s_law_lot) (by decide +kernel)) (fun _ _ _ _ _ => (pg_name (i := 1) sc_law_lot.nd rfl (Or.inl rfl))) (fun _ _ _ _ _ => pts_nil) (fun _ _ _ _ _ => (pe_ifExp (pt_cmpR (op_eqK (K := K) rfl hu) (pv 1) pe_str (nomark _)) pe_str pe_str)))))), fn_body h (by rw [hvl]; decide) (fun ds R hR hl => ?_)⟩
  obtain ⟨x, rfl, hx, q⟩ := hR
  refine t_ret1 (e_joinc (f := fun c : Nat => if c = 46 then 46 else 43) (e_str rfl) (lc1_map (iv_strS (e_var rfl)) (by omega) fun i c hc => ?_) (by omega)) q
  refine (e_ifc (et_eqS (e_var rfl) (e_str (s := [46]) (by decide +kernel))) (fun _ => e_str (s := [46]) (by decide +kernel)) (fun _ => e_str (s := [43]) (by decide +kernel))).is ?_
  by_cases h : c = 46
  · rw [if_pos (by rw [h]), if_pos h]
  · rw [if_neg (fun z => h (List.cons.inj z).1), if_neg h]

theorem ok_law_join (T : Txt K mg)  : FnOk P w K mg base CX0 1 T.a_law_join T.d_law_join ["_law_x", "_law_y"] (SpE Rg_law_join) := by
  refine T.F_law_join.ok sc_law_join (fun vs H Q E h => spE_len h len_law_join) (fun cdv A outer s H vs Q E hr h => ?_)
  have hu := hu64 hr
  have hvl : vs.length = 2 := spE_len h len_law_join
  refine ⟨_, (pss_one (ps_ret (pe_joinK (K := K) rfl pe_str (pe_lc (own := [("_law_a", 2), ("_law_b", 3)]) (g := gTup K 2 (gCons (gName 2) (gCons (gName 3) gNil))) (tt := tYes) rfl sc_law_join.nd (pi_zipK (K := K) rfl (by rfl) T.n_zip (pa_cons (pv 0) (pa_cons (pv 1) pa_nil))) (blkOk_by (N := N_law_join) (sc := defScope s_law_join) (by decide +kernel)) (fun _ _ _ _ _ => (pg_tup rfl (pgs_cons (pg_name (i := 2) sc_law_join.nd rfl (Or.inl rfl)) (pgs_cons (pg_name (i := 3) sc_law_join.nd rfl (Or.inl rfl)) pgs_nil)))) (fun _ _ _ _ _ => pts_nil) (fun _ _ _ _ _ => (pe_ifExp (pt_cmpR (op_inK (K := K) rfl) pe_str (pe_op op_plus (pv 2) (pv 3)) (by rfl)) pe_str pe_str)))))), fn_body h (by rw [hvl]; decide) (fun ds R hR hl => ?_)⟩
  obtain ⟨x, y, rfl, hx, q⟩ := hR
  refine t_ret1 (e_joinc (f := fun p : Nat × Nat => if 43 ∈ [p.1, p.2] then 43 else 46) (e_str rfl) (lc2_map (by decide) (iv_zipS (ea_c (e_var rfl) (ea_c (e_var rfl) ea_nil))) (by rw [List.length_zip]; omega) fun i p hp => ?_) (by rw [List.length_zip]; omega)) q
  refine (e_ifc (c := 43 ∈ [p.1, p.2]) (et_t1 (e_opd (e_str (s := [43]) (by decide +kernel)) (e_opd (x := .str [p.1]) (y := .str [p.2]) (e_var rfl) (e_var rfl) (od_addS (by simp))) (od_sgn (neg := false)))) (fun _ => e_str (s := [43]) (by decide +kernel)) (fun _ => e_str (s := [46]) (by decide +kernel))).is ?_
  by_cases h : 43 ∈ [p.1, p.2]
  · rw [if_pos h, if_pos h]
  · rw [if_neg h, if_neg h]







end
end Nt

namespace Nt
open PySem PySem.Spec PyProof.Rows L2


def RowV (cs : List (List Nat × Nat)) (r : List Nat) : Prop := r.length = cs.length ∧ ∀ (i c : Nat) (m : List Nat × Nat), r[i]? = some c → cs[i]? = some m → c = 46 ∨ (48 ≤ c ∧ c < 48 + m.2)
/-- cells as they are drawn -/
def CsV (cs : List (List Nat × Nat)) : Prop := cs.length ≤ 20 ∧ ∀ c ∈ cs, 1 ≤ c.2 ∧ c.2 ≤ 4
theorem rowV_snoc {cs : List (List Nat × Nat)} {r : List Nat} {c : Nat} {m : List Nat × Nat} (h : RowV cs r) (hc : c = 46 ∨ (48 ≤ c ∧ c < 48 + m.2)) : RowV (cs ++ [m]) (r ++ [c]) := by
  refine ⟨by rw [List.length_append, List.length_append, h.1]; rfl, fun i x y h1 h2 => ?_⟩
  by_cases hi : i < r.length
  · rw [List.getElem?_append_left hi] at h1
    rw [List.getElem?_append_left (by rw [← h.1]; exact hi)] at h2
    exact h.2 i x y h1 h2
  · rw [List.getElem?_append_right (by omega)] at h1
    rw [List.getElem?_append_right (by rw [← h.1]; omega)] at h2
    have e : i - r.length = 0 := by
      have := (List.getElem?_eq_some_iff.mp h1).1
      simp at this; omega
    rw [e] at h1
    rw [← h.1, e] at h2
    cases h1; cases h2; exact hc
theorem rowV_set {cs : List (List Nat × Nat)} {r : List Nat} {k c : Nat} {m : List Nat × Nat} (h : RowV cs r) (hm : cs[k]? = some m) (hc : c = 46 ∨ (48 ≤ c ∧ c < 48 + m.2)) : RowV cs (r.take k ++ [c] ++ r.drop (k + 1)) := by
  have hk : k < cs.length := (List.getElem?_eq_some_iff.mp hm).1
  have e : r.take k ++ [c] ++ r.drop (k + 1) = r.set k c := by
    rw [List.set_eq_take_append_cons_drop, if_pos (by rw [h.1]; exact hk), List.append_assoc]; rfl
  rw [e]
  refine ⟨by rw [List.length_set, h.1], fun i x y h1 h2 => ?_⟩
  rcases set_get h1 with ⟨q1, q2, _⟩ | ⟨_, q⟩
  · rw [q1, hm] at h2
    cases h2
    rw [q2]; exact hc
  · exact h.2 i x y q h2
theorem mem_digits {c m : Nat} (hm : m ≤ 4) : c ∈ [48, 49, 50, 51].take m ↔ 48 ≤ c ∧ c < 48 + m := by
  have h5 : m = 0 ∨ m = 1 ∨ m = 2 ∨ m = 3 ∨ m = 4 := by omega
  rcases h5 with h | h | h | h | h <;> subst h <;> simp <;> omega
theorem rowV_ok {cs : List (List Nat × Nat)} {r : List Nat} (hc : CsV cs) (h : RowV cs r) : CR cs r := by
  refine ⟨h.1, hc.1, fun c hm => (hc.2 c hm).2, ?_⟩
  unfold rowOk
  rw [List.all_eq_true]
  intro b hb
  obtain ⟨p, hp, rfl⟩ := List.mem_map.mp hb
  obtain ⟨i, hi⟩ := List.mem_iff_getElem?.mp hp
  obtain ⟨h1, h2⟩ := zip_get hi
  have hm := hc.2 _ (List.mem_of_getElem? h2)
  show (decide (p.1 = 46) || decide (p.1 ∈ [48, 49, 50, 51].take p.2.2)) = true
  rw [Bool.or_eq_true, decide_eq_true_eq, decide_eq_true_eq, mem_digits hm.2]
  exact h.2 i _ _ h1 h2
section
variable {K : PySem.W.Frag} {ρ : List En} {ta tb to te : TE} {X : XK}
theorem e_draw {k : Int} (h1 : ED ta ρ (· = .bag)) (h2 : ED tb ρ (· = .int k)) (hk : 1 ≤ k) (hk2 : k ≤ 1000) : ED (tCall (SpE Rg_law_draw) [] X (tCons ta (tCons tb tNil))) ρ (fun d => ∃ j : Nat, d = .int j ∧ (j : Int) < k) :=
  EV.ed (R := fun e => ∃ j : Nat, e = .dat (.int j) ∧ (j : Int) < k) (e_call0 (ea_c h1 (ea_c h2 ea_nil)) ⟨k, rfl, hk, by
    obtain ⟨n, rfl⟩ : ∃ n : Nat, k = n := ⟨k.toNat, by omega⟩
    exact log_small (by omega), fun j j0 j1 => ⟨j.toNat, by rw [show ((j.toNat : Nat) : Int) = j by omega], by omega⟩⟩) fun e ⟨j, hj, hl⟩ => ⟨.int j, by rw [hj]; rfl, j, rfl, hl⟩
theorem e_of {x : D} {xs : List D} (h1 : ED ta ρ (· = .bag)) (h2 : ED tb ρ (· = x)) (hx : Src x xs) (hl : 1 ≤ xs.length) (hl2 : xs.length ≤ 1000) : ED (tCall (SpE Rg_law_of) [] X (tCons ta (tCons tb tNil))) ρ (fun d => d ∈ xs) :=
  EV.ed (R := fun e => ∃ d, d ∈ xs ∧ e = .dat d) (e_call0 (ea_c h1 (ea_c h2 ea_nil)) ⟨x, xs, rfl, hx, hl, hl2, fun d hd => ⟨d, hd, rfl⟩⟩) fun e ⟨d, hd, he⟩ => ⟨d, by rw [he]; rfl, hd⟩
/-- join of signs -/
theorem e_joinP {G : List Nat → Prop} (h0 : ED to ρ (· = .str [])) (h : EV te ρ (fun e => ∃ l : List Nat, e = .own (l.map fun c => .str [c]) ∧ G l ∧ l.length ≤ 100000)) : ED (tM1 (rJoin K) to te) ρ (fun d => ∃ l, d = .str l ∧ G l) := by
  refine EV.ed (R := fun e => ∃ l, e = .dat (.str l) ∧ G l) (e_m1 h0 (EV.ed (P := fun d => ∃ l : List Nat, d = .lst (l.map fun c => .str [c]) ∧ G l ∧ l.length ≤ 100000) h fun e ⟨l, e1, a, b⟩ => ⟨_, by rw [e1]; rfl, l, rfl, a, b⟩) fun y ⟨l, hy, a, b⟩ => ?_) fun e ⟨l, e1, a⟩ => ⟨_, by rw [e1]; rfl, l, rfl, a⟩
  subst hy
  have e : (l.map fun c => D.str [c]) = (l.map fun c => [c]).map D.str := by rw [List.map_map]; rfl
  rw [e]
  intro W v vs r rs Q q
  refine md_join (by rw [flat1 l (fun c => c), List.map_id']; exact b) W v vs r rs Q fun u e W' g r p => q u e W' g r ⟨l, ?_, a⟩
  rw [p, flat1 l (fun c => c), List.map_id']
/-- r[:k] + sign + r[k + 1:] -/
theorem e_glue {r : List Nat} {k : Nat} {G : Nat → Prop} {t1 t2 t3 t4 t5 : TE} (hk : k < r.length) (hr : r.length ≤ 1000) (h1 : ED t1 ρ (· = .str r)) (h2 : ED t2 ρ (· = .int k)) (h3 : ED t3 ρ (fun d => ∃ c, d = .str [c] ∧ G c)) (h4 : ED t4 ρ (· = .str r)) (h5 : ED t5 ρ (· = .int ((k : Int) + 1))) :
    ED (tOp rPlus (tOp rPlus (tSl (rSlU K) t1 tNoPart (tPart t2)) t3) (tSl (rSlU K) t4 (tPart t5) tNoPart)) ρ (fun d => ∃ c, d = .str (r.take k ++ [c] ++ r.drop (k + 1)) ∧ G c) := by
  have s1 : ED (tSl (rSlU K) t1 tNoPart (tPart t2)) ρ (· = .str (r.take k)) := by
    rw [← cut_to (xs := r) (i := (k : Int)) rfl (by omega)]
    exact EV.d1 (e_sl h1 eo_none (eo_part h2) (sd_str (by omega)))
  have s2 : ED (tSl (rSlU K) t4 (tPart t5) tNoPart) ρ (· = .str (r.drop (k + 1))) := by
    rw [← cut_from (xs := r) (i := ((k : Int) + 1)) (k := k + 1) (by omega) (by omega)]
    exact EV.d1 (e_sl h4 (eo_part h5) eo_none (sd_str (by omega)))
  refine EV.ed (R := fun e => ∃ c, e = .dat (.str (r.take k ++ [c] ++ r.drop (k + 1))) ∧ G c) (e_op (PA := fun d => ∃ c, d = .str (r.take k ++ [c]) ∧ G c) (PB := fun d => d = .str (r.drop (k + 1))) (EV.ed (R := fun e => ∃ c, e = .dat (.str (r.take k ++ [c])) ∧ G c) (e_op s1 h3 fun x y hx ⟨c, hy, hc⟩ => ?_) fun e ⟨c, e1, a⟩ => ⟨_, by rw [e1]; rfl, c, rfl, a⟩) s2 fun x y ⟨c, hx, hc⟩ hy => ?_) fun e ⟨c, e1, a⟩ => ⟨_, by rw [e1]; rfl, c, rfl, a⟩
  · subst hx hy
    intro W v w' r1 r2 Q q
    exact od_addS (by rw [List.length_take]; simp; omega) W v w' r1 r2 Q fun u e W' g r p => q u e W' g r ⟨c, p, hc⟩
  · subst hx hy
    intro W v w' r1 r2 Q q
    exact od_addS (by rw [List.length_append, List.length_take, List.length_drop]; simp; omega) W v w' r1 r2 Q fun u e W' g r p => q u e W' g r ⟨c, p, hc⟩
/-- str(draw(bag, m)) -/
theorem e_dig {k : Nat} (hk : 1 ≤ k) (hk2 : k ≤ 9) (h1 : ED ta ρ (· = .bag)) (h2 : ED tb ρ (· = .int k)) : ED (tCB rStrI (tCons (tCall (SpE Rg_law_draw) [] X (tCons ta (tCons tb tNil))) tNil)) ρ (fun d => ∃ c, d = .str [c] ∧ 48 ≤ c ∧ c < 48 + k) :=
  EV.ed (R := fun e => ∃ c, e = .dat (.str [c]) ∧ 48 ≤ c ∧ c < 48 + k) (e_cb (ea_1 (e_draw h1 h2 (by omega) (by omega))) fun ds ⟨x, e1, j, e2, hj⟩ => by
    subst e1 e2
    intro W vs r Q q
    exact cd_digit (n := j) (by omega) W vs r Q fun u e W' g r p => q u e W' g r ⟨48 + j, p, by omega, by omega⟩) fun e ⟨c, e1, a⟩ => ⟨_, by rw [e1]; rfl, c, rfl, a⟩
end
/-! pigeons -/
theorem nodup_len {α : Type} [BEq α] [LawfulBEq α] : ∀ {l m : List α}, l.Nodup → (∀ x ∈ l, x ∈ m) → l.length ≤ m.length
  | [], _, _, _ => Nat.zero_le _
  | a :: l, m, hn, hs => by
    have ha := hs a List.mem_cons_self
    have hn' := List.nodup_cons.mp hn
    have h := nodup_len (l := l) (m := m.erase a) hn'.2 fun x hx => by
      have hne : x ≠ a := fun e => hn'.1 (e ▸ hx)
      exact (List.mem_erase_of_ne hne).mpr (hs x (List.mem_cons_of_mem _ hx))
    rw [List.length_erase_of_mem ha] at h
    have := List.length_pos_of_mem ha
    simp
    omega
def abc : List Nat := [109, 110, 98, 118, 99, 120, 121, 108, 107, 106, 104, 103, 102, 100, 115, 97, 112, 111, 105, 117, 122, 116, 114, 101, 119, 113]
theorem abc_left {L : List (List Nat)} (h : L.length ≤ 25) : abc.filter (fun c => !decide ([c] ∈ L)) ≠ [] := by
  intro hn
  rw [List.filter_eq_nil_iff] at hn
  have h1 : ∀ x ∈ abc.map (fun c => [c]), x ∈ L := fun x hx => by
    obtain ⟨c, hc, rfl⟩ := List.mem_map.mp hx
    have := hn c hc
    simpa using this
  have := nodup_len (l := abc.map fun c => [c]) (m := L) (by decide +kernel) h1
  rw [List.length_map] at this
  have e : abc.length = 26 := by decide +kernel
  omega
theorem erase_perm {α : Type} : ∀ {l : List α} {k : Nat} (h : k < l.length), (l[k] :: l.eraseIdx k).Perm l
  | a :: l, 0, h => List.Perm.refl _
  | a :: l, k + 1, h => by
    have := erase_perm (l := l) (k := k) (by simpa using h)
    exact (List.Perm.swap _ _ _).trans (this.cons a)
def Rg_law_row (ds : List D) (P : En → Prop) : Prop := ∃ (cs : List (List Nat × Nat)) (th : Int), ds = [.bag, .lst (cs.map cellD), .int th] ∧ CsV cs ∧ ∀ r, RowV cs r → P (.dat (.str r))
def Rg_law_title (ds : List D) (P : En → Prop) : Prop := ∃ (L : List (List Nat)), ds = [.bag, .lst (L.map .str)] ∧ L.length ≤ 25 ∧ ∀ s : List Nat, s.length ≤ 6 → P (.dat (.str s))
def Rg_law_frame (ds : List D) (P : En → Prop) : Prop := ∃ (n w : Nat), ds = [.bag, .int n, .int w] ∧ n ≤ 20 ∧ 1 ≤ w ∧ w ≤ 4 ∧ ∀ cs : List (List Nat × Nat), cs.length = n → (∀ c ∈ cs, 1 ≤ c.2 ∧ c.2 ≤ w) → P (.own (cs.map cellD))
def Rg_law_once (ds : List D) (P : En → Prop) : Prop := ∃ (S : List (List Nat)), ds = [.lst (S.map .str)] ∧ S.length ≤ 1000 ∧ ∀ S' : List (List Nat), (∀ s, s ∈ S' ↔ s ∈ S) → S'.length ≤ S.length → S'.Nodup → S'.Sublist S → P (.own (S'.map .str))
def Rg_law_stack (ds : List D) (P : En → Prop) : Prop := ∃ (cs : List (List Nat × Nat)) (n : Nat), ds = [.bag, .lst (cs.map cellD), .int n] ∧ CsV cs ∧ 1 ≤ cs.length ∧ 1 ≤ n ∧ n ≤ 900 ∧ ∀ S : List (List Nat), S ≠ [] → S.length ≤ n → (∀ s ∈ S, RowV cs s) → P (.own (S.map .str))
def Rg_law_size (ds : List D) (P : En → Prop) : Prop := ds = [.bag] ∧ ∀ n : Nat, 1 ≤ n → n ≤ 6 → P (.dat (.int n))
def Rg_law_mixed (ds : List D) (P : En → Prop) : Prop := ∃ xs : List D, ds = [.bag, .lst xs] ∧ xs.length ≤ 1000 ∧ ∀ ys : List D, ys.Perm xs → P (.own ys)
theorem len_law_row (ds P) (h : Rg_law_row ds P) : ds.length = 3 := by obtain ⟨_, _, rfl, _⟩ := h; rfl
theorem len_law_title (ds P) (h : Rg_law_title ds P) : ds.length = 2 := by obtain ⟨_, rfl, _⟩ := h; rfl
theorem len_law_frame (ds P) (h : Rg_law_frame ds P) : ds.length = 3 := by obtain ⟨_, _, rfl, _⟩ := h; rfl
theorem len_law_once (ds P) (h : Rg_law_once ds P) : ds.length = 1 := by obtain ⟨_, rfl, _⟩ := h; rfl
theorem len_law_stack (ds P) (h : Rg_law_stack ds P) : ds.length = 3 := by obtain ⟨_, _, rfl, _⟩ := h; rfl
theorem len_law_size (ds P) (h : Rg_law_size ds P) : ds.length = 1 := by obtain ⟨rfl, _⟩ := h; rfl
theorem len_law_mixed (ds P) (h : Rg_law_mixed ds P) : ds.length = 2 := by obtain ⟨_, rfl, _⟩ := h; rfl
section
variable {P : Program} {w : World} {K : PySem.W.Frag} {mg : Str → Option Value} {base : Heap}
theorem b_law_row (T : Txt K mg) : Binds K T.d_law_row ["_law_bag_here", "_law_frame_here", "_law_thin"] [] := by
  obtain ⟨ds, v, b⟩ := T.F_law_row.binds1 (ps := ["_law_bag_here", "_law_frame_here", "_law_thin"]) 3 1 (by simp) (by rfl) fun _ _ _ _ _ _ _ us its hu hi => match us, its, hu, hi with
    | [_, _, _], [_], _, _ => ⟨_, rfl, rfl⟩
  cases v
  exact b
theorem ok_law_row (T : Txt K mg) (G_law_draw : FnOk P w K mg base CX0 1 T.a_law_draw T.d_law_draw ["_law_bag_here", "_law_sides"] (SpE Rg_law_draw)) : FnOk P w K mg base CX0 2 T.a_law_row T.d_law_row ["_law_bag_here", "_law_frame_here", "_law_thin"] (SpE Rg_law_row) := by
  refine T.F_law_row.ok sc_law_row (fun vs H Q E h => spE_len h len_law_row) (fun cdv A outer s H vs Q E hr h => ?_)
  have hu := hu64 hr
  have hvl : vs.length = 3 := spE_len h len_law_row
  refine ⟨_, (pss_one (ps_ret (pe_joinK (K := K) rfl pe_str (pe_lc (own := [("_law_pair", 3)]) (g := gName 3) (tt := tYes) rfl sc_law_row.nd (pi_listK (K := K) rfl (pv 1)) (blkOk_by (N := N_law_row) (sc := defScope s_law_row) (by decide +kernel)) (fun _ _ _ _ _ => (pg_name (i := 3) sc_law_row.nd rfl (Or.inl rfl))) (fun _ _ _ _ _ => pts_nil) (fun _ _ _ _ _ => (pe_ifExp (pt_cmpR op_lt (pe_call G_law_draw (hr.mono (by decide)) (by rfl) T.g_law_draw T.F_law_draw.kp (b_law_draw T) .nil pass0 (pa_cons (pv 0) (pa_cons pe_int pa_nil))) (pv 2) (nomark _)) pe_str (pe_callTy call_strI (by rfl) T.n_str (by decide +kernel) (pa_cons (pe_call G_law_draw (hr.mono (by decide)) (by rfl) T.g_law_draw T.F_law_draw.kp (b_law_draw T) .nil pass0 (pa_cons (pv 0) (pa_cons (pe_ix (ix_K (K := K) rfl) (pv 3) pe_int (fun _ _ => rfl)) pa_nil))) pa_nil)))))))), fn_body h (by rw [hvl]; decide) (fun ds R hR hl => ?_)⟩
  obtain ⟨cs, th, rfl, hcs, q⟩ := hR
  refine t_retd (PD := fun d => ∃ r, d = .str r ∧ RowV cs r) (e_joinP (e_str rfl) ((e_lc1 (T := fun ds => ds = cs.map cellD) (Inv := fun _ i acc => ∃ l : List Nat, acc = l.map (fun c => .str [c]) ∧ RowV (cs.take i) l) (iv_list1 (e_var rfl)) (fun ds e => by rw [e, List.length_map]; have := hcs.1; omega) (fun ds e => ⟨[], rfl, by simp [RowV]⟩) fun ds i d acc e hd ⟨l, ha, hl⟩ => ?_).imp fun e ⟨ds, acc, e1, e2, l, e3, hl⟩ => ?_)) fun d ⟨r, e, hr⟩ => by rw [e]; exact q r hr
  · subst e
    obtain ⟨m, hm, rfl⟩ := map_get hd
    have hmm := hcs.2 m (List.mem_of_getElem? hm)
    refine et_yes.imp fun b hb => ?_
    rw [hb]
    refine iteT ?_
    refine ED.imp (P := fun y => ∃ c, y = .str [c] ∧ (c = 46 ∨ (48 ≤ c ∧ c < 48 + m.2))) (e_ifd (T := fun _ => True) (et_test (EV.ed (R := fun e => ∃ b, e = .dat (.bl b)) (e_op (PA := fun d => ∃ j : Nat, d = .int j ∧ (j : Int) < 5) (PB := fun d => d = .int th) (e_draw (e_var rfl) e_int (by decide) (by decide)) (e_var rfl) fun x y ⟨j, hx, _⟩ hy => ?_) fun e ⟨b, hb⟩ => ⟨.bl b, by rw [hb]; rfl, b, rfl, trivial⟩)) (fun _ => (e_str (s := [46]) (by decide +kernel)).imp fun d hd => ⟨46, hd, .inl rfl⟩) (fun _ => (e_dig (k := m.2) hmm.1 (by omega) (e_var rfl) (e_opd (e_var rfl) e_int (od_ixT (j := 1) rfl rfl))).imp fun d ⟨c, e, h⟩ => ⟨c, e, .inr h⟩)) fun y ⟨c, hy, hc⟩ => ⟨l ++ [c], ?_, ?_⟩
    · subst hx hy
      intro W v w' r1 r2 Q q
      exact od_lt W v w' r1 r2 Q fun u e W' g r p => q u e W' g r ⟨_, p⟩
    · rw [ha, hy, List.map_append]; rfl
    · rw [take_step hm]
      exact rowV_snoc hl hc
  · rw [e2, List.length_map, take_all] at hl
    exact ⟨l, by rw [e1, e3], hl, by have := hl.1; have := hcs.1; omega⟩

theorem ok_law_title (T : Txt K mg) (G_law_draw : FnOk P w K mg base CX0 1 T.a_law_draw T.d_law_draw ["_law_bag_here", "_law_sides"] (SpE Rg_law_draw)) (G_law_of : FnOk P w K mg base CX0 2 T.a_law_of T.d_law_of ["_law_bag_here", "_law_things"] (SpE Rg_law_of)) : FnOk P w K mg base CX0 3 T.a_law_title T.d_law_title ["_law_bag_here", "_law_taken"] (SpE Rg_law_title) := by
  refine T.F_law_title.ok sc_law_title (fun vs H Q E h => spE_len h len_law_title) (fun cdv A outer s H vs Q E hr h => ?_)
  have hu := hu64 hr
  have hvl : vs.length = 2 := spE_len h len_law_title
  refine ⟨_, (pss_cons (ps_if (pt_cmpR (op_eqK (K := K) rfl hu) (pe_call G_law_draw (hr.mono (by decide)) (by rfl) T.g_law_draw T.F_law_draw.kp (b_law_draw T) .nil pass0 (pa_cons (pv 0) (pa_cons pe_int pa_nil))) pe_int (nomark _)) (pss_one (ps_set (i := 2) sc_law_title.nd rfl (Or.inl rfl) (pe_call G_law_of (hr.mono (by decide)) (by rfl) T.g_law_of T.F_law_of.kp (b_law_of T) .nil pass0 (pa_cons (pv 0) (pa_cons (pe_lst (pa_cons pe_str (pa_cons pe_str (pa_cons pe_str (pa_cons pe_str (pa_cons pe_str (pa_cons pe_str (pa_cons pe_str (pa_cons pe_str (pa_cons pe_str pa_nil)))))))))) pa_nil))))) (pss_one (ps_set (i := 2) sc_law_title.nd rfl (Or.inl rfl) (pe_joinK (K := K) rfl pe_str (pe_lc (own := [("_law_k", 3)]) (g := gName 3) (tt := tYes) rfl sc_law_title.nd (pi_range1 (by rfl) T.n_range (pa_cons (pe_op op_plus pe_int (pe_call G_law_draw (hr.mono (by decide)) (by rfl) T.g_law_draw T.F_law_draw.kp (b_law_draw T) .nil pass0 (pa_cons (pv 0) (pa_cons pe_int pa_nil)))) pa_nil)) (blkOk_by (N := N_law_title) (sc := defScope s_law_title) (by decide +kernel)) (fun _ _ _ _ _ => (pg_name (i := 3) sc_law_title.nd rfl (Or.inl rfl))) (fun _ _ _ _ _ => pts_nil) (fun _ _ _ _ _ => (pe_call G_law_of (hr.mono (by decide)) (by rfl) T.g_law_of T.F_law_of.kp (b_law_of T) .nil pass0 (pa_cons (pv 0) (pa_cons pe_str pa_nil))))))))) (pss_cons (ps_if (pt_cmpR (op_inK (K := K) rfl) (pv 2) (pv 1) (by rfl)) (pss_one (ps_set (i := 2) sc_law_title.nd rfl (Or.inl rfl) (pe_ix (ix_K (K := K) rfl) (pe_lc (own := [("_law_sign", 4)]) (g := gName 4) (tt := _) rfl sc_law_title.nd (pi_str pe_str) (blkOk_by (N := N_law_title) (sc := defScope s_law_title) (by decide +kernel)) (fun _ _ _ _ _ => (pg_name (i := 4) sc_law_title.nd rfl (Or.inl rfl))) (fun _ _ _ _ _ => (pts_one (pt_cmpR (op_notInK (K := K) rfl) (pv 4) (pv 1) (by rfl)))) (fun _ _ _ _ _ => (pv 4))) pe_int (fun _ _ => rfl)))) pss_nil) (pss_one (ps_ret (pv 2))))), fn_body h (by rw [hvl]; decide) (fun ds R hR hl => ?_)⟩
  obtain ⟨L, rfl, hL, q⟩ := hR
  refine t_seq (M := fun ρ' => ∃ s x y, ρ' = [.dat .bag, .dat (.lst (L.map .str)), .dat (.str s), x, y] ∧ s.length ≤ 6) (t_if (T := fun _ => True) (et_test (EV.ed (R := fun e => ∃ b, e = .dat (.bl b)) (e_op (PA := fun d => ∃ j : Nat, d = .int j ∧ (j : Int) < 8) (PB := fun d => d = .int 0) (e_draw (e_var rfl) e_int (by decide) (by decide)) e_int fun x y ⟨j, hx, _⟩ hy => ?_) fun e ⟨b, hb⟩ => ⟨.bl b, by rw [hb]; rfl, b, rfl, trivial⟩)) (fun _ => ?_) (fun _ => ?_)) fun ρ' m => ?_
  · subst hx hy
    intro W v w' r1 r2 Q q
    exact od_eqI W v w' r1 r2 Q fun u e W' g r p => q u e W' g r ⟨_, p⟩
  · refine t_asgd (PD := fun d => ∃ s, d = .str s ∧ s.length ≤ 6) ((e_of (e_var rfl) (EV.o1 (e_lst1 (ea_c e_strz (ea_c e_strz (ea_c e_strz (ea_c e_strz (ea_c e_strz (ea_c e_strz (ea_c e_strz (ea_c e_strz (ea_c e_strz ea_nil))))))))) (by simp))) (.lst _) (by simp) (by simp)).imp fun d hd => ?_) fun d ⟨s, e, hs⟩ => by subst e; exact ⟨s, _, _, rfl, hs⟩
    simp only [List.mem_cons, List.not_mem_nil, or_false] at hd
    rcases hd with h | h | h | h | h | h | h | h | h <;> subst h <;> exact ⟨_, rfl, by decide +kernel⟩
  · have hrng : ∀ (X : XK) (ρ0 : List En), ρ0[0]? = some (.dat .bag) → EA (tCons (tOp rPlus (tC (.int 1)) (tCall (SpE Rg_law_draw) [] X (tCons (tVar 0) (tCons (tC (.int 6)) tNil)))) tNil) ρ0 (fun ds => ∃ n : Int, ds = [.int n] ∧ n ≤ 100000 ∧ -100000 ≤ n ∧ n ≤ 6) := fun X ρ0 h0 =>
      (ea_1 (P := fun d => ∃ j : Nat, d = .int (1 + (j : Int)) ∧ j < 6) (EV.ed (R := fun e => ∃ j : Nat, e = .dat (.int (1 + (j : Int))) ∧ j < 6) (e_op (PA := fun d => d = .int 1) (PB := fun d => ∃ j : Nat, d = .int j ∧ (j : Int) < 6) e_int (e_draw (e_var h0) e_int (by decide) (by decide)) fun x y hx ⟨j, hy, hj⟩ => by
        subst hx hy
        intro W v w' r1 r2 Q q
        exact od_addI W v w' r1 r2 Q fun u e W' g r p => q u e W' g r ⟨j, p, by omega⟩) fun e ⟨j, e1, hj⟩ => ⟨.int (1 + (j : Int)), by rw [e1]; rfl, j, rfl, hj⟩)).imp fun ds ⟨x, e, j, ex, hj⟩ => ⟨1 + (j : Int), by rw [e, ex], by omega, by omega, by omega⟩
    refine t_asgd (PD := fun d => ∃ s, d = .str s ∧ s.length ≤ 6) (e_joinP (e_str rfl) ((e_lc1 (T := fun ds => ∃ n : Int, ds = ixs n.toNat ∧ n ≤ 6) (Inv := fun _ i acc => ∃ l : List Nat, acc = l.map (fun c => .str [c]) ∧ l.length = i) (iv_rngP (T := fun n => n ≤ 6) (hrng _ _ rfl)) (fun ds ⟨n, e, hn⟩ => by rw [e]; simp [ixs]; omega) (fun ds e => ⟨[], rfl, rfl⟩) fun ds i d acc e hd ⟨l, ha, hl⟩ => ?_).imp fun e ⟨ds, acc, e1, ⟨n, e2, hn⟩, l, e3, hl⟩ => ⟨l, by rw [e1, e3], ?_, ?_⟩)) fun d ⟨s, e, hs⟩ => by subst e; exact ⟨s, _, _, rfl, hs⟩
    · refine et_yes.imp fun b hb => ?_
      rw [hb]
      refine iteT ((e_of (e_var rfl) e_strz (.str _) (by decide +kernel) (by decide +kernel)).imp fun y hy => ?_)
      obtain ⟨c, _, rfl⟩ := List.mem_map.mp hy
      exact ⟨l ++ [c], by rw [ha, List.map_append]; rfl, by rw [List.length_append, hl]; rfl⟩
    · rw [hl, e2]; simp [ixs]; omega
    · rw [hl, e2]; simp [ixs]; omega
  · obtain ⟨s, x, y, rfl, hs⟩ := m
    refine q_if1 (b := decide (s ∈ L)) (et_t1 (e_opd (e_var rfl) (e_var rfl) (od_inL (neg := false)))) (fun _ => ?_) fun _ => t_ret1 (e_var rfl) (q s hs)
    refine t_asgd (PD := fun d => ∃ c, d = .str [c]) (EV.ed (R := fun e => ∃ c, e = .dat (.str [c])) (e_op (PA := fun d => d = .lst ((abc.filter fun c => !decide ([c] ∈ L)).map fun c => .str [c])) (PB := fun d => d = .int 0) (EV.o1 (lc1_filt (ds := abc) (emb := fun c => .str [c]) (t := fun c => !decide ([c] ∈ L)) (f := fun c => .str [c]) (iv_strS (e_str (s := abc) (by decide +kernel))) (by decide +kernel) (fun i c hc => et_t1 (e_opd (e_var rfl) (e_var rfl) (od_inL (neg := true)))) (fun i c hc _ => e_var rfl))) e_int fun a b ha hb => ?_) fun e ⟨c, e1⟩ => ⟨_, by rw [e1]; rfl, c, rfl⟩) fun d ⟨c, e⟩ => by rw [e]; exact t_ret1 (e_var rfl) (q [c] (by simp))
    subst ha hb
    have hne := abc_left hL
    cases hf : abc.filter (fun c => !decide ([c] ∈ L)) with
    | nil => exact absurd hf hne
    | cons c l =>
      intro W v w' r1 r2 Q q
      exact od_ixL (K := K) (j := 0) rfl rfl W v w' r1 r2 Q fun u e W' g r p => q u e W' g r ⟨c, p⟩

theorem ok_law_frame (T : Txt K mg) (G_law_draw : FnOk P w K mg base CX0 1 T.a_law_draw T.d_law_draw ["_law_bag_here", "_law_sides"] (SpE Rg_law_draw)) (G_law_title : FnOk P w K mg base CX0 3 T.a_law_title T.d_law_title ["_law_bag_here", "_law_taken"] (SpE Rg_law_title)) : FnOk P w K mg base CX0 4 T.a_law_frame T.d_law_frame ["_law_bag_here", "_law_size", "_law_widest"] (SpE Rg_law_frame) := by
  refine T.F_law_frame.ok sc_law_frame (fun vs H Q E h => spE_len h len_law_frame) (fun cdv A outer s H vs Q E hr h => ?_)
  have hu := hu64 hr
  have hvl : vs.length = 3 := spE_len h len_law_frame
  refine ⟨_, (pss_cons (ps_par (i := 3) (j := 4) (by rfl) sc_law_frame.nd rfl rfl (by decide) rfl rfl (pa_cons (pe_lst pa_nil) (pa_cons (pe_lst pa_nil) pa_nil)) (by rfl)) (pss_cons (ps_for PassesOwn.never rfl (pi_range1 (by rfl) T.n_range (pa_cons (pv 1) pa_nil)) (pg_name (i := 5) sc_law_frame.nd rfl (Or.inl rfl)) (pss_cons (ps_expr (pe_bm PySem.F.plainAttrs_list PySem.F.slot_list_append PySem.F.type_list_append mt_append (pv 4) (pa_cons (pe_call G_law_title (hr.mono (by decide)) (by rfl) T.g_law_title T.F_law_title.kp (b_law_title T) .nil pass0 (pa_cons (pv 0) (pa_cons (pv 4) pa_nil))) pa_nil))) (pss_one (ps_expr (pe_bm PySem.F.plainAttrs_list PySem.F.slot_list_append PySem.F.type_list_append mt_append (pv 3) (pa_cons (pe_tup (pa_cons (pe_ix (ix_K (K := K) rfl) (pv 4) (pe_un un_neg pe_int) (fun _ _ => rfl)) (pa_cons (pe_op op_plus pe_int (pe_call G_law_draw (hr.mono (by decide)) (by rfl) T.g_law_draw T.F_law_draw.kp (b_law_draw T) .nil pass0 (pa_cons (pv 0) (pa_cons (pv 2) pa_nil)))) pa_nil))) pa_nil)))))) (pss_one (ps_ret (pv 3))))), fn_body h (by rw [hvl]; decide) (fun ds R hR hl => ?_)⟩
  obtain ⟨n, w', rfl, hn, h1, h2, q⟩ := hR
  refine t_seq (M := fun ρ' => ρ' = [.dat .bag, .dat (.int n), .dat (.int w'), .own [], .own [], .un]) (t_par (P1 := fun e => e = .own []) (P2 := fun e => e = .own []) (e_lst1 ea_nil (by simp)) (e_lst1 ea_nil (by simp)) fun a b ha hb => by rw [ha, hb]; rfl) fun ρ' m => ?_
  subst m
  refine t_seq (M := fun ρ' => ∃ (cs : List (List Nat × Nat)) (L : List (List Nat)) (x : En), ρ' = [.dat .bag, .dat (.int n), .dat (.int w'), .own (cs.map cellD), .own (L.map .str), x] ∧ cs.length = n ∧ ∀ c ∈ cs, 1 ≤ c.2 ∧ c.2 ≤ w')
    (t_for1 (iv_rngN (ea_c (e_var rfl) ea_nil) (by omega)) (fun ds i ρ' => ∃ (cs : List (List Nat × Nat)) (L : List (List Nat)) (x : En), ρ' = [.dat .bag, .dat (.int n), .dat (.int w'), .own (cs.map cellD), .own (L.map .str), x] ∧ cs.length = i ∧ L.length = i ∧ ∀ c ∈ cs, 1 ≤ c.2 ∧ c.2 ≤ w') (fun ds e => ⟨[], [], .un, rfl, rfl, rfl, by simp⟩) (fun ds i d ρ' e hd inv => ?_) (fun ds ρ' e ⟨cs, L, x, a, b, _, c⟩ => ⟨cs, L, x, a, by rw [b, e, List.length_map, List.length_range], c⟩)) fun ρ' m => ?_
  · subst e
    obtain ⟨cs, L, x, rfl, a, b, c⟩ := inv
    obtain ⟨k, hk, rfl⟩ := map_get hd
    have hil := (List.getElem?_eq_some_iff.mp hk).1
    rw [List.length_range] at hil
    refine t_seq (M := fun ρ' => ∃ s : List Nat, ρ' = [.dat .bag, .dat (.int n), .dat (.int w'), .own (cs.map cellD), .own ((L ++ [s]).map .str), .dat (.int (k : Nat))]) (t_app (PD := fun d => ∃ s, d = .str s) (ds := L.map .str) rfl (e_lend (i := 4) (ds := L.map .str) rfl (EV.ed (R := fun e => ∃ s, e = .dat (.str s)) (e_call0 (ea_c (e_var rfl) (ea_c (e_var rfl) ea_nil)) ⟨L, rfl, by omega, fun s _ => ⟨s, rfl⟩⟩) fun e ⟨s, e1⟩ => ⟨.str s, by rw [e1]; rfl, s, rfl⟩) fun d ⟨s, e⟩ => by rw [e]; rfl) (by rw [List.length_map]; omega) fun d ⟨s, e⟩ => ⟨s, by rw [e, List.map_append]; rfl⟩) fun ρ' m => ?_
    obtain ⟨s, rfl⟩ := m
    have hlast : ((L ++ [s]).map D.str)[((L ++ [s]).map D.str).length - 1]? = some (.str s) := by rw [List.map_append, List.length_append]; simp
    refine t_app (PD := fun d => ∃ m : Nat, d = cellD (s, m) ∧ 1 ≤ m ∧ m ≤ w') (ds := cs.map cellD) rfl ((e_tup (T := fun ds => ∃ m : Nat, ds = [.str s, .int m] ∧ 1 ≤ m ∧ m ≤ w') (ea_cons (P := fun d => d = .str s) (T' := fun _ => True) (e_lend (i := 4) (ds := (L ++ [s]).map .str) rfl (e_opd (e_var rfl) (EV.d1 (e_un e_int ud_neg)) (od_ixLlast hlast)) fun d e => by rw [e]; rfl) fun y hy => (ea_1 (P := fun d => ∃ m : Nat, d = .int m ∧ 1 ≤ m ∧ m ≤ w') (EV.ed (R := fun e => ∃ m : Nat, e = .dat (.int m) ∧ 1 ≤ m ∧ m ≤ w') (e_op (PA := fun d => d = .int 1) (PB := fun d => ∃ j : Nat, d = .int j ∧ (j : Int) < w') e_int (e_draw (e_var rfl) (e_var rfl) (by omega) (by omega)) fun a b ha ⟨j, hb, hj⟩ => ?_) fun e ⟨m, e1, h⟩ => ⟨.int m, by rw [e1]; rfl, m, rfl, h⟩)).imp fun ds ⟨z, e, m, ez, h⟩ => ⟨m, by rw [e, ez, hy], h⟩) fun ds ⟨m, e, _⟩ => by rw [e]; simp).imp fun d ⟨ds, e, m, e2, h⟩ => ⟨m, by rw [e, e2]; rfl, h⟩) (by rw [List.length_map]; omega) fun d ⟨m, e, h⟩ => ⟨cs ++ [(s, m)], L ++ [s], .dat (.int (k : Nat)), by rw [e, List.map_append (f := cellD)]; rfl, by rw [List.length_append, a]; rfl, by rw [List.length_append, b]; rfl, fun c' hc' => ?_⟩
    · subst ha hb
      intro W v w2 r1 r2 Q q
      exact od_addI W v w2 r1 r2 Q fun u e W' g r p => q u e W' g r ⟨1 + j, by rw [p]; congr 2, by omega, by omega⟩
    · rcases List.mem_append.mp hc' with hh | hh
      · exact c c' hh
      · rw [List.mem_singleton.mp hh]; exact h
  · obtain ⟨cs, L, x, rfl, a, c⟩ := m
    exact t_retO (i := 3) rfl (q cs a c)

theorem ok_law_once (T : Txt K mg)  : FnOk P w K mg base CX0 1 T.a_law_once T.d_law_once ["_law_things"] (SpE Rg_law_once) := by
  refine T.F_law_once.ok sc_law_once (fun vs H Q E h => spE_len h len_law_once) (fun cdv A outer s H vs Q E hr h => ?_)
  have hu := hu64 hr
  have hvl : vs.length = 1 := spE_len h len_law_once
  refine ⟨_, (pss_cons (ps_set (i := 1) sc_law_once.nd rfl (Or.inl rfl) (pe_lst pa_nil)) (pss_cons (ps_for PassesOwn.never rfl (pi_listK (K := K) rfl (pv 0)) (pg_name (i := 2) sc_law_once.nd rfl (Or.inl rfl)) (pss_one (ps_if (pt_cmpR (op_notInK (K := K) rfl) (pv 2) (pv 1) (by rfl)) (pss_one (ps_expr (pe_bm PySem.F.plainAttrs_list PySem.F.slot_list_append PySem.F.type_list_append mt_append (pv 1) (pa_cons (pv 2) pa_nil)))) pss_nil))) (pss_one (ps_ret (pv 1))))), fn_body h (by rw [hvl]; decide) (fun ds R hR hl => ?_)⟩
  obtain ⟨S, rfl, hS, q⟩ := hR
  refine q_asgo (e_lst1 ea_nil (by decide)) ?_
  refine t_seq (M := fun ρ' => ∃ (F : List (List Nat)) (x : En), ρ' = [.dat (.lst (S.map .str)), .own (F.map .str), x] ∧ (∀ s, s ∈ F ↔ s ∈ S) ∧ F.length ≤ S.length ∧ F.Nodup ∧ F.Sublist S) (t_for1 (iv_list1 (e_var rfl)) (fun ds i ρ' => ∃ (F : List (List Nat)) (x : En), ρ' = [.dat (.lst (S.map .str)), .own (F.map .str), x] ∧ (∀ s, s ∈ F ↔ s ∈ S.take i) ∧ F.length ≤ i ∧ F.Nodup ∧ F.Sublist (S.take i)) (fun ds e => ⟨[], .un, rfl, by simp, Nat.le_refl _, List.nodup_nil, List.nil_sublist _⟩) (fun ds i d ρ' e hd inv => ?_) (fun ds ρ' e ⟨F, x, a, b, c, nd, sb⟩ => ⟨F, x, a, by rw [e, List.length_map, take_all] at b; exact b, by rw [e, List.length_map] at c; exact c, nd, sb.trans (List.take_sublist _ _)⟩)) fun ρ' m => ?_
  · subst e
    obtain ⟨F, x, rfl, hm, hl, nd, sb⟩ := inv
    obtain ⟨s, hs, rfl⟩ := map_get hd
    have hil := (List.getElem?_eq_some_iff.mp hs).1
    refine t_if (T := fun b => b = !decide (s ∈ F)) (et_lend (i := 1) (ds := F.map .str) rfl (et_t1 (e_opd (e_var rfl) (e_var rfl) (od_inL (neg := true))))) (fun e => ?_) (fun e => ?_)
    · have hnm : ¬ s ∈ F := by simpa using e.symm
      refine t_app (PD := fun d => d = .str s) (ds := F.map .str) rfl (e_var rfl) (by rw [List.length_map]; omega) fun d hd => ⟨F ++ [s], .dat (.str s), by rw [hd, List.map_append]; rfl, fun z => ?_, by rw [List.length_append]; simp; omega, ?_, ?_⟩
      · rw [List.mem_append, hm z, take_step hs, List.mem_append]
      · rw [List.nodup_append]
        exact ⟨nd, by simp, fun a ha b hb hab => hnm (by rw [← List.mem_singleton.mp hb, ← hab]; exact ha)⟩
      · rw [take_step hs]
        exact List.Sublist.append sb (List.Sublist.refl _)
    · have hmem : s ∈ F := by simpa using e.symm
      refine t_next ⟨F, _, rfl, fun z => ?_, by omega, nd, by rw [take_step hs]; exact sb.trans (List.sublist_append_left _ _)⟩
      rw [take_step hs, List.mem_append, hm z]
      constructor
      · exact .inl
      · rintro (h | h)
        · exact h
        · rw [List.mem_singleton.mp h]; exact (hm s).mp hmem
  · obtain ⟨F, x, rfl, a, b, nd, sb⟩ := m
    exact t_retO (i := 1) rfl (q F a b nd sb)


theorem ok_law_mixed (T : Txt K mg) (G_law_draw : FnOk P w K mg base CX0 1 T.a_law_draw T.d_law_draw ["_law_bag_here", "_law_sides"] (SpE Rg_law_draw)) : FnOk P w K mg base CX0 2 T.a_law_mixed T.d_law_mixed ["_law_bag_here", "_law_things"] (SpE Rg_law_mixed) := by
  refine T.F_law_mixed.ok sc_law_mixed (fun vs H Q E h => spE_len h len_law_mixed) (fun cdv A outer s H vs Q E hr h => ?_)
  have hu := hu64 hr
  have hvl : vs.length = 2 := spE_len h len_law_mixed
  refine ⟨_, (pss_cons (ps_par (i := 2) (j := 3) (by rfl) sc_law_mixed.nd rfl rfl (by decide) rfl rfl (pa_cons (pe_callTy (call_listK (K := K) rfl) (by rfl) T.n_list (by decide +kernel) (pa_cons (pv 1) pa_nil)) (pa_cons (pe_lst pa_nil) pa_nil)) (by rfl)) (pss_cons (ps_for PassesOwn.never rfl (pi_range1 (by rfl) T.n_range (pa_cons (pe_callB (call_lenK (K := K) rfl) (by rfl) T.n_len (by decide +kernel) (pa_cons (pv 1) pa_nil)) pa_nil)) (pg_name (i := 4) sc_law_mixed.nd rfl (Or.inl rfl)) (pss_one (ps_expr (pe_bm PySem.F.plainAttrs_list PySem.F.slot_list_append PySem.F.type_list_append mt_append (pv 3) (pa_cons (pe_bm PySem.F.plainAttrs_list PySem.F.slot_list_pop PySem.F.type_list_pop mt_popAt (pv 2) (pa_cons (pe_call G_law_draw (hr.mono (by decide)) (by rfl) T.g_law_draw T.F_law_draw.kp (b_law_draw T) .nil pass0 (pa_cons (pv 0) (pa_cons (pe_callB (call_lenK (K := K) rfl) (by rfl) T.n_len (by decide +kernel) (pa_cons (pv 2) pa_nil)) pa_nil))) pa_nil)) pa_nil))))) (pss_one (ps_ret (pv 3))))), fn_body h (by rw [hvl]; decide) (fun ds R hR hl => ?_)⟩
  obtain ⟨xs, rfl, hx, q⟩ := hR
  refine t_seq (M := fun ρ' => ρ' = [.dat .bag, .dat (.lst xs), .own xs, .own [], .un]) (t_par (P1 := fun e => e = .own xs) (P2 := fun e => e = .own []) (e_cb1 (ea_c (e_var rfl) ea_nil) cd_list) (e_lst1 ea_nil (by simp)) fun a b ha hb => by rw [ha, hb]; rfl) fun ρ' m => ?_
  subst m
  refine t_seq (M := fun ρ' => ∃ (ys rs : List D) (x : En), ρ' = [.dat .bag, .dat (.lst xs), .own rs, .own ys, x] ∧ ys.Perm xs) (t_for1 (iv_rngN (ea_c (EV.d1 (e_cb1 (ea_c (e_var rfl) ea_nil) cd_lenL)) ea_nil) (by omega)) (fun ds i ρ' => ∃ (ys rs : List D) (x : En), ρ' = [.dat .bag, .dat (.lst xs), .own rs, .own ys, x] ∧ (ys ++ rs).Perm xs ∧ ys.length = i) (fun ds e => ⟨[], xs, .un, rfl, List.Perm.refl _, rfl⟩) (fun ds i d ρ' e hd inv => ?_) (fun ds ρ' e ⟨ys, rs, x, a, b, c⟩ => ⟨ys, rs, x, a, ?_⟩)) fun ρ' m => ?_
  · subst e
    obtain ⟨ys, rs, x, rfl, hp, hl⟩ := inv
    obtain ⟨k, hk, rfl⟩ := map_get hd
    have hil := (List.getElem?_eq_some_iff.mp hk).1
    rw [List.length_range] at hil
    have hlen := hp.length_eq
    rw [List.length_append] at hlen
    refine t_apop (i := 3) (j := 2) (xs := ys) (ys := rs) (by decide) rfl rfl ((ea_1 (P := fun d => ∃ k : Nat, d = .int k ∧ k < rs.length) (e_lend (i := 2) (ds := rs) rfl ((e_draw (k := (rs.length : Int)) (e_var rfl) (EV.d1 (e_cb1 (ea_c (e_var rfl) ea_nil) cd_lenL)) (by omega) (by omega)).imp fun d ⟨j, e, h⟩ => ⟨j, e, by omega⟩) fun d ⟨j, e, _⟩ => by rw [e]; rfl)).imp fun ds ⟨z, e, k, ez, h⟩ => ⟨k, by rw [e, ez], h⟩) (by omega) (by omega) fun k y hy => ⟨ys ++ [y], rs.eraseIdx k, _, rfl, ?_, by rw [List.length_append, hl]; rfl⟩
    refine List.Perm.trans ?_ hp
    rw [List.append_assoc]
    refine List.Perm.append_left ys ?_
    obtain ⟨hkl, rfl⟩ := List.getElem?_eq_some_iff.mp hy
    exact erase_perm hkl
  · have hlen := b.length_eq
    rw [List.length_append, c, e, List.length_map, List.length_range] at hlen
    have hr : rs = [] := List.eq_nil_of_length_eq_zero (by omega)
    rw [hr, List.append_nil] at b
    exact b
  · obtain ⟨ys, rs, x, rfl, hp⟩ := m
    exact t_retO (i := 3) rfl (q ys hp)

end
end Nt

namespace Nt
open PySem PySem.Spec PyProof.Rows L2


section
variable {P : Program} {w : World} {K : PySem.W.Frag} {mg : Str → Option Value} {base : Heap}
theorem rowV_strok {cs : List (List Nat × Nat)} {r : List Nat} (hc : CsV cs) (h : RowV cs r) : (D.str r).ok = true := by
  show r.all (· < 0x110000) = true
  rw [List.all_eq_true]
  intro c hcm
  obtain ⟨i, hi⟩ := List.mem_iff_getElem?.mp hcm
  have hl := (List.getElem?_eq_some_iff.mp hi).1
  rw [h.1] at hl
  have h2 := h.2 i c _ hi (List.getElem?_eq_getElem hl)
  have h3 := hc.2 _ (List.getElem_mem hl)
  simp only [decide_eq_true_eq]
  omega


end
end Nt

namespace Nt
open PySem PySem.Spec PyProof.Rows L2


/-- one of the four plain kinds -/
def D.scal : D → Bool
  | .non | .bl _ | .int _ | .str _ => true
  | _ => false
def D.sm : Nat → D → Bool
  | n + 1, .tup ds | n + 1, .lst ds => ds.all (D.sm n) && decide (ds.length ≤ 100000)
  | _, d => d.scal
theorem kit_sc {d : D} (h : d.scal = true) : d.pl = true ∧ kitB d.ty "list" = some false ∧ kitB d.ty "tuple" = some false ∧ kitB d.ty "dict" = some false ∧ (∃ b, kitB d.ty "bool" = some b) ∧ (∃ b, kitB d.ty "int" = some b) ∧ (∃ b, kitB d.ty "str" = some b) := by
  cases d with
  | non => exact ⟨rfl, rfl, rfl, rfl, ⟨_, rfl⟩, ⟨_, rfl⟩, ⟨_, rfl⟩⟩
  | bl b => exact ⟨rfl, rfl, rfl, rfl, ⟨_, rfl⟩, ⟨_, rfl⟩, ⟨_, rfl⟩⟩
  | int i => exact ⟨rfl, rfl, rfl, rfl, ⟨_, rfl⟩, ⟨_, rfl⟩, ⟨_, rfl⟩⟩
  | str s => exact ⟨rfl, rfl, rfl, rfl, ⟨_, rfl⟩, ⟨_, rfl⟩, ⟨_, rfl⟩⟩
  | _ => cases h
theorem od_eqSc {K : PySem.W.Frag} {d : D} (h : d.scal = true) (hn : d.isN = false) : OD (rEqU K) d d (· = .dat (.bl true)) := by
  cases d with
  | non => cases hn
  | bl b => have := od_eqB (K := K) (a := b) (b := b); rw [decide_eq_true rfl] at this; exact this
  | int i => have := od_eqI (K := K) (a := i) (b := i); rw [decide_eq_true rfl] at this; exact this
  | str s => have := od_eqS (K := K) (a := s) (b := s); rw [decide_eq_true rfl] at this; exact this
  | _ => cases h
def Rg_same (n : Nat) (ds : List D) (P : En → Prop) : Prop := ∃ d : D, ds = [d, d] ∧ d.sm n = true ∧ P (.dat (.bl true))
abbrev Rg_law_same := Rg_same 2
theorem len_same {n : Nat} (ds P) (h : Rg_same n ds P) : ds.length = 2 := by obtain ⟨_, rfl, _⟩ := h; rfl
theorem len_law_same (ds P) (h : Rg_law_same ds P) : ds.length = 2 := len_same ds P h
section
variable {P : Program} {w : World} {K : PySem.W.Frag} {mg : Str → Option Value} {base : Heap}

theorem ok_law_same0 (T : Txt K mg) : FnOk P w K mg base CX0 1 T.a_law_same T.d_law_same ["_law_found", "_law_due"] (SpE (Rg_same 0)) := by
  refine T.F_law_same.ok sc_law_same (fun vs H Q E h => spE_len h len_same) (fun cdv A outer s H vs Q E hr h => ?_)
  have hu := hu64 hr
  have hvl : vs.length = 2 := spE_len h len_same
  refine ⟨_, (pss_cons (ps_if (PW.pt (pw_or (pt_cmpR op_isNU (pv 1) pe_non (nomark _)) (pw_or1 (pt_cmpR op_isNU (pv 0) pe_non (nomark _))))) (pss_one (ps_ret (pe_and (pe_cmpR op_isNU (pv 1) pe_non (nomark _)) (pe_one (pe_cmpR op_isNU (pv 0) pe_non (nomark _)))))) pss_nil) (pss_cons (ps_if (pt_val (pe_callB (call_isiK2 (K := K) rfl) (by rfl) T.n_isinstance (by decide +kernel) (pa_cons (pv 1) (pa_cons (pe_tup (pa_cons (pe_bltn (v := .ty "list") (by rfl) T.n_list (by decide +kernel) rfl) (pa_cons (pe_bltn (v := .ty "tuple") (by rfl) T.n_tuple (by decide +kernel) rfl) pa_nil))) pa_nil)))) (pss_cons ps_never (pss_one ps_never)) pss_nil) (pss_cons (ps_if (pt_val (pe_callB (call_isiK1 (K := K) rfl) (by rfl) T.n_isinstance (by decide +kernel) (pa_cons (pv 1) (pa_cons (pe_bltn (v := .ty "dict") (by rfl) T.n_dict (by decide +kernel) rfl) pa_nil)))) (pss_cons ps_never (pss_one ps_never)) pss_nil) (pss_cons (ps_if (PW.pt (pw_or (pt_cmpR (op_neK (K := K) rfl hu) (pe_callB (call_isiK1 (K := K) rfl) (by rfl) T.n_isinstance (by decide +kernel) (pa_cons (pv 1) (pa_cons (pe_bltn (v := .ty "bool") (by rfl) T.n_bool (by decide +kernel) rfl) pa_nil))) (pe_callB (call_isiK1 (K := K) rfl) (by rfl) T.n_isinstance (by decide +kernel) (pa_cons (pv 0) (pa_cons (pe_bltn (v := .ty "bool") (by rfl) T.n_bool (by decide +kernel) rfl) pa_nil))) (nomark _)) (pw_or1 (pt_cmpR (op_neK (K := K) rfl hu) (pe_callB (call_isiK1 (K := K) rfl) (by rfl) T.n_isinstance (by decide +kernel) (pa_cons (pv 1) (pa_cons (pe_bltn (v := .ty "int") (by rfl) T.n_int (by decide +kernel) rfl) pa_nil))) (pe_callB (call_isiK1 (K := K) rfl) (by rfl) T.n_isinstance (by decide +kernel) (pa_cons (pv 0) (pa_cons (pe_bltn (v := .ty "int") (by rfl) T.n_int (by decide +kernel) rfl) pa_nil))) (nomark _))))) (pss_one (ps_ret pe_bl)) pss_nil) (pss_one (ps_ret (pe_and (pe_cmpR (op_eqK (K := K) rfl hu) (pe_callB (call_isiK1 (K := K) rfl) (by rfl) T.n_isinstance (by decide +kernel) (pa_cons (pv 1) (pa_cons (pe_bltn (v := .ty "str") (by rfl) T.n_str (by decide +kernel) rfl) pa_nil))) (pe_callB (call_isiK1 (K := K) rfl) (by rfl) T.n_isinstance (by decide +kernel) (pa_cons (pv 0) (pa_cons (pe_bltn (v := .ty "str") (by rfl) T.n_str (by decide +kernel) rfl) pa_nil))) (nomark _)) (pe_one (pe_cmpR (op_eqK (K := K) rfl hu) (pv 0) (pv 1) (nomark _)))))))))), fn_body h (by rw [hvl]; decide) (fun ds R hR hl => ?_)⟩
  obtain ⟨d, rfl, hd, q⟩ := hR
  refine q_if1 (b := d.isN || d.isN) (et_or1 (et_t1 (e_opd (e_var rfl) e_non od_isN)) fun _ => et_t1 (e_opd (e_var rfl) e_non od_isN)) (fun e => t_ret1 (e_and (e_opd (e_var rfl) e_non od_isN) fun _ => e_opd (e_var rfl) e_non od_isN) ?_) (fun e => ?_)
  · have e' : d.isN = true := by simpa using e
    rw [e']; exact q
  have hn : d.isN = false := by simpa using e
  obtain ⟨pl, k1, k2, k3, ⟨b4, k4⟩, ⟨b5, k5⟩, ⟨b6, k6⟩⟩ := kit_sc hd
  refine q_if1 (b := false || false) (et_v1 (e_isi2 (e_var rfl) pl k1 k2)) (fun e => nomatch e) fun _ => ?_
  refine q_if1 (b := false) (et_v1 (e_isi (e_var rfl) pl k3)) (fun e => nomatch e) fun _ => ?_
  refine q_if1 (b := (!decide (b4 = b4)) || (!decide (b5 = b5))) (et_or1 (et_t1 (e_opd (e_isi (e_var rfl) pl k4) (e_isi (e_var rfl) pl k4) od_neB)) fun _ => et_t1 (e_opd (e_isi (e_var rfl) pl k5) (e_isi (e_var rfl) pl k5) od_neB)) (fun e => by simp at e) fun _ => ?_
  refine t_ret1 (e_and (a := decide (b6 = b6)) (c := true) (e_opd (e_isi (e_var rfl) pl k6) (e_isi (e_var rfl) pl k6) od_eqB) fun _ => e_opd (e_var rfl) (e_var rfl) (od_eqSc hd hn)) ?_
  rw [decide_eq_true rfl]
  exact q

theorem IV2.imp2 {wi : TI} {ρ : List En} {R R' : List (D × D) → Prop} (h : IV2 wi ρ R) (k : ∀ l, R l → R' l) : IV2 wi ρ R' := fun W0 W σ E Q q => h W0 W σ E Q fun v e W' g r p => q v e W' g r (k e p)

theorem ok_law_sameS (T : Txt K mg) (n : Nat) (G_law_same : FnOk P w K mg base CX0 (n + 1) T.a_law_same T.d_law_same ["_law_found", "_law_due"] (SpE (Rg_same n))) : FnOk P w K mg base CX0 (n + 2) T.a_law_same T.d_law_same ["_law_found", "_law_due"] (SpE (Rg_same (n + 1))) := by
  refine T.F_law_same.ok sc_law_same (fun vs H Q E h => spE_len h len_same) (fun cdv A outer s H vs Q E hr h => ?_)
  have hu := hu64 hr
  have hvl : vs.length = 2 := spE_len h len_same
  refine ⟨_, (pss_cons (ps_if (PW.pt (pw_or (pt_cmpR op_isNU (pv 1) pe_non (nomark _)) (pw_or1 (pt_cmpR op_isNU (pv 0) pe_non (nomark _))))) (pss_one (ps_ret (pe_and (pe_cmpR op_isNU (pv 1) pe_non (nomark _)) (pe_one (pe_cmpR op_isNU (pv 0) pe_non (nomark _)))))) pss_nil) (pss_cons (ps_if (pt_val (pe_callB (call_isiK2 (K := K) rfl) (by rfl) T.n_isinstance (by decide +kernel) (pa_cons (pv 1) (pa_cons (pe_tup (pa_cons (pe_bltn (v := .ty "list") (by rfl) T.n_list (by decide +kernel) rfl) (pa_cons (pe_bltn (v := .ty "tuple") (by rfl) T.n_tuple (by decide +kernel) rfl) pa_nil))) pa_nil)))) (pss_cons (ps_if (PW.pt (pw_or (pt_cmpR (op_neK (K := K) rfl hu) (pe_callB (call_isiK1 (K := K) rfl) (by rfl) T.n_isinstance (by decide +kernel) (pa_cons (pv 0) (pa_cons (pe_bltn (v := .ty "list") (by rfl) T.n_list (by decide +kernel) rfl) pa_nil))) (pe_callB (call_isiK1 (K := K) rfl) (by rfl) T.n_isinstance (by decide +kernel) (pa_cons (pv 1) (pa_cons (pe_bltn (v := .ty "list") (by rfl) T.n_list (by decide +kernel) rfl) pa_nil))) (nomark _)) (pw_or1 (pt_cmpR (op_neK (K := K) rfl hu) (pe_callB (call_isiK1 (K := K) rfl) (by rfl) T.n_isinstance (by decide +kernel) (pa_cons (pv 0) (pa_cons (pe_bltn (v := .ty "tuple") (by rfl) T.n_tuple (by decide +kernel) rfl) pa_nil))) (pe_callB (call_isiK1 (K := K) rfl) (by rfl) T.n_isinstance (by decide +kernel) (pa_cons (pv 1) (pa_cons (pe_bltn (v := .ty "tuple") (by rfl) T.n_tuple (by decide +kernel) rfl) pa_nil))) (nomark _))))) (pss_one (ps_ret pe_bl)) pss_nil) (pss_one (ps_ret (pe_and (pe_cmpR (op_eqK (K := K) rfl hu) (pe_callB (call_lenK (K := K) rfl) (by rfl) T.n_len (by decide +kernel) (pa_cons (pv 0) pa_nil)) (pe_callB (call_lenK (K := K) rfl) (by rfl) T.n_len (by decide +kernel) (pa_cons (pv 1) pa_nil)) (nomark _)) (pe_one (pe_callB (call_allK (K := K) rfl rfl) (by rfl) T.n_all (by decide +kernel) (pa_cons (pe_lc (own := [("_law_x", 3), ("_law_y", 4)]) (g := gTup K 2 (gCons (gName 3) (gCons (gName 4) gNil))) (tt := tYes) rfl sc_law_same.nd (pi_zipK (K := K) rfl (by rfl) T.n_zip (pa_cons (pv 0) (pa_cons (pv 1) pa_nil))) (blkOk_by (N := N_law_same) (sc := defScope s_law_same) (by decide +kernel)) (fun _ _ _ _ _ => (pg_tup rfl (pgs_cons (pg_name (i := 3) sc_law_same.nd rfl (Or.inl rfl)) (pgs_cons (pg_name (i := 4) sc_law_same.nd rfl (Or.inl rfl)) pgs_nil)))) (fun _ _ _ _ _ => pts_nil) (fun _ _ _ _ _ => (pe_call G_law_same (hr.mono (by omega)) (by rfl) T.g_law_same T.F_law_same.kp (b_law_same T) .nil pass0 (pa_cons (pv 3) (pa_cons (pv 4) pa_nil))))) pa_nil))))))) pss_nil) (pss_cons (ps_if (pt_val (pe_callB (call_isiK1 (K := K) rfl) (by rfl) T.n_isinstance (by decide +kernel) (pa_cons (pv 1) (pa_cons (pe_bltn (v := .ty "dict") (by rfl) T.n_dict (by decide +kernel) rfl) pa_nil)))) (pss_cons ps_never (pss_one ps_never)) pss_nil) (pss_cons (ps_if (PW.pt (pw_or (pt_cmpR (op_neK (K := K) rfl hu) (pe_callB (call_isiK1 (K := K) rfl) (by rfl) T.n_isinstance (by decide +kernel) (pa_cons (pv 1) (pa_cons (pe_bltn (v := .ty "bool") (by rfl) T.n_bool (by decide +kernel) rfl) pa_nil))) (pe_callB (call_isiK1 (K := K) rfl) (by rfl) T.n_isinstance (by decide +kernel) (pa_cons (pv 0) (pa_cons (pe_bltn (v := .ty "bool") (by rfl) T.n_bool (by decide +kernel) rfl) pa_nil))) (nomark _)) (pw_or1 (pt_cmpR (op_neK (K := K) rfl hu) (pe_callB (call_isiK1 (K := K) rfl) (by rfl) T.n_isinstance (by decide +kernel) (pa_cons (pv 1) (pa_cons (pe_bltn (v := .ty "int") (by rfl) T.n_int (by decide +kernel) rfl) pa_nil))) (pe_callB (call_isiK1 (K := K) rfl) (by rfl) T.n_isinstance (by decide +kernel) (pa_cons (pv 0) (pa_cons (pe_bltn (v := .ty "int") (by rfl) T.n_int (by decide +kernel) rfl) pa_nil))) (nomark _))))) (pss_one (ps_ret pe_bl)) pss_nil) (pss_one (ps_ret (pe_and (pe_cmpR (op_eqK (K := K) rfl hu) (pe_callB (call_isiK1 (K := K) rfl) (by rfl) T.n_isinstance (by decide +kernel) (pa_cons (pv 1) (pa_cons (pe_bltn (v := .ty "str") (by rfl) T.n_str (by decide +kernel) rfl) pa_nil))) (pe_callB (call_isiK1 (K := K) rfl) (by rfl) T.n_isinstance (by decide +kernel) (pa_cons (pv 0) (pa_cons (pe_bltn (v := .ty "str") (by rfl) T.n_str (by decide +kernel) rfl) pa_nil))) (nomark _)) (pe_one (pe_cmpR (op_eqK (K := K) rfl hu) (pv 0) (pv 1) (nomark _)))))))))), fn_body h (by rw [hvl]; decide) (fun ds R hR hl => ?_)⟩
  obtain ⟨d, rfl, hd, q⟩ := hR
  rcases (show d.scal = true ∨ (∃ ds, d = .tup ds) ∨ ∃ ds, d = .lst ds from by
    cases d <;> first | exact .inl rfl | exact .inr (.inl ⟨_, rfl⟩) | exact .inr (.inr ⟨_, rfl⟩) | cases hd) with hd | ⟨ds, rfl⟩ | ⟨ds, rfl⟩
  · refine q_if1 (b := d.isN || d.isN) (et_or1 (et_t1 (e_opd (e_var rfl) e_non od_isN)) fun _ => et_t1 (e_opd (e_var rfl) e_non od_isN)) (fun e => t_ret1 (e_and (e_opd (e_var rfl) e_non od_isN) fun _ => e_opd (e_var rfl) e_non od_isN) ?_) (fun e => ?_)
    · have e' : d.isN = true := by simpa using e
      rw [e']; exact q
    have hn : d.isN = false := by simpa using e
    obtain ⟨pl, k1, k2, k3, ⟨b4, k4⟩, ⟨b5, k5⟩, ⟨b6, k6⟩⟩ := kit_sc hd
    refine q_if1 (b := false || false) (et_v1 (e_isi2 (e_var rfl) pl k1 k2)) (fun e => nomatch e) fun _ => ?_
    refine q_if1 (b := false) (et_v1 (e_isi (e_var rfl) pl k3)) (fun e => nomatch e) fun _ => ?_
    refine q_if1 (b := (!decide (b4 = b4)) || (!decide (b5 = b5))) (et_or1 (et_t1 (e_opd (e_isi (e_var rfl) pl k4) (e_isi (e_var rfl) pl k4) od_neB)) fun _ => et_t1 (e_opd (e_isi (e_var rfl) pl k5) (e_isi (e_var rfl) pl k5) od_neB)) (fun e => by simp at e) fun _ => ?_
    refine t_ret1 (e_and (a := decide (b6 = b6)) (c := true) (e_opd (e_isi (e_var rfl) pl k6) (e_isi (e_var rfl) pl k6) od_eqB) fun _ => e_opd (e_var rfl) (e_var rfl) (od_eqSc hd hn)) ?_
    rw [decide_eq_true rfl]
    exact q

  · -- tup
    have h2 : ds.all (D.sm n) = true ∧ ds.length ≤ 100000 := by
      have := hd
      unfold D.sm at this
      rw [Bool.and_eq_true, decide_eq_true_eq] at this
      exact this
    refine q_if1 (b := false || false) (et_or1 (et_t1 (e_opd (e_var rfl) e_non od_isN)) fun _ => et_t1 (e_opd (e_var rfl) e_non od_isN)) (fun e => nomatch e) (fun e => ?_)
    refine q_if1 (b := false || true) (et_v1 (e_isi2 (e_var rfl) rfl rfl rfl)) (fun _ => ?_) (fun e => nomatch e)
    refine q_if1 (b := (!decide (false = false)) || (!decide (true = true))) (et_or1 (et_t1 (e_opd (e_isi (e_var rfl) rfl rfl) (e_isi (e_var rfl) rfl rfl) od_neB)) fun _ => et_t1 (e_opd (e_isi (e_var rfl) rfl rfl) (e_isi (e_var rfl) rfl rfl) od_neB)) (fun e => by simp at e) fun _ => ?_
    refine t_ret1 (e_and (a := decide ((ds.length : Int) = (ds.length : Int))) (c := ((ds.zip ds).map fun _ => true).all id) (e_opd (EV.d1 (e_cb1 (ea_c (e_var rfl) ea_nil) cd_lenT)) (EV.d1 (e_cb1 (ea_c (e_var rfl) ea_nil) cd_lenT)) od_eqI) fun _ => EV.d1 (e_cb1 (ea_c (EV.o1 ((lc2_map (ds := ds.zip ds) (emb := fun p => p) (f := fun _ => .bl true) (by decide) ((iv_zip (.tup _) (.tup _) (ea_c (e_var rfl) (ea_c (e_var rfl) ea_nil))).imp2 fun l e => by rw [e, List.map_id']) (by rw [List.length_zip]; omega) (fun i p hp => ?_)).imp fun e he => by rw [he, List.map_map]; rfl)) ea_nil) cd_all)) ?_
    · obtain ⟨z1, z2⟩ := zip_get hp
      have e12 : p.1 = p.2 := by rw [z1] at z2; exact Option.some.inj z2
      have hsc : p.2.sm n = true := List.all_eq_true.mp h2.1 _ (List.mem_of_getElem? z2)
      exact EV.d1 (e_call0 (R := fun e => e = .dat (.bl true)) (ea_c (e_var rfl) (ea_c (e_var rfl) ea_nil)) ⟨p.2, by rw [e12], hsc, rfl⟩)
    · rw [decide_eq_true rfl, List.all_map]
      have : (ds.zip ds).all (id ∘ fun _ => true) = true := List.all_eq_true.mpr fun _ _ => rfl
      rw [this]
      exact q

  · -- lst
    have h2 : ds.all (D.sm n) = true ∧ ds.length ≤ 100000 := by
      have := hd
      unfold D.sm at this
      rw [Bool.and_eq_true, decide_eq_true_eq] at this
      exact this
    refine q_if1 (b := false || false) (et_or1 (et_t1 (e_opd (e_var rfl) e_non od_isN)) fun _ => et_t1 (e_opd (e_var rfl) e_non od_isN)) (fun e => nomatch e) (fun e => ?_)
    refine q_if1 (b := true || false) (et_v1 (e_isi2 (e_var rfl) rfl rfl rfl)) (fun _ => ?_) (fun e => nomatch e)
    refine q_if1 (b := (!decide (true = true)) || (!decide (false = false))) (et_or1 (et_t1 (e_opd (e_isi (e_var rfl) rfl rfl) (e_isi (e_var rfl) rfl rfl) od_neB)) fun _ => et_t1 (e_opd (e_isi (e_var rfl) rfl rfl) (e_isi (e_var rfl) rfl rfl) od_neB)) (fun e => by simp at e) fun _ => ?_
    refine t_ret1 (e_and (a := decide ((ds.length : Int) = (ds.length : Int))) (c := ((ds.zip ds).map fun _ => true).all id) (e_opd (EV.d1 (e_cb1 (ea_c (e_var rfl) ea_nil) cd_lenL)) (EV.d1 (e_cb1 (ea_c (e_var rfl) ea_nil) cd_lenL)) od_eqI) fun _ => EV.d1 (e_cb1 (ea_c (EV.o1 ((lc2_map (ds := ds.zip ds) (emb := fun p => p) (f := fun _ => .bl true) (by decide) ((iv_zip (.lst _) (.lst _) (ea_c (e_var rfl) (ea_c (e_var rfl) ea_nil))).imp2 fun l e => by rw [e, List.map_id']) (by rw [List.length_zip]; omega) (fun i p hp => ?_)).imp fun e he => by rw [he, List.map_map]; rfl)) ea_nil) cd_all)) ?_
    · obtain ⟨z1, z2⟩ := zip_get hp
      have e12 : p.1 = p.2 := by rw [z1] at z2; exact Option.some.inj z2
      have hsc : p.2.sm n = true := List.all_eq_true.mp h2.1 _ (List.mem_of_getElem? z2)
      exact EV.d1 (e_call0 (R := fun e => e = .dat (.bl true)) (ea_c (e_var rfl) (ea_c (e_var rfl) ea_nil)) ⟨p.2, by rw [e12], hsc, rfl⟩)
    · rw [decide_eq_true rfl, List.all_map]
      have : (ds.zip ds).all (id ∘ fun _ => true) = true := List.all_eq_true.mpr fun _ _ => rfl
      rw [this]
      exact q

theorem ok_same_n (T : Txt K mg) : ∀ n : Nat, FnOk P w K mg base CX0 (n + 1) T.a_law_same T.d_law_same ["_law_found", "_law_due"] (SpE (Rg_same n))
  | 0 => ok_law_same0 T
  | n + 1 => ok_law_sameS T n (ok_same_n T n)
theorem ok_law_same (T : Txt K mg) : FnOk P w K mg base CX0 3 T.a_law_same T.d_law_same ["_law_found", "_law_due"] (SpE Rg_law_same) := ok_same_n T 2
end
end Nt

namespace Nt
open PySem PySem.Spec PyProof.Rows L2


/-! ### rows, the rest -/
def wtn (x y : List Nat) : Bool := ((x.zip y).map fun p => decide (p.1 = 46) || decide (p.2 = 43)).all id
def agr (x y : List Nat) : Bool := ((x.zip y).map fun p => decide (p.1 = p.2) || (decide (p.1 = 46) || decide (p.2 = 46))).all id
def cutR (r : List Nat) (ps : List Nat) : List Nat := ps.map fun p => r.getD p 0
def layL : List (List Nat) → List Nat
  | [] => []
  | r :: rs => rs.foldl (fun s x => ov x s) r
def Rg_laid (ds : List D) (P : En → Prop) : Prop := ∃ (xr : D) (r : List Nat) (rs : List (List Nat)), ds = [xr] ∧ Sq xr ((r :: rs).map D.str) ∧ rs.length ≤ 1000 ∧ Len r.length rs ∧ r.length ≤ 1000 ∧ P (.dat (.str (layL (r :: rs))))
def Rg_within (ds : List D) (P : En → Prop) : Prop := ∃ x y, ds = [.str x, .str y] ∧ x.length ≤ 1000 ∧ P (.dat (.bl (wtn x y)))
def Rg_agree (ds : List D) (P : En → Prop) : Prop := ∃ x y, ds = [.str x, .str y] ∧ x.length ≤ 1000 ∧ P (.dat (.bl (agr x y)))
def Rg_cut (ds : List D) (P : En → Prop) : Prop := ∃ (r : List Nat) (xp : D) (ps : List Nat), ds = [.str r, xp] ∧ Sq xp (ps.map fun (i : Nat) => D.int i) ∧ ps.length ≤ 1000 ∧ r.length ≤ 1000 ∧ (∀ p ∈ ps, p < r.length) ∧ P (.dat (.str (cutR r ps)))
theorem len_laid (ds P) (h : Rg_laid ds P) : ds.length = 1 := by obtain ⟨_, _, _, rfl, _⟩ := h; rfl
theorem len_within (ds P) (h : Rg_within ds P) : ds.length = 2 := by obtain ⟨_, _, rfl, _⟩ := h; rfl
theorem len_agree (ds P) (h : Rg_agree ds P) : ds.length = 2 := by obtain ⟨_, _, rfl, _⟩ := h; rfl
theorem len_cut (ds P) (h : Rg_cut ds P) : ds.length = 2 := by obtain ⟨_, _, _, rfl, _⟩ := h; rfl
section
variable {P : Program} {w : World} {K : PySem.W.Frag} {mg : Str → Option Value} {base : Heap}
/-- xs[1:] of a list or a tuple that is not empty -/
theorem iv_tl {te th : TE} {ρ : List En} {x : D} {d : D} {ds : List D} (s : Sq x (d :: ds)) (h : ED te ρ (· = x)) (h1 : ED th ρ (· = .int 1)) : IV1 (iSeq K (tSl (rSlU K) te (tPart th) tNoPart)) ρ (· = ds) := by
  have e : cutN (d :: ds) (some 1) none = ds := by
    exact cut_from (xs := d :: ds) (i := 1) (k := 1) rfl (by simp)
  generalize hy : d :: ds = ys at s e
  cases s with
  | lst =>
    have q := EV.o1 (e_sl h (eo_part h1) eo_none (sd_lst (K := K)))
    rw [e] at q
    exact iv_list1 q
  | tup =>
    have q := EV.d1 (e_sl h (eo_part h1) eo_none (sd_tup (K := K) (by
      subst hy
      intro z
      have z1 := z.1
      simp [HT.sIx] at z1)))
    rw [e] at q
    exact iv_tup1 q

theorem ok_laid (T : Txt K mg) (G_over : FnOk P w K mg base CX0 1 T.a_over T.d_over ["newer", "older"] (SpE Rg_over)) : FnOk P w K mg base CX0 2 T.a_laid T.d_laid ["rows"] (SpE Rg_laid) := by
  refine T.F_laid.ok sc_laid (fun vs H Q E h => spE_len h len_laid) (fun cdv A outer s H vs Q E hr h => ?_)
  have hu := hu64 hr
  have hvl : vs.length = 1 := spE_len h len_laid
  refine ⟨_, (pss_cons (ps_set (i := 1) sc_laid.nd rfl (Or.inl rfl) (pe_ix (ix_K (K := K) rfl) (pv 0) pe_int (fun _ _ => rfl))) (pss_cons (ps_for PassesOwn.never rfl (pi_listK (K := K) rfl (pe_slice (sl_K (K := K) rfl) (pv 0) (po_some pe_int) po_none)) (pg_name (i := 2) sc_laid.nd rfl (Or.inl rfl)) (pss_one (ps_set (i := 1) sc_laid.nd rfl (Or.inl rfl) (pe_call G_over (hr.mono (by decide)) (by rfl) T.g_over T.F_over.kp (b_over T) .nil pass0 (pa_cons (pv 2) (pa_cons (pv 1) pa_nil)))))) (pss_one (ps_ret (pv 1))))), fn_body h (by rw [hvl]; decide) (fun ds R hR hl => ?_)⟩
  obtain ⟨xr, r, rs, rfl, qs, h1, h2, h3, q⟩ := hR
  refine q_asg1 (e_opd (e_var rfl) e_int (od_ixSq (j := 0) qs rfl rfl)) ?_
  refine t_seq (M := fun ρ' => ∃ x, ρ' = [.dat xr, .dat (.str (layL (r :: rs))), x]) (t_for1 (iv_tl (ds := rs.map D.str) qs (e_var rfl) e_int) (fun ds i ρ' => ∃ (s : List Nat) (x : En), ρ' = [.dat xr, .dat (.str s), x] ∧ s = (rs.take i).foldl (fun s x => ov x s) r ∧ s.length = r.length) (fun ds e => ⟨r, .un, rfl, rfl, rfl⟩) (fun ds i d ρ' e hd inv => ?_) (fun ds ρ' e ⟨s, x, a, b, c⟩ => ⟨x, by rw [a, b, e, List.length_map, take_all]; rfl⟩)) fun ρ' m => ?_
  · subst e
    obtain ⟨s, x, rfl, hs, hl⟩ := inv
    obtain ⟨y, hy, rfl⟩ := map_get hd
    have hyl := h2 y (List.mem_of_getElem? hy)
    refine t_asgd (PD := fun d => d = .str (ov y s)) (EV.d1 (e_call0 (R := fun e => e = .dat (.str (ov y s))) (ea_c (e_var rfl) (ea_c (e_var rfl) ea_nil)) ⟨y, s, rfl, by omega, rfl⟩)) fun d hd => ⟨ov y s, .dat (.str y), by rw [hd]; rfl, by rw [take_step hy, List.foldl_append, ← hs]; rfl, by rw [ov_len]; omega⟩
  · obtain ⟨x, rfl⟩ := m
    exact t_ret1 (e_var rfl) q

theorem ok_within (T : Txt K mg)  : FnOk P w K mg base CX0 1 T.a_within T.d_within ["one", "other"] (SpE Rg_within) := by
  refine T.F_within.ok sc_within (fun vs H Q E h => spE_len h len_within) (fun cdv A outer s H vs Q E hr h => ?_)
  have hu := hu64 hr
  have hvl : vs.length = 2 := spE_len h len_within
  refine ⟨_, (pss_one (ps_ret (pe_callB (call_allK (K := K) rfl rfl) (by rfl) T.n_all (by decide +kernel) (pa_cons (pe_lc (own := [("sign", 2), ("holding", 3)]) (g := gTup K 2 (gCons (gName 2) (gCons (gName 3) gNil))) (tt := tYes) rfl sc_within.nd (pi_zipK (K := K) rfl (by rfl) T.n_zip (pa_cons (pv 0) (pa_cons (pv 1) pa_nil))) (blkOk_by (N := N_within) (sc := defScope s_within) (by decide +kernel)) (fun _ _ _ _ _ => (pg_tup rfl (pgs_cons (pg_name (i := 2) sc_within.nd rfl (Or.inl rfl)) (pgs_cons (pg_name (i := 3) sc_within.nd rfl (Or.inl rfl)) pgs_nil)))) (fun _ _ _ _ _ => pts_nil) (fun _ _ _ _ _ => (pe_or (pe_cmpR (op_eqK (K := K) rfl hu) (pv 2) (pe_glob (v := .str ".") rfl T.c_DOT ⟨_, rfl⟩) (nomark _)) (pe_one (pe_cmpR (op_eqK (K := K) rfl hu) (pv 3) (pe_glob (v := .str "+") rfl T.c_PLUS ⟨_, rfl⟩) (nomark _)))))) pa_nil)))), fn_body h (by rw [hvl]; decide) (fun ds R hR hl => ?_)⟩
  obtain ⟨x, y, rfl, hx, q⟩ := hR
  refine t_ret1 (d := .bl (wtn x y)) (EV.d1 (e_cb1 (ea_c (EV.o1 ((lc2_map (emb := pr) (f := fun (p : Nat × Nat) => D.bl (decide (p.1 = 46) || decide (p.2 = 43))) (by decide) (iv_zipS (ea_c (e_var rfl) (ea_c (e_var rfl) ea_nil))) (by rw [List.length_zip]; omega) fun i p hp => ?_).imp fun e he => ?_)) ea_nil) (cd_all (bs := (x.zip y).map fun (p : Nat × Nat) => decide (p.1 = 46) || decide (p.2 = 43))))) q
  · rw [← str1 p.1 46, ← str1 p.2 43]
    exact e_or (e_opd (e_var rfl) (e_str (s := [46]) (by decide +kernel)) od_eqS) fun _ => e_opd (e_var rfl) (e_str (s := [43]) (by decide +kernel)) od_eqS
  · rw [he, List.map_map]; rfl

theorem ok_agree (T : Txt K mg)  : FnOk P w K mg base CX0 1 T.a_agree T.d_agree ["one", "other"] (SpE Rg_agree) := by
  refine T.F_agree.ok sc_agree (fun vs H Q E h => spE_len h len_agree) (fun cdv A outer s H vs Q E hr h => ?_)
  have hu := hu64 hr
  have hvl : vs.length = 2 := spE_len h len_agree
  refine ⟨_, (pss_one (ps_ret (pe_callB (call_allK (K := K) rfl rfl) (by rfl) T.n_all (by decide +kernel) (pa_cons (pe_lc (own := [("sign", 2), ("beside", 3)]) (g := gTup K 2 (gCons (gName 2) (gCons (gName 3) gNil))) (tt := tYes) rfl sc_agree.nd (pi_zipK (K := K) rfl (by rfl) T.n_zip (pa_cons (pv 0) (pa_cons (pv 1) pa_nil))) (blkOk_by (N := N_agree) (sc := defScope s_agree) (by decide +kernel)) (fun _ _ _ _ _ => (pg_tup rfl (pgs_cons (pg_name (i := 2) sc_agree.nd rfl (Or.inl rfl)) (pgs_cons (pg_name (i := 3) sc_agree.nd rfl (Or.inl rfl)) pgs_nil)))) (fun _ _ _ _ _ => pts_nil) (fun _ _ _ _ _ => (pe_or (pe_cmpR (op_eqK (K := K) rfl hu) (pv 2) (pv 3) (nomark _)) (pe_or (pe_cmpR (op_eqK (K := K) rfl hu) (pv 2) (pe_glob (v := .str ".") rfl T.c_DOT ⟨_, rfl⟩) (nomark _)) (pe_one (pe_cmpR (op_eqK (K := K) rfl hu) (pv 3) (pe_glob (v := .str ".") rfl T.c_DOT ⟨_, rfl⟩) (nomark _))))))) pa_nil)))), fn_body h (by rw [hvl]; decide) (fun ds R hR hl => ?_)⟩
  obtain ⟨x, y, rfl, hx, q⟩ := hR
  refine t_ret1 (d := .bl (agr x y)) (EV.d1 (e_cb1 (ea_c (EV.o1 ((lc2_map (emb := pr) (f := fun (p : Nat × Nat) => D.bl (decide (p.1 = p.2) || (decide (p.1 = 46) || decide (p.2 = 46)))) (by decide) (iv_zipS (ea_c (e_var rfl) (ea_c (e_var rfl) ea_nil))) (by rw [List.length_zip]; omega) fun i p hp => ?_).imp fun e he => ?_)) ea_nil) (cd_all (bs := (x.zip y).map fun (p : Nat × Nat) => decide (p.1 = p.2) || (decide (p.1 = 46) || decide (p.2 = 46)))))) q
  · rw [← str1 p.1 46, ← str1 p.2 46, ← str1 p.1 p.2]
    exact e_or (e_opd (e_var rfl) (e_var rfl) od_eqS) fun _ => e_or (e_opd (e_var rfl) (e_str (s := [46]) (by decide +kernel)) od_eqS) fun _ => e_opd (e_var rfl) (e_str (s := [46]) (by decide +kernel)) od_eqS
  · rw [he, List.map_map]; rfl

theorem ok_cut (T : Txt K mg)  : FnOk P w K mg base CX0 1 T.a_cut T.d_cut ["row", "places"] (SpE Rg_cut) := by
  refine T.F_cut.ok sc_cut (fun vs H Q E h => spE_len h len_cut) (fun cdv A outer s H vs Q E hr h => ?_)
  have hu := hu64 hr
  have hvl : vs.length = 2 := spE_len h len_cut
  refine ⟨_, (pss_one (ps_ret (pe_joinK (K := K) rfl pe_str (pe_lc (own := [("place", 2)]) (g := gName 2) (tt := tYes) rfl sc_cut.nd (pi_listK (K := K) rfl (pv 1)) (blkOk_by (N := N_cut) (sc := defScope s_cut) (by decide +kernel)) (fun _ _ _ _ _ => (pg_name (i := 2) sc_cut.nd rfl (Or.inl rfl))) (fun _ _ _ _ _ => pts_nil) (fun _ _ _ _ _ => (pe_ix (ix_K (K := K) rfl) (pv 0) (pv 2) (fun _ _ => rfl))))))), fn_body h (by rw [hvl]; decide) (fun ds R hR hl => ?_)⟩
  obtain ⟨r, xp, ps, rfl, qs, h1, h2, h3, q⟩ := hR
  refine t_ret1 (e_joinc (src := ps) (f := fun p => r.getD p 0) (e_str rfl) (lc1_map (emb := fun (i : Nat) => D.int i) (iv_sq qs (e_var rfl)) (by omega) fun i p hp => ?_) (by omega)) q
  have hp' := h3 p (List.mem_of_getElem? hp)
  exact e_opd (e_var rfl) (e_var rfl) (od_ixS (j := p) rfl (get_of_lt hp') (by omega))

end
end Nt

namespace Nt
open PySem PySem.Spec PyProof.Rows L2


def innB (x y : List Nat) : Bool := ((List.range x.length).filter fun k => decide (x.getD k 0 = 43) && decide (y.getD k 0 = 46)).isEmpty
def metB (x y : List Nat) : Bool := ((List.range x.length).filter fun k => !decide (x.getD k 0 = 46) && (!decide (y.getD k 0 = 46) && !decide (x.getD k 0 = y.getD k 0))).isEmpty
def Rg_law_inner (ds : List D) (P : En → Prop) : Prop := ∃ x y : List Nat, ds = [.str x, .str y] ∧ x.length = y.length ∧ x.length ≤ 1000 ∧ P (.dat (.bl (innB x y)))
def Rg_law_meet (ds : List D) (P : En → Prop) : Prop := ∃ x y : List Nat, ds = [.str x, .str y] ∧ x.length = y.length ∧ x.length ≤ 1000 ∧ P (.dat (.bl (metB x y)))
def Rg_law_bent (ds : List D) (P : En → Prop) : Prop := ∃ (cs : List (List Nat × Nat)) (r : List Nat), ds = [.bag, .lst (cs.map cellD), .str r] ∧ CsV cs ∧ 1 ≤ cs.length ∧ RowV cs r ∧ ∀ r', RowV cs r' → P (.dat (.str r'))
theorem len_law_inner (ds P) (h : Rg_law_inner ds P) : ds.length = 2 := by obtain ⟨_, _, rfl, _⟩ := h; rfl
theorem len_law_meet (ds P) (h : Rg_law_meet ds P) : ds.length = 2 := by obtain ⟨_, _, rfl, _⟩ := h; rfl
theorem len_law_bent (ds P) (h : Rg_law_bent ds P) : ds.length = 3 := by obtain ⟨_, _, rfl, _⟩ := h; rfl
theorem okNat (l : List Nat) : ∀ d ∈ l.map (fun (i : Nat) => D.int i), d.ok = true := fun d hd => by
  obtain ⟨i, _, rfl⟩ := List.mem_map.mp hd
  rfl
theorem empNat (l : List Nat) : (l.map fun (i : Nat) => D.int i).isEmpty = l.isEmpty := by cases l <;> rfl
section
variable {P : Program} {w : World} {K : PySem.W.Frag} {mg : Str → Option Value} {base : Heap}
/-- the sign at a place is written -/
theorem e_sgn {ρ : List En} {ta tb : TE} {s : List Nat} {k : Nat} (h1 : ED ta ρ (· = .str s)) (h2 : ED tb ρ (· = .int k)) (hk : k < s.length) (hl : s.length ≤ 1000) : ED (tOp (rIx K) ta tb) ρ (· = .str [s.getD k 0]) := e_opd h1 h2 (od_ixS (j := k) rfl (get_of_lt hk) (by omega))

theorem ok_law_inner (T : Txt K mg)  : FnOk P w K mg base CX0 1 T.a_law_inner T.d_law_inner ["_law_x", "_law_y"] (SpE Rg_law_inner) := by
  refine T.F_law_inner.ok sc_law_inner (fun vs H Q E h => spE_len h len_law_inner) (fun cdv A outer s H vs Q E hr h => ?_)
  have hu := hu64 hr
  have hvl : vs.length = 2 := spE_len h len_law_inner
  refine ⟨_, (pss_one (ps_ret (pe_cmpR (op_eqK (K := K) rfl hu) (pe_lc (own := [("_law_k", 2)]) (g := gName 2) (tt := _) rfl sc_law_inner.nd (pi_range1 (by rfl) T.n_range (pa_cons (pe_callB (call_lenK (K := K) rfl) (by rfl) T.n_len (by decide +kernel) (pa_cons (pv 0) pa_nil)) pa_nil)) (blkOk_by (N := N_law_inner) (sc := defScope s_law_inner) (by decide +kernel)) (fun _ _ _ _ _ => (pg_name (i := 2) sc_law_inner.nd rfl (Or.inl rfl))) (fun _ _ _ _ _ => (pts_one (PW.pt (pw_and (pt_cmpR (op_eqK (K := K) rfl hu) (pe_ix (ix_K (K := K) rfl) (pv 0) (pv 2) (fun _ _ => rfl)) pe_str (nomark _)) (pw_and1 (pt_cmpR (op_eqK (K := K) rfl hu) (pe_ix (ix_K (K := K) rfl) (pv 1) (pv 2) (fun _ _ => rfl)) pe_str (nomark _))))))) (fun _ _ _ _ _ => (pv 2))) (pe_lst pa_nil) (nomark _)))), fn_body h (by rw [hvl]; decide) (fun ds R hR hl => ?_)⟩
  obtain ⟨x, y, rfl, hxy, hx, q⟩ := hR
  refine t_ret1 (e_opd (EV.o1 (lc1_filt (ds := List.range x.length) (t := fun k => decide (x.getD k 0 = 43) && decide (y.getD k 0 = 46)) (emb := fun (i : Nat) => D.int i) (f := fun (i : Nat) => .int i) (iv_rngN (ea_c (EV.d1 (e_cb1 (ea_c (e_var rfl) ea_nil) (cd_lenS (by omega)))) ea_nil) (by omega)) (by rw [List.length_range]; omega) (fun i k hk => ?_) (fun i p hp _ => e_var rfl))) (EV.o1 (e_lst1 ea_nil (by simp))) (od_eqN (okNat _))) ?_
  · have hk' : k < x.length := List.mem_range.mp (List.mem_of_getElem? hk)
    rw [← str1 (x.getD k 0) 43, ← str1 (y.getD k 0) 46]
    exact et_and1 (et_eqS (e_sgn (e_var rfl) (e_var rfl) hk' hx) (e_str (s := [43]) (by decide +kernel))) fun _ => et_eqS (e_sgn (e_var rfl) (e_var rfl) (by omega) (by omega)) (e_str (s := [46]) (by decide +kernel))
  · rw [empNat]; exact q

theorem ok_law_meet (T : Txt K mg)  : FnOk P w K mg base CX0 1 T.a_law_meet T.d_law_meet ["_law_x", "_law_y"] (SpE Rg_law_meet) := by
  refine T.F_law_meet.ok sc_law_meet (fun vs H Q E h => spE_len h len_law_meet) (fun cdv A outer s H vs Q E hr h => ?_)
  have hu := hu64 hr
  have hvl : vs.length = 2 := spE_len h len_law_meet
  refine ⟨_, (pss_one (ps_ret (pe_cmpR (op_eqK (K := K) rfl hu) (pe_lc (own := [("_law_k", 2)]) (g := gName 2) (tt := _) rfl sc_law_meet.nd (pi_range1 (by rfl) T.n_range (pa_cons (pe_callB (call_lenK (K := K) rfl) (by rfl) T.n_len (by decide +kernel) (pa_cons (pv 0) pa_nil)) pa_nil)) (blkOk_by (N := N_law_meet) (sc := defScope s_law_meet) (by decide +kernel)) (fun _ _ _ _ _ => (pg_name (i := 2) sc_law_meet.nd rfl (Or.inl rfl))) (fun _ _ _ _ _ => (pts_one (PW.pt (pw_and (pt_cmpR (op_neK (K := K) rfl hu) (pe_ix (ix_K (K := K) rfl) (pv 0) (pv 2) (fun _ _ => rfl)) pe_str (nomark _)) (pw_and (pt_cmpR (op_neK (K := K) rfl hu) (pe_ix (ix_K (K := K) rfl) (pv 1) (pv 2) (fun _ _ => rfl)) pe_str (nomark _)) (pw_and1 (pt_cmpR (op_neK (K := K) rfl hu) (pe_ix (ix_K (K := K) rfl) (pv 0) (pv 2) (fun _ _ => rfl)) (pe_ix (ix_K (K := K) rfl) (pv 1) (pv 2) (fun _ _ => rfl)) (nomark _)))))))) (fun _ _ _ _ _ => (pv 2))) (pe_lst pa_nil) (nomark _)))), fn_body h (by rw [hvl]; decide) (fun ds R hR hl => ?_)⟩
  obtain ⟨x, y, rfl, hxy, hx, q⟩ := hR
  refine t_ret1 (e_opd (EV.o1 (lc1_filt (ds := List.range x.length) (t := fun k => !decide (x.getD k 0 = 46) && (!decide (y.getD k 0 = 46) && !decide (x.getD k 0 = y.getD k 0))) (emb := fun (i : Nat) => D.int i) (f := fun (i : Nat) => .int i) (iv_rngN (ea_c (EV.d1 (e_cb1 (ea_c (e_var rfl) ea_nil) (cd_lenS (by omega)))) ea_nil) (by omega)) (by rw [List.length_range]; omega) (fun i k hk => ?_) (fun i p hp _ => e_var rfl))) (EV.o1 (e_lst1 ea_nil (by simp))) (od_eqN (okNat _))) ?_
  · have hk' : k < x.length := List.mem_range.mp (List.mem_of_getElem? hk)
    rw [← str1 (x.getD k 0) 46, ← str1 (y.getD k 0) 46, ← str1 (x.getD k 0) (y.getD k 0)]
    exact et_and1 (et_neS (e_sgn (e_var rfl) (e_var rfl) hk' hx) (e_str (s := [46]) (by decide +kernel))) fun _ => et_and1 (et_neS (e_sgn (e_var rfl) (e_var rfl) (by omega) (by omega)) (e_str (s := [46]) (by decide +kernel))) fun _ => et_neS (e_sgn (e_var rfl) (e_var rfl) hk' hx) (e_sgn (e_var rfl) (e_var rfl) (by omega) (by omega))
  · rw [empNat]; exact q

theorem ok_law_bent (T : Txt K mg) (G_law_draw : FnOk P w K mg base CX0 1 T.a_law_draw T.d_law_draw ["_law_bag_here", "_law_sides"] (SpE Rg_law_draw)) (G_law_of : FnOk P w K mg base CX0 2 T.a_law_of T.d_law_of ["_law_bag_here", "_law_things"] (SpE Rg_law_of)) (G_law_row : FnOk P w K mg base CX0 2 T.a_law_row T.d_law_row ["_law_bag_here", "_law_frame_here", "_law_thin"] (SpE Rg_law_row)) : FnOk P w K mg base CX0 3 T.a_law_bent T.d_law_bent ["_law_bag_here", "_law_frame_here", "_law_r"] (SpE Rg_law_bent) := by
  refine T.F_law_bent.ok sc_law_bent (fun vs H Q E h => spE_len h len_law_bent) (fun cdv A outer s H vs Q E hr h => ?_)
  have hu := hu64 hr
  obtain ⟨ds0, vd_law_row, bd_law_row⟩ := T.F_law_row.binds1 (ps := ["_law_bag_here", "_law_frame_here", "_law_thin"]) 2 0 (by simp) (by rfl) fun _ _ _ _ _ _ _ us its hu hi => match us, its, hu, hi with
    | [_, _], [_], _, _ => ⟨_, rfl, rfl⟩
  have hvl : vs.length = 3 := spE_len h len_law_bent
  refine ⟨_, (pss_cons (ps_if (pt_cmpR (op_eqK (K := K) rfl hu) (pe_call G_law_draw (hr.mono (by decide)) (by rfl) T.g_law_draw T.F_law_draw.kp (b_law_draw T) .nil pass0 (pa_cons (pv 0) (pa_cons pe_int pa_nil))) pe_int (nomark _)) (pss_one (ps_ret (pe_call G_law_row (hr.mono (by decide)) (by rfl) T.g_law_row T.F_law_row.kp bd_law_row vd_law_row pass0 (pa_cons (pv 0) (pa_cons (pv 1) pa_nil))))) pss_nil) (pss_cons (ps_set (i := 3) sc_law_bent.nd rfl (Or.inl rfl) (pe_call G_law_draw (hr.mono (by decide)) (by rfl) T.g_law_draw T.F_law_draw.kp (b_law_draw T) .nil pass0 (pa_cons (pv 0) (pa_cons (pe_callB (call_lenK (K := K) rfl) (by rfl) T.n_len (by decide +kernel) (pa_cons (pv 1) pa_nil)) pa_nil)))) (pss_one (ps_ret (pe_op op_plus (pe_op op_plus (pe_slice (sl_K (K := K) rfl) (pv 2) po_none (po_some (pv 3))) (pe_call G_law_of (hr.mono (by decide)) (by rfl) T.g_law_of T.F_law_of.kp (b_law_of T) .nil pass0 (pa_cons (pv 0) (pa_cons (pe_op op_plus pe_str (pe_slice (sl_K (K := K) rfl) pe_str po_none (po_some (pe_ix (ix_K (K := K) rfl) (pe_ix (ix_K (K := K) rfl) (pv 1) (pv 3) (fun _ _ => rfl)) pe_int (fun _ _ => rfl))))) pa_nil)))) (pe_slice (sl_K (K := K) rfl) (pv 2) (po_some (pe_op op_plus (pv 3) pe_int)) po_none)))))), fn_body h (by rw [hvl]; decide) (fun ds R hR hl => ?_)⟩
  obtain ⟨cs, r, rfl, hcs, hc1, hr0, q⟩ := hR
  have hc20 := hcs.1
  have hrl := hr0.1
  refine q_if (T := fun _ => True) (et_test (EV.ed (R := fun e => ∃ b, e = .dat (.bl b)) (e_op (PA := fun d => ∃ j : Nat, d = .int j ∧ (j : Int) < 2) (PB := fun d => d = .int 0) (e_draw (e_var rfl) e_int (by decide) (by decide)) e_int fun x y ⟨j, hx, _⟩ hy => ?_) fun e ⟨b, hb⟩ => ⟨.bl b, by rw [hb]; rfl, b, rfl, trivial⟩)) (fun _ => ?_) (fun _ => ?_)
  · subst hx hy
    intro W v w' r1 r2 Q q
    exact od_eqI W v w' r1 r2 Q fun u e W' g r p => q u e W' g r ⟨_, p⟩
  · exact t_ret (P := fun e => ∃ r', e = .dat (.str r') ∧ RowV cs r') (e_call (cs := [.int 2]) (T := fun ds => ds = [.bag, .lst (cs.map cellD)]) (ea_c (e_var rfl) (ea_c (e_var rfl) ea_nil)) (.cons (.int 2) .nil) fun ds e => by rw [e]; exact ⟨cs, 2, rfl, hcs, fun r' hr' => ⟨r', rfl, hr'⟩⟩) fun e ⟨r', e1, hr'⟩ => by rw [e1]; exact q r' hr'
  · refine q_asgd (PD := fun d => ∃ j : Nat, d = .int j ∧ j < cs.length) ((e_draw (k := (cs.length : Int)) (e_var rfl) ((EV.d1 (e_cb1 (ea_c (e_var rfl) ea_nil) cd_lenL)).is (by rw [List.length_map])) (by omega) (by omega)).imp fun d ⟨j, e, h⟩ => ⟨j, e, by omega⟩) fun d' ⟨j, e, hj⟩ => ?_
    subst e
    have hcj : cs[j]? = some cs[j] := List.getElem?_eq_getElem hj
    have hm := hcs.2 _ (List.getElem_mem hj)
    have hcut : cutN [48, 49, 50, 51] none (some ((cs[j].2 : Nat) : Int)) = [48, 49, 50, 51].take cs[j].2 := cut_to rfl (by simp; omega)
    refine t_retd (PD := fun d => ∃ c, d = .str (r.take j ++ [c] ++ r.drop (j + 1)) ∧ (c = 46 ∨ (48 ≤ c ∧ c < 48 + cs[j].2))) (e_glue (k := j) (r := r) (by omega) (by omega) (e_var rfl) (e_var rfl) ((e_of (x := .str ([46] ++ [48, 49, 50, 51].take cs[j].2)) (e_var rfl) (e_opd (e_str (s := [46]) (by decide +kernel)) ((EV.d1 (e_sl (e_str (s := [48, 49, 50, 51]) (by decide +kernel)) eo_none (eo_part (e_opd (e_opd (e_var rfl) (e_var rfl) (od_ixL (j := j) rfl (by rw [List.getElem?_map, hcj]; rfl))) e_int (od_ixT (j := 1) rfl rfl))) (sd_str (by decide)))).is (by rw [hcut])) (od_addS (by rw [List.length_take]; simp; omega))) (.str _) (by simp [chs]) (by simp [chs]; omega)).imp fun d hd => ?_) (e_var rfl) (e_opd (e_var rfl) e_int od_addI)) fun d' ⟨c, e, hc⟩ => by subst e; exact q _ (rowV_set hr0 hcj hc)
    obtain ⟨c, hc, rfl⟩ := List.mem_map.mp hd
    refine ⟨c, rfl, ?_⟩
    rcases List.mem_append.mp hc with h | h
    · exact .inl (List.mem_singleton.mp h)
    · exact .inr ((mem_digits (by omega)).mp h)

end
end Nt

namespace Nt
open PySem PySem.Spec PyProof.Rows L2


theorem getD_out {l : List Nat} {i : Nat} (h : ¬ i < l.length) : l.getD i 0 = 0 := by rw [List.getD_eq_getElem?_getD, List.getElem?_eq_none (by omega)]; rfl
theorem ext_getD {x y : List Nat} (hl : x.length = y.length) (h : ∀ i : Nat, i < x.length → x.getD i 0 = y.getD i 0) : x = y :=
  List.ext_getElem hl fun i h1 h2 => by
    have := h i h1
    rw [getD_of (List.getElem?_eq_getElem h1), getD_of (List.getElem?_eq_getElem h2)] at this
    exact this
theorem ov_at {x y : List Nat} (hl : x.length = y.length) {i : Nat} (hi : i < x.length) : (ov x y).getD i 0 = if x.getD i 0 = 46 then y.getD i 0 else x.getD i 0 := getD_of (ov_get (get_of_lt hi) (get_of_lt (by omega)))
theorem ov_len' {x y : List Nat} (hl : x.length = y.length) : (ov x y).length = x.length := by rw [ov_len]; omega
theorem lot_at {x : List Nat} {i : Nat} (hi : i < x.length) : (lotOf x).getD i 0 = if x.getD i 0 = 46 then 46 else 43 := getD_of (lot_get (get_of_lt hi))
theorem all_zip {x y : List Nat} (hl : x.length = y.length) (f : Nat × Nat → Bool) : ((x.zip y).map f).all id = true ↔ ∀ i : Nat, i < x.length → f (x.getD i 0, y.getD i 0) = true := by
  rw [List.all_eq_true]
  constructor
  · intro h i hi
    refine h _ (List.mem_map.mpr ⟨(x.getD i 0, y.getD i 0), List.mem_iff_getElem?.mpr ⟨i, ?_⟩, rfl⟩)
    rw [List.getElem?_zip_eq_some]
    exact ⟨get_of_lt hi, get_of_lt (by omega)⟩
  · intro h b hb
    obtain ⟨p, hp, rfl⟩ := List.mem_map.mp hb
    obtain ⟨i, hi⟩ := List.mem_iff_getElem?.mp hp
    obtain ⟨h1, h2⟩ := zip_get hi
    have := h i (List.getElem?_eq_some_iff.mp h1).1
    rw [getD_of h1, getD_of h2] at this
    exact this
theorem filt_emp {n : Nat} (p : Nat → Bool) : ((List.range n).filter p).isEmpty = true ↔ ∀ k : Nat, k < n → p k = false := by
  rw [List.isEmpty_iff, List.filter_eq_nil_iff]
  constructor
  · intro h k hk
    have := h k (List.mem_range.mpr hk)
    simpa using this
  · intro h k hk
    rw [h k (List.mem_range.mp hk)]
    simp
theorem wtn_inn {x y : List Nat} (hl : x.length = y.length) (hx : Bin x) (hy : Bin y) : wtn x y = innB x y := by
  unfold wtn innB
  rw [Bool.eq_iff_iff, all_zip hl, filt_emp]
  constructor
  · intro h i hi
    have := h i hi
    rcases hx _ (List.mem_of_getElem? (get_of_lt hi)) with a | a <;> rcases hy _ (List.mem_of_getElem? (get_of_lt (l := y) (i := i) (by omega))) with b | b <;> dsimp only at this ⊢ <;> rw [a, b] at this ⊢ <;> first | rfl | exact absurd this (by decide)
  · intro h i hi
    have := h i hi
    rcases hx _ (List.mem_of_getElem? (get_of_lt hi)) with a | a <;> rcases hy _ (List.mem_of_getElem? (get_of_lt (l := y) (i := i) (by omega))) with b | b <;> dsimp only at this ⊢ <;> rw [a, b] at this ⊢ <;> first | rfl | exact absurd this (by decide)
theorem agr_met {x y : List Nat} (hl : x.length = y.length) : agr x y = metB x y := by
  unfold agr metB
  rw [Bool.eq_iff_iff, all_zip hl, filt_emp]
  refine forall_congr' fun i => forall_congr' fun _ => ?_
  show (decide (x.getD i 0 = y.getD i 0) || (decide (x.getD i 0 = 46) || decide (y.getD i 0 = 46))) = true ↔ _
  cases decide (x.getD i 0 = y.getD i 0) <;> cases decide (x.getD i 0 = 46) <;> cases decide (y.getD i 0 = 46) <;> decide
theorem ov_self (x : List Nat) : ov x x = x := ext_getD (ov_len' rfl) fun i hi => by
  rw [ov_len' rfl] at hi
  rw [ov_at rfl hi]; split <;> rfl
theorem ov_again {x y : List Nat} (hl : x.length = y.length) : ov (ov x y) x = ov x y := ext_getD (ov_len' (ov_len' hl)) fun i hi => by
  rw [ov_len' (ov_len' hl)] at hi
  rw [ov_at (ov_len' hl) hi]
  rw [ov_len' hl] at hi
  rw [ov_at hl hi]
  by_cases a : x.getD i 0 = 46
  · rw [if_pos a]
    by_cases b : y.getD i 0 = 46
    · rw [if_pos b, a, b]
    · rw [if_neg b]
  · rw [if_neg a, if_neg a]
theorem lot_ov {x y : List Nat} (hl : x.length = y.length) : lotOf (ov x y) = jn (lotOf x) (lotOf y) := by
  rw [jn_ov (bin_lot x) (bin_lot y)]
  have l1 := lotOf_len x
  have l2 := lotOf_len y
  refine ext_getD (by rw [lotOf_len, ov_len' hl, ov_len' (by omega), l1]) fun i hi => ?_
  rw [lotOf_len, ov_len' hl] at hi
  rw [lot_at (by rw [ov_len' hl]; exact hi), ov_at hl hi, ov_at (by omega) (by omega), lot_at hi, lot_at (by omega)]
  by_cases a : x.getD i 0 = 46
  · rw [if_pos a, if_pos a]; rfl
  · rw [if_neg a, if_neg a]; rfl
theorem wtn_un {a b : List Nat} (hl : a.length = b.length) (ha : Bin a) (hb : Bin b) : wtn a (ov b a) = true := by
  unfold wtn
  rw [all_zip (by rw [ov_len' hl.symm]; exact hl)]
  intro i hi
  rw [ov_at hl.symm (by omega)]
  rcases ha _ (List.mem_of_getElem? (get_of_lt hi)) with p | p <;> rcases hb _ (List.mem_of_getElem? (get_of_lt (l := b) (i := i) (by omega))) with q | q <;> rw [p, q] <;> decide
theorem agr_ov {x y : List Nat} (hl : x.length = y.length) : agr x (ov x y) = true := by
  unfold agr
  rw [all_zip (ov_len' hl).symm]
  intro i hi
  rw [ov_at hl hi]
  by_cases a : x.getD i 0 = 46
  · simp only [a, if_pos]; simp
  · simp only [if_neg a]; simp
def Rg_law_pair_so (ds : List D) (P : En → Prop) : Prop := ∃ x y : List Nat, ds = [.str x, .str y] ∧ x.length = y.length ∧ x.length ≤ 1000 ∧ P (.dat (.bl true))
theorem len_law_pair_so (ds P) (h : Rg_law_pair_so ds P) : ds.length = 2 := by obtain ⟨_, _, rfl, _⟩ := h; rfl
section
variable {P : Program} {w : World} {K : PySem.W.Frag} {mg : Str → Option Value} {base : Heap} {ρ : List En} {ta tb : TE} {E : XK}
theorem c_ov {x y : List Nat} (h1 : ED ta ρ (· = .str x)) (h2 : ED tb ρ (· = .str y)) (hx : x.length ≤ 1000) : ED (tCall (SpE Rg_over) [] E (tCons ta (tCons tb tNil))) ρ (· = .str (ov x y)) := EV.d1 (e_call0 (ea_c h1 (ea_c h2 ea_nil)) ⟨x, y, rfl, hx, rfl⟩)
theorem c_lot {x : List Nat} (h1 : ED ta ρ (· = .str x)) (hx : x.length ≤ 1000) : ED (tCall (SpE Rg_lot_of) [] E (tCons ta tNil)) ρ (· = .str (lotOf x)) := EV.d1 (e_call0 (ea_c h1 ea_nil) ⟨x, rfl, hx, rfl⟩)
theorem c_jn {x y : List Nat} (h1 : ED ta ρ (· = .str x)) (h2 : ED tb ρ (· = .str y)) (hx : x.length ≤ 1000) : ED (tCall (SpE Rg_law_join) [] E (tCons ta (tCons tb tNil))) ρ (· = .str (jn x y)) := EV.d1 (e_call0 (ea_c h1 (ea_c h2 ea_nil)) ⟨x, y, rfl, hx, rfl⟩)
theorem c_wt {x y : List Nat} (h1 : ED ta ρ (· = .str x)) (h2 : ED tb ρ (· = .str y)) (hx : x.length ≤ 1000) : ED (tCall (SpE Rg_within) [] E (tCons ta (tCons tb tNil))) ρ (· = .bl (wtn x y)) := EV.d1 (e_call0 (ea_c h1 (ea_c h2 ea_nil)) ⟨x, y, rfl, hx, rfl⟩)
theorem c_ag {x y : List Nat} (h1 : ED ta ρ (· = .str x)) (h2 : ED tb ρ (· = .str y)) (hx : x.length ≤ 1000) : ED (tCall (SpE Rg_agree) [] E (tCons ta (tCons tb tNil))) ρ (· = .bl (agr x y)) := EV.d1 (e_call0 (ea_c h1 (ea_c h2 ea_nil)) ⟨x, y, rfl, hx, rfl⟩)
theorem c_in {x y : List Nat} (h1 : ED ta ρ (· = .str x)) (h2 : ED tb ρ (· = .str y)) (hl : x.length = y.length) (hx : x.length ≤ 1000) : ED (tCall (SpE Rg_law_inner) [] E (tCons ta (tCons tb tNil))) ρ (· = .bl (innB x y)) := EV.d1 (e_call0 (ea_c h1 (ea_c h2 ea_nil)) ⟨x, y, rfl, hl, hx, rfl⟩)
theorem c_mt {x y : List Nat} (h1 : ED ta ρ (· = .str x)) (h2 : ED tb ρ (· = .str y)) (hl : x.length = y.length) (hx : x.length ≤ 1000) : ED (tCall (SpE Rg_law_meet) [] E (tCons ta (tCons tb tNil))) ρ (· = .bl (metB x y)) := EV.d1 (e_call0 (ea_c h1 (ea_c h2 ea_nil)) ⟨x, y, rfl, hl, hx, rfl⟩)
theorem c_laid {xr : D} {r : List Nat} {rs : List (List Nat)} (h1 : ED ta ρ (· = xr)) (qs : Sq xr ((r :: rs).map D.str)) (h : rs.length ≤ 1000) (hl : Len r.length rs) (hr : r.length ≤ 1000) : ED (tCall (SpE Rg_laid) [] E (tCons ta tNil)) ρ (· = .str (layL (r :: rs))) := EV.d1 (e_call0 (ea_c h1 ea_nil) ⟨xr, r, rs, rfl, qs, h, hl, hr, rfl⟩)
theorem c_same {n : Nat} {d : D} (h1 : ED ta ρ (· = d)) (h2 : ED tb ρ (· = d)) (hd : d.sm n = true) : ED (tCall (SpE (Rg_same n)) [] E (tCons ta (tCons tb tNil))) ρ (· = .bl true) := EV.d1 (e_call0 (R := fun e => e = .dat (.bl true)) (ea_c h1 (ea_c h2 ea_nil)) ⟨d, rfl, hd, rfl⟩)

theorem ok_law_pair_so (T : Txt K mg) (G_over : FnOk P w K mg base CX0 1 T.a_over T.d_over ["newer", "older"] (SpE Rg_over)) (G_laid : FnOk P w K mg base CX0 2 T.a_laid T.d_laid ["rows"] (SpE Rg_laid)) (G_lot_of : FnOk P w K mg base CX0 1 T.a_lot_of T.d_lot_of ["row"] (SpE Rg_lot_of)) (G_within : FnOk P w K mg base CX0 1 T.a_within T.d_within ["one", "other"] (SpE Rg_within)) (G_union : FnOk P w K mg base CX0 2 T.a_union T.d_union ["one", "other"] (SpE Rg_union)) (G_agree : FnOk P w K mg base CX0 1 T.a_agree T.d_agree ["one", "other"] (SpE Rg_agree)) (G_law_same : FnOk P w K mg base CX0 3 T.a_law_same T.d_law_same ["_law_found", "_law_due"] (SpE Rg_law_same)) (G_law_lay : FnOk P w K mg base CX0 1 T.a_law_lay T.d_law_lay ["_law_newer_row", "_law_older_row"] (SpE Rg_law_lay)) (G_law_lot : FnOk P w K mg base CX0 1 T.a_law_lot T.d_law_lot ["_law_r"] (SpE Rg_law_lot)) (G_law_join : FnOk P w K mg base CX0 1 T.a_law_join T.d_law_join ["_law_x", "_law_y"] (SpE Rg_law_join)) (G_law_inner : FnOk P w K mg base CX0 1 T.a_law_inner T.d_law_inner ["_law_x", "_law_y"] (SpE Rg_law_inner)) (G_law_meet : FnOk P w K mg base CX0 1 T.a_law_meet T.d_law_meet ["_law_x", "_law_y"] (SpE Rg_law_meet)) : FnOk P w K mg base CX0 4 T.a_law_pair_so T.d_law_pair_so ["_law_x", "_law_y"] (SpE Rg_law_pair_so) := by
  refine T.F_law_pair_so.ok sc_law_pair_so (fun vs H Q E h => spE_len h len_law_pair_so) (fun cdv A outer s H vs Q E hr h => ?_)
  have hu := hu64 hr
  have hvl : vs.length = 2 := spE_len h len_law_pair_so
  refine ⟨_, (pss_cons (ps_par (i := 2) (j := 3) (by rfl) sc_law_pair_so.nd rfl rfl (by decide) rfl rfl (pa_cons (pe_call G_law_lot (hr.mono (by decide)) (by rfl) T.g_law_lot T.F_law_lot.kp (b_law_lot T) .nil pass0 (pa_cons (pv 0) pa_nil)) (pa_cons (pe_call G_law_lot (hr.mono (by decide)) (by rfl) T.g_law_lot T.F_law_lot.kp (b_law_lot T) .nil pass0 (pa_cons (pv 1) pa_nil)) pa_nil)) (by rfl)) (pss_cons (ps_set (i := 4) sc_law_pair_so.nd rfl (Or.inl rfl) (pe_lst (pa_cons (pe_call G_law_lay (hr.mono (by decide)) (by rfl) T.g_law_lay T.F_law_lay.kp (b_law_lay T) .nil pass0 (pa_cons (pv 0) (pa_cons (pv 1) pa_nil))) (pa_cons (pv 2) (pa_cons (pe_call G_law_inner (hr.mono (by decide)) (by rfl) T.g_law_inner T.F_law_inner.kp (b_law_inner T) .nil pass0 (pa_cons (pv 2) (pa_cons (pv 3) pa_nil))) (pa_cons (pe_call G_law_join (hr.mono (by decide)) (by rfl) T.g_law_join T.F_law_join.kp (b_law_join T) .nil pass0 (pa_cons (pv 2) (pa_cons (pv 3) pa_nil))) (pa_cons (pe_call G_law_meet (hr.mono (by decide)) (by rfl) T.g_law_meet T.F_law_meet.kp (b_law_meet T) .nil pass0 (pa_cons (pv 0) (pa_cons (pv 1) pa_nil))) (pa_cons (pe_call G_law_lay (hr.mono (by decide)) (by rfl) T.g_law_lay T.F_law_lay.kp (b_law_lay T) .nil pass0 (pa_cons (pv 0) (pa_cons (pv 1) pa_nil))) (pa_cons (pv 0) (pa_cons (pv 1) pa_nil)))))))))) (pss_cons (ps_set (i := 5) sc_law_pair_so.nd rfl (Or.inl rfl) (pe_lst (pa_cons (pe_call G_over (hr.mono (by decide)) (by rfl) T.g_over T.F_over.kp (b_over T) .nil pass0 (pa_cons (pv 0) (pa_cons (pv 1) pa_nil))) (pa_cons (pe_call G_lot_of (hr.mono (by decide)) (by rfl) T.g_lot_of T.F_lot_of.kp (b_lot_of T) .nil pass0 (pa_cons (pv 0) pa_nil)) (pa_cons (pe_call G_within (hr.mono (by decide)) (by rfl) T.g_within T.F_within.kp (b_within T) .nil pass0 (pa_cons (pv 2) (pa_cons (pv 3) pa_nil))) (pa_cons (pe_call G_union (hr.mono (by decide)) (by rfl) T.g_union T.F_union.kp (b_union T) .nil pass0 (pa_cons (pv 2) (pa_cons (pv 3) pa_nil))) (pa_cons (pe_call G_agree (hr.mono (by decide)) (by rfl) T.g_agree T.F_agree.kp (b_agree T) .nil pass0 (pa_cons (pv 0) (pa_cons (pv 1) pa_nil))) (pa_cons (pe_call G_laid (hr.mono (by decide)) (by rfl) T.g_laid T.F_laid.kp (b_laid T) .nil pass0 (pa_cons (pe_lst (pa_cons (pv 1) (pa_cons (pv 0) pa_nil))) pa_nil)) (pa_cons (pe_call G_over (hr.mono (by decide)) (by rfl) T.g_over T.F_over.kp (b_over T) .nil pass0 (pa_cons (pv 0) (pa_cons (pv 0) pa_nil))) (pa_cons (pe_call G_laid (hr.mono (by decide)) (by rfl) T.g_laid T.F_laid.kp (b_laid T) .nil pass0 (pa_cons (pe_lst (pa_cons (pv 1) pa_nil)) pa_nil)) pa_nil)))))))))) (pss_cons (ps_if (PW.pt (pw_or (pt_not (pt_val (pe_call G_law_same (hr.mono (by decide)) (by rfl) T.g_law_same T.F_law_same.kp (b_law_same T) .nil pass0 (pa_cons (pv 5) (pa_cons (pv 4) pa_nil))))) (pw_or1 (pt_not (pt_val (pe_call G_law_same (hr.mono (by decide)) (by rfl) T.g_law_same T.F_law_same.kp (b_law_same T) .nil pass0 (pa_cons (pe_call G_over (hr.mono (by decide)) (by rfl) T.g_over T.F_over.kp (b_over T) .nil pass0 (pa_cons (pe_call G_over (hr.mono (by decide)) (by rfl) T.g_over T.F_over.kp (b_over T) .nil pass0 (pa_cons (pv 0) (pa_cons (pv 1) pa_nil))) (pa_cons (pv 0) pa_nil))) (pa_cons (pe_call G_over (hr.mono (by decide)) (by rfl) T.g_over T.F_over.kp (b_over T) .nil pass0 (pa_cons (pv 0) (pa_cons (pv 1) pa_nil))) pa_nil)))))))) (pss_one (ps_ret pe_bl)) pss_nil) (pss_one (ps_ret (pe_call G_law_same (hr.mono (by decide)) (by rfl) T.g_law_same T.F_law_same.kp (b_law_same T) .nil pass0 (pa_cons (pe_lst (pa_cons (pe_call G_lot_of (hr.mono (by decide)) (by rfl) T.g_lot_of T.F_lot_of.kp (b_lot_of T) .nil pass0 (pa_cons (pe_call G_over (hr.mono (by decide)) (by rfl) T.g_over T.F_over.kp (b_over T) .nil pass0 (pa_cons (pv 0) (pa_cons (pv 1) pa_nil))) pa_nil)) (pa_cons (pe_call G_within (hr.mono (by decide)) (by rfl) T.g_within T.F_within.kp (b_within T) .nil pass0 (pa_cons (pv 2) (pa_cons (pe_call G_union (hr.mono (by decide)) (by rfl) T.g_union T.F_union.kp (b_union T) .nil pass0 (pa_cons (pv 3) (pa_cons (pv 2) pa_nil))) pa_nil))) (pa_cons (pe_call G_agree (hr.mono (by decide)) (by rfl) T.g_agree T.F_agree.kp (b_agree T) .nil pass0 (pa_cons (pv 0) (pa_cons (pe_call G_over (hr.mono (by decide)) (by rfl) T.g_over T.F_over.kp (b_over T) .nil pass0 (pa_cons (pv 0) (pa_cons (pv 1) pa_nil))) pa_nil))) pa_nil)))) (pa_cons (pe_lst (pa_cons (pe_call G_law_join (hr.mono (by decide)) (by rfl) T.g_law_join T.F_law_join.kp (b_law_join T) .nil pass0 (pa_cons (pv 2) (pa_cons (pv 3) pa_nil))) (pa_cons pe_bl (pa_cons pe_bl pa_nil)))) pa_nil))))))))), fn_body h (by rw [hvl]; decide) (fun ds R hR hl => ?_)⟩
  obtain ⟨x, y, rfl, hl, hx, q⟩ := hR
  have l1 := lotOf_len x
  have l2 := lotOf_len y
  refine t_seq (M := fun ρ' => ρ' = [.dat (.str x), .dat (.str y), .dat (.str (lotOf x)), .dat (.str (lotOf y)), .un, .un]) (t_par (P1 := fun e => e = .dat (.str (lotOf x))) (P2 := fun e => e = .dat (.str (lotOf y))) ((c_lot (e_var rfl) hx).ev.imp fun e ⟨d, a, b⟩ => by rw [a, b]) ((c_lot (e_var rfl) (by omega)).ev.imp fun e ⟨d, a, b⟩ => by rw [a, b]) fun a b ha hb => by rw [ha, hb]; rfl) fun ρ' m => ?_
  subst m
  refine q_asgo (ds := [.str (ov x y), .str (lotOf x), .bl (innB (lotOf x) (lotOf y)), .str (jn (lotOf x) (lotOf y)), .bl (metB x y), .str (ov x y), .str x, .str y]) (e_lst1 (ea_c (c_ov (e_var rfl) (e_var rfl) hx) (ea_c (e_var rfl) (ea_c (c_in (e_var rfl) (e_var rfl) (by omega) (by omega)) (ea_c (c_jn (e_var rfl) (e_var rfl) (by omega)) (ea_c (c_mt (e_var rfl) (e_var rfl) hl hx) (ea_c (c_ov (e_var rfl) (e_var rfl) hx) (ea_c (e_var rfl) (ea_c (e_var rfl) ea_nil)))))))) (by simp)) ?_
  refine q_asgo (ds := [.str (ov x y), .str (lotOf x), .bl (innB (lotOf x) (lotOf y)), .str (jn (lotOf x) (lotOf y)), .bl (metB x y), .str (ov x y), .str x, .str y]) (e_lst1 (ea_c (c_ov (e_var rfl) (e_var rfl) hx) (ea_c (c_lot (e_var rfl) hx) (ea_c ((c_wt (e_var rfl) (e_var rfl) (by omega)).is (by rw [wtn_inn (by omega) (bin_lot x) (bin_lot y)])) (ea_c ((c_ov (e_var rfl) (e_var rfl) (by omega)).is (by rw [jn_ov (bin_lot x) (bin_lot y)])) (ea_c ((c_ag (e_var rfl) (e_var rfl) hx).is (by rw [agr_met hl])) (ea_c ((c_laid (r := y) (rs := [x]) (EV.o1 (e_lst1 (ea_c (e_var rfl) (ea_c (e_var rfl) ea_nil)) (by simp))) (.lst _) (by simp) (fun s hs => by rw [List.mem_singleton.mp hs]; exact hl) (by omega)).is rfl) (ea_c ((c_ov (e_var rfl) (e_var rfl) hx).is (by rw [ov_self])) (ea_c ((c_laid (r := y) (rs := []) (EV.o1 (e_lst1 (ea_c (e_var rfl) ea_nil) (by simp))) (.lst _) (by simp) (fun s hs => nomatch hs) (by omega)).is rfl) ea_nil)))))))) (by simp)) ?_
  refine t_freeze (i := 4) rfl ?_
  refine t_freeze (i := 5) rfl ?_
  refine q_if1 (b := !true || !true) (et_or1 (et_not1 (et_v1 (c_same (e_var rfl) (e_var rfl) (by simp [D.sm, D.scal])))) fun _ => et_not1 (et_v1 (c_same (d := .str (ov x y)) ((c_ov (c_ov (e_var rfl) (e_var rfl) hx) (e_var rfl) (by rw [ov_len' hl]; omega)).is (by rw [ov_again hl])) (c_ov (e_var rfl) (e_var rfl) hx) rfl))) (fun e => nomatch e) fun _ => ?_
  refine t_ret1 (c_same (d := .lst [.str (jn (lotOf x) (lotOf y)), .bl true, .bl true]) (EV.o1 (e_lst1 (ea_c ((c_lot (c_ov (e_var rfl) (e_var rfl) hx) (by rw [ov_len' hl]; omega)).is (by rw [lot_ov hl])) (ea_c ((c_wt (e_var rfl) (c_ov (e_var rfl) (e_var rfl) (by omega)) (by omega)).is (by rw [wtn_un (by omega) (bin_lot x) (bin_lot y)])) (ea_c ((c_ag (e_var rfl) (c_ov (e_var rfl) (e_var rfl) hx) hx).is (by rw [agr_ov hl])) ea_nil))) (by simp))) (EV.o1 (e_lst1 (ea_c (c_jn (e_var rfl) (e_var rfl) (by omega)) (ea_c e_bl (ea_c e_bl ea_nil))) (by simp))) (by simp [D.sm, D.scal])) q

end
end Nt

namespace Nt
open PySem PySem.Spec PyProof.Rows L2


abbrev inD (i : Nat) : D := D.int i
def unI : D → Nat
  | .int i => i.toNat
  | _ => 0
theorem perm_ints {ys : List D} {S : List Nat} (h : ys.Perm (S.map inD)) : ∃ S1 : List Nat, ys = S1.map inD ∧ (∀ s, s ∈ S1 → s ∈ S) ∧ S1.length = S.length := by
  have e : ∀ y ∈ ys, y = inD (unI y) := fun y hy => by
    obtain ⟨s, _, rfl⟩ := List.mem_map.mp (h.mem_iff.mp hy)
    show D.int s = D.int ((s : Int).toNat : Int)
    rw [Int.toNat_natCast]
  have e2 : ys = (ys.map unI).map inD := by
    rw [List.map_map, List.map_congr_left (f := inD ∘ unI) (g := id) fun y hy => (e y hy).symm, List.map_id]
  refine ⟨ys.map unI, e2, fun s hs => ?_, by rw [List.length_map, h.length_eq, List.length_map]⟩
  have : inD s ∈ ys := by rw [e2]; exact List.mem_map_of_mem hs
  obtain ⟨z, hz, hz2⟩ := List.mem_map.mp (h.mem_iff.mp this)
  have : (z : Int) = (s : Int) := D.int.inj hz2
  rw [← show z = s by omega]; exact hz
theorem cut_lot {x : List Nat} {ps : List Nat} (h : ∀ p ∈ ps, p < x.length) : cutR (lotOf x) ps = lotOf (cutR x ps) := by
  unfold cutR
  show _ = (ps.map fun p => x.getD p 0).map fun c => if c = 46 then 46 else 43
  rw [List.map_map]
  exact List.map_congr_left fun p hp => lot_at (h p hp)
theorem cut_all (x : List Nat) : cutR x (List.range x.length) = x := by
  unfold cutR
  refine ext_getD (by rw [List.length_map, List.length_range]) fun i hi => ?_
  rw [List.length_map, List.length_range] at hi
  exact getD_of (by rw [List.getElem?_map, List.getElem?_range hi]; rfl)
theorem cut_len (x ps : List Nat) : (cutR x ps).length = ps.length := List.length_map ..
section
variable {K : PySem.W.Frag} {ρ : List En} {ta tb te to : TE} {X : XK}
def rTupC (K : PySem.W.Frag) : List V → Hp → VK → Prop := fun xs H Q => ∃ p ys, xs = [.ref p] ∧ ((SqL K H p ys ∧ ∀ l, H l = none → Q (.ref l) (upd H l (.tup ys))) ∨ (SqT K H p ys ∧ Q (.ref p) H))
theorem call_tupK {X : Cx} (hK : X.K = K) : CallR X (.type "tuple") (rTupC K) := hK ▸ call_tuple_of
theorem cd_tupL {ds : List D} : CD (rTupC K) [.lst ds] (· = .dat (.tup ds)) := fun W vs r Q q => by
  cases r with
  | cons r rr =>
    cases rr
    cases r with
    | lst ha ra => exact ⟨_, _, rfl, .inl ⟨sq_l (W.le _ _ ha), fun p hp => q (.ref p) (.dat (.tup ds)) (W.put p _) (Grow.put hp) (.tup upd_same (ra.mono (Ex.nw (W.le.none' hp)))) rfl⟩⟩
theorem rg_ints (n : Nat) : rgV 0 n = ((List.range n).map fun i : Nat => (i : Int)).map V.int := by
  unfold rgV
  rw [List.map_map, show ((n : Int) - 0).toNat = n by omega]
  exact List.map_congr_left fun i _ => by
    show V.int (0 + (i : Int)) = V.int (i : Int)
    rw [Int.zero_add]
theorem e_lrg {n : Nat} (h : ED te ρ (· = .int n)) (hn : n ≤ 100000) : EV (tLstRg (tRg1 te)) ρ (· = .own ((List.range n).map inD)) := fun W0 W σ E Q q => h W0 W σ E _ fun v d W1 g1 r1 p1 => by
  subst p1
  cases r1
  refine ⟨n, rfl, RgOk.of_le (by omega) (by omega) (by omega) (by omega), fun p hp => ?_⟩
  have r : Reps W1.b ((List.range n).map inD) (rgV 0 n) := by
    rw [rg_ints]
    have q := reps_int (H := W1.b) ((List.range n).map fun i : Nat => (i : Int))
    rw [List.map_map] at q
    exact q
  obtain ⟨a, b⟩ := new_own g1 hp r
  exact q (.ref p) _ _ a b rfl
/-- ''.join([x[k] for k in ps]) -/
theorem e_cuts {j : Nat} {x ps : List Nat} (h0 : ED to ρ (· = .str [])) (hw : IV1 (iSeq K te) ρ (· = ps.map inD)) (hx : ∀ d, ED ta (ρ.set j (.dat d)) (· = .str x)) (hj : ∀ d, ED tb (ρ.set j (.dat d)) (· = d)) (hp : ∀ p ∈ ps, p < x.length) (h1 : ps.length ≤ 1000) (h2 : x.length ≤ 1000) : ED (tM1 (rJoin K) to (tLc (iSeq K te) (gName j) tYes (tOp (rIx K) ta tb) [j])) ρ (· = .str (cutR x ps)) :=
  e_joinc (src := ps) (f := fun p => x.getD p 0) h0 (lc1_map (emb := inD) hw (by omega) fun i p hi => e_opd (hx _) (hj _) (od_ixS (j := p) rfl (get_of_lt (hp p (List.mem_of_getElem? hi))) (by omega))) (by omega)
theorem c_cut {x ps : List Nat} {xp : D} (h1 : ED ta ρ (· = .str x)) (h2 : ED tb ρ (· = xp)) (qs : Sq xp (ps.map inD)) (hl : ps.length ≤ 1000) (hx : x.length ≤ 1000) (hp : ∀ p ∈ ps, p < x.length) : ED (tCall (SpE Rg_cut) [] X (tCons ta (tCons tb tNil))) ρ (· = .str (cutR x ps)) := EV.d1 (e_call0 (ea_c h1 (ea_c h2 ea_nil)) ⟨x, xp, ps, rfl, qs, hl, hx, hp, rfl⟩)
end
theorem sm_ints (l : List Nat) (hl : l.length ≤ 100000) : (D.lst (l.map inD)).sm 2 = true := by
  show ((l.map inD).all (D.sm 1) && decide ((l.map inD).length ≤ 100000)) = true
  rw [Bool.and_eq_true, decide_eq_true_eq, List.length_map, List.all_eq_true]
  refine ⟨fun d hd => ?_, hl⟩
  obtain ⟨i, _, rfl⟩ := List.mem_map.mp hd
  rfl
def Rg_law_cuts_so (ds : List D) (P : En → Prop) : Prop := ∃ (cs : List (List Nat × Nat)) (x : List Nat), ds = [.bag, .lst (cs.map cellD), .str x] ∧ x.length = cs.length ∧ cs.length ≤ 20 ∧ P (.dat (.bl true))
theorem len_law_cuts_so (ds P) (h : Rg_law_cuts_so ds P) : ds.length = 3 := by obtain ⟨_, _, rfl, _⟩ := h; rfl
section
variable {P : Program} {w : World} {K : PySem.W.Frag} {mg : Str → Option Value} {base : Heap}

theorem ok_law_cuts_so (T : Txt K mg) (G_cut : FnOk P w K mg base CX0 1 T.a_cut T.d_cut ["row", "places"] (SpE Rg_cut)) (G_law_draw : FnOk P w K mg base CX0 1 T.a_law_draw T.d_law_draw ["_law_bag_here", "_law_sides"] (SpE Rg_law_draw)) (G_law_mixed : FnOk P w K mg base CX0 2 T.a_law_mixed T.d_law_mixed ["_law_bag_here", "_law_things"] (SpE Rg_law_mixed)) (G_law_same : FnOk P w K mg base CX0 3 T.a_law_same T.d_law_same ["_law_found", "_law_due"] (SpE Rg_law_same)) (G_law_lot : FnOk P w K mg base CX0 1 T.a_law_lot T.d_law_lot ["_law_r"] (SpE Rg_law_lot)) : FnOk P w K mg base CX0 4 T.a_law_cuts_so T.d_law_cuts_so ["_law_bag_here", "_law_frame_here", "_law_x"] (SpE Rg_law_cuts_so) := by
  refine T.F_law_cuts_so.ok sc_law_cuts_so (fun vs H Q E h => spE_len h len_law_cuts_so) (fun cdv A outer s H vs Q E hr h => ?_)
  have hu := hu64 hr
  have hvl : vs.length = 3 := spE_len h len_law_cuts_so
  refine ⟨_, (pss_cons (ps_set (i := 3) sc_law_cuts_so.nd rfl (Or.inl rfl) (pe_call G_law_mixed (hr.mono (by decide)) (by rfl) T.g_law_mixed T.F_law_mixed.kp (b_law_mixed T) .nil pass0 (pa_cons (pv 0) (pa_cons (pe_lc (own := [("_law_k", 8)]) (g := gName 8) (tt := _) rfl sc_law_cuts_so.nd (pi_range1 (by rfl) T.n_range (pa_cons (pe_callB (call_lenK (K := K) rfl) (by rfl) T.n_len (by decide +kernel) (pa_cons (pv 1) pa_nil)) pa_nil)) (blkOk_by (N := N_law_cuts_so) (sc := defScope s_law_cuts_so) (by decide +kernel)) (fun _ _ _ _ _ => (pg_name (i := 8) sc_law_cuts_so.nd rfl (Or.inl rfl))) (fun _ _ _ _ _ => (pts_one (pt_cmpR op_gt (pe_call G_law_draw (hr.mono (by decide)) (by rfl) T.g_law_draw T.F_law_draw.kp (b_law_draw T) .nil pass0 (pa_cons (pv 0) (pa_cons pe_int pa_nil))) pe_int (nomark _)))) (fun _ _ _ _ _ => (pv 8))) pa_nil)))) (pss_cons (ps_set (i := 4) sc_law_cuts_so.nd rfl (Or.inl rfl) (pe_callTy (call_listK (K := K) rfl) (by rfl) T.n_list (by decide +kernel) (pa_cons (pv 3) pa_nil))) (pss_cons (ps_set (i := 5) sc_law_cuts_so.nd rfl (Or.inl rfl) (pe_lst (pa_cons (pe_joinK (K := K) rfl pe_str (pe_lc (own := [("_law_k", 8)]) (g := gName 8) (tt := tYes) rfl sc_law_cuts_so.nd (pi_listK (K := K) rfl (pv 4)) (blkOk_by (N := N_law_cuts_so) (sc := defScope s_law_cuts_so) (by decide +kernel)) (fun _ _ _ _ _ => (pg_name (i := 8) sc_law_cuts_so.nd rfl (Or.inl rfl))) (fun _ _ _ _ _ => pts_nil) (fun _ _ _ _ _ => (pe_ix (ix_K (K := K) rfl) (pv 2) (pv 8) (fun _ _ => rfl))))) (pa_cons (pe_call G_law_lot (hr.mono (by decide)) (by rfl) T.g_law_lot T.F_law_lot.kp (b_law_lot T) .nil pass0 (pa_cons (pe_joinK (K := K) rfl pe_str (pe_lc (own := [("_law_k", 8)]) (g := gName 8) (tt := tYes) rfl sc_law_cuts_so.nd (pi_listK (K := K) rfl (pv 4)) (blkOk_by (N := N_law_cuts_so) (sc := defScope s_law_cuts_so) (by decide +kernel)) (fun _ _ _ _ _ => (pg_name (i := 8) sc_law_cuts_so.nd rfl (Or.inl rfl))) (fun _ _ _ _ _ => pts_nil) (fun _ _ _ _ _ => (pe_ix (ix_K (K := K) rfl) (pv 2) (pv 8) (fun _ _ => rfl))))) pa_nil)) (pa_cons pe_str (pa_cons (pv 2) pa_nil)))))) (pss_cons (ps_set (i := 6) sc_law_cuts_so.nd rfl (Or.inl rfl) (pe_lst (pa_cons (pe_call G_cut (hr.mono (by decide)) (by rfl) T.g_cut T.F_cut.kp (b_cut T) .nil pass0 (pa_cons (pv 2) (pa_cons (pv 3) pa_nil))) (pa_cons (pe_call G_cut (hr.mono (by decide)) (by rfl) T.g_cut T.F_cut.kp (b_cut T) .nil pass0 (pa_cons (pe_call G_law_lot (hr.mono (by decide)) (by rfl) T.g_law_lot T.F_law_lot.kp (b_law_lot T) .nil pass0 (pa_cons (pv 2) pa_nil)) (pa_cons (pe_callTy (call_tupK (K := K) rfl) (by rfl) T.n_tuple (by decide +kernel) (pa_cons (pv 3) pa_nil)) pa_nil))) (pa_cons (pe_call G_cut (hr.mono (by decide)) (by rfl) T.g_cut T.F_cut.kp (b_cut T) .nil pass0 (pa_cons (pv 2) (pa_cons (pe_lst pa_nil) pa_nil))) (pa_cons (pe_call G_cut (hr.mono (by decide)) (by rfl) T.g_cut T.F_cut.kp (b_cut T) .nil pass0 (pa_cons (pv 2) (pa_cons (pe_listRg rfl (by rfl) T.n_list (prg_1 (by rfl) T.n_range (pe_callB (call_lenK (K := K) rfl) (by rfl) T.n_len (by decide +kernel) (pa_cons (pv 1) pa_nil)))) pa_nil))) pa_nil)))))) (pss_cons (ps_set (i := 7) sc_law_cuts_so.nd rfl (Or.inl rfl) (pe_op op_plus (pe_op op_plus (pe_revK (K := K) rfl (pv 4)) (pe_slice (sl_K (K := K) rfl) (pv 4) po_none (po_some pe_int))) (pv 4))) (pss_cons (ps_if (pt_not (pt_val (pe_call G_law_same (hr.mono (by decide)) (by rfl) T.g_law_same T.F_law_same.kp (b_law_same T) .nil pass0 (pa_cons (pe_call G_cut (hr.mono (by decide)) (by rfl) T.g_cut T.F_cut.kp (b_cut T) .nil pass0 (pa_cons (pv 2) (pa_cons (pv 7) pa_nil))) (pa_cons (pe_joinK (K := K) rfl pe_str (pe_lc (own := [("_law_k", 8)]) (g := gName 8) (tt := tYes) rfl sc_law_cuts_so.nd (pi_listK (K := K) rfl (pv 7)) (blkOk_by (N := N_law_cuts_so) (sc := defScope s_law_cuts_so) (by decide +kernel)) (fun _ _ _ _ _ => (pg_name (i := 8) sc_law_cuts_so.nd rfl (Or.inl rfl))) (fun _ _ _ _ _ => pts_nil) (fun _ _ _ _ _ => (pe_ix (ix_K (K := K) rfl) (pv 2) (pv 8) (fun _ _ => rfl))))) pa_nil))))) (pss_one (ps_ret pe_bl)) pss_nil) (pss_one (ps_ret (pe_and (pe_call G_law_same (hr.mono (by decide)) (by rfl) T.g_law_same T.F_law_same.kp (b_law_same T) .nil pass0 (pa_cons (pv 6) (pa_cons (pv 5) pa_nil))) (pe_one (pe_call G_law_same (hr.mono (by decide)) (by rfl) T.g_law_same T.F_law_same.kp (b_law_same T) .nil pass0 (pa_cons (pv 3) (pa_cons (pv 4) pa_nil))))))))))))), fn_body h (by rw [hvl]; decide) (fun ds R hR hl => ?_)⟩
  obtain ⟨cs, x, rfl, hxl, hc, q⟩ := hR
  have hx : x.length ≤ 1000 := by omega
  refine q_asg (P := fun e => ∃ ps : List Nat, e = .own (ps.map inD) ∧ ps.length ≤ 20 ∧ ∀ p ∈ ps, p < x.length) (e_callP (T := fun ds => ∃ ps : List Nat, ds = [.bag, .lst (ps.map inD)] ∧ ps.length ≤ 20 ∧ ∀ p ∈ ps, p < x.length) (ea_cons (T' := fun _ => True) (P := fun d => d = .bag) (e_var rfl) fun y hy => (ea_1 (P := fun d => ∃ ps : List Nat, d = .lst (ps.map inD) ∧ ps.length ≤ 20 ∧ ∀ p ∈ ps, p < x.length) (EV.ed (R := fun e => ∃ ps : List Nat, e = .own (ps.map inD) ∧ ps.length ≤ 20 ∧ ∀ p ∈ ps, p < x.length) ((e_lc1 (T := fun ds => ds = (List.range x.length).map inD) (Inv := fun _ i acc => ∃ ps : List Nat, acc = ps.map inD ∧ ps.length ≤ i ∧ ∀ p ∈ ps, p < x.length) (iv_rngN ((ea_c (EV.d1 (e_cb1 (ea_c (e_var rfl) ea_nil) cd_lenL)) ea_nil).imp fun ds e => by rw [e, List.length_map, hxl]) (by omega)) (fun ds e => by rw [e, List.length_map, List.length_range]; omega) (fun ds e => ⟨[], rfl, Nat.le_refl _, by simp⟩) fun ds i d acc e hd ⟨ps, ha, hl, hp⟩ => ?_).imp fun e ⟨ds, acc, e1, e2, ps, e3, hl, hp⟩ => ⟨ps, by rw [e1, e3], by rw [e2, List.length_map, List.length_range] at hl; omega, hp⟩) fun e ⟨ps, e1, h⟩ => ⟨.lst (ps.map inD), by rw [e1]; rfl, ps, rfl, h⟩)).imp fun ds ⟨z, e, ps, ez, h⟩ => ⟨ps, by rw [e, hy, ez], h⟩) fun ds ⟨ps, e, hl, hp⟩ => ⟨ps.map inD, e, by rw [List.length_map]; omega, fun ys hys => by
    obtain ⟨S1, a, b, c⟩ := perm_ints hys
    exact ⟨S1, by rw [a], by omega, fun p hp1 => hp p (b p hp1)⟩⟩) fun e ⟨ps, e1, hl, hp⟩ => ?_
  · subst e
    obtain ⟨k, hk, rfl⟩ := map_get hd
    have hk' : k < x.length := List.mem_range.mp (List.mem_of_getElem? hk)
    refine (et_test (T := fun _ => True) (EV.ed (R := fun e => ∃ b, e = .dat (.bl b)) (e_op (PA := fun d => ∃ j : Nat, d = .int j ∧ (j : Int) < 3) (PB := fun d => d = .int 0) (e_draw (e_var rfl) e_int (by decide) (by decide)) e_int fun a b ⟨j, ha, _⟩ hb => ?_) fun e ⟨b, hb⟩ => ⟨.bl b, by rw [hb]; rfl, b, rfl, trivial⟩)).imp fun b _ => ?_
    · subst ha hb
      intro W v w2 r1 r2 Q q
      exact od_gt W v w2 r1 r2 Q fun u e W' g r p => q u e W' g r ⟨_, p⟩
    · cases b with
      | true =>
        refine iteT ((e_var (d := inD k) rfl).imp fun y hy => ⟨ps ++ [k], by rw [ha, hy, List.map_append]; rfl, by rw [List.length_append]; simp; omega, fun p h => ?_⟩)
        rcases List.mem_append.mp h with h | h
        · exact hp p h
        · rw [List.mem_singleton.mp h]; exact hk'
      | false => exact iteF ⟨ps, ha, by omega, hp⟩
  subst e1
  refine t_freeze (i := 3) (ds := ps.map inD) rfl ?_
  refine q_asgo (e_cb1 (ea_c (e_var rfl) ea_nil) cd_list) ?_
  refine t_freeze (i := 4) (ds := ps.map inD) rfl ?_
  have hps : ps.length ≤ 1000 := by omega
  refine q_asgo (ds := [.str (cutR x ps), .str (lotOf (cutR x ps)), .str [], .str x]) (e_lst1 (ea_c (e_cuts (e_str rfl) (iv_list1 (e_var rfl)) (fun d => e_var rfl) (fun d => e_var rfl) hp hps hx) (ea_c (c_lot (e_cuts (e_str rfl) (iv_list1 (e_var rfl)) (fun d => e_var rfl) (fun d => e_var rfl) hp hps hx) (by rw [cut_len]; exact hps)) (ea_c (e_str rfl) (ea_c (e_var rfl) ea_nil)))) (by simp)) ?_
  refine q_asgo (ds := [.str (cutR x ps), .str (lotOf (cutR x ps)), .str [], .str x]) (e_lst1 (ea_c (c_cut (e_var rfl) (e_var rfl) (.lst _) hps hx hp) (ea_c ((c_cut (x := lotOf x) (c_lot (e_var rfl) hx) (EV.d1 (e_cb1 (ea_c (e_var rfl) ea_nil) cd_tupL)) (.tup _) hps (by rw [lotOf_len]; exact hx) (fun p h => by rw [lotOf_len]; exact hp p h)).is (by rw [cut_lot hp])) (ea_c ((c_cut (ps := []) (e_var rfl) (EV.o1 (e_lst1 ea_nil (by simp))) (.lst _) (by simp) hx (fun p h => nomatch h)).is rfl) (ea_c ((c_cut (ps := List.range x.length) (e_var rfl) (EV.o1 (e_lrg ((EV.d1 (e_cb1 (ea_c (e_var rfl) ea_nil) cd_lenL)).is (by rw [List.length_map, hxl])) (by omega))) (.lst _) (by rw [List.length_range]; exact hx) hx (fun p h => List.mem_range.mp h)).is (by rw [cut_all])) ea_nil)))) (by simp)) ?_
  refine t_freeze (i := 5) rfl ?_
  refine t_freeze (i := 6) rfl ?_
  have ht : ∀ p ∈ ps.reverse ++ ps.take 1 ++ ps, p < x.length := fun p h => by
    rcases List.mem_append.mp h with h | h
    · rcases List.mem_append.mp h with h | h
      · exact hp p (List.mem_reverse.mp h)
      · exact hp p (List.mem_of_mem_take h)
    · exact hp p h
  have htl : (ps.reverse ++ ps.take 1 ++ ps).length ≤ 1000 := by
    rw [List.length_append, List.length_append, List.length_reverse, List.length_take]; omega
  refine q_asgo (ds := (ps.reverse ++ ps.take 1 ++ ps).map inD) ((e_op1 (x := .lst ((ps.reverse ++ ps.take 1).map inD)) (y := .lst (ps.map inD)) (EV.o1 ((e_op1 (x := .lst (ps.reverse.map inD)) (y := .lst ((ps.take 1).map inD)) ((EV.o1 (e_rev (e_var rfl))).is (by rw [List.map_reverse])) ((EV.o1 (e_sl (e_var rfl) eo_none (eo_part e_int) (sd_lst (K := K)))).is ?_) (od_addL (by rw [List.length_map, List.length_map, List.length_reverse, List.length_take]; omega))).imp fun e he => by rw [he, List.map_append])) (e_var rfl) (od_addL (by rw [List.length_map, List.length_map, List.length_append, List.length_reverse, List.length_take]; omega))).imp fun e he => by rw [he, List.map_append (l₁ := ps.reverse ++ ps.take 1)]) ?_
  · cases ps with
    | nil => rfl
    | cons p ps => exact congrArg D.lst ((cut_to (xs := (p :: ps).map inD) (i := 1) (k := 1) rfl (by simp)).trans rfl)
  refine t_freeze (i := 7) rfl ?_
  refine q_if1 (b := !true) (et_not1 (et_v1 (c_same (c_cut (e_var rfl) (e_var rfl) (.lst _) htl hx ht) (e_cuts (e_str rfl) (iv_list1 (e_var rfl)) (fun d => e_var rfl) (fun d => e_var rfl) ht htl hx) rfl))) (fun e => nomatch e) fun _ => ?_
  exact t_ret1 (e_and (a := true) (c := true) (c_same (e_var rfl) (e_var rfl) (by simp [D.sm, D.scal])) fun _ => c_same (e_var rfl) (e_var rfl) (sm_ints ps (by omega))) q

end
end Nt

namespace Nt
open PySem PySem.Spec PyProof.Rows L2


/-- the number of signs + -/
def plus (s : List Nat) : Nat := s.count 43
theorem cnt_plus : ∀ l : List Nat, cnt 43 l = (plus l : Int)
  | [] => cnt_nil 43
  | c :: l => by
    rw [cnt_cons, cnt_plus l]
    unfold plus
    rw [List.count_cons]
    by_cases h : c = 43
    · simp [h]; omega
    · simp [h]
def okT (z : Str) : Prop := z.cps.toList.length ≤ 1000
def kf_lot_size (z : Str) : Int := (plus z.cps.toList : Int)
def Rg_lot_size (ds : List D) (P : En → Prop) : Prop := ∃ s, ds = [.str s] ∧ s.length ≤ 1000 ∧ P (.dat (.int (plus s : Nat)))
theorem len_lot_size (ds P) (h : Rg_lot_size ds P) : ds.length = 1 := by obtain ⟨_, rfl, _⟩ := h; rfl
theorem hkey_lot_size (z : Str) (h : okT z) (P : En → Prop) (p : P (.dat (.int (kf_lot_size z)))) : Rg_lot_size [.str z.cps.toList] P := ⟨_, rfl, h, p⟩
theorem md_plus {s : List Nat} : MD (fun x xs H Q => ∃ a b, x = V.str a ∧ xs = [V.str b] ∧ Q (.int (Txt.count a b)) H) (.str s) [.str [43]] (· = .dat (.int (plus s : Nat))) := fun W v vs r rs Q q => by
  cases r
  cases rs with
  | cons r1 rr =>
    cases rr
    cases r1
    refine ⟨_, _, rfl, rfl, ?_⟩
    have e : Txt.count (⟨s.toArray⟩ : Str) ⟨[43].toArray⟩ = ((plus s : Nat) : Int) := by
      rw [← cnt_plus]
      have h := count_cnt (⟨s.toArray⟩ : Str) 43
      simpa using h
    rw [e]
    exact dat1 (.int _) q
section
variable {P : Program} {w : World} {K : PySem.W.Frag} {mg : Str → Option Value} {base : Heap} {ρ : List En} {te : TE}
/-- sorted(set(x)), read -/
theorem e_sset {x : D} {xs : List (List Nat)} (sq : Sq x (xs.map D.str)) (h : ED te ρ (· = x)) (hl : xs.length ≤ 1000) : EV (tSSet K te) ρ (fun e => ∃ ys : List Str, e = .own (ys.map fun y => .str y.cps.toList) ∧ (∀ z, z ∈ ys ↔ z ∈ xs.map fun z => (⟨z.toArray⟩ : Str)) ∧ ys.Nodup ∧ sortedS ys = true) := fun W0 W σ E Q q => h W0 W σ E _ fun v d W1 g1 r1 e1 => by
  subst e1
  have fin : ∀ (l : Addr) (ws : List V), v = .ref l → Reps W1.b (xs.map D.str) ws → (SqL K W1.h l ws ∨ SqT K W1.h l ws) → ∃ (l : Addr) (zs : List Str), v = .ref l ∧ (SqL K W1.h l (zs.map V.str) ∨ SqT K W1.h l (zs.map V.str)) ∧ zs.length ≤ 1000 ∧
      ∀ (ys : List Str) (p : Addr), (∀ z, z ∈ ys ↔ z ∈ zs) → ys.Nodup → sortedS ys = true → W1.h p = none → Q (.ref p) (upd W1.h p (.lst (ys.map V.str))) := fun l ws ev r2 hs => by
    have ew := reps_strs r2
    subst ew
    refine ⟨l, _, ev, hs, by rw [List.length_map]; exact hl, fun ys p hm nd so hp => ?_⟩
    have rr : Reps W1.b (ys.map fun y => D.str y.cps.toList) (ys.map V.str) := by
      clear hm nd so
      induction ys with
      | nil => exact .nil
      | cons y ys ih => exact .cons (rep_str y) ih
    obtain ⟨a, b⟩ := new_own g1 hp rr
    exact q (.ref p) _ _ a b ⟨ys, rfl, hm, nd, so⟩
  generalize hy : xs.map D.str = ds at sq fin
  cases sq with
  | lst =>
    cases r1 with
    | lst ha ra => exact fin _ _ rfl ra (.inl (sq_l (W1.le _ _ ha)))
  | tup =>
    cases r1 with
    | tup ha ra => exact fin _ _ rfl ra (.inr (sq_t (W1.le _ _ ha)))

theorem ok_lot_size (T : Txt K mg)  : FnOk P w K mg base CX0 1 T.a_lot_size T.d_lot_size ["lot"] (SpE Rg_lot_size) := by
  refine T.F_lot_size.ok sc_lot_size (fun vs H Q E h => spE_len h len_lot_size) (fun cdv A outer s H vs Q E hr h => ?_)
  have hu := hu64 hr
  have hvl : vs.length = 1 := spE_len h len_lot_size
  refine ⟨_, (pss_one (ps_ret (pe_bm PySem.F.plainAttrs_str PySem.F.slot_str_count PySem.F.type_str_count mt_count (pv 0) (pa_cons (pe_glob (v := .str "+") rfl T.c_PLUS ⟨_, rfl⟩) pa_nil)))), fn_body h (by rw [hvl]; decide) (fun ds R hR hl => ?_)⟩
  obtain ⟨s, rfl, hs, q⟩ := hR
  exact t_ret1 (EV.d1 (e_bm (T := fun ds => ds = [.str [43]]) (e_var rfl) (fun W v r => by cases r; rfl) (ea_c (e_str (s := [43]) (by decide +kernel)) ea_nil) fun ds e => by rw [e]; exact md_plus)) q


def ltc (a b : List Nat) : Prop := plus a < plus b ∨ (plus a = plus b ∧ a < b)
/-- M has the members of L, strictly rising by the number of +, then by text -/
def IsOrd (M L : List (List Nat)) : Prop := (∀ z, z ∈ M ↔ z ∈ L) ∧ M.Pairwise ltc
theorem rising_pw : ∀ (r : List Str) (p : Str), risingS p r = true → (∀ x ∈ r, ¬ x.cps.toList < p.cps.toList) ∧ r.Pairwise fun a b => ¬ b.cps.toList < a.cps.toList
  | [], _, _ => ⟨fun _ h => (nomatch h), List.Pairwise.nil⟩
  | x :: r, p, h => by
    unfold risingS at h
    rw [Bool.and_eq_true, Bool.not_eq_true'] at h
    have h1 : ¬ x.cps.toList < p.cps.toList := by
      have := h.1
      rw [ltCps_eq] at this
      exact of_decide_eq_false this
    obtain ⟨a, b⟩ := rising_pw r x h.2
    refine ⟨fun y hy => ?_, List.pairwise_cons.mpr ⟨a, b⟩⟩
    rcases List.mem_cons.mp hy with e | hy
    · rw [e]; exact h1
    · exact lst_tr h1 (a y hy)
theorem sorted_pw {l : List Str} (h : sortedS l = true) (nd : l.Nodup) : l.Pairwise fun a b => a.cps.toList < b.cps.toList := by
  have h1 : l.Pairwise fun a b => ¬ b.cps.toList < a.cps.toList := by
    cases l with
    | nil => exact List.Pairwise.nil
    | cons x r =>
      obtain ⟨a, b⟩ := rising_pw r x h
      exact List.pairwise_cons.mpr ⟨a, b⟩
  refine (h1.and nd).imp fun {a b} hab => ?_
  by_cases q : a.cps.toList < b.cps.toList
  · exact q
  · exfalso
    refine hab.2 ?_
    have e := List.le_antisymm (List.not_lt.mp hab.1) (List.not_lt.mp q)
    obtain ⟨⟨a⟩⟩ := a
    obtain ⟨⟨b⟩⟩ := b
    have e' : a = b := e
    rw [e']
theorem key_ord {ys : List Str} {qs : List (Int × Str)} (h : KeyOut kf_lot_size ys qs) (hs : sortedS ys = true) (nd : ys.Nodup) : IsOrd (qs.map fun y => y.2.cps.toList) (ys.map fun y => y.cps.toList) := by
  have hp := h.2.perm
  have hk : ∀ q ∈ qs, q.1 = (plus q.2.cps.toList : Int) := fun q hq => by
    obtain ⟨x, _, rfl⟩ := List.mem_map.mp (hp.mem_iff.mp hq)
    rfl
  refine ⟨fun z => ?_, ?_⟩
  · have e := (hp.map fun y : Int × Str => y.2.cps.toList).mem_iff (a := z)
    rw [List.map_map] at e
    exact e
  · refine List.pairwise_map.mpr ?_
    have hy : (ys.map fun x => (kf_lot_size x, x)).Pairwise fun a b : Int × Str => a.2.cps.toList < b.2.cps.toList := List.pairwise_map.mpr (sorted_pw hs nd)
    refine List.pairwise_iff_forall_sublist.mpr fun {p q} hsub => ?_
    have h1 := List.pairwise_iff_forall_sublist.mp h.1 hsub
    have h2 : ¬ q.1 < p.1 := of_decide_eq_false h1
    have kp := hk p (hsub.subset List.mem_cons_self)
    have kq := hk q (hsub.subset (List.mem_cons_of_mem _ List.mem_cons_self))
    by_cases h3 : p.1 < q.1
    · exact .inl (by omega)
    · refine .inr ⟨by omega, ?_⟩
      have hf := hsub.filter (SrtO.eqv lt3 p)
      have e1 : SrtO.eqv lt3 p p = true := SrtO.eqv_iff.mpr ⟨decide_eq_false (by omega), decide_eq_false (by omega)⟩
      have e2 : SrtO.eqv lt3 p q = true := SrtO.eqv_iff.mpr ⟨decide_eq_false h3, decide_eq_false h2⟩
      rw [List.filter_cons_of_pos e1, List.filter_cons_of_pos e2, List.filter_nil, h.2.cls p] at hf
      exact List.pairwise_iff_forall_sublist.mp hy (hf.trans List.filter_sublist)
def Rg_ordered_lots (ds : List D) (P : En → Prop) : Prop := ∃ (x : D) (L : List (List Nat)), ds = [x] ∧ Sq x (L.map D.str) ∧ L.length ≤ 1000 ∧ (∀ z ∈ L, z.length ≤ 1000) ∧ ∀ M, IsOrd M L → P (.own (M.map D.str))
theorem len_ordered_lots (ds P) (h : Rg_ordered_lots ds P) : ds.length = 1 := by obtain ⟨_, _, rfl, _⟩ := h; rfl
theorem map_mk (L : List (List Nat)) : (L.map fun z => (⟨z.toArray⟩ : Str)).map (fun y => y.cps.toList) = L := by
  rw [List.map_map]
  exact (List.map_congr_left fun z _ => rfl).trans (List.map_id L)

theorem ok_ordered_lots (T : Txt K mg) (G_lot_size : FnOk P w K mg base CX0 1 T.a_lot_size T.d_lot_size ["lot"] (SpE Rg_lot_size)) : FnOk P w K mg base CX0 4 T.a_ordered_lots T.d_ordered_lots ["lots"] (SpE Rg_ordered_lots) := by
  refine T.F_ordered_lots.ok sc_ordered_lots (fun vs H Q E h => spE_len h len_ordered_lots) (fun cdv A outer s H vs Q E hr h => ?_)
  have hu := hu64 hr
  have hvl : vs.length = 1 := spE_len h len_ordered_lots
  refine ⟨_, (pss_one (ps_ret (pe_callBK (cr_sKey (ok := okT) (kf := kf_lot_size) rfl G_lot_size (hr.mono (by decide)) (b_lot_size T) hkey_lot_size) (by rfl) T.n_sorted (by decide +kernel) (pa_cons (pe_sortedSet rfl (by rfl) T.n_sorted (by rfl) T.n_set (pv 0)) pa_nil) (pk_cons (pe_glob (v := .ref T.a_lot_size) rfl T.g_lot_size rfl) pk_nil)))), fn_body h (by rw [hvl]; decide) (fun ds R hR hl => ?_)⟩
  obtain ⟨x, L, rfl, sq, hl, hz, q⟩ := hR
  refine t_ret (P := R) (e_skey ?_) fun e he => he
  exact (e_sset sq (e_var rfl) hl).imp fun e ⟨ys, e1, hm, nd, so⟩ => by
    have hml : ∀ z, z ∈ (ys.map fun y => y.cps.toList) ↔ z ∈ L := fun z => by
      rw [← map_mk L]
      constructor
      · intro h
        obtain ⟨y, hy, rfl⟩ := List.mem_map.mp h
        exact List.mem_map_of_mem ((hm y).mp hy)
      · intro h
        obtain ⟨y, hy, rfl⟩ := List.mem_map.mp h
        exact List.mem_map_of_mem ((hm y).mpr hy)
    refine ⟨ys.map fun y => y.cps.toList, by rw [e1, List.map_map]; rfl, ?_, fun z hz' => hz z ((hml z).mp hz'), fun qs ho => ?_⟩
    · rw [List.length_map]
      have := nodup_len nd fun z hz => (hm z).mp hz
      rw [List.length_map] at this
      omega
    · have em : (ys.map fun y => y.cps.toList).map (fun z => (⟨z.toArray⟩ : Str)) = ys := by
        rw [List.map_map]
        exact (List.map_congr_left fun z _ => rfl).trans (List.map_id ys)
      rw [em] at ho
      have io := key_ord ho so nd
      have := q (qs.map fun y => y.2.cps.toList) ⟨fun z => (io.1 z).trans (hml z), io.2⟩
      rw [List.map_map] at this
      exact this

end
end Nt

namespace Nt
open PySem PySem.Spec PyProof.Rows L2


theorem rowV_dots (cs : List (List Nat × Nat)) : RowV cs (List.replicate cs.length 46) :=
  ⟨List.length_replicate, fun i c m h _ => .inl (List.eq_of_mem_replicate (List.mem_of_getElem? h))⟩
theorem rowV_ov {cs : List (List Nat × Nat)} {x y : List Nat} (hx : RowV cs x) (hy : RowV cs y) : RowV cs (ov x y) := by
  refine ⟨by rw [ov_len, hx.1, hy.1, Nat.min_self], fun i c m h hm => ?_⟩
  have hi := (List.getElem?_eq_some_iff.mp h).1
  rw [ov_len] at hi
  rw [ov_get (get_of_lt (l := x) (i := i) (by omega)) (get_of_lt (l := y) (i := i) (by omega))] at h
  have e := Option.some.inj h
  by_cases h1 : x.getD i 0 = 46
  · rw [if_pos h1] at e
    exact hy.2 i c m (by rw [get_of_lt (l := y) (i := i) (by omega), e]) hm
  · rw [if_neg h1] at e
    exact hx.2 i c m (by rw [get_of_lt (l := x) (i := i) (by omega), e]) hm
theorem ov_assoc {x y z : List Nat} (h1 : x.length = y.length) (h2 : y.length = z.length) : ov (ov x y) z = ov x (ov y z) := by
  have l1 := ov_len' h1
  have l2 := ov_len' h2
  refine ext_getD (by rw [ov_len' (x := ov x y) (by omega), l1, ov_len' (x := x) (by omega)]) fun i hi => ?_
  rw [ov_len' (x := ov x y) (by omega), l1] at hi
  rw [ov_at (by omega) (by omega), ov_at h1 hi, ov_at (by omega) hi, ov_at h2 (by omega)]
  by_cases a : x.getD i 0 = 46
  · rw [if_pos a]; simp only [a, if_true]
  · rw [if_neg a, if_neg a]; simp only [a, if_false]
theorem ov_pile {x y z : List Nat} (h1 : x.length = y.length) (h2 : y.length = z.length) : ov z (ov x (ov y (ov z x))) = ov z (ov x y) := by
  have l1 := ov_len' h1
  have l3 : (ov z x).length = z.length := ov_len' (by omega)
  have l4 : (ov y (ov z x)).length = y.length := ov_len' (by omega)
  have l5 : (ov x (ov y (ov z x))).length = x.length := ov_len' (by omega)
  refine ext_getD (by rw [ov_len' (by omega), ov_len' (by omega)]) fun i hi => ?_
  rw [ov_len' (by omega)] at hi
  rw [ov_at (by omega) hi, ov_at (by omega) (by omega), ov_at (by omega) (by omega), ov_at (by omega) hi, ov_at (by omega) hi, ov_at h1 (by omega)]
  by_cases a : z.getD i 0 = 46
  · simp only [a, if_true]
    by_cases b : x.getD i 0 = 46
    · simp only [b, if_true]
      by_cases c : y.getD i 0 = 46
      · simp only [c, if_true]
      · simp only [c, if_false]
    · simp only [b, if_false]
  · simp only [a, if_false]
def Rg_law_order_so (ds : List D) (P : En → Prop) : Prop := ∃ (cs : List (List Nat × Nat)) (rs : List (List Nat)) (n : Nat), ds = [.bag, .lst (rs.map D.str), .int n] ∧ n = cs.length ∧ CsV cs ∧ rs.length ≤ 10 ∧ (∀ r ∈ rs, RowV cs r) ∧ P (.dat (.bl true))
def Rg_law (K : PySem.W.Frag) (ds : List D) (P : En → Prop) : Prop := ∃ ns : List Int, ds = [.scr K ns] ∧ ns.length ≤ 63 ∧ P (.dat (.bl true))
theorem len_law {K : PySem.W.Frag} (ds P) (h : Rg_law K ds P) : ds.length = 1 := by obtain ⟨_, rfl, _⟩ := h; rfl
section
variable {P : Program} {w : World} {K : PySem.W.Frag} {mg : Str → Option Value} {base : Heap} {ρ : List En} {ta tb tc te : TE} {X : XK}
theorem c_row {cs : List (List Nat × Nat)} (h1 : ED ta ρ (· = .bag)) (h2 : ED tb ρ (· = .lst (cs.map cellD))) (hcs : CsV cs) : ED (tCall (SpE Rg_law_row) [.int 2] X (tCons ta (tCons tb tNil))) ρ (fun d => ∃ r, d = .str r ∧ RowV cs r) :=
  EV.ed (R := fun e => ∃ r, e = .dat (.str r) ∧ RowV cs r) (e_call (cs := [.int 2]) (T := fun ds => ds = [.bag, .lst (cs.map cellD)]) (ea_c h1 (ea_c h2 ea_nil)) (.cons (.int 2) .nil) fun ds e => by rw [e]; exact ⟨cs, 2, rfl, hcs, fun r' hr' => ⟨r', rfl, hr'⟩⟩) fun e ⟨r, e1, hr⟩ => ⟨.str r, by rw [e1]; rfl, r, rfl, hr⟩
theorem c_bent {cs : List (List Nat × Nat)} {r : List Nat} (h1 : ED ta ρ (· = .bag)) (h2 : ED tb ρ (· = .lst (cs.map cellD))) (h3 : ED tc ρ (· = .str r)) (hcs : CsV cs) (hc : 1 ≤ cs.length) (hr : RowV cs r) : ED (tCall (SpE Rg_law_bent) [] X (tCons ta (tCons tb (tCons tc tNil)))) ρ (fun d => ∃ r, d = .str r ∧ RowV cs r) :=
  EV.ed (R := fun e => ∃ r, e = .dat (.str r) ∧ RowV cs r) (e_call0 (ea_c h1 (ea_c h2 (ea_c h3 ea_nil))) ⟨cs, r, rfl, hcs, hc, hr, fun r' hr' => ⟨r', rfl, hr'⟩⟩) fun e ⟨r, e1, hr⟩ => ⟨.str r, by rw [e1]; rfl, r, rfl, hr⟩
theorem c_blank {n : Nat} (h1 : ED ta ρ (· = .int n)) (hn : n ≤ 1000) : ED (tCall (SpE Rg_blank) [] X (tCons ta tNil)) ρ (· = .str (List.replicate n 46)) := EV.d1 (e_call0 (ea_c h1 ea_nil) ⟨n, rfl, hn, rfl⟩)
theorem e_dots {n : Nat} (h1 : ED ta ρ (· = .int n)) (hn : n ≤ 1000) : ED (tOp rTimes (tC (.str ".")) ta) ρ (· = .str (List.replicate n 46)) := (e_opd (e_str (s := [46]) (by decide +kernel)) h1 (od_mulS (by omega) (by omega) (by decide))).is (by rw [Int.toNat_natCast, rep46])
theorem e_len {xs : List D} (h1 : ED ta ρ (· = .lst xs)) : ED (tCB (rLenU K) (tCons ta tNil)) ρ (· = .int (xs.length : Nat)) := EV.d1 (e_cb1 (ea_c h1 ea_nil) cd_lenL)
theorem e_pr {x y : D} (h1 : ED ta ρ (· = x)) (h2 : ED tb ρ (· = y)) : ED (tTup (tCons ta (tCons tb tNil))) ρ (· = .tup [x, y]) := e_tup1 (ea_c h1 (ea_c h2 ea_nil)) (by simp)

theorem ok_law (T : Txt K mg) (G_over : FnOk P w K mg base CX0 1 T.a_over T.d_over ["newer", "older"] (SpE Rg_over)) (G_laid : FnOk P w K mg base CX0 2 T.a_laid T.d_laid ["rows"] (SpE Rg_laid)) (G_blank : FnOk P w K mg base CX0 1 T.a_blank T.d_blank ["many"] (SpE Rg_blank)) (G_law_bag : FnOk P w K mg base CX0 1 T.a_law_bag T.d_law_bag ["_law_script"] (SpE (Rg_law_bag K))) (G_law_of : FnOk P w K mg base CX0 2 T.a_law_of T.d_law_of ["_law_bag_here", "_law_things"] (SpE Rg_law_of)) (G_law_same : FnOk P w K mg base CX0 3 T.a_law_same T.d_law_same ["_law_found", "_law_due"] (SpE Rg_law_same)) (G_law_frame : FnOk P w K mg base CX0 4 T.a_law_frame T.d_law_frame ["_law_bag_here", "_law_size", "_law_widest"] (SpE Rg_law_frame)) (G_law_row : FnOk P w K mg base CX0 2 T.a_law_row T.d_law_row ["_law_bag_here", "_law_frame_here", "_law_thin"] (SpE Rg_law_row)) (G_law_lay : FnOk P w K mg base CX0 1 T.a_law_lay T.d_law_lay ["_law_newer_row", "_law_older_row"] (SpE Rg_law_lay)) (G_law_bent : FnOk P w K mg base CX0 3 T.a_law_bent T.d_law_bent ["_law_bag_here", "_law_frame_here", "_law_r"] (SpE Rg_law_bent)) (G_law_pair_so : FnOk P w K mg base CX0 4 T.a_law_pair_so T.d_law_pair_so ["_law_x", "_law_y"] (SpE Rg_law_pair_so)) (G_law_cuts_so : FnOk P w K mg base CX0 4 T.a_law_cuts_so T.d_law_cuts_so ["_law_bag_here", "_law_frame_here", "_law_x"] (SpE Rg_law_cuts_so)) (G_law_order_so : FnOk P w K mg base CX0 5 T.a_law_order_so T.d_law_order_so ["_law_bag_here", "_law_rows_here", "_law_wide"] (SpE Rg_law_order_so)) : FnOk P w K mg base CX0 6 T.a_law T.d_law ["_law_script"] (SpE (Rg_law K)) := by
  refine T.F_law.ok sc_law (fun vs H Q E h => spE_len h len_law) (fun cdv A outer s H vs Q E hr h => ?_)
  have hu := hu64 hr
  obtain ⟨ds0, vd_law_row, bd_law_row⟩ := T.F_law_row.binds1 (ps := ["_law_bag_here", "_law_frame_here", "_law_thin"]) 2 0 (by simp) (by rfl) fun _ _ _ _ _ _ _ us its hu hi => match us, its, hu, hi with
    | [_, _], [_], _, _ => ⟨_, rfl, rfl⟩
  have hvl : vs.length = 1 := spE_len h len_law
  refine ⟨_, (pss_cons (ps_set (i := 1) sc_law.nd rfl (Or.inl rfl) (pe_call G_law_bag (hr.mono (by decide)) (by rfl) T.g_law_bag T.F_law_bag.kp (b_law_bag T) .nil pass0 (pa_cons (pv 0) pa_nil))) (pss_cons (ps_set (i := 2) sc_law.nd rfl (Or.inl rfl) (pe_call G_law_frame (hr.mono (by decide)) (by rfl) T.g_law_frame T.F_law_frame.kp (b_law_frame T) .nil pass0 (pa_cons (pv 1) (pa_cons (pe_call G_law_of (hr.mono (by decide)) (by rfl) T.g_law_of T.F_law_of.kp (b_law_of T) .nil pass0 (pa_cons (pv 1) (pa_cons (pe_lst (pa_cons pe_int (pa_cons pe_int (pa_cons pe_int (pa_cons pe_int (pa_cons pe_int (pa_cons pe_int (pa_cons pe_int (pa_cons pe_int (pa_cons pe_int (pa_cons pe_int pa_nil))))))))))) pa_nil))) (pa_cons pe_int pa_nil))))) (pss_cons (ps_set (i := 3) sc_law.nd rfl (Or.inl rfl) (pe_call G_law_row (hr.mono (by decide)) (by rfl) T.g_law_row T.F_law_row.kp bd_law_row vd_law_row pass0 (pa_cons (pv 1) (pa_cons (pv 2) pa_nil)))) (pss_cons (ps_set (i := 4) sc_law.nd rfl (Or.inl rfl) (pe_call G_law_bent (hr.mono (by decide)) (by rfl) T.g_law_bent T.F_law_bent.kp (b_law_bent T) .nil pass0 (pa_cons (pv 1) (pa_cons (pv 2) (pa_cons (pv 3) pa_nil))))) (pss_cons (ps_set (i := 5) sc_law.nd rfl (Or.inl rfl) (pe_call G_law_bent (hr.mono (by decide)) (by rfl) T.g_law_bent T.F_law_bent.kp (b_law_bent T) .nil pass0 (pa_cons (pv 1) (pa_cons (pv 2) (pa_cons (pv 4) pa_nil))))) (pss_cons (ps_if (pt_not (pt_val (pe_call G_law_same (hr.mono (by decide)) (by rfl) T.g_law_same T.F_law_same.kp (b_law_same T) .nil pass0 (pa_cons (pe_lst (pa_cons (pe_call G_blank (hr.mono (by decide)) (by rfl) T.g_blank T.F_blank.kp (b_blank T) .nil pass0 (pa_cons (pe_callB (call_lenK (K := K) rfl) (by rfl) T.n_len (by decide +kernel) (pa_cons (pv 2) pa_nil)) pa_nil)) (pa_cons (pe_call G_blank (hr.mono (by decide)) (by rfl) T.g_blank T.F_blank.kp (b_blank T) .nil pass0 (pa_cons pe_int pa_nil)) (pa_cons (pe_call G_blank (hr.mono (by decide)) (by rfl) T.g_blank T.F_blank.kp (b_blank T) .nil pass0 (pa_cons pe_int pa_nil)) pa_nil)))) (pa_cons (pe_lst (pa_cons (pe_op op_times pe_str (pe_callB (call_lenK (K := K) rfl) (by rfl) T.n_len (by decide +kernel) (pa_cons (pv 2) pa_nil))) (pa_cons pe_str (pa_cons (pe_op op_times pe_str pe_int) pa_nil)))) pa_nil))))) (pss_one (ps_ret pe_bl)) pss_nil) (pss_cons (ps_for PassesOwn.never rfl (pi_listK (K := K) rfl (pe_lst (pa_cons (pe_tup (pa_cons (pv 3) (pa_cons (pv 4) pa_nil))) (pa_cons (pe_tup (pa_cons (pv 4) (pa_cons (pv 3) pa_nil))) (pa_cons (pe_tup (pa_cons (pv 4) (pa_cons (pv 5) pa_nil))) (pa_cons (pe_tup (pa_cons (pv 5) (pa_cons (pv 3) pa_nil))) pa_nil)))))) (pg_name (i := 6) sc_law.nd rfl (Or.inl rfl)) (pss_one (ps_if (pt_not (pt_val (pe_call G_law_pair_so (hr.mono (by decide)) (by rfl) T.g_law_pair_so T.F_law_pair_so.kp (b_law_pair_so T) .nil pass0 (pa_cons (pe_ix (ix_K (K := K) rfl) (pv 6) pe_int (fun _ _ => rfl)) (pa_cons (pe_ix (ix_K (K := K) rfl) (pv 6) pe_int (fun _ _ => rfl)) pa_nil))))) (pss_one (ps_ret pe_bl)) pss_nil))) (pss_cons (ps_set (i := 7) sc_law.nd rfl (Or.inl rfl) (pe_call G_law_lay (hr.mono (by decide)) (by rfl) T.g_law_lay T.F_law_lay.kp (b_law_lay T) .nil pass0 (pa_cons (pv 3) (pa_cons (pe_call G_law_lay (hr.mono (by decide)) (by rfl) T.g_law_lay T.F_law_lay.kp (b_law_lay T) .nil pass0 (pa_cons (pv 4) (pa_cons (pv 5) pa_nil))) pa_nil)))) (pss_cons (ps_set (i := 8) sc_law.nd rfl (Or.inl rfl) (pe_lst (pa_cons (pv 5) (pa_cons (pv 4) (pa_cons (pv 3) pa_nil))))) (pss_cons (ps_if (pt_not (pt_val (pe_call G_law_same (hr.mono (by decide)) (by rfl) T.g_law_same T.F_law_same.kp (b_law_same T) .nil pass0 (pa_cons (pe_lst (pa_cons (pe_call G_over (hr.mono (by decide)) (by rfl) T.g_over T.F_over.kp (b_over T) .nil pass0 (pa_cons (pe_call G_over (hr.mono (by decide)) (by rfl) T.g_over T.F_over.kp (b_over T) .nil pass0 (pa_cons (pv 3) (pa_cons (pv 4) pa_nil))) (pa_cons (pv 5) pa_nil))) (pa_cons (pe_call G_over (hr.mono (by decide)) (by rfl) T.g_over T.F_over.kp (b_over T) .nil pass0 (pa_cons (pv 3) (pa_cons (pe_call G_over (hr.mono (by decide)) (by rfl) T.g_over T.F_over.kp (b_over T) .nil pass0 (pa_cons (pv 4) (pa_cons (pv 5) pa_nil))) pa_nil))) (pa_cons (pe_call G_laid (hr.mono (by decide)) (by rfl) T.g_laid T.F_laid.kp (b_laid T) .nil pass0 (pa_cons (pv 8) pa_nil)) (pa_cons (pe_call G_laid (hr.mono (by decide)) (by rfl) T.g_laid T.F_laid.kp (b_laid T) .nil pass0 (pa_cons (pe_tup (pa_cons (pv 5) (pa_cons (pv 4) (pa_cons (pv 3) pa_nil)))) pa_nil)) pa_nil))))) (pa_cons (pe_lst (pa_cons (pv 7) (pa_cons (pv 7) (pa_cons (pv 7) (pa_cons (pv 7) pa_nil))))) pa_nil))))) (pss_one (ps_ret pe_bl)) pss_nil) (pss_cons (ps_if (PW.pt (pw_or (pt_not (pt_val (pe_call G_law_same (hr.mono (by decide)) (by rfl) T.g_law_same T.F_law_same.kp (b_law_same T) .nil pass0 (pa_cons (pv 8) (pa_cons (pe_lst (pa_cons (pv 5) (pa_cons (pv 4) (pa_cons (pv 3) pa_nil)))) pa_nil))))) (pw_or1 (pt_not (pt_val (pe_call G_law_same (hr.mono (by decide)) (by rfl) T.g_law_same T.F_law_same.kp (b_law_same T) .nil pass0 (pa_cons (pe_call G_laid (hr.mono (by decide)) (by rfl) T.g_laid T.F_laid.kp (b_laid T) .nil pass0 (pa_cons (pe_lst (pa_cons (pv 3) (pa_cons (pv 5) (pa_cons (pv 4) (pa_cons (pv 3) (pa_cons (pv 5) pa_nil)))))) pa_nil)) (pa_cons (pe_call G_law_lay (hr.mono (by decide)) (by rfl) T.g_law_lay T.F_law_lay.kp (b_law_lay T) .nil pass0 (pa_cons (pv 5) (pa_cons (pe_call G_law_lay (hr.mono (by decide)) (by rfl) T.g_law_lay T.F_law_lay.kp (b_law_lay T) .nil pass0 (pa_cons (pv 3) (pa_cons (pv 4) pa_nil))) pa_nil))) pa_nil)))))))) (pss_one (ps_ret pe_bl)) pss_nil) (pss_cons (ps_for PassesOwn.never rfl (pi_range1 (by rfl) T.n_range (pa_cons pe_int pa_nil)) (pg_name (i := 9) sc_law.nd rfl (Or.inl rfl)) (pss_one (ps_if (pt_not (pt_val (pe_call G_law_cuts_so (hr.mono (by decide)) (by rfl) T.g_law_cuts_so T.F_law_cuts_so.kp (b_law_cuts_so T) .nil pass0 (pa_cons (pv 1) (pa_cons (pv 2) (pa_cons (pe_ix (ix_K (K := K) rfl) (pe_lst (pa_cons (pv 3) (pa_cons (pv 7) pa_nil))) (pv 9) (fun _ _ => rfl)) pa_nil)))))) (pss_one (ps_ret pe_bl)) pss_nil))) (pss_one (ps_ret (pe_call G_law_order_so (hr.mono (by decide)) (by rfl) T.g_law_order_so T.F_law_order_so.kp (b_law_order_so T) .nil pass0 (pa_cons (pv 1) (pa_cons (pe_lst (pa_cons (pv 3) (pa_cons (pv 4) (pa_cons (pv 5) (pa_cons (pv 7) (pa_cons (pe_call G_law_row (hr.mono (by decide)) (by rfl) T.g_law_row T.F_law_row.kp bd_law_row vd_law_row pass0 (pa_cons (pv 1) (pa_cons (pv 2) pa_nil))) (pa_cons (pe_call G_law_lay (hr.mono (by decide)) (by rfl) T.g_law_lay T.F_law_lay.kp (b_law_lay T) .nil pass0 (pa_cons (pv 5) (pa_cons (pv 3) pa_nil))) (pa_cons (pv 3) pa_nil)))))))) (pa_cons (pe_callB (call_lenK (K := K) rfl) (by rfl) T.n_len (by decide +kernel) (pa_cons (pv 2) pa_nil)) pa_nil)))))))))))))))))), fn_body h (by rw [hvl]; decide) (fun ds R hR hl => ?_)⟩
  obtain ⟨ns, rfl, hns, q⟩ := hR
  refine q_asg1 (EV.d1 (e_call0 (R := fun e => e = .dat .bag) (ea_c (e_var rfl) ea_nil) ⟨ns, rfl, hns, rfl⟩)) ?_
  refine q_asg (P := fun e => ∃ cs : List (List Nat × Nat), e = .own (cs.map cellD) ∧ 1 ≤ cs.length ∧ cs.length ≤ 12 ∧ CsV cs) (e_callP (T := fun ds => ∃ n : Nat, ds = [.bag, .int n, .int 4] ∧ 1 ≤ n ∧ n ≤ 12) (ea_cons (T' := fun _ => True) (P := fun d => d = .bag) (e_var rfl) fun x hx => ea_cons (T' := fun _ => True) (P := fun d => ∃ n : Nat, d = .int n ∧ 1 ≤ n ∧ n ≤ 12) ((e_of (e_var rfl) (EV.o1 (e_lst1 (ea_c e_int (ea_c e_int (ea_c e_int (ea_c e_int (ea_c e_int (ea_c e_int (ea_c e_int (ea_c e_int (ea_c e_int (ea_c e_int ea_nil)))))))))) (by simp))) (.lst _) (by simp) (by simp)).imp fun d hd => ?_) fun y ⟨n, hy, h⟩ => (ea_c e_int ea_nil).imp fun ds e => ⟨n, by rw [e, hx, hy], h⟩) fun ds ⟨n, e, h1, h2⟩ => ⟨n, 4, e, by omega, by decide, by decide, fun cs g1 g2 => ⟨cs, rfl, by omega, by omega, ⟨by omega, fun c hc => g2 c hc⟩⟩⟩) fun e ⟨cs, e1, hc1, hc12, hcs⟩ => ?_
  · simp only [List.mem_cons, List.not_mem_nil, or_false] at hd
    rcases hd with h | h | h | h | h | h | h | h | h | h <;> subst h
    · exact ⟨2, rfl, by decide, by decide⟩
    · exact ⟨3, rfl, by decide, by decide⟩
    · exact ⟨4, rfl, by decide, by decide⟩
    · exact ⟨5, rfl, by decide, by decide⟩
    · exact ⟨7, rfl, by decide, by decide⟩
    · exact ⟨12, rfl, by decide, by decide⟩
    · exact ⟨1, rfl, by decide, by decide⟩
    · exact ⟨11, rfl, by decide, by decide⟩
    · exact ⟨3, rfl, by decide, by decide⟩
    · exact ⟨6, rfl, by decide, by decide⟩
  subst e1
  refine t_freeze (i := 2) (ds := cs.map cellD) rfl ?_
  refine q_asgd (c_row (e_var rfl) (e_var rfl) hcs) fun d ⟨x, e, hx⟩ => ?_
  subst e
  refine q_asgd (c_bent (e_var rfl) (e_var rfl) (e_var rfl) hcs hc1 hx) fun d ⟨y, e, hy⟩ => ?_
  subst e
  refine q_asgd (c_bent (e_var rfl) (e_var rfl) (e_var rfl) hcs hc1 hy) fun d ⟨z, e, hz⟩ => ?_
  subst e
  have lx := hx.1
  have ly := hy.1
  have lz := hz.1
  have hlen : ∀ {ρ : List En}, ρ[2]? = some (.dat (.lst (cs.map cellD))) → ED (tCB (rLenU K) (tCons (tVar 2) tNil)) ρ (· = .int (cs.length : Nat)) := fun h => (e_len (e_var h)).is (by rw [List.length_map])
  refine q_if1 (b := !true) (et_not1 (et_v1 (c_same (d := .lst [.str (List.replicate cs.length 46), .str [], .str (List.replicate 12 46)]) (EV.o1 (e_lst1 (ea_c (c_blank (hlen rfl) (by omega)) (ea_c ((c_blank (n := 0) e_int (by decide)).is rfl) (ea_c (c_blank (n := 12) e_int (by decide)) ea_nil))) (by simp))) (EV.o1 (e_lst1 (ea_c (e_dots (hlen rfl) (by omega)) (ea_c (e_str rfl) (ea_c (e_dots (n := 12) e_int (by decide)) ea_nil))) (by simp))) (by simp [D.sm, D.scal])))) (fun e => nomatch e) fun _ => ?_
  have hprs : ∀ d ∈ [D.tup [.str x, .str y], D.tup [.str y, .str x], D.tup [.str y, .str z], D.tup [.str z, .str x]], ∃ a b, d = D.tup [.str a, .str b] ∧ RowV cs a ∧ RowV cs b := fun d hd => by
    simp only [List.mem_cons, List.not_mem_nil, or_false] at hd
    rcases hd with h | h | h | h
    · exact ⟨_, _, h, hx, hy⟩
    · exact ⟨_, _, h, hy, hx⟩
    · exact ⟨_, _, h, hy, hz⟩
    · exact ⟨_, _, h, hz, hx⟩
  refine t_seq (M := fun ρ' => ∃ x6, ρ' = [.dat (.scr K ns), .dat .bag, .dat (.lst (cs.map cellD)), .dat (.str x), .dat (.str y), .dat (.str z), x6, .un, .un, .un]) (t_for1 (Ti := fun ds => ds = [D.tup [.str x, .str y], D.tup [.str y, .str x], D.tup [.str y, .str z], D.tup [.str z, .str x]]) (iv_list1 (EV.o1 (e_lst1 (ea_c (e_pr (e_var rfl) (e_var rfl)) (ea_c (e_pr (e_var rfl) (e_var rfl)) (ea_c (e_pr (e_var rfl) (e_var rfl)) (ea_c (e_pr (e_var rfl) (e_var rfl)) ea_nil)))) (by simp)))) (fun ds i ρ' => ∃ x6, ρ' = [.dat (.scr K ns), .dat .bag, .dat (.lst (cs.map cellD)), .dat (.str x), .dat (.str y), .dat (.str z), x6, .un, .un, .un]) (fun ds e => ⟨.un, rfl⟩) (fun ds i d ρ' e hd inv => ?_) (fun ds ρ' e m => m)) fun ρ' m => ?_
  · subst e
    obtain ⟨x6, rfl⟩ := inv
    obtain ⟨a, b, rfl, ha, hb⟩ := hprs d (List.mem_of_getElem? hd)
    have la := ha.1
    have lb := hb.1
    exact t_if (T := fun b => b = !true) (et_not1 (et_v1 (EV.d1 (e_call0 (R := fun e => e = .dat (.bl true)) (ea_c (e_opd (e_var rfl) e_int (od_ixT (j := 0) rfl rfl)) (ea_c (e_opd (e_var rfl) e_int (od_ixT (j := 1) rfl rfl)) ea_nil)) ⟨a, b, rfl, by omega, by omega, rfl⟩)))) (fun e => nomatch e) (fun _ => t_next ⟨_, rfl⟩)
  obtain ⟨x6, rfl⟩ := m
  have hyz := rowV_ov hy hz
  have hdue := rowV_ov hx hyz
  refine q_asg1 (c_ov (e_var rfl) (c_ov (e_var rfl) (e_var rfl) (by omega)) (by omega)) ?_
  refine q_asgo (ds := [.str z, .str y, .str x]) (e_lst1 (ea_c (e_var rfl) (ea_c (e_var rfl) (ea_c (e_var rfl) ea_nil))) (by simp)) ?_
  refine t_freeze (i := 8) rfl ?_
  have hpl : ∀ {a b : List Nat}, a.length = cs.length → b.length = cs.length → Len z.length [a, b] := fun h1 h2 s hs => by
    simp only [List.mem_cons, List.not_mem_nil, or_false] at hs
    rcases hs with h | h <;> rw [h] <;> omega
  refine q_if1 (b := !true) (et_not1 (et_v1 (c_same (d := .lst [.str (ov x (ov y z)), .str (ov x (ov y z)), .str (ov x (ov y z)), .str (ov x (ov y z))]) (EV.o1 (e_lst1 (ea_c ((c_ov (c_ov (e_var rfl) (e_var rfl) (by omega)) (e_var rfl) (by rw [ov_len' (by omega)]; omega)).is (by rw [ov_assoc (by omega) (by omega)])) (ea_c (c_ov (e_var rfl) (c_ov (e_var rfl) (e_var rfl) (by omega)) (by omega)) (ea_c ((c_laid (r := z) (rs := [y, x]) (e_var rfl) (.lst _) (by simp) (hpl ly lx) (by omega)).is rfl) (ea_c ((c_laid (r := z) (rs := [y, x]) (e_tup1 (ea_c (e_var rfl) (ea_c (e_var rfl) (ea_c (e_var rfl) ea_nil))) (by simp)) (.tup _) (by simp) (hpl ly lx) (by omega)).is rfl) ea_nil)))) (by simp))) (EV.o1 (e_lst1 (ea_c (e_var rfl) (ea_c (e_var rfl) (ea_c (e_var rfl) (ea_c (e_var rfl) ea_nil)))) (by simp))) (by simp [D.sm, D.scal])))) (fun e => nomatch e) fun _ => ?_
  refine q_if1 (b := !true || !true) (et_or1 (et_not1 (et_v1 (c_same (e_var rfl) (EV.o1 (e_lst1 (ea_c (e_var rfl) (ea_c (e_var rfl) (ea_c (e_var rfl) ea_nil))) (by simp))) (by simp [D.sm, D.scal])))) fun _ => et_not1 (et_v1 (c_same (d := .str (ov z (ov x y))) ((c_laid (r := x) (rs := [z, y, x, z]) (EV.o1 (e_lst1 (ea_c (e_var rfl) (ea_c (e_var rfl) (ea_c (e_var rfl) (ea_c (e_var rfl) (ea_c (e_var rfl) ea_nil))))) (by simp))) (.lst _) (by simp) (fun s hs => by
    simp only [List.mem_cons, List.not_mem_nil, or_false] at hs
    rcases hs with h | h | h | h <;> rw [h] <;> omega) (by omega)).is (congrArg D.str (ov_pile (x := x) (y := y) (z := z) (by omega) (by omega)))) (c_ov (e_var rfl) (c_ov (e_var rfl) (e_var rfl) (by omega)) (by omega)) rfl))) (fun e => nomatch e) fun _ => ?_
  refine t_seq (M := fun ρ' => ∃ x9, ρ' = [.dat (.scr K ns), .dat .bag, .dat (.lst (cs.map cellD)), .dat (.str x), .dat (.str y), .dat (.str z), x6, .dat (.str (ov x (ov y z))), .dat (.lst [.str z, .str y, .str x]), x9]) (t_for1 (iv_rngN (n := 2) (ea_c e_int ea_nil) (by decide)) (fun ds i ρ' => ∃ x9, ρ' = [.dat (.scr K ns), .dat .bag, .dat (.lst (cs.map cellD)), .dat (.str x), .dat (.str y), .dat (.str z), x6, .dat (.str (ov x (ov y z))), .dat (.lst [.str z, .str y, .str x]), x9]) (fun ds e => ⟨.un, rfl⟩) (fun ds i d ρ' e hd inv => ?_) (fun ds ρ' e m => m)) fun ρ' m => ?_
  · subst e
    obtain ⟨x9, rfl⟩ := inv
    obtain ⟨k, hk, rfl⟩ := map_get hd
    have hk2 : k < 2 := List.mem_range.mp (List.mem_of_getElem? hk)
    obtain ⟨r, hr, hrk⟩ : ∃ r, RowV cs r ∧ [D.str x, D.str (ov x (ov y z))][k]? = some (.str r) := by
      match k, hk2 with
      | 0, _ => exact ⟨x, hx, rfl⟩
      | 1, _ => exact ⟨_, hdue, rfl⟩
    exact t_if (T := fun b => b = !true) (et_not1 (et_v1 (EV.d1 (e_call0 (R := fun e => e = .dat (.bl true)) (ea_c (e_var rfl) (ea_c (e_var rfl) (ea_c (e_opd (EV.o1 (e_lst1 (ea_c (e_var rfl) (ea_c (e_var rfl) ea_nil)) (by simp))) (e_var rfl) (od_ixL (j := k) rfl hrk)) ea_nil))) ⟨cs, r, rfl, hr.1, by omega, rfl⟩)))) (fun e => nomatch e) (fun _ => t_next ⟨_, rfl⟩)
  obtain ⟨x9, rfl⟩ := m
  refine t_ret (P := fun e => e = .dat (.bl true)) (e_callP (T := fun ds => ∃ rs : List (List Nat), ds = [.bag, .lst (rs.map D.str), .int (cs.length : Nat)] ∧ rs.length ≤ 10 ∧ ∀ r ∈ rs, RowV cs r) (ea_cons (T' := fun _ => True) (P := fun d => d = .bag) (e_var rfl) fun v hv => ea_cons (T' := fun _ => True) (P := fun d => ∃ rs : List (List Nat), d = .lst (rs.map D.str) ∧ rs.length ≤ 10 ∧ ∀ r ∈ rs, RowV cs r) (EV.ed (R := fun e => ∃ rs : List (List Nat), e = .own (rs.map D.str) ∧ rs.length ≤ 10 ∧ ∀ r ∈ rs, RowV cs r) ((e_lst (T := fun ds => ∃ rs : List (List Nat), ds = rs.map D.str ∧ rs.length ≤ 10 ∧ ∀ r ∈ rs, RowV cs r) (ea_cons (T' := fun _ => True) (P := fun d => d = .str x) (e_var rfl) fun v1 h1 => ea_cons (T' := fun _ => True) (P := fun d => d = .str y) (e_var rfl) fun v2 h2 => ea_cons (T' := fun _ => True) (P := fun d => d = .str z) (e_var rfl) fun v3 h3 => ea_cons (T' := fun _ => True) (P := fun d => d = .str (ov x (ov y z))) (e_var rfl) fun v4 h4 => ea_cons (T' := fun _ => True) (P := fun d => ∃ r, d = .str r ∧ RowV cs r) (c_row (e_var rfl) (e_var rfl) hcs) fun v5 ⟨r5, h5, hr5⟩ => (ea_c (c_ov (e_var rfl) (e_var rfl) (by omega)) (ea_c (e_var rfl) ea_nil)).imp fun ds e => ⟨[x, y, z, ov x (ov y z), r5, ov z x, x], by rw [e, h1, h2, h3, h4, h5]; rfl, by simp, fun r hr => ?_⟩) (fun ds ⟨rs, e, hl, _⟩ => by rw [e, List.length_map]; omega)).imp fun e ⟨ds, e1, rs, e2, h⟩ => ⟨rs, by rw [e1, e2], h⟩) fun e ⟨rs, e1, h⟩ => ⟨.lst (rs.map D.str), by rw [e1]; rfl, rs, rfl, h⟩) fun v2 ⟨rs, h2, h⟩ => (ea_c (hlen rfl) ea_nil).imp fun ds e => ⟨rs, by rw [e, hv, h2], h⟩) fun ds ⟨rs, e, h⟩ => ⟨cs, rs, cs.length, e, rfl, hcs, h.1, h.2, rfl⟩) fun e he => by rw [he]; exact q
  simp only [List.mem_cons, List.not_mem_nil, or_false] at hr
  rcases hr with h | h | h | h | h | h | h
  · rw [h]; exact hx
  · rw [h]; exact hy
  · rw [h]; exact hz
  · rw [h]; exact hdue
  · rw [h]; exact hr5
  · rw [h]; exact rowV_ov hz hx
  · rw [h]; exact hx

end
end Nt

namespace Nt
open PySem PySem.Spec PyProof.Rows L2


/-- (the number of +, text) as data -/
def nsD (z : List Nat) : D := .tup [.int (plus z : Nat), .str z]
def kOf (H : Hp) : V → Int × Str
  | .ref t => match H t with
    | some (.tup [.int n, .str s]) => (n, s)
    | _ => (0, Str.empty)
  | _ => (0, Str.empty)
theorem nsD_at {H : Hp} : ∀ {L : List (List Nat)} {ws : List V}, Reps H (L.map nsD) ws → ∀ w ∈ ws, ∃ z ∈ L, Rep H (nsD z) w ∧ kOf H w = ((plus z : Int), (⟨z.toArray⟩ : Str)) ∧ ∃ t, w = .ref t ∧ H t = some (.tup [.int (plus z : Int), .str ⟨z.toArray⟩])
  | [], _, .nil, w, h => nomatch h
  | z :: L, _, .cons r rr, w, h => by
    rcases List.mem_cons.mp h with e | h
    · subst e
      refine ⟨z, List.mem_cons_self, r, ?_⟩
      cases r with
      | tup ha ra =>
        cases ra with
        | cons r1 ra =>
          cases ra with
          | cons r2 ra =>
            cases ra
            cases r1
            cases r2
            refine ⟨?_, _, rfl, ha⟩
            unfold kOf
            simp only [ha]
            rfl
    · obtain ⟨y, hy, q⟩ := nsD_at rr w h
      exact ⟨y, List.mem_cons_of_mem _ hy, q⟩
theorem nsD_map {H : Hp} : ∀ {L : List (List Nat)} {ws : List V}, Reps H (L.map nsD) ws → ws.map (fun y => (kOf H y).2.cps.toList) = L
  | [], _, .nil => rfl
  | z :: L, _, .cons r rr => by
    rw [List.map_cons, nsD_map rr]
    congr 1
    have rr1 : Reps H ([z].map nsD) [_] := .cons r .nil
    obtain ⟨y, hy, _, e, _⟩ := nsD_at rr1 _ List.mem_cons_self
    rw [e, List.mem_singleton.mp hy]
theorem reps_each {H : Hp} {f : V → List Nat} : ∀ {ys : List V}, (∀ y ∈ ys, Rep H (nsD (f y)) y) → Reps H ((ys.map f).map nsD) ys
  | [], _ => .nil
  | y :: ys, h => .cons (h y List.mem_cons_self) (reps_each fun z hz => h z (List.mem_cons_of_mem _ hz))
section
variable {K : PySem.W.Frag} {ρ : List En} {ta tb te th to : TE} {tt : TT} {wi : TI} {X : XK} {R : En → Prop}
theorem pe_bmK {X : Cx} {o e : Expr} {es : List Expr} {to : TE} {t : TA} {name : Str} {apos cpos : Pos} {Ty id : String} {r : V → List V → Hp → VK → Prop} (hK : X.K = K) (pa : PlainAttrs Ty) (slot : Slot Ty name id) (hty : typeOf (.builtin id) = pure (.type "method_descriptor")) (hm : MtR X id r) (ho : PE X o to) (ha : PA X (e :: es) t)
    (hbase : attributeBase o name X.env (eval o X.env) = eval o X.env := by rfl)
    (hfew : ((backTo cpos (starEach (e :: es) X.env)).all (fun x => !x.1) && (backToKw cpos (keywordEach [] X.env)).all (fun x => x.1.isSome)
      && decide ((e :: es).length + ([] : List Keyword).length + (if ([] : List Keyword).isEmpty then 0 else 1) < 30)) = true := by rfl)
    (hline : (apos.endLine == cpos.line) = true := by rfl) (hs : starEach (e :: es) X.env = (false, eval e X.env) :: starEach es X.env := by rfl) (hplain : (backTo cpos (starEach es X.env)).any (·.1) = false := by rfl) :
    PE X (.Call (.Attribute o name apos) (e :: es) [] cpos) (tBM K Ty r to t) := hK ▸ pe_bm pa slot hty hm ho ha hbase hfew hline hs hplain
theorem cr_sortedNSK {X : Cx} (hK : X.K = K) : CallR X (.builtin "sorted") (rSortedNS K) := hK ▸ cr_sortedNS
theorem cd_sns {L : List (List Nat)} : CD (rSortedNS K) [.lst (L.map nsD)] (fun e => ∃ M : List (List Nat), e = .own (M.map nsD) ∧ M.Perm L ∧ M.Pairwise fun a b => ¬ ltc b a) := fun W vs r Q q => by
  cases r with
  | cons r rr =>
    cases rr
    cases r with
    | lst ha ra =>
      rename_i a ws
      have hz := nsD_at ra
      refine ⟨a, ws, kOf W.b, rfl, sq_l (W.le _ _ ha), fun x hx => ?_, fun ys p hs hp hn => ?_⟩
      · obtain ⟨z, _, _, e, t, rfl, ht⟩ := hz x hx
        exact ⟨t, rfl, by rw [e]; exact W.le _ _ ht⟩
      · have hy : ∀ y ∈ ys, ∃ z ∈ L, Rep W.b (nsD z) y ∧ kOf W.b y = ((plus z : Int), (⟨z.toArray⟩ : Str)) := fun y hy => by
          obtain ⟨z, hzl, hr, e, _⟩ := hz y (hp.mem_iff.mp hy)
          exact ⟨z, hzl, hr, e⟩
        have hy2 : ∀ y ∈ ys, Rep W.b (nsD (kOf W.b y).2.cps.toList) y := fun y hm => by
          obtain ⟨z, _, hr, e⟩ := hy y hm
          rw [e]; exact hr
        have rr := reps_each (f := fun y => (kOf W.b y).2.cps.toList) hy2
        refine own1 rr (fun u e W' g r2 e2 => q u e W' g r2 ⟨_, e2, ?_, ?_⟩) p hn
        · have := hp.map fun y => (kOf W.b y).2.cps.toList
          rw [nsD_map ra] at this
          exact this
        · refine List.pairwise_map.mpr (List.Pairwise.imp_of_mem (fun {x y} hx hyy h => ?_) hs)
          obtain ⟨zx, _, _, ex⟩ := hy x hx
          obtain ⟨zy, _, _, ey⟩ := hy y hyy
          have h' := ltNS_no.mp h
          rw [ex, ey] at h' ⊢
          intro c
          refine h' ?_
          rcases c with c | ⟨c1, c2⟩
          · exact .inl (Int.ofNat_lt.mpr c)
          · exact .inr ⟨congrArg Int.ofNat c1, c2⟩
/-- a comprehension over pairs that stand -/
theorem e_lc1t {j k : Nat} {T : List D → Prop} {Inv : List D → Nat → List D → Prop} (h : IV1 wi ρ T) (hjk : j ≠ k) (hn : ∀ ds, T ds → ds.length ≤ 100000) (h0 : ∀ ds, T ds → Inv ds 0 []) (ht : ∀ ds d, T ds → d ∈ ds → ∃ x y, d = .tup [x, y])
    (hs : ∀ ds i x y acc, T ds → ds[i]? = some (.tup [x, y]) → Inv ds i acc → ET tt ((ρ.set j (.dat x)).set k (.dat y)) fun b => if b = true then ED te ((ρ.set j (.dat x)).set k (.dat y)) fun z => Inv ds (i + 1) (acc ++ [z]) else Inv ds (i + 1) acc) :
    EV (tLc wi (gTup K 2 (gCons (gName j) (gCons (gName k) gNil))) tt te [j, k]) ρ (fun e => ∃ ds acc, e = .own acc ∧ T ds ∧ Inv ds ds.length acc) := fun W0 W σ E Q q => h W0 W σ E _ fun J ds W1 g1 it t Dd hD => by
  have E1 := E.grow g1
  refine ⟨fun i m H => i ≤ ds.length ∧ m = ds.length - i ∧ Lc W1 Dd (Inv ds) i H, ⟨ds.length, Nat.zero_le _, rfl, ⟨W1.add Dd (.lst []) hD, [], [], rfl, Grow.add hD, upd_same, W1.le.none' hD, .nil, Nat.le_refl _, h0 ds t⟩⟩, ?_⟩
  rintro i m H ⟨hi, hm, ⟨W', acc, ws, rfl, g, k1, k2, r, hl, inv⟩⟩
  by_cases hlt : i < ds.length
  · refine .inr ⟨it.go W' g.b i hlt, fun H' => Lc W1 Dd (Inv ds) (i + 1) H', fun H' l => ⟨ds.length - (i + 1), by omega, hlt, rfl, l⟩, fun v H' yy => ?_⟩
    obtain ⟨e, d, hd, rd⟩ := it.yld W' g.b i v H' hlt yy
    subst e
    obtain ⟨x, y, rfl⟩ := ht ds d t (List.mem_of_getElem? hd)
    cases rd with
    | tup ha ra =>
      rename_i a ws2
      cases ra with
      | cons rx ra =>
        cases ra with
        | cons ry ra =>
          cases ra
          have E2 := Env.set (((E1.grow g).drop k none).drop j none) (Grow.refl _) (e := .dat x) rx j
          have E3 := Env.set E2 (Grow.refl _) (e := .dat y) ry k
          have er : ((((ρ.set k .un).set j .un).set j (.dat x)).set k (.dat y)) = ((ρ.set j (.dat x)).set k (.dat y)) := by
            rw [List.set_set, List.set_comm _ _ (show k ≠ j from hjk.symm), List.set_set]
          rw [er] at E3
          refine ⟨a, _, rfl, sq_t (W'.le _ _ ha), rfl, _, _, rfl, _, [], rfl, rfl, set_wipe2 hjk, ?_⟩
          exact lc_step hD E3 g k1 k2 r hl (by have := hn ds t; omega) (hs ds i x y acc t hd inv)
  · have e : i = ds.length := by omega
    subst e
    exact .inl ⟨it.stop W' g.b, q _ (.own acc) W' (g1.trans g) ⟨Dd, ws, rfl, k1, k2, g1.h.none' hD, r⟩ ⟨ds, acc, rfl, t, inv⟩⟩
theorem lc1t_map {j k : Nat} {α : Type} {ds : List α} {fx fy f : α → D} (hjk : j ≠ k) (h : IV1 wi ρ (· = ds.map fun a => D.tup [fx a, fy a])) (hn : ds.length ≤ 100000) (he : ∀ (i : Nat) d, ds[i]? = some d → ED te ((ρ.set j (.dat (fx d))).set k (.dat (fy d))) (· = f d)) :
    EV (tLc wi (gTup K 2 (gCons (gName j) (gCons (gName k) gNil))) tYes te [j, k]) ρ (· = .own (ds.map f)) :=
  (e_lc1t (T := fun x => x = ds.map fun a => D.tup [fx a, fy a]) (Inv := fun _ i acc => acc = (ds.take i).map f) h hjk (fun x e => by rw [e, List.length_map]; exact hn) (fun x e => rfl) (fun x d e hd => by
    subst e
    obtain ⟨a, _, rfl⟩ := List.mem_map.mp hd
    exact ⟨_, _, rfl⟩) (fun x i u v acc e hd ha => by
    subst e
    obtain ⟨c, hc, e2⟩ := map_get' hd
    have e3 := D.tup.inj e2
    have e4 : u = fx c := (List.cons.inj e3).1
    have e5 : v = fy c := (List.cons.inj (List.cons.inj e3).2).1
    subst e4 e5
    refine et_yes.imp fun b hb => ?_
    rw [hb]
    refine iteT ((he i c hc).imp fun y hy => ?_)
    rw [take_step hc, List.map_append, ha, hy]
    rfl)).imp fun e ⟨x, acc, e1, e2, e3⟩ => by rw [e1, e3, e2, List.length_map, take_all]
/-- x[:j], j open -/
theorem e_slTo {x : D} {T : Nat → Prop} (h : ED te ρ (· = x)) (hh : ED th ρ (fun d => ∃ j : Nat, d = .int j ∧ T j)) (hr : ∀ j : Nat, T j → SD (rSlU K) x none (some (j : Int)) R) : EV (tSl (rSlU K) te tNoPart (tPart th)) ρ R := fun W0 W σ E Q q =>
  h W0 W σ E _ fun v d W1 g1 r1 p1 => by
    subst p1
    refine hh W0 W1 σ (E.grow g1) _ fun w dj W2 g2 r2 ⟨j, e, t⟩ => ?_
    subst e
    cases r2
    exact ⟨j, rfl, hr j t W2 v (r1.mono g2.b) Q fun u e W' g r p => q u e W' ((g1.trans g2).trans g) (r.back (g1.trans g2).h) p⟩
end
theorem ltc_ir {a : List Nat} : ¬ ltc a a := fun h => by
  rcases h with h | ⟨_, h⟩
  · omega
  · exact List.lt_irrefl _ h
theorem ltc_as {a b : List Nat} (h : ltc a b) : ¬ ltc b a := fun h2 => by
  rcases h with h | ⟨h, h'⟩ <;> rcases h2 with g | ⟨g, g'⟩
  · omega
  · omega
  · omega
  · exact List.lt_irrefl _ (List.lt_trans h' g')
theorem ltc_to {a b : List Nat} (h : ¬ ltc b a) (hne : a ≠ b) : ltc a b := by
  by_cases h1 : plus a < plus b
  · exact .inl h1
  · refine .inr ⟨?_, ?_⟩
    · have : ¬ plus b < plus a := fun z => h (.inl z)
      omega
    · have h2 : plus a = plus b := by
        have : ¬ plus b < plus a := fun z => h (.inl z)
        omega
      have h3 : ¬ b < a := fun z => h (.inr ⟨h2.symm, z⟩)
      by_cases q : a < b
      · exact q
      · exact absurd (List.le_antisymm (List.not_lt.mp h3) (List.not_lt.mp q)) hne
theorem ord_same : ∀ {M N : List (List Nat)}, M.Pairwise ltc → N.Pairwise ltc → (∀ z, z ∈ M ↔ z ∈ N) → M = N
  | [], [], _, _, _ => rfl
  | [], b :: N, _, _, h => absurd ((h b).mpr List.mem_cons_self) (fun z => nomatch z)
  | a :: M, [], _, _, h => absurd ((h a).mp List.mem_cons_self) (fun z => nomatch z)
  | a :: M, b :: N, hM, hN, h => by
    obtain ⟨m1, m2⟩ := List.pairwise_cons.mp hM
    obtain ⟨n1, n2⟩ := List.pairwise_cons.mp hN
    have e : a = b := by
      rcases List.mem_cons.mp ((h a).mp List.mem_cons_self) with e | ha
      · exact e
      · rcases List.mem_cons.mp ((h b).mpr List.mem_cons_self) with e | hb
        · exact e.symm
        · exact absurd (n1 a ha) (ltc_as (m1 b hb))
    subst e
    congr 1
    refine ord_same m2 n2 fun z => ⟨fun hz => ?_, fun hz => ?_⟩
    · rcases List.mem_cons.mp ((h z).mp (List.mem_cons_of_mem _ hz)) with e | q
      · subst e; exact absurd (m1 z hz) ltc_ir
      · exact q
    · rcases List.mem_cons.mp ((h z).mpr (List.mem_cons_of_mem _ hz)) with e | q
      · subst e; exact absurd (n1 z hz) ltc_ir
      · exact q
theorem ord_uniq {M N L : List (List Nat)} (h1 : IsOrd M L) (h2 : IsOrd N L) : M = N := ord_same h1.2 h2.2 fun z => (h1.1 z).trans (h2.1 z).symm
theorem ord_nodup {M L : List (List Nat)} (h : IsOrd M L) : M.Nodup := h.2.imp fun {a b} hab e => by subst e; exact ltc_ir hab
theorem ord_len {M L : List (List Nat)} (h : IsOrd M L) : M.length ≤ L.length := nodup_len (ord_nodup h) fun z hz => (h.1 z).mp hz
def Rg_law_lots (ds : List D) (P : En → Prop) : Prop := ∃ (L : List (List Nat)), ds = [.lst (L.map D.str)] ∧ L.length ≤ 1000 ∧ (∀ z ∈ L, z.length ≤ 1000) ∧ ∀ M, IsOrd M L → P (.own (M.map D.str))
theorem len_law_order_so (ds P) (h : Rg_law_order_so ds P) : ds.length = 3 := by obtain ⟨_, _, _, rfl, _⟩ := h; rfl
theorem len_law_lots (ds P) (h : Rg_law_lots ds P) : ds.length = 1 := by obtain ⟨_, rfl, _⟩ := h; rfl
theorem repc (c n : Nat) : (List.replicate n [c]).flatten = List.replicate n c := by
  induction n with
  | zero => rfl
  | succ n ih => rw [List.replicate_succ, List.flatten_cons, ih]; rfl
theorem sm_strs (n : Nat) (l : List (List Nat)) (hl : l.length ≤ 100000) : (D.lst (l.map D.str)).sm (n + 1) = true := by
  show ((l.map D.str).all (D.sm n) && decide ((l.map D.str).length ≤ 100000)) = true
  rw [Bool.and_eq_true, decide_eq_true_eq, List.length_map, List.all_eq_true]
  refine ⟨fun d hd => ?_, hl⟩
  obtain ⟨i, _, rfl⟩ := List.mem_map.mp hd
  cases n <;> rfl

def unS : D → List Nat
  | .str s => s
  | _ => []
theorem perm_strs {ys : List D} {S : List (List Nat)} (h : ys.Perm (S.map D.str)) : ∃ S1 : List (List Nat), ys = S1.map D.str ∧ (∀ s, s ∈ S1 ↔ s ∈ S) ∧ S1.length = S.length := by
  have e : ∀ y ∈ ys, y = .str (unS y) := fun y hy => by
    obtain ⟨s, _, rfl⟩ := List.mem_map.mp (h.mem_iff.mp hy)
    rfl
  have e2 : ys = (ys.map unS).map D.str := by
    rw [List.map_map, List.map_congr_left (f := D.str ∘ unS) (g := id) fun y hy => (e y hy).symm, List.map_id]
  refine ⟨ys.map unS, e2, fun s => ?_, by rw [List.length_map, h.length_eq, List.length_map]⟩
  constructor
  · intro hs
    have : D.str s ∈ ys := by rw [e2]; exact List.mem_map_of_mem hs
    obtain ⟨z, hz, hz2⟩ := List.mem_map.mp (h.mem_iff.mp this)
    cases hz2; exact hz
  · intro hs
    exact List.mem_map.mpr ⟨.str s, h.mem_iff.mpr (List.mem_map_of_mem hs), rfl⟩


section
variable {P : Program} {w : World} {K : PySem.W.Frag} {mg : Str → Option Value} {base : Heap} {ρ : List En} {ta tb te : TE} {X : XK}
theorem c_ord {x : D} {L M : List (List Nat)} (h1 : ED ta ρ (· = x)) (sq : Sq x (L.map D.str)) (hl : L.length ≤ 1000) (hz : ∀ z ∈ L, z.length ≤ 1000) (hM : IsOrd M L) : ED (tCall (SpE Rg_ordered_lots) [] X (tCons ta tNil)) ρ (· = .lst (M.map D.str)) :=
  EV.o1 (e_call0 (R := fun e => e = .own (M.map D.str)) (ea_c h1 ea_nil) ⟨x, L, rfl, sq, hl, hz, fun M' hM' => by rw [ord_uniq hM' hM]⟩)
theorem e_pluses {n : Nat} (h1 : ED ta ρ (· = .int n)) (hn : n ≤ 1000) : ED (tOp rTimes (tC (.str "+")) ta) ρ (· = .str (List.replicate n 43)) := (e_opd (e_str (s := [43]) (by decide +kernel)) h1 (od_mulS (by omega) (by omega) (by decide))).is (by rw [Int.toNat_natCast, repc])

theorem ok_law_lots (T : Txt K mg) (G_law_once : FnOk P w K mg base CX0 1 T.a_law_once T.d_law_once ["_law_things"] (SpE Rg_law_once)) : FnOk P w K mg base CX0 2 T.a_law_lots T.d_law_lots ["_law_told"] (SpE Rg_law_lots) := by
  refine T.F_law_lots.ok sc_law_lots (fun vs H Q E h => spE_len h len_law_lots) (fun cdv A outer s H vs Q E hr h => ?_)
  have hu := hu64 hr
  have hvl : vs.length = 1 := spE_len h len_law_lots
  refine ⟨_, (pss_cons (ps_set (i := 1) sc_law_lots.nd rfl (Or.inl rfl) (pe_callB (cr_sortedNSK (K := K) rfl) (by rfl) T.n_sorted (by decide +kernel) (pa_cons (pe_lc (own := [("_law_x", 2)]) (g := gName 2) (tt := tYes) rfl sc_law_lots.nd (pi_listK (K := K) rfl (pv 0)) (blkOk_by (N := N_law_lots) (sc := defScope s_law_lots) (by decide +kernel)) (fun _ _ _ _ _ => (pg_name (i := 2) sc_law_lots.nd rfl (Or.inl rfl))) (fun _ _ _ _ _ => pts_nil) (fun _ _ _ _ _ => (pe_tup (pa_cons (pe_bmK (K := K) rfl PySem.F.plainAttrs_str PySem.F.slot_str_count PySem.F.type_str_count mt_count (pv 2) (pa_cons pe_str pa_nil)) (pa_cons (pv 2) pa_nil))))) pa_nil))) (pss_one (ps_ret (pe_call G_law_once (hr.mono (by decide)) (by rfl) T.g_law_once T.F_law_once.kp (b_law_once T) .nil pass0 (pa_cons (pe_lc (own := [("_law_size", 3), ("_law_x", 2)]) (g := gTup K 2 (gCons (gName 3) (gCons (gName 2) gNil))) (tt := tYes) rfl sc_law_lots.nd (pi_listK (K := K) rfl (pv 1)) (blkOk_by (N := N_law_lots) (sc := defScope s_law_lots) (by decide +kernel)) (fun _ _ _ _ _ => (pg_tup rfl (pgs_cons (pg_name (i := 3) sc_law_lots.nd rfl (Or.inl rfl)) (pgs_cons (pg_name (i := 2) sc_law_lots.nd rfl (Or.inl rfl)) pgs_nil)))) (fun _ _ _ _ _ => pts_nil) (fun _ _ _ _ _ => (pv 2))) pa_nil))))), fn_body h (by rw [hvl]; decide) (fun ds R hR hl => ?_)⟩
  obtain ⟨L, rfl, hl, hz, q⟩ := hR
  refine q_asg (P := fun e => ∃ M : List (List Nat), e = .own (M.map nsD) ∧ M.Perm L ∧ M.Pairwise fun a b => ¬ ltc b a) (e_cb1 (ea_c (EV.o1 (ds := L.map nsD) (lc1_map (emb := D.str) (f := nsD) (iv_list1 (e_var rfl)) (by omega) fun i z hzi => ?_)) ea_nil) cd_sns) fun e ⟨M, e1, hp, hs⟩ => ?_
  · exact e_tup1 (ea_c (EV.d1 (e_bm (T := fun ds => ds = [.str [43]]) (e_var rfl) (fun W v r => by cases r; rfl) (ea_c (e_str (s := [43]) (by decide +kernel)) ea_nil) fun ds e => by rw [e]; exact md_plus)) (ea_c (e_var rfl) ea_nil)) (by simp)
  subst e1
  refine t_freeze (i := 1) (ds := M.map nsD) rfl ?_
  refine t_ret (P := R) (e_call0 (ea_c (EV.o1 (ds := M.map D.str) (lc1t_map (fx := fun z => .int (plus z : Nat)) (fy := D.str) (f := D.str) (by decide) (iv_list1 (e_var rfl)) (by rw [hp.length_eq]; omega) fun i z hzi => e_var rfl)) ea_nil) ⟨M, rfl, by rw [hp.length_eq]; omega, fun S' hm hlen nd sb => q S' ⟨fun z => (hm z).trans hp.mem_iff, ?_⟩⟩) fun e he => he
  exact ((hs.sublist sb).and nd).imp fun {a b} hab => ltc_to hab.1 hab.2

theorem ok_law_order_so (T : Txt K mg) (G_ordered_lots : FnOk P w K mg base CX0 4 T.a_ordered_lots T.d_ordered_lots ["lots"] (SpE Rg_ordered_lots)) (G_law_draw : FnOk P w K mg base CX0 1 T.a_law_draw T.d_law_draw ["_law_bag_here", "_law_sides"] (SpE Rg_law_draw)) (G_law_mixed : FnOk P w K mg base CX0 2 T.a_law_mixed T.d_law_mixed ["_law_bag_here", "_law_things"] (SpE Rg_law_mixed)) (G_law_same : FnOk P w K mg base CX0 3 T.a_law_same T.d_law_same ["_law_found", "_law_due"] (SpE Rg_law_same)) (G_law_lot : FnOk P w K mg base CX0 1 T.a_law_lot T.d_law_lot ["_law_r"] (SpE Rg_law_lot)) (G_law_lots : FnOk P w K mg base CX0 2 T.a_law_lots T.d_law_lots ["_law_told"] (SpE Rg_law_lots)) : FnOk P w K mg base CX0 5 T.a_law_order_so T.d_law_order_so ["_law_bag_here", "_law_rows_here", "_law_wide"] (SpE Rg_law_order_so) := by
  refine T.F_law_order_so.ok sc_law_order_so (fun vs H Q E h => spE_len h len_law_order_so) (fun cdv A outer s H vs Q E hr h => ?_)
  have hu := hu64 hr
  have hvl : vs.length = 3 := spE_len h len_law_order_so
  refine ⟨_, (pss_cons (ps_set (i := 3) sc_law_order_so.nd rfl (Or.inl rfl) (pe_call G_law_mixed (hr.mono (by decide)) (by rfl) T.g_law_mixed T.F_law_mixed.kp (b_law_mixed T) .nil pass0 (pa_cons (pv 0) (pa_cons (pe_op op_plus (pe_lc (own := [("_law_r", 7)]) (g := gName 7) (tt := tYes) rfl sc_law_order_so.nd (pi_listK (K := K) rfl (pv 1)) (blkOk_by (N := N_law_order_so) (sc := defScope s_law_order_so) (by decide +kernel)) (fun _ _ _ _ _ => (pg_name (i := 7) sc_law_order_so.nd rfl (Or.inl rfl))) (fun _ _ _ _ _ => pts_nil) (fun _ _ _ _ _ => (pe_call G_law_lot (hr.mono (by decide)) (by rfl) T.g_law_lot T.F_law_lot.kp (b_law_lot T) .nil pass0 (pa_cons (pv 7) pa_nil)))) (pe_slice (sl_K (K := K) rfl) (pe_lst (pa_cons (pe_op op_times pe_str (pv 2)) (pa_cons (pe_op op_times pe_str (pv 2)) pa_nil))) po_none (po_some (pe_call G_law_draw (hr.mono (by decide)) (by rfl) T.g_law_draw T.F_law_draw.kp (b_law_draw T) .nil pass0 (pa_cons (pv 0) (pa_cons pe_int pa_nil)))))) pa_nil)))) (pss_cons (ps_par (i := 4) (j := 5) (by rfl) sc_law_order_so.nd rfl rfl (by decide) rfl rfl (pa_cons (pe_callTy (call_listK (K := K) rfl) (by rfl) T.n_list (by decide +kernel) (pa_cons (pv 3) pa_nil)) (pa_cons (pe_call G_law_lots (hr.mono (by decide)) (by rfl) T.g_law_lots T.F_law_lots.kp (b_law_lots T) .nil pass0 (pa_cons (pv 3) pa_nil)) pa_nil)) (by rfl)) (pss_cons (ps_if (pt_not (pt_val (pe_call G_law_same (hr.mono (by decide)) (by rfl) T.g_law_same T.F_law_same.kp (b_law_same T) .nil pass0 (pa_cons (pe_lst (pa_cons (pe_call G_ordered_lots (hr.mono (by decide)) (by rfl) T.g_ordered_lots T.F_ordered_lots.kp (b_ordered_lots T) .nil pass0 (pa_cons (pv 3) pa_nil)) (pa_cons (pe_call G_ordered_lots (hr.mono (by decide)) (by rfl) T.g_ordered_lots T.F_ordered_lots.kp (b_ordered_lots T) .nil pass0 (pa_cons (pe_callTy (call_tupK (K := K) rfl) (by rfl) T.n_tuple (by decide +kernel) (pa_cons (pv 3) pa_nil)) pa_nil)) (pa_cons (pe_call G_ordered_lots (hr.mono (by decide)) (by rfl) T.g_ordered_lots T.F_ordered_lots.kp (b_ordered_lots T) .nil pass0 (pa_cons (pe_lst pa_nil) pa_nil)) pa_nil)))) (pa_cons (pe_lst (pa_cons (pv 5) (pa_cons (pv 5) (pa_cons (pe_lst pa_nil) pa_nil)))) pa_nil))))) (pss_one (ps_ret pe_bl)) pss_nil) (pss_cons (ps_set (i := 6) sc_law_order_so.nd rfl (Or.inl rfl) (pe_call G_ordered_lots (hr.mono (by decide)) (by rfl) T.g_ordered_lots T.F_ordered_lots.kp (b_ordered_lots T) .nil pass0 (pa_cons (pv 3) pa_nil))) (pss_cons (ps_expr (pe_bm PySem.F.plainAttrs_list PySem.F.slot_list_append PySem.F.type_list_append mt_append (pv 6) (pa_cons pe_str pa_nil))) (pss_one (ps_ret (pe_and (pe_call G_law_same (hr.mono (by decide)) (by rfl) T.g_law_same T.F_law_same.kp (b_law_same T) .nil pass0 (pa_cons (pv 3) (pa_cons (pv 4) pa_nil))) (pe_one (pe_call G_law_same (hr.mono (by decide)) (by rfl) T.g_law_same T.F_law_same.kp (b_law_same T) .nil pass0 (pa_cons (pe_call G_ordered_lots (hr.mono (by decide)) (by rfl) T.g_ordered_lots T.F_ordered_lots.kp (b_ordered_lots T) .nil pass0 (pa_cons (pv 5) pa_nil)) (pa_cons (pv 5) pa_nil)))))))))))), fn_body h (by rw [hvl]; decide) (fun ds R hR hl => ?_)⟩
  obtain ⟨cs, rs, n, rfl, hn, hcs, hrl, hrs, q⟩ := hR
  have hn20 : n ≤ 20 := by have := hcs.1; omega
  refine q_asg (P := fun e => ∃ L : List (List Nat), e = .own (L.map D.str) ∧ L.length ≤ 20 ∧ ∀ z ∈ L, z.length ≤ 1000) (e_callP (T := fun ds => ∃ L : List (List Nat), ds = [.bag, .lst (L.map D.str)] ∧ L.length ≤ 20 ∧ ∀ z ∈ L, z.length ≤ 1000) (ea_cons (T' := fun _ => True) (P := fun d => d = .bag) (e_var rfl) fun y hy => (ea_1 (P := fun d => ∃ L : List (List Nat), d = .lst (L.map D.str) ∧ L.length ≤ 20 ∧ ∀ z ∈ L, z.length ≤ 1000) (EV.ed (R := fun e => ∃ L : List (List Nat), e = .own (L.map D.str) ∧ L.length ≤ 20 ∧ ∀ z ∈ L, z.length ≤ 1000) (e_op (PA := fun d => d = .lst ((rs.map lotOf).map D.str)) (PB := fun d => ∃ j : Nat, d = .lst (([List.replicate n 46, List.replicate n 43].take j).map D.str)) ?_ ?_ fun a b ha ⟨j, hb⟩ => ?_) fun e ⟨L, e1, h⟩ => ⟨.lst (L.map D.str), by rw [e1]; rfl, L, rfl, h⟩)).imp fun ds ⟨d, e1, L, e2, h⟩ => ⟨L, by rw [e1, e2, hy], h⟩) fun ds ⟨L, e, hl, hz⟩ => ⟨L.map D.str, e, by rw [List.length_map]; omega, fun ys hys => by
    obtain ⟨S1, a, b, c⟩ := perm_strs hys
    exact ⟨S1, by rw [a], by omega, fun z h => hz z ((b z).mp h)⟩⟩) fun e ⟨L, e1, hl, hz⟩ => ?_
  · exact EV.ed (R := fun e => e = .own ((rs.map lotOf).map D.str)) ((lc1_map (emb := D.str) (f := fun r => D.str (lotOf r)) (iv_list1 (e_var rfl)) (by omega) fun i r hr => c_lot (e_var rfl) (by have := (hrs r (List.mem_of_getElem? hr)).1; omega)).imp fun e he => by rw [he, List.map_map]; rfl) fun e he => ⟨_, by rw [he]; rfl, rfl⟩
  · refine EV.ed (R := fun e => ∃ j : Nat, e = .own (([List.replicate n 46, List.replicate n 43].take j).map D.str)) (e_slTo (x := .lst [.str (List.replicate n 46), .str (List.replicate n 43)]) (T := fun j => j < 3) (EV.o1 (e_lst1 (ea_c (e_dots (e_var rfl) (by omega)) (ea_c (e_pluses (e_var rfl) (by omega)) ea_nil)) (by simp))) ((e_draw (e_var rfl) e_int (by decide) (by decide)).imp fun d ⟨j, e, h⟩ => ⟨j, e, by omega⟩) fun j hj => ?_) fun e ⟨j, e1⟩ => ⟨_, by rw [e1]; rfl, j, rfl⟩
    intro W v r Q q
    refine sd_lst W v r Q fun u e W' g r2 p => q u e W' g r2 ⟨j, ?_⟩
    rw [p, cut_to (k := j) rfl (by simp; omega), List.map_take]
    rfl
  · subst ha hb
    intro W v w' r1 r2 Q q
    refine od_addL (by rw [List.length_map, List.length_map, List.length_map, List.length_take]; simp; omega) W v w' r1 r2 Q fun u e W' g r p => q u e W' g r ⟨rs.map lotOf ++ [List.replicate n 46, List.replicate n 43].take j, by rw [p, List.map_append], by rw [List.length_append, List.length_map, List.length_take]; simp; omega, fun z hz => ?_⟩
    rcases List.mem_append.mp hz with h | h
    · obtain ⟨r, hr, rfl⟩ := List.mem_map.mp h
      have := (hrs r hr).1
      rw [lotOf_len]; omega
    · have h' := List.mem_of_mem_take h
      simp only [List.mem_cons, List.not_mem_nil, or_false] at h'
      rcases h' with h' | h' <;> rw [h', List.length_replicate] <;> omega
  subst e1
  refine t_freeze (i := 3) (ds := L.map D.str) rfl ?_
  refine t_seq (M := fun ρ' => TT' _ ρ' _) (t_par (P1 := fun e => e = .own (L.map D.str)) (P2 := fun e => ∃ M, e = .own (M.map D.str) ∧ IsOrd M L) (e_cb1 (ea_c (e_var rfl) ea_nil) cd_list) (e_call0 (ea_c (e_var rfl) ea_nil) ⟨L, rfl, by omega, hz, fun M hM => ⟨M, rfl, hM⟩⟩) fun a b ha ⟨M, hb, hM⟩ => ?_) fun _ q => q
  subst ha hb
  have hML := ord_len hM
  have hMz : ∀ z ∈ M, z.length ≤ 1000 := fun z h => hz z ((hM.1 z).mp h)
  have hMM : IsOrd M M := ⟨fun _ => Iff.rfl, hM.2⟩
  refine t_freeze (i := 4) (ds := L.map D.str) rfl ?_
  refine t_freeze (i := 5) (ds := M.map D.str) rfl ?_
  refine q_if1 (b := !true) (et_not1 (et_v1 (c_same (d := .lst [.lst (M.map D.str), .lst (M.map D.str), .lst []]) (EV.o1 (e_lst1 (ea_c (c_ord (e_var rfl) (.lst _) (by omega) hz hM) (ea_c (c_ord (EV.d1 (e_cb1 (ea_c (e_var rfl) ea_nil) cd_tupL)) (.tup _) (by omega) hz hM) (ea_c (c_ord (L := []) (M := []) (EV.o1 (e_lst1 ea_nil (by simp))) (.lst _) (by simp) (fun _ h => nomatch h) ⟨fun _ => Iff.rfl, List.Pairwise.nil⟩) ea_nil))) (by simp))) (EV.o1 (e_lst1 (ea_c (e_var rfl) (ea_c (e_var rfl) (ea_c (EV.o1 (e_lst1 ea_nil (by simp))) ea_nil))) (by simp))) ?_))) (fun e => nomatch e) fun _ => ?_
  · show (([D.lst (M.map D.str), D.lst (M.map D.str), D.lst []].all (D.sm 1)) && decide _) = true
    have h1 := sm_strs 0 M (by omega)
    have h2 : (D.lst []).sm 1 = true := rfl
    simp only [List.all_cons, List.all_nil, h1, h2]
    rfl
  refine q_asg (P := fun e => e = .own (M.map D.str)) (e_call0 (ea_c (e_var rfl) ea_nil) ⟨_, L, rfl, .lst _, by omega, hz, fun M' hM' => by rw [ord_uniq hM' hM]⟩) fun e e1 => ?_
  subst e1
  refine t_seq (M := fun ρ' => TT' _ ρ' _) (t_app (i := 6) (ds := M.map D.str) (PD := fun d => d = .str [120]) rfl (e_str (s := [120]) (by decide +kernel)) (by rw [List.length_map]; omega) fun d hd => ?_) fun _ q => q
  subst hd
  exact t_ret1 (e_and (a := true) (c := true) (c_same (e_var rfl) (e_var rfl) (sm_strs 1 L (by omega))) fun _ => c_same (c_ord (e_var rfl) (.lst _) (by omega) hMz hMM) (e_var rfl) (sm_strs 1 M (by omega))) q

end
end Nt


namespace Nt
open PySem PySem.Spec PyProof.Rows L2

section
variable {P : Program} {w : World} {K : PySem.W.Frag} {mg : Str → Option Value} {base : Heap}
/-- every def keeps its promise -/
theorem all_ok (T : Txt K mg) : FnOk P w K mg base CX0 6 T.a_law T.d_law ["_law_script"] (SpE (Rg_law K)) := by
  have H_over := ok_over (P := P) (w := w) (base := base) T 
  have H_lot_of := ok_lot_of (P := P) (w := w) (base := base) T 
  have H_blank := ok_blank (P := P) (w := w) (base := base) T 
  have H_within := ok_within (P := P) (w := w) (base := base) T 
  have H_agree := ok_agree (P := P) (w := w) (base := base) T 
  have H_cut := ok_cut (P := P) (w := w) (base := base) T 
  have H_lot_size := ok_lot_size (P := P) (w := w) (base := base) T 
  have H_law_bag := ok_law_bag (P := P) (w := w) (base := base) T
  have H_law_draw := ok_law_draw (P := P) (w := w) (base := base) T
  have H_law_once := ok_law_once (P := P) (w := w) (base := base) T 
  have H_law_lay := ok_law_lay (P := P) (w := w) (base := base) T 
  have H_law_lot := ok_law_lot (P := P) (w := w) (base := base) T 
  have H_law_join := ok_law_join (P := P) (w := w) (base := base) T 
  have H_law_inner := ok_law_inner (P := P) (w := w) (base := base) T 
  have H_law_meet := ok_law_meet (P := P) (w := w) (base := base) T 
  have H_laid := ok_laid (P := P) (w := w) (base := base) T H_over
  have H_union := ok_union (P := P) (w := w) (base := base) T H_over
  have H_law_of := ok_law_of (P := P) (w := w) (base := base) T H_law_draw
  have H_law_mixed := ok_law_mixed (P := P) (w := w) (base := base) T H_law_draw
  have H_law_row := ok_law_row (P := P) (w := w) (base := base) T H_law_draw
  have H_law_lots := ok_law_lots (P := P) (w := w) (base := base) T H_law_once
  have H_law_same := ok_law_same (P := P) (w := w) (base := base) T
  have H_law_title := ok_law_title (P := P) (w := w) (base := base) T H_law_draw H_law_of
  have H_law_bent := ok_law_bent (P := P) (w := w) (base := base) T H_law_draw H_law_of H_law_row
  have H_ordered_lots := ok_ordered_lots (P := P) (w := w) (base := base) T H_lot_size
  have H_law_frame := ok_law_frame (P := P) (w := w) (base := base) T H_law_draw H_law_title
  have H_law_pair_so := ok_law_pair_so (P := P) (w := w) (base := base) T H_over H_laid H_lot_of H_within H_union H_agree H_law_same H_law_lay H_law_lot H_law_join H_law_inner H_law_meet
  have H_law_cuts_so := ok_law_cuts_so (P := P) (w := w) (base := base) T H_cut H_law_draw H_law_mixed H_law_same H_law_lot
  have H_law_order_so := ok_law_order_so (P := P) (w := w) (base := base) T H_ordered_lots H_law_draw H_law_mixed H_law_same H_law_lot H_law_lots
  exact ok_law T H_over H_laid H_blank H_law_bag H_law_of H_law_same H_law_frame H_law_row H_law_lay H_law_bent H_law_pair_so H_law_cuts_so H_law_order_so
end
/-! ### the top, by names -/
theorem fun_of {K : PySem.W.Frag} {x q : Str} {st : Stmt} {kws : List (Str × V)} {f : Addr} {fd : FuncData} (F : FunD K x q (defArgs st) (defBody st) (defScope st) [] kws f fd) : Fun K x q st f fd := by
  obtain ⟨⟨oc, od, dV, kV, doc, pm, an, cdv, ct, osl, e, l, c, dv, kw⟩, kp⟩ := F
  rcases dv with ⟨_, rfl⟩ | ⟨z, _⟩
  · exact ⟨⟨oc, od, kV, doc, pm, an, cdv, ct, osl, e, l, c⟩, kp⟩
  · exact absurd rfl z
def hFn0 : List He.DefD := [⟨("over", none), "over", "over", defArgs s_over, defBody s_over, defScope s_over, [], []⟩, ⟨("laid", none), "laid", "laid", defArgs s_laid, defBody s_laid, defScope s_laid, [], []⟩, ⟨("lot_of", none), "lot_of", "lot_of", defArgs s_lot_of, defBody s_lot_of, defScope s_lot_of, [], []⟩, ⟨("blank", none), "blank", "blank", defArgs s_blank, defBody s_blank, defScope s_blank, [], []⟩, ⟨("within", none), "within", "within", defArgs s_within, defBody s_within, defScope s_within, [], []⟩, ⟨("union", none), "union", "union", defArgs s_union, defBody s_union, defScope s_union, [], []⟩, ⟨("agree", none), "agree", "agree", defArgs s_agree, defBody s_agree, defScope s_agree, [], []⟩, ⟨("cut", none), "cut", "cut", defArgs s_cut, defBody s_cut, defScope s_cut, [], []⟩, ⟨("lot_size", none), "lot_size", "lot_size", defArgs s_lot_size, defBody s_lot_size, defScope s_lot_size, [], []⟩, ⟨("ordered_lots", none), "ordered_lots", "ordered_lots", defArgs s_ordered_lots, defBody s_ordered_lots, defScope s_ordered_lots, [], []⟩, ⟨("_law_bag", none), "_law_bag", "_law_bag", defArgs s_law_bag, defBody s_law_bag, defScope s_law_bag, [], []⟩, ⟨("_law_draw", none), "_law_draw", "_law_draw", defArgs s_law_draw, defBody s_law_draw, defScope s_law_draw, [], []⟩, ⟨("_law_of", none), "_law_of", "_law_of", defArgs s_law_of, defBody s_law_of, defScope s_law_of, [], []⟩, ⟨("_law_mixed", none), "_law_mixed", "_law_mixed", defArgs s_law_mixed, defBody s_law_mixed, defScope s_law_mixed, [], []⟩, ⟨("_law_same", none), "_law_same", "_law_same", defArgs s_law_same, defBody s_law_same, defScope s_law_same, [], []⟩, ⟨("_law_title", none), "_law_title", "_law_title", defArgs s_law_title, defBody s_law_title, defScope s_law_title, [], []⟩, ⟨("_law_frame", none), "_law_frame", "_law_frame", defArgs s_law_frame, defBody s_law_frame, defScope s_law_frame, [], []⟩, ⟨("_law_row", none), "_law_row", "_law_row", defArgs s_law_row, defBody s_law_row, defScope s_law_row, [.int 2], []⟩, ⟨("_law_once", none), "_law_once", "_law_once", defArgs s_law_once, defBody s_law_once, defScope s_law_once, [], []⟩, ⟨("_law_lay", none), "_law_lay", "_law_lay", defArgs s_law_lay, defBody s_law_lay, defScope s_law_lay, [], []⟩]
def hFn1 : List He.DefD := [⟨("_law_lot", none), "_law_lot", "_law_lot", defArgs s_law_lot, defBody s_law_lot, defScope s_law_lot, [], []⟩, ⟨("_law_join", none), "_law_join", "_law_join", defArgs s_law_join, defBody s_law_join, defScope s_law_join, [], []⟩, ⟨("_law_inner", none), "_law_inner", "_law_inner", defArgs s_law_inner, defBody s_law_inner, defScope s_law_inner, [], []⟩, ⟨("_law_lots", none), "_law_lots", "_law_lots", defArgs s_law_lots, defBody s_law_lots, defScope s_law_lots, [], []⟩, ⟨("_law_meet", none), "_law_meet", "_law_meet", defArgs s_law_meet, defBody s_law_meet, defScope s_law_meet, [], []⟩, ⟨("_law_bent", none), "_law_bent", "_law_bent", defArgs s_law_bent, defBody s_law_bent, defScope s_law_bent, [], []⟩, ⟨("_law_pair_so", none), "_law_pair_so", "_law_pair_so", defArgs s_law_pair_so, defBody s_law_pair_so, defScope s_law_pair_so, [], []⟩, ⟨("_law_cuts_so", none), "_law_cuts_so", "_law_cuts_so", defArgs s_law_cuts_so, defBody s_law_cuts_so, defScope s_law_cuts_so, [], []⟩, ⟨("_law_order_so", none), "_law_order_so", "_law_order_so", defArgs s_law_order_so, defBody s_law_order_so, defScope s_law_order_so, [], []⟩, ⟨("law", none), "law", "law", defArgs s_law, defBody s_law, defScope s_law, [], []⟩]
def hFn : List He.DefD := hFn0 ++ hFn1
def hFa0 : List He.Fa := [.glo "over", .glo "laid", .glo "lot_of", .glo "blank", .glo "within", .glo "union", .glo "agree", .glo "cut", .glo "lot_size", .glo "ordered_lots", .glo "_law_bag", .glo "_law_draw", .glo "_law_of", .glo "_law_mixed", .glo "_law_same", .glo "_law_title", .glo "_law_frame", .glo "_law_row", .glo "_law_once", .glo "_law_lay"]
def hFa1 : List He.Fa := [.glo "_law_lot", .glo "_law_join", .glo "_law_inner", .glo "_law_lots", .glo "_law_meet", .glo "_law_bent", .glo "_law_pair_so", .glo "_law_cuts_so", .glo "_law_order_so", .glo "law", .free "len", .free "all", .free "range", .free "zip", .free "isinstance", .free "list", .free "tuple", .free "dict", .free "str", .free "int"]
def hFa2 : List He.Fa := [.free "bool", .free "abs", .free "sorted", .free "set", .str "DOT" ".", .str "PLUS" "+"]
def hFa : List He.Fa := hFa0 ++ hFa1 ++ hFa2
def hNames0 : List PySem.Str := ["DOT", "PLUS", "over", "laid", "lot_of", "blank", "within", "union", "agree", "cut", "lot_size", "ordered_lots", "_law_bag", "_law_draw", "_law_of", "_law_mixed", "_law_same", "_law_title", "_law_frame", "_law_row"]
def hNames1 : List PySem.Str := ["_law_once", "_law_lay", "_law_lot", "_law_join", "_law_inner", "_law_lots", "_law_meet", "_law_bent", "_law_pair_so", "_law_cuts_so", "_law_order_so"]
def hNames : List PySem.Str := hNames0 ++ hNames1
abbrev hR : PySem.W.OpenRow := PySem.W.OpenLaw.row PySem.Challenge.rw_newesttells_k03_whole_rows_laid_over
abbrev hHk : PySem.W.Hook := He.hookD 4 hFa hFn
def hOb (s : PySem.W.SharedT) : He.AlD := He.obsDG 4 hFa hFn (HandSHeadRun.getT s)
theorem hOb_eq (s : PySem.W.SharedT) : hOb s = hHk.obs s.abs := He.obsDG_eq (HandSHeadRun.getT_eq s)
theorem hRun (w : World) : HandSHeadRun.RunEq hR (PySem.W.view hR.prog [33]) hHk hOb 4000 hNames w := by
  intro os
  kernel_rfl
theorem hTxt {K : PySem.W.Frag} {h : Heap} {mg : Str → Option Value} (X : K.In h) (G : h.Ns mainGlobals mg) (c : He.SaysD hFa hFn K) : ∃ T : Txt K mg, T.a_law = He.ga K "law" ∧ ∀ (s : Shared) (v : Value), BindsTo s T.d_law ⟨[v], []⟩ [("_law_script", v)] := by
  obtain ⟨d0, F0⟩ := c.def_ 0 rfl
  obtain ⟨d1, F1⟩ := c.def_ 1 rfl
  obtain ⟨d2, F2⟩ := c.def_ 2 rfl
  obtain ⟨d3, F3⟩ := c.def_ 3 rfl
  obtain ⟨d4, F4⟩ := c.def_ 4 rfl
  obtain ⟨d5, F5⟩ := c.def_ 5 rfl
  obtain ⟨d6, F6⟩ := c.def_ 6 rfl
  obtain ⟨d7, F7⟩ := c.def_ 7 rfl
  obtain ⟨d8, F8⟩ := c.def_ 8 rfl
  obtain ⟨d9, F9⟩ := c.def_ 9 rfl
  obtain ⟨d10, F10⟩ := c.def_ 10 rfl
  obtain ⟨d11, F11⟩ := c.def_ 11 rfl
  obtain ⟨d12, F12⟩ := c.def_ 12 rfl
  obtain ⟨d13, F13⟩ := c.def_ 13 rfl
  obtain ⟨d14, F14⟩ := c.def_ 14 rfl
  obtain ⟨d15, F15⟩ := c.def_ 15 rfl
  obtain ⟨d16, F16⟩ := c.def_ 16 rfl
  obtain ⟨d17, F17⟩ := c.def_ 17 rfl
  obtain ⟨d18, F18⟩ := c.def_ 18 rfl
  obtain ⟨d19, F19⟩ := c.def_ 19 rfl
  obtain ⟨d20, F20⟩ := c.def_ 20 rfl
  obtain ⟨d21, F21⟩ := c.def_ 21 rfl
  obtain ⟨d22, F22⟩ := c.def_ 22 rfl
  obtain ⟨d23, F23⟩ := c.def_ 23 rfl
  obtain ⟨d24, F24⟩ := c.def_ 24 rfl
  obtain ⟨d25, F25⟩ := c.def_ 25 rfl
  obtain ⟨d26, F26⟩ := c.def_ 26 rfl
  obtain ⟨d27, F27⟩ := c.def_ 27 rfl
  obtain ⟨d28, F28⟩ := c.def_ 28 rfl
  obtain ⟨d29, F29⟩ := c.def_ 29 rfl
  obtain ⟨t0, C0⟩ := He.str_ok X G (c.fact 44 (f := .str "DOT" ".") rfl)
  obtain ⟨t1, C1⟩ := He.str_ok X G (c.fact 45 (f := .str "PLUS" "+") rfl)
  have b := FunD.bindsA (ps := ["_law_script"]) F29 fun _ _ _ _ _ _ us hl => match us, hl with | [_], _ => rfl
  exact ⟨⟨He.ga K "over", d0, He.ga K "laid", d1, He.ga K "lot_of", d2, He.ga K "blank", d3,
    He.ga K "within", d4, He.ga K "union", d5, He.ga K "agree", d6, He.ga K "cut", d7,
    He.ga K "lot_size", d8, He.ga K "ordered_lots", d9, He.ga K "_law_bag", d10, He.ga K "_law_draw", d11,
    He.ga K "_law_of", d12, He.ga K "_law_mixed", d13, He.ga K "_law_same", d14, He.ga K "_law_title", d15,
    He.ga K "_law_frame", d16, He.ga K "_law_row", d17, He.ga K "_law_once", d18, He.ga K "_law_lay", d19,
    He.ga K "_law_lot", d20, He.ga K "_law_join", d21, He.ga K "_law_inner", d22, He.ga K "_law_lots", d23,
    He.ga K "_law_meet", d24, He.ga K "_law_bent", d25, He.ga K "_law_pair_so", d26, He.ga K "_law_cuts_so", d27,
    He.ga K "_law_order_so", d28, He.ga K "law", d29, fun_of F0, He.glo_ok X G (c.fact 0 rfl), fun_of F1, He.glo_ok X G (c.fact 1 rfl),
    fun_of F2, He.glo_ok X G (c.fact 2 rfl), fun_of F3, He.glo_ok X G (c.fact 3 rfl), fun_of F4, He.glo_ok X G (c.fact 4 rfl), fun_of F5, He.glo_ok X G (c.fact 5 rfl),
    fun_of F6, He.glo_ok X G (c.fact 6 rfl), fun_of F7, He.glo_ok X G (c.fact 7 rfl), fun_of F8, He.glo_ok X G (c.fact 8 rfl), fun_of F9, He.glo_ok X G (c.fact 9 rfl),
    fun_of F10, He.glo_ok X G (c.fact 10 rfl), fun_of F11, He.glo_ok X G (c.fact 11 rfl), fun_of F12, He.glo_ok X G (c.fact 12 rfl), fun_of F13, He.glo_ok X G (c.fact 13 rfl),
    fun_of F14, He.glo_ok X G (c.fact 14 rfl), fun_of F15, He.glo_ok X G (c.fact 15 rfl), fun_of F16, He.glo_ok X G (c.fact 16 rfl), F17, He.glo_ok X G (c.fact 17 rfl),
    fun_of F18, He.glo_ok X G (c.fact 18 rfl), fun_of F19, He.glo_ok X G (c.fact 19 rfl), fun_of F20, He.glo_ok X G (c.fact 20 rfl), fun_of F21, He.glo_ok X G (c.fact 21 rfl),
    fun_of F22, He.glo_ok X G (c.fact 22 rfl), fun_of F23, He.glo_ok X G (c.fact 23 rfl), fun_of F24, He.glo_ok X G (c.fact 24 rfl), fun_of F25, He.glo_ok X G (c.fact 25 rfl),
    fun_of F26, He.glo_ok X G (c.fact 26 rfl), fun_of F27, He.glo_ok X G (c.fact 27 rfl), fun_of F28, He.glo_ok X G (c.fact 28 rfl), fun_of F29, He.glo_ok X G (c.fact 29 rfl),
    He.free_ok X G (c.fact 30 rfl), He.free_ok X G (c.fact 31 rfl), He.free_ok X G (c.fact 32 rfl), He.free_ok X G (c.fact 33 rfl), He.free_ok X G (c.fact 34 rfl), He.free_ok X G (c.fact 35 rfl), He.free_ok X G (c.fact 36 rfl), He.free_ok X G (c.fact 37 rfl),
    He.free_ok X G (c.fact 38 rfl), He.free_ok X G (c.fact 39 rfl), He.free_ok X G (c.fact 40 rfl), He.free_ok X G (c.fact 41 rfl), He.free_ok X G (c.fact 42 rfl), He.free_ok X G (c.fact 43 rfl), t0, C0,
    t1, C1⟩, rfl, fun s v => b s [v] rfl⟩
theorem hFacts {P : Program} {w : World} {K : PySem.W.Frag} {h : Heap} {mg : Str → Option Value} {f : Addr} (X : K.In h) (G : h.Ns mainGlobals mg) (hfa : mg ("law" : Str) = some (.ref f)) (c : He.SaysD hFa hFn K) :
    ∃ fd : FuncData, (∀ (s : Shared) (v : Value), BindsTo s fd ⟨[v], []⟩ [("_law_script", v)]) ∧ ∀ base : Heap, K.In base → base.Ns mainGlobals mg → FnOk P w K mg base CX0 6 f fd ["_law_script"] (SpE (Rg_law K)) := by
  obtain ⟨T, e0, hb⟩ := hTxt X G c
  have e := hfa.symm.trans T.g_law
  cases e
  exact ⟨T.d_law, hb, fun base _ _ => all_ok T⟩
theorem hSp {K : PySem.W.Frag} {H : Hp} {a : Addr} {ns : List Int} (hl : ns.length ≤ 63) (hS : SqL K H a (ns.map V.int)) : SpE (Rg_law K) [.ref a] H (fun v _ => v = .bl true) (fun _ _ _ => False) :=
  ⟨⟨H, H, Ex.rfl'⟩, [.scr K ns], fun e => e = .dat (.bl true), rfl, .cons (.scr hS) .nil, ⟨ns, rfl, hl, rfl⟩, fun v e W' _ r p => by subst p; cases r; rfl⟩
end Nt
open PySem PySem.W PySem.Calls PyProof.Rows
theorem PySem.Challenge.cw_newesttells_k03_whole_rows_laid_over_holds : PySem.Challenge.rw_newesttells_k03_whole_rows_laid_over.Holds := by
  w_on; o_law
  refine HandSHeadRun.head_any (r := OpenLaw.row PySem.Challenge.rw_newesttells_k03_whole_rows_laid_over) (q := view (OpenLaw.row PySem.Challenge.rw_newesttells_k03_whole_rows_laid_over).prog [33]) (H := Nt.hHk) (ob := Nt.hOb) (M := 4000) (loose := Nt.hNames) (d := HandSHeadRun.topDef (OpenLaw.row PySem.Challenge.rw_newesttells_k03_whole_rows_laid_over).prog 33) (kwd := []) Nt.hOb_eq
    (by kernel_rfl) (fun s => by kernel_rfl) Nt.hRun (by kernel_rfl) (by kernel_rfl) (by kernel_rfl) (by rfl) (by first | assumption | decide +kernel) (by decide +kernel) ⟨rfl, rfl, rfl, rfl, rfl, by decide +kernel⟩ ?hw ?hc
  case hw => w_witness2
  case hc =>
    refine L2.walk_ofE (l := PySem.Challenge.rw_newesttells_k03_whole_rows_laid_over) (n := 63) (k := 6) (x := "_law_script") (CX := L2.CX0) rfl (by decide) (by kernel_rfl) ⟨rfl, by decide, by decide⟩ ?F (fun _ _ _ _ z => z)
    intro w mg fa h Y G hmg0
    obtain ⟨K, KX, c⟩ := Y
    have hmg : mg ("law" : PySem.Str) = some (.ref fa) := by
      have e : (HandSHeadRun.topDef (OpenLaw.row PySem.Challenge.rw_newesttells_k03_whole_rows_laid_over).prog 33).name = ("law" : PySem.Str) := by kernel_rfl
      rw [← e]
      exact hmg0
    obtain ⟨fd, hb, hF⟩ := Nt.hFacts (P := (PySem.Challenge.rw_newesttells_k03_whole_rows_laid_over).prog) (w := w) KX G hmg c
    exact ⟨K, fd, Nt.SpE (Nt.Rg_law K), KX, hb, fun H a ns hl _ hS => Nt.hSp hl hS, hF⟩

