import PyProof.Rows.All
import Wide.All
import OpenK.AllK
import Wide.FinOn
import HandS.ForMost
import HandS.Walk
import HandS.Zip
import KE.GoesEnum
import KE.GoesNew
import HandS.Evl
import HandS.Flow
import HandS.Style
import HandS.Wide
import HandS.IsInst
import HandS.Defaults
import HandS.ExcInit
import HandS.Gcd
import HandS.Dict
import HandS.Nested
import HandS.ExcSuper
import KE.KExcSuper
import KE.KExcIs
import HandS.HeadHook1
import HandS.HeadHook2
import HandS.HeadHook3
import HandS.HeadHook4
import HandS.Text
import HandS.Head0
import HandS.Head1
import HandS.Head2
import HandS.Head3
import HandS.HeadEnd
import PySem.Challenge.RW_newesttells_k01_words_and_ratios_judged
set_option Elab.async false
set_option linter.all false
set_option maxRecDepth 100000
set_option maxHeartbeats 4000000
namespace Nt
open PySem PySem.Spec PyProof.Rows L2
/-! ### what zip and enumerate go over: a text, a list, a tuple -/
inductive Sk where
  | txt (z : Str)
  | lst (a : Addr)
  | tup (a : Addr)
def Sk.val : Sk → V
  | .txt z => .str z
  | .lst a => .ref a
  | .tup a => .ref a
def Sk.fp : Sk → List Addr
  | .txt _ => []
  | .lst a => [a]
  | .tup a => [a]
def Sk.it : Sk → Addr → Nat → Heap → Prop
  | .txt z, it, i, h => ∃ t, h.IsStrIter it (strIterType z) z t i
  | .lst a, it, i, h => h.IsListIter it a i
  | .tup a, it, i, h => h.IsTupleIter it a i
/-- the things that stand in a value, told by the abstract heap -/
def Sk.has (K : PySem.W.Frag) (H : Hp) : Sk → List V → Prop
  | .txt z, xs => xs = z.cps.toList.map fun c => V.str ⟨#[c]⟩
  | .lst a, xs => SqL K H a xs
  | .tup a, xs => SqT K H a xs
theorem Sk.it_at {k : Sk} {it : Addr} {i : Nat} {h h' : Heap} (s : k.it it i h) (e : ∀ o, h.get? it = some o → h'.get? it = some o) : k.it it i h' := by
  cases k with
  | txt z => obtain ⟨t, o, ho, r⟩ := s; exact ⟨t, o, e o ho, r⟩
  | lst a => exact Heap.IsListIter.at s e
  | tup a => obtain ⟨o, ho, r⟩ := s; exact ⟨o, e o ho, r⟩
theorem Sk.it_obj {k : Sk} {it : Addr} {i : Nat} {h : Heap} (s : k.it it i h) : ∃ o, h.get? it = some o ∧ ∀ v, o.data ≠ .cell v := by
  cases k with
  | txt z => obtain ⟨t, o, ho, _, d⟩ := s; exact ⟨o, ho, fun v q => by rw [d] at q; cases q⟩
  | lst a => obtain ⟨o, ho, _, d⟩ := s; exact ⟨o, ho, fun v q => by rw [d] at q; cases q⟩
  | tup a => obtain ⟨o, ho, _, d⟩ := s; exact ⟨o, ho, fun v q => by rw [d] at q; cases q⟩
section
variable {X : Cx} {pins : List (Addr × Obj)} {σ : L2.St} {H : Hp} {s : Shared} {k : Sk} {xs : List V}
theorem Sk.has_inj {ys : List V} (I : L2.Inv X pins σ H s) (a : k.has X.K H xs) (b : k.has X.K H ys) : xs = ys := by
  cases k with
  | txt z => exact Eq.trans a (Eq.symm b)
  | lst q => exact I.list_inj a b
  | tup q => exact I.tuple_inj a b
/-- what draws its items, at the heap as it stands -/
theorem Sk.draws {w : World} {A : Around} (I : L2.Inv X pins σ H s) (hh : A.handled = none) (hk : k.has X.K H xs) (it : Addr) (hit : it ∉ k.fp) (i : Nat) (hi : k.it it i s.heap) :
    ∃ (P : Nat → Value → Prop) (St : Nat → Heap → Prop), Draws X.prog w A it (it :: k.fp) xs.length P St ∧ (∀ i u, P i u → ∃ x, xs[i]? = some x ∧ RelV x u) ∧
      (∀ i h, St i h → k.it it i h) ∧ St i s.heap := by
  cases k with
  | txt z =>
    cases hk
    obtain ⟨t, hi⟩ := hi
    have D := Draws.text (prog := X.prog) (w := w) (A := A) hh it z t
    have e : (List.map (fun c => V.str ⟨#[c]⟩) z.cps.toList).length = z.cps.size := by simp
    refine ⟨_, fun i h => h.IsStrIter it (strIterType z) z t i, (by rw [e]; exact D), ?_, fun i h q => ⟨t, q⟩, hi⟩
    rintro i u ⟨c, t', hc, rfl⟩
    refine ⟨V.str ⟨#[c]⟩, ?_, ⟨t', rfl⟩⟩
    rw [List.getElem?_map]
    have : z.cps.toList[i]? = some c := by simpa using hc
    rw [this]; rfl
  | lst a =>
    obtain ⟨its, rv, p, hz⟩ := I.list hk
    have ne : a ≠ it := fun e => hit (by simp [Sk.fp, e])
    have hl := rv.length
    have D := Draws.list (prog := X.prog) (w := w) (A := A) hh it a ne its.toArray
    have e : its.toArray.size = xs.length := by simp [hl]
    rw [e] at D
    refine ⟨_, fun i h => h.IsListIter it a i ∧ h.IsList a its.toArray, D, ?_, fun i h q => q.1, ⟨hi, p.isList⟩⟩
    intro i u hu
    have hu' : its[i]? = some u := by simpa using hu
    obtain ⟨h1, e1⟩ := List.getElem?_eq_some_iff.mp hu'
    have hx : xs[i]? = some (xs[i]'(by omega)) := List.getElem?_eq_getElem (by omega)
    obtain ⟨u', q1, q2⟩ := rv.get hx
    rw [hu'] at q1
    cases q1
    exact ⟨_, hx, q2⟩
  | tup a =>
    obtain ⟨its, rv, p, hz⟩ := I.tuple hk
    have ne : a ≠ it := fun e => hit (by simp [Sk.fp, e])
    have hl := rv.length
    have D := Draws.tuple (prog := X.prog) (w := w) (A := A) hh it a ne its.toArray
    have e : its.toArray.size = xs.length := by simp [hl]
    rw [e] at D
    refine ⟨_, fun i h => h.IsTupleIter it a i ∧ h.IsTuple a its.toArray, D, ?_, fun i h q => q.1, ⟨hi, p⟩⟩
    intro i u hu
    have hu' : its[i]? = some u := by simpa using hu
    obtain ⟨h1, e1⟩ := List.getElem?_eq_some_iff.mp hu'
    have hx : xs[i]? = some (xs[i]'(by omega)) := List.getElem?_eq_getElem (by omega)
    obtain ⟨u', q1, q2⟩ := rv.get hx
    rw [hu'] at q1
    cases q1
    exact ⟨_, hx, q2⟩
/-- how it begins -/
theorem Sk.begins (I : L2.Inv X pins σ H s) (hk : k.has X.K H xs) {u : Value} (r : RelV k.val u) :
    ∃ (o : Obj) (Hc : Heap → Prop), Begins u o Hc ∧ Hc s.heap ∧ (∀ h it, h.get? it = some o → k.it it 0 h) ∧ ∀ b ∈ k.fp, b < s.heap.objs.size := by
  cases k with
  | txt z =>
    obtain ⟨t, rfl⟩ := r
    exact ⟨_, _, begins_text z t, trivial, fun h it e => ⟨t, _, e, rfl, rfl⟩, fun b hb => absurd hb (by simp [Sk.fp])⟩
  | lst a =>
    cases r
    obtain ⟨its, rv, p, hz⟩ := I.list hk
    exact ⟨_, _, begins_list a its.toArray, p.isList, fun h it e => ⟨_, e, rfl, rfl⟩, fun b hb => by
      have : b = a := by simpa [Sk.fp] using hb
      rw [this]; exact p.lt⟩
  | tup a =>
    cases r
    obtain ⟨its, rv, p, hz⟩ := I.tuple hk
    exact ⟨_, _, begins_tuple a its.toArray, p, fun h it e => ⟨_, e, rfl, rfl⟩, fun b hb => by
      have : b = a := by simpa [Sk.fp] using hb
      obtain ⟨o, e, _⟩ := p
      rw [this]; exact Heap.lt_size e⟩
end
/-! ### zip(a, b) -/
def ItZ (K : PySem.W.Frag) (k1 k2 : Sk) : It :=
  ⟨fun i H => ∃ xs ys, k1.has K H xs ∧ k2.has K H ys ∧ i < xs.length ∧ i < ys.length,
    fun i H v H' => ∃ T x y, v = .ref T ∧ H T = none ∧ H' = upd H T (.tup [x, y]) ∧ (∀ xs, k1.has K H xs → xs[i]? = some x) ∧ ∀ ys, k2.has K H ys → ys[i]? = some y,
    fun i H => ∃ xs ys, k1.has K H xs ∧ k2.has K H ys ∧ i = min xs.length ys.length⟩
def SepZ (z TI TO i1 i2 : Addr) (k1 k2 : Sk) : Prop := ZipSep2 z TI TO i1 i2 (i1 :: k1.fp) (i2 :: k2.fp)
theorem turn_zipG {P : Program} {w : World} {K : PySem.W.Frag} {elts : List Expr} {kk : Nat} {tpos : Pos} {k1 k2 : Sk} {z TI TO i1 i2 : Addr} (S : SepZ z TI TO i1 i2 k1 k2) (h12 : i1 ∉ k1.fp) (h22 : i2 ∉ k2.fp) :
    Turn P w K (.Tuple elts kk tpos) (ItZ K k1 k2) [z, TI, TO, i1, i2] z (fun i h => IsZip h z TI TO .none ∧ IsTupOf2 h TI (.ref i1) (.ref i2) ∧ (∃ x y, IsTupOf2 h TO x y) ∧ k1.it i1 i h ∧ k2.it i2 i h) where
  mem := by simp
  obj := fun i h st c hc => by
    obtain ⟨hz, hTI, ⟨x, y, hTO⟩, h1, h2⟩ := st
    have e' : c = z ∨ c = TI ∨ c = TO ∨ c = i1 ∨ c = i2 := by simpa using hc
    rcases e' with q | q | q | q | q
    · rw [q]; exact ⟨_, hz, fun v q => nomatch q⟩
    · rw [q]; exact ⟨_, hTI, fun v q => nomatch q⟩
    · rw [q]; exact ⟨_, hTO, fun v q => nomatch q⟩
    · rw [q]; exact Sk.it_obj h1
    · rw [q]; exact Sk.it_obj h2
  keep := fun i h h' st k => by
    obtain ⟨hz, hTI, ⟨x, y, hTO⟩, h1, h2⟩ := st
    exact ⟨k z (by simp) _ hz, k TI (by simp) _ hTI, ⟨x, y, k TO (by simp) _ hTO⟩, Sk.it_at h1 fun o q => k i1 (by simp) o q, Sk.it_at h2 fun o q => k i2 (by simp) o q⟩
  item := by
    intro X hP hw hK hc i pins s σ H E I hf st hg
    subst hP hw hK
    obtain ⟨hz, hTI, hTO, h1, h2⟩ := st
    obtain ⟨xs, ys, hx, hy, lx, ly⟩ := hg
    have hh : X.A.in1.handled = none := I.ok.hd hc
    obtain ⟨P1, St1, D1, p1, a1, b1⟩ := Sk.draws (w := X.w) (A := X.A.in1) I hh hx i1 h12 i h1
    obtain ⟨P2, St2, D2, p2, a2, b2⟩ := Sk.draws (w := X.w) (A := X.A.in1) I hh hy i2 h22 i h2
    have W := GoesN.zip2 (elts := elts) (x1 := kk) (pos := tpos) S D1 D2
    have hlt : ∀ c ∈ [z, TI, TO, i1, i2], c < s.heap.objs.size := fun c hcm => by
      have e' : c = z ∨ c = TI ∨ c = TO ∨ c = i1 ∨ c = i2 := by simpa using hcm
      rcases e' with q | q | q | q | q
      · rw [q]; exact Heap.lt_size hz
      · rw [q]; exact Heap.lt_size hTI
      · rw [q]; obtain ⟨_, _, e⟩ := hTO; exact Heap.lt_size e
      · rw [q]; obtain ⟨_, e1, _⟩ := Sk.it_obj h1; exact Heap.lt_size e1
      · rw [q]; obtain ⟨_, e1, _⟩ := Sk.it_obj h2; exact Heap.lt_size e1
    refine thn (W.goes i s (fun v s2 => ∃ x H', L2.Inv X pins σ H' s2 ∧ RelV x v ∧ (ItZ X.K k1 k2).yld i H x H' ∧ (IsZip s2.heap z TI TO .none ∧ IsTupOf2 s2.heap TI (.ref i1) (.ref i2) ∧ (∃ x y, IsTupOf2 s2.heap TO x y) ∧ k1.it i1 (i + 1) s2.heap ∧ k2.it i2 (i + 1) s2.heap) ∧ ∀ b ∈ [z, TI, TO, i1, i2], H' b = none) E (by omega) ⟨hz, hTI, hTO, b1, b2⟩ ?_) fun r s1 q => q
    rintro v h' tk ⟨T, u1, u2, rfl, hT, q1, q2, hTT⟩ ⟨g1, g2, g3, g4, g5⟩ kk' _
    obtain ⟨x, ex, rx⟩ := p1 i u1 q1
    obtain ⟨y, ey, ry⟩ := p2 i u2 q2
    have new : ObjOk X.prog X.w (upd H T (.tup [x, y])) h' T (.tup [x, y]) := ⟨by show 2 ≤ sizeLine; decide, [u1, u2], .cons rx (.cons ry .nil), hTT⟩
    have I1 : L2.Inv X pins σ (upd H T (.tup [x, y])) { s with heap := h', toks := tk } :=
      I.turnedNew (t' := tk) (ch := [z, TI, TO, i1, i2]) (fun c o hb q => kk' c o (fun q' => hb (by
        have e' : c = z ∨ c = TO ∨ c = i1 ∨ c = i2 := by simpa using q'
        rcases e' with e | e | e | e <;> simp [e])) q) hf hT new
    refine ⟨.ref T, _, I1, rfl, ⟨T, x, y, rfl, I.hok.fresh hT, rfl, fun l hl => by rw [Sk.has_inj I hl hx]; exact ex, fun l hl => by rw [Sk.has_inj I hl hy]; exact ey⟩, ⟨g1, g2, g3, a1 _ _ g4, a2 _ _ g5⟩, fun c hcm => ?_⟩
    have h3 := hlt c hcm
    rw [upd_ne (Nat.ne_of_lt (Nat.lt_of_lt_of_le h3 hT))]
    exact (hf c hcm).1
  done := by
    intro X hP hw hK hc i pins s σ H E I hf st hg
    subst hP hw hK
    obtain ⟨hz, hTI, hTO, h1, h2⟩ := st
    obtain ⟨xs, ys, hx, hy, e⟩ := hg
    have hh : X.A.in1.handled = none := I.ok.hd hc
    obtain ⟨P1, St1, D1, p1, a1, b1⟩ := Sk.draws (w := X.w) (A := X.A.in1) I hh hx i1 h12 i h1
    obtain ⟨P2, St2, D2, p2, a2, b2⟩ := Sk.draws (w := X.w) (A := X.A.in1) I hh hy i2 h22 i h2
    have W := GoesN.zip2 (elts := elts) (x1 := kk) (pos := tpos) S D1 D2
    subst e
    refine W.stops s (fun s1 => L2.Inv X pins σ H s1) E ⟨hz, hTI, hTO, b1, b2⟩ fun h' tk k _ => ?_
    exact I.turnedL (t' := tk) (ch := [z, TI, TO, i1, i2]) (fun c o hb q => k c o (fun q' => hb (by
        have e' : c = z ∨ c = TO ∨ c = i1 ∨ c = i2 := by simpa using q'
        rcases e' with e | e | e | e <;> simp [e])) q) hf
  self := fun A i s Q E st h => wpAny_pyIter_zip st.1 h
def iZipG (K : PySem.W.Frag) (ta : TA) : TI := fun σ H R => ta σ H fun vs H1 => ∃ (k1 k2 : Sk) (xs ys : List V), vs = [k1.val, k2.val] ∧ k1.has K H1 xs ∧ k2.has K H1 ys ∧ R (ItZ K k1 k2) H1
theorem pi_zipG {X : Cx} {e e2 : Expr} {ta : TA} {p pos tpos : Pos} {elts : List Expr} {kk : Nat} (hg : Gl X "zip") (hm : X.mg "zip" = none) (ha : PA X [e, e2] ta)
    (hs : starEach [e, e2] X.env = (false, eval e X.env) :: starEach [e2] X.env := by rfl) (hpl : (backTo pos (starEach [e2] X.env)).any (·.1) = false := by rfl) :
    PI X (.Tuple elts kk tpos) (.Call (.Name "zip" p) [e, e2] [] pos) (iZipG X.K ta) := by
  refine ⟨fun pins s σ H R I h => ?_⟩
  refine Call_ (ld_blt I hg hm PyProof.Rows.boot_zip (PyProof.Rows.callWith_type1 (thn (ha.run pos pins s σ H _ I h) fun us s1 ⟨vs, H1, I1, r1, q1⟩ => ?_) hs hpl))
  obtain ⟨k1, k2, xs, ys, ex, hx, hy, q⟩ := q1
  subst ex
  obtain ⟨u1, u2, rfl, ra, rb⟩ := vals2 r1
  obtain ⟨o1, Hc1, B1, c1, t1, f1⟩ := Sk.begins I1 hx ra
  obtain ⟨o2, Hc2, B2, c2, t2, f2⟩ := Sk.begins I1 hy rb
  refine zip_begins2 B1 B2 c1 c2 fun h' hz hTI hTO g1 g2 hsz hk => wpAny_pyIter_zip hz ?_
  have I2 : L2.Inv X pins σ H1 { s1 with heap := h' } := I1.kept (t' := s1.toks) hk
  refine ⟨s1.heap.objs.size + 4, [s1.heap.objs.size + 4, s1.heap.objs.size + 2, s1.heap.objs.size + 3, s1.heap.objs.size, s1.heap.objs.size + 1], _, _, H1, rfl, I2,
    turn_zipG (zip_sep2 f1 f2) (fun z => Nat.lt_irrefl _ (f1 _ z)) (fun z => absurd (f2 _ z) (Nat.not_lt_of_le (Nat.le_succ _))), ⟨hz, hTI, ⟨_, _, hTO⟩, t1 _ _ g1, t2 _ _ g2⟩, fun c hcm => ?_, q⟩
  have e' : c = s1.heap.objs.size + 4 ∨ c = s1.heap.objs.size + 2 ∨ c = s1.heap.objs.size + 3 ∨ c = s1.heap.objs.size ∨ c = s1.heap.objs.size + 1 := by simpa using hcm
  have hle : s1.heap.objs.size ≤ c := by
    rcases e' with z | z | z | z | z
    · rw [z]; exact Nat.le_add_right _ _
    · rw [z]; exact Nat.le_add_right _ _
    · rw [z]; exact Nat.le_add_right _ _
    · rw [z]; exact Nat.le_refl _
    · rw [z]; exact Nat.le_add_right _ _
  exact I1.fpOk hle (I1.hok.fresh hle)
theorem walk_zipG {K : PySem.W.Frag} {k1 k2 : Sk} {xs ys : List V} {n : Nat} (hn : n = min xs.length ys.length) :
    Walk (ItZ K k1 k2) n (fun H => k1.has K H xs ∧ k2.has K H ys) (YPair (fun i => xs[i]?) (fun i => ys[i]?)) := by
  subst hn
  refine ⟨fun i _ hi q => ⟨xs, ys, q.1, q.2, by omega, by omega⟩, fun _ q => ⟨xs, ys, q.1, q.2, rfl⟩, fun i H v H' _ q y => ?_⟩
  obtain ⟨T, x, z, h1, h2, h3, h4, h5⟩ := y
  exact ⟨T, x, z, h1, h2, h3, h4 xs q.1, h5 ys q.2⟩
/-! ### enumerate(text) -/
def ItE (z : Str) : It :=
  ⟨fun i _ => i < z.cps.size, fun i H v H' => ∃ (T : Addr) (c : Nat), v = .ref T ∧ H T = none ∧ H' = upd H T (.tup [.int (i : Nat), .str ⟨#[c]⟩]) ∧ z.cps[i]? = some c, fun i _ => i = z.cps.size⟩
theorem turn_enumS {P : Program} {w : World} {K : PySem.W.Frag} {elts : List Expr} {kk : Nat} {tpos : Pos} {z : Str} {e it : Addr} (hne : e ≠ it) :
    Turn P w K (.Tuple elts kk tpos) (ItE z) [e, it] e (fun i h => (∃ old, IsEnum h e it (0 + (i : Int)) old) ∧ (Sk.txt z).it it i h) where
  mem := by simp
  obj := fun i h st c hc => by
    obtain ⟨⟨old, he⟩, h1⟩ := st
    have e' : c = e ∨ c = it := by simpa using hc
    rcases e' with q | q
    · rw [q]; exact ⟨_, he, fun v q => nomatch q⟩
    · rw [q]; exact Sk.it_obj h1
  keep := fun i h h' st k => by
    obtain ⟨⟨old, he⟩, h1⟩ := st
    exact ⟨⟨old, k e (by simp) _ he⟩, Sk.it_at h1 fun o q => k it (by simp) o q⟩
  item := by
    intro X hP hw hK hc i pins s σ H E I hf st hg
    subst hP hw hK
    obtain ⟨⟨old, he⟩, h1⟩ := st
    have hh : X.A.in1.handled = none := I.ok.hd hc
    obtain ⟨P1, St1, D1, p1, a1, b1⟩ := Sk.draws (k := .txt z) (w := X.w) (A := X.A.in1) I hh rfl it (by simp [Sk.fp]) i h1
    have W := GoesN.enumFrom (elts := elts) (x1 := kk) (pos := tpos) 0 D1 e hne (by simp [Sk.fp, hne]) (by simp [Sk.fp])
    have hlt : ∀ c ∈ [e, it], c < s.heap.objs.size := fun c hcm => by
      have e' : c = e ∨ c = it := by simpa using hcm
      rcases e' with q | q
      · rw [q]; exact Heap.lt_size he
      · rw [q]; obtain ⟨_, e1, _⟩ := Sk.it_obj h1; exact Heap.lt_size e1
    have hg' : i < z.cps.size := hg
    have hi : i < (List.map (fun c => V.str ⟨#[c]⟩) z.cps.toList).length := by simpa using hg'
    refine thn (W.goes i s (fun v s2 => ∃ x H', L2.Inv X pins σ H' s2 ∧ RelV x v ∧ (ItE z).yld i H x H' ∧ ((∃ old, IsEnum s2.heap e it (0 + ((i + 1 : Nat) : Int)) old) ∧ (Sk.txt z).it it (i + 1) s2.heap) ∧ ∀ b ∈ [e, it], H' b = none) E hi ⟨⟨old, he⟩, b1⟩ ?_) fun r s1 q => q
    rintro v h' tk ⟨T, t, u, rfl, hT, q1, hTT⟩ ⟨g1, g2⟩ kk' _
    obtain ⟨x, ex, rx⟩ := p1 i u q1
    obtain ⟨c, hc1, rfl⟩ : ∃ c, z.cps[i]? = some c ∧ x = V.str ⟨#[c]⟩ := by
      rw [List.getElem?_map] at ex
      cases hq : z.cps.toList[i]? with
      | none => rw [hq] at ex; cases ex
      | some c => rw [hq] at ex; exact ⟨c, by simpa using hq, (Option.some.inj ex).symm⟩
    have new : ObjOk X.prog X.w (upd H T (.tup [.int (i : Nat), .str ⟨#[c]⟩])) h' T (.tup [.int (i : Nat), .str ⟨#[c]⟩]) :=
      ⟨by show 2 ≤ sizeLine; decide, [.int (0 + (i : Int)) t, u], .cons ⟨t, by rw [Int.zero_add]⟩ (.cons rx .nil), hTT⟩
    have I1 : L2.Inv X pins σ (upd H T (.tup [.int (i : Nat), .str ⟨#[c]⟩])) { s with heap := h', toks := tk } :=
      I.turnedNew (t' := tk) (ch := [e, it]) (fun c o hb q => kk' c o hb q) hf hT new
    refine ⟨.ref T, _, I1, rfl, ⟨T, c, rfl, I.hok.fresh hT, rfl, hc1⟩, ⟨g1, a1 _ _ g2⟩, fun c hcm => ?_⟩
    rw [upd_ne (Nat.ne_of_lt (Nat.lt_of_lt_of_le (hlt c hcm) hT))]
    exact (hf c hcm).1
  done := by
    intro X hP hw hK hc i pins s σ H E I hf st hg
    subst hP hw hK
    obtain ⟨⟨old, he⟩, h1⟩ := st
    have hh : X.A.in1.handled = none := I.ok.hd hc
    obtain ⟨P1, St1, D1, p1, a1, b1⟩ := Sk.draws (k := .txt z) (w := X.w) (A := X.A.in1) I hh rfl it (by simp [Sk.fp]) i h1
    have W := GoesN.enumFrom (elts := elts) (x1 := kk) (pos := tpos) 0 D1 e hne (by simp [Sk.fp, hne]) (by simp [Sk.fp])
    have hg' : i = z.cps.size := hg
    have hi : i = (List.map (fun c => V.str ⟨#[c]⟩) z.cps.toList).length := by simpa using hg'
    rw [← hi] at W
    exact W.stops s (fun s1 => L2.Inv X pins σ H s1) E ⟨⟨old, he⟩, b1⟩ fun h' tk k _ => I.turnedL (t' := tk) (ch := [e, it]) (fun c o hb q => k c o hb q) hf
  self := fun A i s Q E st h => let ⟨⟨_, he⟩, _⟩ := st; wpAny_pyIter_enum he h
def iEnumS (ta : TA) : TI := fun σ H R => ta σ H fun vs H1 => ∃ z, vs = [.str z] ∧ R (ItE z) H1
theorem pi_enumS {X : Cx} {e : Expr} {ta : TA} {p pos tpos : Pos} {elts : List Expr} {kk : Nat} (hg : Gl X "enumerate") (hm : X.mg "enumerate" = none) (ha : PA X [e] ta) (hs : starEach [e] X.env = [(false, eval e X.env)] := by rfl) :
    PI X (.Tuple elts kk tpos) (.Call (.Name "enumerate" p) [e] [] pos) (iEnumS ta) := by
  refine ⟨fun pins s σ H R I h => ?_⟩
  refine Call_ (ld_blt I hg hm boot_enumerate (PyProof.Rows.callWith_type1 (thn (ha.run pos pins s σ H _ I h) fun us s1 ⟨vs, H1, I1, r1, q1⟩ => ?_) hs rfl))
  obtain ⟨z, ex, q⟩ := q1
  subst ex
  cases r1 with
  | cons r rr =>
    cases rr
    obtain ⟨t, rfl⟩ := r
    refine call_enumerate_str fun h' he hit hsz hk => wpAny_pyIter_enum he ?_
    have I2 : L2.Inv X pins σ H1 { s1 with heap := h' } := I1.kept (t' := s1.toks) hk
    refine ⟨s1.heap.objs.size + 1, [s1.heap.objs.size + 1, s1.heap.objs.size], _, _, H1, rfl, I2, turn_enumS (Nat.succ_ne_self _), ⟨⟨.none, he⟩, ⟨t, hit⟩⟩, fun b hb => ?_, q⟩
    have e' : b = s1.heap.objs.size + 1 ∨ b = s1.heap.objs.size := by simpa using hb
    have hle : s1.heap.objs.size ≤ b := by
      rcases e' with z | z
      · rw [z]; exact Nat.le_add_right _ _
      · rw [z]; exact Nat.le_refl _
    exact I1.fpOk hle (I1.hok.fresh hle)
theorem walk_enumS {z : Str} : Walk (ItE z) z.cps.size (fun _ => True) (YPair (fun i => some (.int (i : Nat))) (fun i => (z.cps[i]?).map fun c => .str ⟨#[c]⟩)) := by
  refine ⟨fun i _ hi _ => hi, fun _ _ => rfl, fun i H v H' _ q y => ?_⟩
  obtain ⟨T, c, h1, h2, h3, h4⟩ := y
  exact ⟨T, _, _, h1, h2, h3, rfl, by show Option.map _ z.cps[i]? = _; rw [h4]; rfl⟩
end Nt

namespace Nt
open PySem PySem.Spec PyProof.Rows L2
abbrev Ex (H H' : Hp) : Prop := ∀ a o, H a = some o → H' a = some o
theorem Ex.rfl' {H : Hp} : Ex H H := fun _ _ h => h
theorem Ex.tr {H H1 H2 : Hp} (a : Ex H H1) (b : Ex H1 H2) : Ex H H2 := fun x o h => b x o (a x o h)
theorem Ex.none' {H H' : Hp} (e : Ex H H') {p : Addr} (h : H' p = none) : H p = none := by
  cases h1 : H p with
  | none => rfl
  | some o => rw [e p o h1] at h; cases h
theorem Ex.nw {H : Hp} {p : Addr} {o : HO} (h : H p = none) : Ex H (upd H p o) := fun a u e => by rw [upd_ne (ne_of_none e h)]; exact e
theorem Ex.two {H H' : Hp} {p : Addr} {o : HO} (e : Ex H H') : Ex (upd H p o) (upd H' p o) := fun a u h => by
  by_cases q : a = p
  · subst q; rw [upd_same] at h ⊢; exact h
  · rw [upd_ne q] at h ⊢; exact e a u h
/-- a text of codes -/
def tx (s : List Nat) : V := .str ⟨s.toArray⟩
/-! ### data -/
inductive D where
  | non | bl (b : Bool) | int (i : Int) | str (s : List Nat) | tup (xs : List D) | lst (xs : List D) | bag | scr (K : PySem.W.Frag) (ns : List Int) | dic (kd : List (Key × D)) | obj (C : Addr)
/-- the bag of draws: its cells at c -/
def bagO (b c : Addr) : HO := .ext fun h => ∃ (i r m n : Int) (its : List Value) (nn : Nat), Vals [.ref c, .int i, .int r, .int m, .int n] its ∧ h.get? b = some { cls := .type "list", data := .seq its.toArray nn } ∧ 0 ≤ i ∧ 0 ≤ r ∧ 0 ≤ m ∧ m < 2147483648
mutual
inductive Rep (H : Hp) : D → V → Prop where
  | non : Rep H .non .non
  | bl (b : Bool) : Rep H (.bl b) (.bl b)
  | int (i : Int) : Rep H (.int i) (.int i)
  | str (s : List Nat) : Rep H (.str s) (tx s)
  | tup {ds : List D} {a : Addr} {ws : List V} : H a = some (.tup ws) → Reps H ds ws → Rep H (.tup ds) (.ref a)
  | lst {ds : List D} {a : Addr} {ws : List V} : H a = some (.lst ws) → Reps H ds ws → Rep H (.lst ds) (.ref a)
  | bag {b c : Addr} {ns : List Int} : H b = some (bagO b c) → H c = some (.lst (ns.map V.int)) → ns.length ≤ 63 → Rep H .bag (.ref b)
  | scr {K : PySem.W.Frag} {a : Addr} {ns : List Int} : SqL K H a (ns.map V.int) → Rep H (.scr K ns) (.ref a)
  | dic {kd : List (Key × D)} {a : Addr} {kvs : List (Key × V)} : H a = some (.dK kvs) → RepK H kd kvs → Rep H (.dic kd) (.ref a)
  | obj {C a d : Addr} {fs : List (Str × V)} : H a = some (exo a C (some d)) → H d = some (exd d fs) → Rep H (.obj C) (.ref a)
inductive Reps (H : Hp) : List D → List V → Prop where
  | nil : Reps H [] []
  | cons {d : D} {v : V} {ds : List D} {vs : List V} : Rep H d v → Reps H ds vs → Reps H (d :: ds) (v :: vs)
inductive RepK (H : Hp) : List (Key × D) → List (Key × V) → Prop where
  | nil : RepK H [] []
  | cons {k : Key} {d : D} {v : V} {kd : List (Key × D)} {kvs : List (Key × V)} : Rep H d v → RepK H kd kvs → RepK H ((k, d) :: kd) ((k, v) :: kvs)
end
mutual
theorem Rep.mono {H H' : Hp} (e : Ex H H') : ∀ {d v}, Rep H d v → Rep H' d v
  | _, _, .non => .non
  | _, _, .bl b => .bl b
  | _, _, .int i => .int i
  | _, _, .str s => .str s
  | _, _, .tup h r => .tup (e _ _ h) (Reps.mono e r)
  | _, _, .lst h r => .lst (e _ _ h) (Reps.mono e r)
  | _, _, .bag h c l => .bag (e _ _ h) (e _ _ c) l
  | _, _, .scr h => .scr (Evl.ex_l e h)
  | _, _, .dic h r => .dic (e _ _ h) (RepK.mono e r)
  | _, _, .obj h g => .obj (e _ _ h) (e _ _ g)
theorem Reps.mono {H H' : Hp} (e : Ex H H') : ∀ {ds vs}, Reps H ds vs → Reps H' ds vs
  | _, _, .nil => .nil
  | _, _, .cons h r => .cons (h.mono e) (r.mono e)
theorem RepK.mono {H H' : Hp} (e : Ex H H') : ∀ {kd kvs}, RepK H kd kvs → RepK H' kd kvs
  | _, _, .nil => .nil
  | _, _, .cons h r => .cons (Rep.mono e h) (RepK.mono e r)
end
theorem Reps.len {H : Hp} : ∀ {ds : List D} {vs : List V}, Reps H ds vs → vs.length = ds.length
  | _, _, .nil => rfl
  | _, _, .cons _ r => by rw [List.length_cons, List.length_cons, r.len]
theorem Reps.get {H : Hp} : ∀ {ds : List D} {vs : List V} {i : Nat} {d : D}, Reps H ds vs → ds[i]? = some d → ∃ v, vs[i]? = some v ∧ Rep H d v
  | _, _, 0, _, .cons h _, e => by cases e; exact ⟨_, rfl, h⟩
  | _, _, i + 1, _, .cons _ r, e => by
    obtain ⟨v, q, h⟩ := r.get (i := i) e
    exact ⟨v, q, h⟩
  | _, _, 0, _, .nil, e => by cases e
  | _, _, i + 1, _, .nil, e => by cases e
theorem Reps.at {H : Hp} : ∀ {ds : List D} {vs : List V} {i : Nat} {v : V}, Reps H ds vs → vs[i]? = some v → ∃ d, ds[i]? = some d ∧ Rep H d v
  | _, _, 0, _, .cons h _, e => by cases e; exact ⟨_, rfl, h⟩
  | _, _, i + 1, _, .cons _ r, e => by
    obtain ⟨d, q, h⟩ := r.at (i := i) e
    exact ⟨d, q, h⟩
  | _, _, 0, _, .nil, e => by cases e
  | _, _, i + 1, _, .nil, e => by cases e
theorem Reps.app {H : Hp} : ∀ {ds es : List D} {vs ws : List V}, Reps H ds vs → Reps H es ws → Reps H (ds ++ es) (vs ++ ws)
  | _, _, _, _, .nil, r => r
  | _, _, _, _, .cons h q, r => .cons h (q.app r)
theorem Reps.drop {H : Hp} : ∀ {ds : List D} {vs : List V} (n : Nat), Reps H ds vs → Reps H (ds.drop n) (vs.drop n)
  | _, _, 0, r => r
  | _, _, n + 1, .nil => .nil
  | _, _, n + 1, .cons _ r => r.drop n
theorem Reps.take {H : Hp} : ∀ {ds : List D} {vs : List V} (n : Nat), Reps H ds vs → Reps H (ds.take n) (vs.take n)
  | _, _, 0, _ => .nil
  | _, _, n + 1, .nil => .nil
  | _, _, n + 1, .cons h r => .cons h (r.take n)
theorem Reps.rev {H : Hp} : ∀ {ds : List D} {vs : List V}, Reps H ds vs → Reps H ds.reverse vs.reverse
  | _, _, .nil => .nil
  | _, _, .cons h r => by
    rw [List.reverse_cons, List.reverse_cons]
    exact r.rev.app (.cons h .nil)
/-- data that need no heap -/
def D.flat : D → Bool
  | .non | .bl _ | .int _ | .str _ => true
  | _ => false
theorem Rep.flat {H H' : Hp} {d : D} {v : V} (f : d.flat = true) (r : Rep H d v) : Rep H' d v := by
  cases r with
  | non => exact .non
  | bl b => exact .bl b
  | int i => exact .int i
  | str s => exact .str s
  | tup _ _ => cases f
  | lst _ _ => cases f
  | bag _ _ _ => cases f
  | scr _ => cases f
  | dic _ _ => cases f
  | obj _ _ => cases f
/-! ### worlds: a heap, and the part of it that data may lie in -/
structure Wd where
  b : Hp
  h : Hp
  le : Ex b h
structure Grow (W W' : Wd) : Prop where
  b : Ex W.b W'.b
  h : Ex W.h W'.h
  nw : ∀ a, W.b a = none → W.h a ≠ none → W'.b a = none
theorem Grow.refl (W : Wd) : Grow W W := ⟨Ex.rfl', Ex.rfl', fun _ h _ => h⟩
theorem Grow.trans {W W1 W2 : Wd} (x : Grow W W1) (y : Grow W1 W2) : Grow W W2 :=
  ⟨x.b.tr y.b, x.h.tr y.h, fun a h1 h2 => y.nw a (x.nw a h1 h2) fun z => h2 (x.h.none' z)⟩
/-- a new object that is data -/
def Wd.put (W : Wd) (p : Addr) (o : HO) : Wd := ⟨upd W.b p o, upd W.h p o, W.le.two⟩
theorem Grow.put {W : Wd} {p : Addr} {o : HO} (h : W.h p = none) : Grow W (W.put p o) :=
  ⟨Ex.nw (W.le.none' h), Ex.nw h, fun a h1 h2 => by
    show upd W.b p o a = none
    rw [upd_ne (fun e => h2 (by rw [e]; exact h))]; exact h1⟩
/-- a new object that is none of the data -/
def Wd.add (W : Wd) (p : Addr) (o : HO) (h : W.h p = none) : Wd := ⟨W.b, upd W.h p o, W.le.tr (Ex.nw h)⟩
theorem Grow.add {W : Wd} {p : Addr} {o : HO} (h : W.h p = none) : Grow W (W.add p o h) := ⟨Ex.rfl', Ex.nw h, fun _ h1 _ => h1⟩
/-! ### what slots hold -/
inductive En where
  | un
  | dat (d : D)
  | own (ds : List D)
  | dct (kd : List (Key × D))
/-- it holds an object of its own -/
def En.adr : En → Bool
  | .own _ | .dct _ => true
  | _ => false
/-- a value that has come: data, or a new list that nobody else holds -/
def RepV (W W' : Wd) : En → V → Prop
  | .un, _ => False
  | .dat d, v => Rep W'.b d v
  | .own ds, v => ∃ l vs, v = .ref l ∧ W'.h l = some (.lst vs) ∧ W'.b l = none ∧ W.h l = none ∧ Reps W'.b ds vs
  | .dct kd, v => ∃ l kvs, v = .ref l ∧ W'.h l = some (.dK kvs) ∧ W'.b l = none ∧ W.h l = none ∧ RepK W'.b kd kvs
theorem RepV.adr {W W' : Wd} {e : En} {v : V} (r : RepV W W' e v) (h : e.adr = true) : ∃ l, v = .ref l ∧ W'.h l ≠ none ∧ W'.b l = none ∧ W.h l = none := by
  cases e with
  | un => cases h
  | dat d => cases h
  | own ds =>
    obtain ⟨l, vs, e, h1, h2, h3, _⟩ := r
    exact ⟨l, e, (by rw [h1]; exact fun z => (nomatch z)), h2, h3⟩
  | dct ds =>
    obtain ⟨l, vs, e, h1, h2, h3, _⟩ := r
    exact ⟨l, e, (by rw [h1]; exact fun z => (nomatch z)), h2, h3⟩
theorem RepV.mono {W W1 W2 : Wd} {e : En} {v : V} (r : RepV W W1 e v) (g : Grow W1 W2) : RepV W W2 e v := by
  cases e with
  | un => exact r
  | dat d => exact Rep.mono g.b r
  | own ds =>
    obtain ⟨l, vs, e, h1, h2, h3, h4⟩ := r
    exact ⟨l, vs, e, g.h _ _ h1, g.nw l h2 (by rw [h1]; exact fun z => nomatch z), h3, h4.mono g.b⟩
  | dct ds =>
    obtain ⟨l, vs, e, h1, h2, h3, h4⟩ := r
    exact ⟨l, vs, e, g.h _ _ h1, g.nw l h2 (by rw [h1]; exact fun z => nomatch z), h3, h4.mono g.b⟩
theorem RepV.back {W0 W W1 : Wd} {e : En} {v : V} (r : RepV W W1 e v) (g : Ex W0.h W.h) : RepV W0 W1 e v := by
  cases e with
  | un => exact r
  | dat d => exact r
  | own ds =>
    obtain ⟨l, vs, e, h1, h2, h3, h4⟩ := r
    exact ⟨l, vs, e, h1, h2, g.none' h3, h4⟩
  | dct ds =>
    obtain ⟨l, vs, e, h1, h2, h3, h4⟩ := r
    exact ⟨l, vs, e, h1, h2, g.none' h3, h4⟩
/-- data that come of it -/
def En.frz : En → Option D
  | .un => none
  | .dat d => some d
  | .own ds => some (.lst ds)
  | .dct kd => some (.dic kd)
theorem RepV.frz {W W1 : Wd} {e : En} {v : V} {d : D} (g : Grow W W1) (r : RepV W W1 e v) (h : e.frz = some d) : ∃ W2 : Wd, W2.h = W1.h ∧ Grow W W2 ∧ Ex W1.b W2.b ∧ Rep W2.b d v := by
  cases e with
  | un => exact absurd h (by simp [En.frz])
  | dat d' => cases h; exact ⟨W1, rfl, g, Ex.rfl', r⟩
  | own ds =>
    cases h
    obtain ⟨l, vs, rfl, h1, h2, h3, h4⟩ := r
    refine ⟨⟨upd W1.b l (.lst vs), W1.h, fun a o e => ?_⟩, rfl, ⟨g.b.tr (Ex.nw h2), g.h, fun a q1 q2 => ?_⟩, Ex.nw h2, .lst upd_same (h4.mono (Ex.nw h2))⟩
    · by_cases q : a = l
      · subst q; rw [upd_same] at e; cases e; exact h1
      · rw [upd_ne q] at e; exact W1.le _ _ e
    · show upd W1.b l (.lst vs) a = none
      rw [upd_ne (fun e => q2 (by rw [e]; exact h3))]; exact g.nw a q1 q2
  | dct ds =>
    cases h
    obtain ⟨l, vs, rfl, h1, h2, h3, h4⟩ := r
    refine ⟨⟨upd W1.b l (.dK vs), W1.h, fun a o e => ?_⟩, rfl, ⟨g.b.tr (Ex.nw h2), g.h, fun a q1 q2 => ?_⟩, Ex.nw h2, .dic upd_same (h4.mono (Ex.nw h2))⟩
    · by_cases q : a = l
      · subst q; rw [upd_same] at e; cases e; exact h1
      · rw [upd_ne q] at e; exact W1.le _ _ e
    · show upd W1.b l (.dK vs) a = none
      rw [upd_ne (fun e => q2 (by rw [e]; exact h3))]; exact g.nw a q1 q2
structure Env (W0 W : Wd) (σ : L2.St) (ρ : List En) : Prop where
  g : Grow W0 W
  len : σ.length = ρ.length
  ent : ∀ (i : Nat) (e : En), ρ[i]? = some e → e ≠ .un → ∃ v, σ[i]? = some (some v) ∧ RepV W0 W e v
  apart : ∀ (i j : Nat) (e f : En) l, ρ[i]? = some e → ρ[j]? = some f → e.adr = true → f.adr = true → σ[i]? = some (some (.ref l)) → σ[j]? = some (some (.ref l)) → i = j
theorem Env.grow {W0 W W' : Wd} {σ : L2.St} {ρ : List En} (E : Env W0 W σ ρ) (g : Grow W W') : Env W0 W' σ ρ :=
  ⟨E.g.trans g, E.len, fun i e h n => let ⟨v, a, r⟩ := E.ent i e h n; ⟨v, a, r.mono g⟩, E.apart⟩
theorem set_get {α : Type} {l : List α} {i j : Nat} {x y : α} (h : (l.set i x)[j]? = some y) : (j = i ∧ y = x ∧ i < l.length) ∨ (j ≠ i ∧ l[j]? = some y) := by
  by_cases q : j = i
  · subst q
    have hl : j < l.length := by
      have := (List.getElem?_eq_some_iff.mp h).1
      simpa using this
    rw [List.getElem?_set_self hl] at h
    exact .inl ⟨rfl, (Option.some.inj h).symm, hl⟩
  · rw [List.getElem?_set_ne (fun e => q e.symm)] at h
    exact .inr ⟨q, h⟩
/-- a slot is given a value that has come -/
theorem Env.set {W0 W W' : Wd} {σ : L2.St} {ρ : List En} (E : Env W0 W σ ρ) (g : Grow W W') {e : En} {v : V} (r : RepV W W' e v) (i : Nat) : Env W0 W' (σ.set i (some v)) (ρ.set i e) := by
  have E' := E.grow g
  refine ⟨E'.g, by rw [List.length_set, List.length_set, E.len], fun j e' h n => ?_, fun j k e1 e2 l h1 h2 t1 t2 h3 h4 => ?_⟩
  · rcases set_get h with ⟨rfl, rfl, hl⟩ | ⟨hne, h⟩
    · exact ⟨v, by rw [List.getElem?_set_self (by rw [E.len]; exact hl)], r.back E.g.h⟩
    · obtain ⟨v', a, b⟩ := E'.ent j e' h n
      exact ⟨v', by rw [List.getElem?_set_ne (fun q => hne q.symm)]; exact a, b⟩
  · have key : ∀ (m : Nat) (f : En), m ≠ i → ρ[m]? = some f → f.adr = true → σ[m]? = some (some (.ref l)) → v = .ref l → e.adr = true → False := by
      intro m f hm a t b c he
      obtain ⟨l1, e1, _, _, z⟩ := r.adr he
      rw [c] at e1
      have : l = l1 := V.ref.inj e1
      subst this
      obtain ⟨v', q1, q2⟩ := E.ent m _ a (fun z => by rw [z] at t; cases t)
      rw [b] at q1
      cases q1
      obtain ⟨l2, e2, w1, _⟩ := q2.adr t
      have : l = l2 := V.ref.inj e2
      subst this
      exact w1 z
    rcases set_get h1 with ⟨q1, q, hl⟩ | ⟨n1, m1⟩
    · rcases set_get h2 with ⟨q2, _, _⟩ | ⟨n2, m2⟩
      · rw [q1, q2]
      · rw [q1, List.getElem?_set_self (by rw [E.len]; exact hl)] at h3
        rw [List.getElem?_set_ne (fun q => n2 q.symm)] at h4
        exact (key k e2 n2 m2 t2 h4 (Option.some.inj (Option.some.inj h3)) (by rw [← q]; exact t1)).elim
    · rcases set_get h2 with ⟨q2, q, hl⟩ | ⟨n2, m2⟩
      · rw [q2, List.getElem?_set_self (by rw [E.len]; exact hl)] at h4
        rw [List.getElem?_set_ne (fun q => n1 q.symm)] at h3
        exact (key j e1 n1 m1 t1 h3 (Option.some.inj (Option.some.inj h4)) (by rw [← q]; exact t2)).elim
      · rw [List.getElem?_set_ne (fun q => n1 q.symm)] at h3
        rw [List.getElem?_set_ne (fun q => n2 q.symm)] at h4
        exact E.apart j k e1 e2 l m1 m2 t1 t2 h3 h4
/-- a slot is forgotten -/
theorem Env.drop {W0 W : Wd} {σ : L2.St} {ρ : List En} (E : Env W0 W σ ρ) (i : Nat) (o : Option V) : Env W0 W (σ.set i o) (ρ.set i .un) := by
  refine ⟨E.g, by rw [List.length_set, List.length_set, E.len], fun j e' h n => ?_, fun j k e1 e2 l h1 h2 t1 t2 h3 h4 => ?_⟩
  · rcases set_get h with ⟨rfl, rfl, hl⟩ | ⟨hne, h⟩
    · exact absurd rfl n
    · obtain ⟨v', a, b⟩ := E.ent j e' h n
      exact ⟨v', by rw [List.getElem?_set_ne (fun q => hne q.symm)]; exact a, b⟩
  · rcases set_get h1 with ⟨rfl, q, hl⟩ | ⟨n1, h1⟩
    · rw [q] at t1; cases t1
    · rcases set_get h2 with ⟨rfl, q, hl⟩ | ⟨n2, h2⟩
      · rw [q] at t2; cases t2
      · rw [List.getElem?_set_ne (fun q => n1 q.symm)] at h3
        rw [List.getElem?_set_ne (fun q => n2 q.symm)] at h4
        exact E.apart j k e1 e2 l h1 h2 t1 t2 h3 h4
/-- an own list is data from now on -/
theorem Env.freeze {W0 W : Wd} {σ : L2.St} {ρ : List En} (E : Env W0 W σ ρ) {i : Nat} {ds : List D} (h : ρ[i]? = some (.own ds)) : ∃ W' : Wd, W'.h = W.h ∧ Ex W.b W'.b ∧ Env W0 W' σ (ρ.set i (.dat (.lst ds))) := by
  obtain ⟨v, hv, l, vs, rfl, h1, h2, h3, h4⟩ := E.ent i _ h (fun z => nomatch z)
  have hi := (List.getElem?_eq_some_iff.mp h).1
  refine ⟨⟨upd W.b l (.lst vs), W.h, fun a o e => ?_⟩, rfl, Ex.nw h2, ⟨⟨E.g.b.tr (Ex.nw h2), E.g.h, fun a q1 q2 => ?_⟩, by rw [List.length_set, E.len], fun j e' hj n => ?_, fun j k e1 e2 l' a1 a2 t1 t2 a3 a4 => ?_⟩⟩
  · by_cases q : a = l
    · subst q; rw [upd_same] at e; cases e; exact h1
    · rw [upd_ne q] at e; exact W.le _ _ e
  · show upd W.b l (.lst vs) a = none
    rw [upd_ne (fun e => q2 (by rw [e]; exact h3))]; exact E.g.nw a q1 q2
  · rcases set_get hj with ⟨rfl, rfl, _⟩ | ⟨hne, hj⟩
    · exact ⟨_, hv, .lst upd_same (h4.mono (Ex.nw h2))⟩
    · obtain ⟨v', a, b⟩ := E.ent j e' hj n
      refine ⟨v', a, ?_⟩
      cases e' with
      | un => exact absurd rfl n
      | dat d => exact Rep.mono (Ex.nw h2) b
      | own es =>
        obtain ⟨l2, ws, rfl, w1, w2, w3, w4⟩ := b
        refine ⟨l2, ws, rfl, w1, ?_, w3, w4.mono (Ex.nw h2)⟩
        show upd W.b l (.lst vs) l2 = none
        rw [upd_ne (fun z => hne (E.apart j i _ _ l hj h rfl rfl (by rw [← z]; exact a) hv))]
        exact w2
      | dct es =>
        obtain ⟨l2, ws, rfl, w1, w2, w3, w4⟩ := b
        refine ⟨l2, ws, rfl, w1, ?_, w3, w4.mono (Ex.nw h2)⟩
        show upd W.b l (.lst vs) l2 = none
        rw [upd_ne (fun z => hne (E.apart j i _ _ l hj h rfl rfl (by rw [← z]; exact a) hv))]
        exact w2
  · rcases set_get a1 with ⟨rfl, q, _⟩ | ⟨n1, a1⟩
    · rw [q] at t1; cases t1
    · rcases set_get a2 with ⟨rfl, q, _⟩ | ⟨n2, a2⟩
      · rw [q] at t2; cases t2
      · exact E.apart j k e1 e2 l' a1 a2 t1 t2 a3 a4
end Nt

namespace Nt
open PySem PySem.Spec PyProof.Rows L2
/-! ### what an expression comes to, from slots that are known -/
def EV (te : TE) (ρ : List En) (P : En → Prop) : Prop := ∀ W0 W σ, Env W0 W σ ρ → ∀ Q : VK, (∀ v e W', Grow W W' → RepV W W' e v → P e → Q v W'.h) → te σ W.h Q
def ED (te : TE) (ρ : List En) (P : D → Prop) : Prop := ∀ W0 W σ, Env W0 W σ ρ → ∀ Q : VK, (∀ v d W', Grow W W' → Rep W'.b d v → P d → Q v W'.h) → te σ W.h Q
def ET (tt : TT) (ρ : List En) (P : Bool → Prop) : Prop := ∀ W0 W σ, Env W0 W σ ρ → ∀ Q : Bool → Hp → Prop, (∀ b W', Grow W W' → P b → Q b W'.h) → tt σ W.h Q
def EA (ta : TA) (ρ : List En) (P : List D → Prop) : Prop := ∀ W0 W σ, Env W0 W σ ρ → ∀ Q : List V → Hp → Prop, (∀ vs ds W', Grow W W' → Reps W'.b ds vs → P ds → Q vs W'.h) → ta σ W.h Q
def EO (to : TO) (ρ : List En) (P : Option Int → Prop) : Prop := ∀ W0 W σ, Env W0 W σ ρ → ∀ Q : Option Int → Hp → Prop, (∀ o W', Grow W W' → P o → Q o W'.h) → to σ W.h Q
/-- what an operation, a call come to, by values -/
def OD (r : R2) (x y : D) (P : En → Prop) : Prop := ∀ (W : Wd) v w, Rep W.b x v → Rep W.b y w → ∀ Q : VK, (∀ u e W', Grow W W' → RepV W W' e u → P e → Q u W'.h) → r v w W.h Q
def UD (r : V → Hp → VK → Prop) (x : D) (P : En → Prop) : Prop := ∀ (W : Wd) v, Rep W.b x v → ∀ Q : VK, (∀ u e W', Grow W W' → RepV W W' e u → P e → Q u W'.h) → r v W.h Q
def CD (r : List V → Hp → VK → Prop) (ds : List D) (P : En → Prop) : Prop := ∀ (W : Wd) vs, Reps W.b ds vs → ∀ Q : VK, (∀ u e W', Grow W W' → RepV W W' e u → P e → Q u W'.h) → r vs W.h Q
def MD (r : V → List V → Hp → VK → Prop) (x : D) (ds : List D) (P : En → Prop) : Prop := ∀ (W : Wd) v vs, Rep W.b x v → Reps W.b ds vs → ∀ Q : VK, (∀ u e W', Grow W W' → RepV W W' e u → P e → Q u W'.h) → r v vs W.h Q
section
variable {K : PySem.W.Frag} {ta tb te : TE} {tt tu : TT} {ar : TA} {ρ : List En} {P P' PA PB : D → Prop} {R R' : En → Prop} {b : Bool}
theorem EV.imp (h : EV te ρ R) (k : ∀ e, R e → R' e) : EV te ρ R' := fun W0 W σ E Q q => h W0 W σ E Q fun v e W' g r p => q v e W' g r (k e p)
theorem ED.imp (h : ED te ρ P) (k : ∀ d, P d → P' d) : ED te ρ P' := fun W0 W σ E Q q => h W0 W σ E Q fun v e W' g r p => q v e W' g r (k e p)
theorem ED.is {x y : D} (h : ED te ρ (· = x)) (k : x = y) : ED te ρ (· = y) := k ▸ h
theorem ET.imp {T T' : Bool → Prop} (h : ET tt ρ T) (k : ∀ e, T e → T' e) : ET tt ρ T' := fun W0 W σ E Q q => h W0 W σ E Q fun e W' g p => q e W' g (k e p)
theorem ET.is {a c : Bool} (h : ET tt ρ (· = a)) (k : a = c) : ET tt ρ (· = c) := k ▸ h
theorem EA.imp {T T' : List D → Prop} (h : EA ar ρ T) (k : ∀ e, T e → T' e) : EA ar ρ T' := fun W0 W σ E Q q => h W0 W σ E Q fun v e W' g r p => q v e W' g r (k e p)
/-- data come to stay -/
theorem EV.ed (h : EV te ρ R) (k : ∀ e, R e → ∃ d, e.frz = some d ∧ P d) : ED te ρ P := fun W0 W σ E Q q => h W0 W σ E Q fun v e W' g r p => by
  obtain ⟨d, hd, pd⟩ := k e p
  obtain ⟨W2, h2, g2, _, r2⟩ := r.frz g hd
  rw [← h2]
  exact q v d W2 g2 r2 pd
theorem ED.ev (h : ED te ρ P) : EV te ρ (fun e => ∃ d, e = .dat d ∧ P d) := fun W0 W σ E Q q => h W0 W σ E Q fun v d W' g r p => q v (.dat d) W' g r ⟨d, rfl, p⟩
theorem EV.d1 {d : D} (h : EV te ρ (· = .dat d)) : ED te ρ (· = d) := h.ed fun e q => ⟨d, by rw [q]; rfl, rfl⟩
theorem EV.o1 {ds : List D} (h : EV te ρ (· = .own ds)) : ED te ρ (· = .lst ds) := h.ed fun e q => ⟨.lst ds, by rw [q]; rfl, rfl⟩
theorem e_var {i : Nat} {d : D} (h : ρ[i]? = some (.dat d)) : ED (tVar i) ρ (· = d) := fun W0 W σ E Q q => by
  obtain ⟨v, a, r⟩ := E.ent i _ h (fun z => nomatch z)
  exact ⟨v, a, q v d W (Grow.refl W) r rfl⟩
theorem e_c {v : V} {d : D} (h : ∀ H, Rep H d v) : ED (tC v) ρ (· = d) := fun W0 W σ E Q q => q v d W (Grow.refl W) (h _) rfl
theorem e_int {i : Int} : ED (tC (.int i)) ρ (· = .int i) := e_c fun _ => .int i
theorem e_bl {b : Bool} : ED (tC (.bl b)) ρ (· = .bl b) := e_c fun _ => .bl b
theorem e_non : ED (tC .non) ρ (· = .non) := e_c fun _ => .non
theorem tx_eq (z : Str) : V.str z = tx z.cps.toList := by
  unfold tx
  obtain ⟨c⟩ := z
  simp
theorem rep_str {H : Hp} (z : Str) : Rep H (.str z.cps.toList) (.str z) := by
  rw [tx_eq]
  exact .str _
theorem e_strz {z : Str} : ED (tC (.str z)) ρ (· = .str z.cps.toList) := e_c fun _ => rep_str z
theorem e_str {z : Str} {s : List Nat} (h : z.cps.toList = s) : ED (tC (.str z)) ρ (· = .str s) := h ▸ e_strz
theorem e_op {r : R2} (ha : ED ta ρ PA) (hb : ED tb ρ PB) (hr : ∀ x y, PA x → PB y → OD r x y R) : EV (tOp r ta tb) ρ R := fun W0 W σ E Q q =>
  ha W0 W σ E _ fun v x W1 g1 r1 p1 => hb W0 W1 σ (E.grow g1) _ fun w y W2 g2 r2 p2 => hr x y p1 p2 W2 v w (r1.mono g2.b) r2 Q fun u e W3 g3 r3 p3 => q u e W3 ((g1.trans g2).trans g3) (r3.back (g1.trans g2).h) p3
theorem e_op1 {r : R2} {x y : D} (ha : ED ta ρ (· = x)) (hb : ED tb ρ (· = y)) (hr : OD r x y R) : EV (tOp r ta tb) ρ R := e_op ha hb fun _ _ a b => by rw [a, b]; exact hr
theorem e_opd {r : R2} {x y z : D} (ha : ED ta ρ (· = x)) (hb : ED tb ρ (· = y)) (hr : OD r x y (· = .dat z)) : ED (tOp r ta tb) ρ (· = z) := (e_op1 ha hb hr).d1
theorem e_un {r : V → Hp → VK → Prop} {x : D} (ha : ED ta ρ (· = x)) (hr : UD r x R) : EV (tUn r ta) ρ R := fun W0 W σ E Q q =>
  ha W0 W σ E _ fun v x' W1 g1 r1 p1 => hr W1 v (by subst p1; exact r1) Q fun u e W3 g3 r3 p3 => q u e W3 (g1.trans g3) (r3.back g1.h) p3
/-! tests -/
theorem et_val {T : Bool → Prop} (h : ED te ρ (fun d => ∃ b, d = .bl b ∧ T b)) : ET (tB te) ρ T := fun W0 W σ E Q q => h W0 W σ E _ fun v d W' g r ⟨b, e, p⟩ => by
  subst e; cases r; exact ⟨b, rfl, q b W' g p⟩
theorem et_test {T : Bool → Prop} (h : ED te ρ (fun d => ∃ b, d = .bl b ∧ T b)) : ET (tTest te) ρ T := fun W0 W σ E Q q => h W0 W σ E _ fun v d W' g r ⟨b, e, p⟩ => by
  subst e; cases r; exact ⟨b, rfl, q b W' g p⟩
theorem et_v1 {a : Bool} (h : ED te ρ (· = .bl a)) : ET (tB te) ρ (· = a) := et_val (h.imp fun d e => ⟨a, e, rfl⟩)
theorem et_t1 {a : Bool} (h : ED te ρ (· = .bl a)) : ET (tTest te) ρ (· = a) := et_test (h.imp fun d e => ⟨a, e, rfl⟩)
theorem et_and {T1 T : Bool → Prop} (h : ET tt ρ T1) (h1 : T1 true → ET tu ρ T) (h2 : T1 false → T false) : ET (tAnd tt tu) ρ T := fun W0 W σ E Q q => h W0 W σ E _ fun b W' g p => by
  cases b with
  | true => exact iteT (h1 p W0 W' σ (E.grow g) Q fun b W2 g2 p2 => q b W2 (g.trans g2) p2)
  | false => exact iteF (q false W' g (h2 p))
theorem et_or {T1 T : Bool → Prop} (h : ET tt ρ T1) (h1 : T1 false → ET tu ρ T) (h2 : T1 true → T true) : ET (tOr tt tu) ρ T := fun W0 W σ E Q q => h W0 W σ E _ fun b W' g p => by
  cases b with
  | false => exact iteF (h1 p W0 W' σ (E.grow g) Q fun b W2 g2 p2 => q b W2 (g.trans g2) p2)
  | true => exact iteT (q true W' g (h2 p))
theorem et_and1 {a c : Bool} (h : ET tt ρ (· = a)) (h1 : a = true → ET tu ρ (· = c)) : ET (tAnd tt tu) ρ (· = (a && c)) :=
  et_and h (fun p => by subst p; exact h1 rfl) (fun p => by subst p; rfl)
theorem et_or1 {a c : Bool} (h : ET tt ρ (· = a)) (h1 : a = false → ET tu ρ (· = c)) : ET (tOr tt tu) ρ (· = (a || c)) :=
  et_or h (fun p => by subst p; exact h1 rfl) (fun p => by subst p; rfl)
theorem et_not {T : Bool → Prop} (h : ET tt ρ fun b => T (!b)) : ET (tNot tt) ρ T := fun W0 W σ E Q q => h W0 W σ E _ fun b W' g p => q (!b) W' g p
theorem et_not1 {a : Bool} (h : ET tt ρ (· = a)) : ET (tNot tt) ρ (· = !a) := et_not (h.imp fun e q => by rw [q])
theorem et_yes : ET tYes ρ (· = true) := fun W0 W σ E Q q => q true W (Grow.refl W) rfl
theorem e_and {a c : Bool} (h : ED ta ρ (· = .bl a)) (h1 : a = true → ED tb ρ (· = .bl c)) : ED (tAndV ta tb) ρ (· = .bl (a && c)) := fun W0 W σ E Q q => h W0 W σ E _ fun v d W' g r p => by
  subst p; cases r
  refine ⟨a, rfl, ?_⟩
  cases a with
  | true => exact iteT (h1 rfl W0 W' σ (E.grow g) Q fun v d W2 g2 r2 p2 => q v d W2 (g.trans g2) r2 p2)
  | false => exact iteF (q _ _ W' g (.bl false) rfl)
theorem e_or {a c : Bool} (h : ED ta ρ (· = .bl a)) (h1 : a = false → ED tb ρ (· = .bl c)) : ED (tOrV ta tb) ρ (· = .bl (a || c)) := fun W0 W σ E Q q => h W0 W σ E _ fun v d W' g r p => by
  subst p; cases r
  refine ⟨a, rfl, ?_⟩
  cases a with
  | false => exact iteF (h1 rfl W0 W' σ (E.grow g) Q fun v d W2 g2 r2 p2 => q v d W2 (g.trans g2) r2 p2)
  | true => exact iteT (q _ _ W' g (.bl true) rfl)
theorem e_not {a : Bool} (h : ED ta ρ (· = .bl a)) : ED (tNotV ta) ρ (· = .bl (!a)) := fun W0 W σ E Q q => h W0 W σ E _ fun v d W' g r p => by
  subst p; cases r
  exact ⟨a, rfl, q _ _ W' g (.bl _) rfl⟩
theorem e_if {T : Bool → Prop} (h : ET tt ρ T) (h1 : T true → EV ta ρ R) (h2 : T false → EV tb ρ R) : EV (tIf tt ta tb) ρ R := fun W0 W σ E Q q => h W0 W σ E _ fun b W' g p => by
  cases b with
  | true => exact iteT (h1 p W0 W' σ (E.grow g) Q fun v e W2 g2 r2 p2 => q v e W2 (g.trans g2) (r2.back g.h) p2)
  | false => exact iteF (h2 p W0 W' σ (E.grow g) Q fun v e W2 g2 r2 p2 => q v e W2 (g.trans g2) (r2.back g.h) p2)
theorem e_ifd {T : Bool → Prop} (h : ET tt ρ T) (h1 : T true → ED ta ρ P) (h2 : T false → ED tb ρ P) : ED (tIf tt ta tb) ρ P :=
  (e_if h (fun p => (h1 p).ev) (fun p => (h2 p).ev)).ed fun e ⟨d, q, p⟩ => ⟨d, by rw [q]; rfl, p⟩
/-! arguments -/
theorem ea_nil : EA tNil ρ (· = []) := fun W0 W σ E Q q => q [] [] W (Grow.refl W) .nil rfl
theorem ea_cons {T T' : List D → Prop} (h : ED ta ρ P) (h1 : ∀ x, P x → EA ar ρ (fun ds => T (x :: ds))) : EA (tCons ta ar) ρ T := fun W0 W σ E Q q =>
  h W0 W σ E _ fun v d W1 g1 r1 p1 => h1 d p1 W0 W1 σ (E.grow g1) _ fun vs ds W2 g2 r2 p2 => q (v :: vs) (d :: ds) W2 (g1.trans g2) (.cons (r1.mono g2.b) r2) p2
theorem ea_c {x : D} {ds : List D} (h : ED ta ρ (· = x)) (h1 : EA ar ρ (· = ds)) : EA (tCons ta ar) ρ (· = x :: ds) :=
  ea_cons (T' := fun _ => True) h fun y e => h1.imp fun z q => by rw [e, q]
theorem ea_1 (h : ED ta ρ P) : EA (tCons ta tNil) ρ (fun ds => ∃ x, ds = [x] ∧ P x) := ea_cons (T' := fun _ => True) h fun y e => ea_nil.imp fun z q => by rw [q]; exact ⟨y, rfl, e⟩
theorem e_cb {r : List V → Hp → VK → Prop} {T : List D → Prop} (h : EA ar ρ T) (hr : ∀ ds, T ds → CD r ds R) : EV (tCB r ar) ρ R := fun W0 W σ E Q q =>
  h W0 W σ E _ fun vs ds W1 g1 r1 p1 => hr ds p1 W1 vs r1 Q fun u e W3 g3 r3 p3 => q u e W3 (g1.trans g3) (r3.back g1.h) p3
theorem e_cb1 {r : List V → Hp → VK → Prop} {ds : List D} (h : EA ar ρ (· = ds)) (hr : CD r ds R) : EV (tCB r ar) ρ R := e_cb h fun _ e => by rw [e]; exact hr
theorem e_tup {T : List D → Prop} (h : EA ar ρ T) (hl : ∀ ds, T ds → ds.length ≤ 100000) : ED (tTup ar) ρ (fun d => ∃ ds, d = .tup ds ∧ T ds) := fun W0 W σ E Q q =>
  h W0 W σ E _ fun vs ds W1 g1 r1 p1 => ⟨Evl.sz_of (by rw [r1.len]; exact hl ds p1), fun p hp => q (.ref p) (.tup ds) (W1.put p (.tup vs)) (g1.trans (Grow.put hp)) (.tup upd_same (r1.mono (Grow.put hp).b)) ⟨ds, rfl, p1⟩⟩
theorem e_tup1 {ds : List D} (h : EA ar ρ (· = ds)) (hl : ds.length ≤ 100000) : ED (tTup ar) ρ (· = .tup ds) := (e_tup h fun _ e => by rw [e]; exact hl).imp fun d ⟨_, e, p⟩ => by rw [e, p]
/-- a new list that has come at p -/
theorem new_own {W W1 : Wd} (g1 : Grow W W1) {p : Addr} {ds : List D} {vs : List V} (hp : W1.h p = none) (r : Reps W1.b ds vs) : Grow W (W1.add p (.lst vs) hp) ∧ RepV W (W1.add p (.lst vs) hp) (.own ds) (.ref p) :=
  ⟨g1.trans (Grow.add hp), p, vs, rfl, upd_same, W1.le.none' hp, g1.h.none' hp, r⟩
theorem e_lst {T : List D → Prop} (h : EA ar ρ T) (hl : ∀ ds, T ds → ds.length ≤ 100000) : EV (tLst ar) ρ (fun e => ∃ ds, e = .own ds ∧ T ds) := fun W0 W σ E Q q =>
  h W0 W σ E _ fun vs ds W1 g1 r1 p1 => ⟨Evl.sz_of (by rw [r1.len]; exact hl ds p1), fun p hp => by
    obtain ⟨a, c⟩ := new_own g1 hp r1
    exact q (.ref p) (.own ds) _ a c ⟨ds, rfl, p1⟩⟩
theorem e_lst1 {ds : List D} (h : EA ar ρ (· = ds)) (hl : ds.length ≤ 100000) : EV (tLst ar) ρ (· = .own ds) := (e_lst h fun _ e => by rw [e]; exact hl).imp fun d ⟨_, e, p⟩ => by rw [e, p]
/-! calls of own defs -/
/-- a promise about data: for what arguments, what comes -/
def SpE (Rg : List D → (En → Prop) → Prop) : Sp := fun vs H Q _ => ∃ (W : Wd) (ds : List D) (P : En → Prop), W.h = H ∧ Reps W.b ds vs ∧ Rg ds P ∧ ∀ v e W', Grow W W' → RepV W W' e v → P e → Q v W'.h
theorem e_call {Rg : List D → (En → Prop) → Prop} {dvs : List V} {cs : List D} {X : XK} {T : List D → Prop} (h : EA ar ρ T) (hc : Reps (fun _ => none) cs dvs) (hr : ∀ ds, T ds → Rg (ds ++ cs) R) : EV (tCall (SpE Rg) dvs X ar) ρ R := fun W0 W σ E Q q =>
  h W0 W σ E _ fun vs ds W1 g1 r1 p1 => ⟨W1, ds ++ cs, R, rfl, r1.app (hc.mono fun _ _ z => by
      have z' : (none : Option HO) = some _ := z
      cases z'), hr ds p1, fun v e W3 g3 r3 p3 => q v e W3 (g1.trans g3) (r3.back g1.h) p3⟩
theorem e_call0 {Rg : List D → (En → Prop) → Prop} {X : XK} {ds : List D} (h : EA ar ρ (· = ds)) (hr : Rg ds R) : EV (tCall (SpE Rg) [] X ar) ρ R := e_call h .nil fun x e => by rw [e, List.append_nil]; exact hr
theorem e_callP {Rg : List D → (En → Prop) → Prop} {X : XK} {T : List D → Prop} (h : EA ar ρ T) (hr : ∀ ds, T ds → Rg ds R) : EV (tCall (SpE Rg) [] X ar) ρ R := e_call h .nil fun x e => by rw [List.append_nil]; exact hr x e
/-! methods -/
theorem e_bm {r : V → List V → Hp → VK → Prop} {Ty : String} {x : D} {T : List D → Prop} (h : ED te ρ (· = x)) (ht : ∀ (W : Wd) v, Rep W.b x v → tyV K Ty v W.h) (ha : EA ar ρ T) (hr : ∀ ds, T ds → MD r x ds R) : EV (tBM K Ty r te ar) ρ R := fun W0 W σ E Q q =>
  h W0 W σ E _ fun v d W1 g1 r1 p1 => by
    subst p1
    exact ⟨ht W1 v r1, ha W0 W1 σ (E.grow g1) _ fun vs ds W2 g2 r2 p2 => hr ds p2 W2 v vs (r1.mono g2.b) r2 Q fun u e W3 g3 r3 p3 => q u e W3 ((g1.trans g2).trans g3) (r3.back (g1.trans g2).h) p3⟩
theorem e_m1 {r : V → List V → Hp → VK → Prop} {s : List Nat} (h : ED te ρ (· = .str s)) (ha : ED ta ρ P) (hr : ∀ y, P y → MD r (.str s) [y] R) : EV (tM1 r te ta) ρ R := fun W0 W σ E Q q =>
  h W0 W σ E _ fun v d W1 g1 r1 p1 => by
    subst p1
    refine ⟨by cases r1; exact ⟨_, rfl⟩, ha W0 W1 σ (E.grow g1) _ fun w y W2 g2 r2 p2 => hr y p2 W2 v [w] (r1.mono g2.b) (.cons r2 .nil) Q fun u e W3 g3 r3 p3 => q u e W3 ((g1.trans g2).trans g3) (r3.back (g1.trans g2).h) p3⟩
/-! slices -/
theorem eo_none : EO tNoPart ρ (· = none) := fun W0 W σ E Q q => q none W (Grow.refl W) rfl
end
end Nt

namespace Nt
open PySem PySem.Spec PyProof.Rows L2
/-! ### what is walked: single things, pairs -/
structure It1 (J : It) (ds : List D) (W : Wd) : Prop where
  go : ∀ W' : Wd, Ex W.b W'.b → ∀ i, i < ds.length → J.go i W'.h
  stop : ∀ W' : Wd, Ex W.b W'.b → J.stop ds.length W'.h
  yld : ∀ W' : Wd, Ex W.b W'.b → ∀ i x H', i < ds.length → J.yld i W'.h x H' → H' = W'.h ∧ ∃ d, ds[i]? = some d ∧ Rep W'.b d x
structure It2 (J : It) (ps : List (D × D)) (W : Wd) : Prop where
  go : ∀ W' : Wd, Ex W.b W'.b → ∀ i, i < ps.length → J.go i W'.h
  stop : ∀ W' : Wd, Ex W.b W'.b → J.stop ps.length W'.h
  yld : ∀ W' : Wd, Ex W.b W'.b → ∀ i v H', i < ps.length → J.yld i W'.h v H' → ∃ T x y p, v = .ref T ∧ W'.h T = none ∧ H' = upd W'.h T (.tup [x, y]) ∧ ps[i]? = some p ∧ Rep W'.b p.1 x ∧ Rep W'.b p.2 y
theorem It1.mono {J : It} {ds : List D} {W W1 : Wd} (j : It1 J ds W) (e : Ex W.b W1.b) : It1 J ds W1 := ⟨fun W' a => j.go W' (e.tr a), fun W' a => j.stop W' (e.tr a), fun W' a => j.yld W' (e.tr a)⟩
theorem It2.mono {J : It} {ds : List (D × D)} {W W1 : Wd} (j : It2 J ds W) (e : Ex W.b W1.b) : It2 J ds W1 := ⟨fun W' a => j.go W' (e.tr a), fun W' a => j.stop W' (e.tr a), fun W' a => j.yld W' (e.tr a)⟩
def IV1 (wi : TI) (ρ : List En) (P : List D → Prop) : Prop := ∀ W0 W σ, Env W0 W σ ρ → ∀ R : It → Hp → Prop, (∀ J ds W', Grow W W' → It1 J ds W' → P ds → R J W'.h) → wi σ W.h R
def IV2 (wi : TI) (ρ : List En) (P : List (D × D) → Prop) : Prop := ∀ W0 W σ, Env W0 W σ ρ → ∀ R : It → Hp → Prop, (∀ J ps W', Grow W W' → It2 J ps W' → P ps → R J W'.h) → wi σ W.h R
section
variable {K : PySem.W.Frag} {ta tb te : TE} {tt : TT} {ar : TA} {ρ : List En} {P PA PB : D → Prop} {R : En → Prop}
theorem sq_l {H : Hp} {a : Addr} {xs : List V} (h : H a = some (.lst xs)) : SqL K H a xs := .inl (.inl h)
theorem sq_t {H : Hp} {a : Addr} {xs : List V} (h : H a = some (.tup xs)) : SqT K H a xs := .inl (.inl h)
theorem iv_list (h : ED te ρ (fun d => ∃ ds, d = .lst ds ∧ P (.lst ds))) : IV1 (iList K te) ρ (fun ds => P (.lst ds)) := fun W0 W σ E R q => h W0 W σ E _ fun v d W' g r ⟨ds, e, p⟩ => by
  subst e
  cases r with
  | lst ha hr =>
    rename_i a ws
    have hl := hr.len
    refine ⟨a, rfl, ⟨ws, sq_l (W'.le _ _ ha)⟩, q _ ds W' g ⟨fun W2 e2 i hi => ⟨ws, ws[i]'(by omega), sq_l (W2.le _ _ (e2 _ _ ha)), List.getElem?_eq_getElem (by omega)⟩, fun W2 e2 => ⟨ws, sq_l (W2.le _ _ (e2 _ _ ha)), by omega⟩, fun W2 e2 i x H' hi y => ?_⟩ p⟩
    have hx := y.2 ws (sq_l (W2.le _ _ (e2 _ _ ha)))
    obtain ⟨d, e, r⟩ := (hr.mono e2).at hx
    exact ⟨y.1, d, e, r⟩
theorem iv_listL {ds : List D} (h : ED te ρ (· = .lst ds)) : IV1 (iList K te) ρ (· = ds) := fun W0 W σ E R q =>
  iv_list (P := fun d => d = .lst ds) (h.imp fun d e => ⟨ds, e, e.symm ▸ rfl⟩) W0 W σ E R fun J es W' g i p => q J es W' g i (D.lst.inj p)
theorem iv_tupT {ds : List D} (h : ED te ρ (· = .tup ds)) : IV1 (iTup K te) ρ (· = ds) := fun W0 W σ E R q => h W0 W σ E _ fun v d W' g r e => by
  subst e
  cases r with
  | tup ha hr =>
    rename_i a ws
    have hl := hr.len
    refine ⟨a, rfl, ⟨ws, sq_t (W'.le _ _ ha)⟩, q _ ds W' g ⟨fun W2 e2 i hi => ⟨ws, ws[i]'(by omega), sq_t (W2.le _ _ (e2 _ _ ha)), List.getElem?_eq_getElem (by omega)⟩, fun W2 e2 => ⟨ws, sq_t (W2.le _ _ (e2 _ _ ha)), by omega⟩, fun W2 e2 i x H' hi y => ?_⟩ rfl⟩
    have hx := y.2 ws (sq_t (W2.le _ _ (e2 _ _ ha)))
    obtain ⟨d, e, r⟩ := (hr.mono e2).at hx
    exact ⟨y.1, d, e, r⟩
/-- a walk over a list or a tuple -/
def iSeq (K : PySem.W.Frag) (tl : TE) : TI := fun σ H R => iList K tl σ H R ∨ iTup K tl σ H R
theorem iv_list1 {ds : List D} (h : ED te ρ (· = .lst ds)) : IV1 (iSeq K te) ρ (· = ds) := fun W0 W σ E R q => .inl (iv_listL h W0 W σ E R q)
theorem iv_tup1 {ds : List D} (h : ED te ρ (· = .tup ds)) : IV1 (iSeq K te) ρ (· = ds) := fun W0 W σ E R q => .inr (iv_tupT h W0 W σ E R q)
inductive Sq : D → List D → Prop where
  | lst (ds : List D) : Sq (.lst ds) ds
  | tup (ds : List D) : Sq (.tup ds) ds
theorem iv_sq {x : D} {ds : List D} (s : Sq x ds) (h : ED te ρ (· = x)) : IV1 (iSeq K te) ρ (· = ds) := by
  cases s with
  | lst => exact iv_list1 h
  | tup => exact iv_tup1 h
def chs (s : List Nat) : List D := s.map fun c => .str [c]
theorem iv_str1 {s : List Nat} (h : ED te ρ (· = .str s)) : IV1 (iStr te) ρ (· = chs s) := fun W0 W σ E R q => h W0 W σ E _ fun v d W' g r e => by
  subst e
  cases r
  refine ⟨⟨s.toArray⟩, rfl, q _ (chs s) W' g ⟨fun W2 e2 i hi => ?_, fun W2 e2 => ?_, fun W2 e2 i x H' hi y => ?_⟩ rfl⟩
  · have : i < s.length := by simpa [chs] using hi
    simpa [Its] using this
  · simp [Its, chs]
  · obtain ⟨c, h1, h2⟩ := y.2
    have h1' : s[i]? = some c := by simpa using h1
    exact ⟨y.1, .str [c], by simp [chs, h1'], by rw [h2]; exact .str [c]⟩
def ixs (n : Nat) : List D := (List.range n).map fun (i : Nat) => D.int (i : Int)
theorem ixs_get {n i : Nat} (h : i < n) : (ixs n)[i]? = some (.int i) := by simp [ixs, h]
theorem iv_rngP {T : Int → Prop} (h : EA ar ρ (fun ds => ∃ n, ds = [.int n] ∧ n ≤ 100000 ∧ -100000 ≤ n ∧ T n)) : IV1 (iRng1 ar) ρ (fun ds => ∃ n : Int, ds = ixs n.toNat ∧ T n) := fun W0 W σ E R q => h W0 W σ E _ fun vs ds W' g r ⟨n, e, h1, h2, t⟩ => by
  subst e
  cases r with
  | cons r rr =>
    cases rr
    cases r
    refine ⟨n, rfl, by omega, by omega, q _ (ixs n.toNat) W' g ⟨fun W2 e2 i hi => ?_, fun W2 e2 => ?_, fun W2 e2 i x H' hi y => ?_⟩ ⟨n, rfl, t⟩⟩
    · have : i < n.toNat := by simpa [ixs] using hi
      exact this
    · show n.toNat ≤ (ixs n.toNat).length
      simp [ixs]
    · have hi' : i < n.toNat := by simpa [ixs] using hi
      refine ⟨y.1, .int i, ixs_get hi', ?_⟩
      have e3 : x = .int (0 + (i : Int)) := y.2
      rw [e3, Int.zero_add]
      exact .int _
theorem iv_rng1 {n : Int} (h : EA ar ρ (· = [.int n])) (h1 : n ≤ 100000) (h2 : -100000 ≤ n) : IV1 (iRng1 ar) ρ (· = ixs n.toNat) := fun W0 W σ E R q =>
  iv_rngP (T := fun m => m = n) (h.imp fun ds e => ⟨n, e, h1, h2, rfl⟩) W0 W σ E R fun J ds W' g i ⟨m, e, e2⟩ => q J ds W' g i (by rw [e, e2])
/-- what zip goes over -/
inductive Its1 : D → List D → Prop where
  | lst (ds : List D) : Its1 (.lst ds) ds
  | tup (ds : List D) : Its1 (.tup ds) ds
  | str (s : List Nat) : Its1 (.str s) (chs s)
theorem Sq.its {x : D} {ds : List D} (s : Sq x ds) : Its1 x ds := by
  cases s with
  | lst => exact .lst _
  | tup => exact .tup _
theorem src {H : Hp} {d : D} {ds : List D} {v : V} (i : Its1 d ds) (r : Rep H d v) : ∃ (k : Sk) (xs : List V), v = k.val ∧ Reps H ds xs ∧ ∀ H', Ex H H' → k.has K H' xs := by
  cases i with
  | lst =>
    cases r with
    | lst ha hr => exact ⟨.lst _, _, rfl, hr, fun H' e => sq_l (e _ _ ha)⟩
  | tup =>
    cases r with
    | tup ha hr => exact ⟨.tup _, _, rfl, hr, fun H' e => sq_t (e _ _ ha)⟩
  | str s =>
    cases r
    refine ⟨.txt ⟨s.toArray⟩, s.map fun c => .str ⟨#[c]⟩, rfl, ?_, fun H' e => by simp [Sk.has]⟩
    induction s with
    | nil => exact .nil
    | cons c s ih => exact .cons (.str [c]) ih
theorem iv_zip {x y : D} {xs ys : List D} (hx : Its1 x xs) (hy : Its1 y ys) (h : EA ar ρ (· = [x, y])) : IV2 (iZipG K ar) ρ (· = xs.zip ys) := fun W0 W σ E R q => h W0 W σ E _ fun vs ds W' g r e => by
  subst e
  cases r with
  | cons r1 rr =>
    cases rr with
    | cons r2 rr =>
      cases rr
      obtain ⟨k1, us, rfl, ru, hu⟩ := src (K := K) hx r1
      obtain ⟨k2, ws, rfl, rw', hw⟩ := src (K := K) hy r2
      have l1 := ru.len
      have l2 := rw'.len
      refine ⟨k1, k2, us, ws, rfl, hu _ W'.le, hw _ W'.le, q _ (xs.zip ys) W' g ⟨fun W2 e2 i hi => ?_, fun W2 e2 => ?_, fun W2 e2 i v H' hi y => ?_⟩ rfl⟩
      · have : i < min xs.length ys.length := by simpa using hi
        exact ⟨us, ws, hu _ (e2.tr W2.le), hw _ (e2.tr W2.le), by omega, by omega⟩
      · refine ⟨us, ws, hu _ (e2.tr W2.le), hw _ (e2.tr W2.le), ?_⟩
        rw [List.length_zip]; omega
      · obtain ⟨T, a, c, h1, h2, h3, h4, h5⟩ := y
        obtain ⟨d1, e3, q1⟩ := (ru.mono e2).at (h4 us (hu _ (e2.tr W2.le)))
        obtain ⟨d2, e4, q2⟩ := (rw'.mono e2).at (h5 ws (hw _ (e2.tr W2.le)))
        exact ⟨T, a, c, (d1, d2), h1, h2, h3, by rw [List.getElem?_zip_eq_some]; exact ⟨e3, e4⟩, q1, q2⟩
theorem iv_enum {s : List Nat} (h : EA ar ρ (· = [.str s])) : IV2 (iEnumS ar) ρ (· = (ixs s.length).zip (chs s)) := fun W0 W σ E R q => h W0 W σ E _ fun vs ds W' g r e => by
  subst e
  cases r with
  | cons r rr =>
    cases rr
    cases r
    have hl : ((ixs s.length).zip (chs s)).length = s.length := by simp [ixs, chs]
    refine ⟨⟨s.toArray⟩, rfl, q _ _ W' g ⟨fun W2 e2 i hi => ?_, fun W2 e2 => ?_, fun W2 e2 i v H' hi y => ?_⟩ rfl⟩
    · rw [hl] at hi
      show i < s.toArray.size
      simpa using hi
    · rw [hl]
      show s.length = s.toArray.size
      simp
    · rw [hl] at hi
      obtain ⟨T, c, h1, h2, h3, h4⟩ := y
      have h4' : s[i]? = some c := by simpa using h4
      refine ⟨T, _, _, (.int i, .str [c]), h1, h2, h3, ?_, .int _, .str [c]⟩
      rw [List.getElem?_zip_eq_some]
      exact ⟨ixs_get hi, by simp [chs, h4']⟩
end
/-! ### comprehensions -/
section
variable {ρ : List En} {te : TE} {tt : TT} {wi : TI}
/-- what stands within a comprehension -/
structure Lc (W : Wd) (Dd : Addr) (Inv : Nat → List D → Prop) (i : Nat) (H : Hp) : Prop where
  ex : ∃ (W' : Wd) (acc : List D) (ws : List V), W'.h = H ∧ Grow W W' ∧ W'.h Dd = some (.lst ws) ∧ W'.b Dd = none ∧ Reps W'.b acc ws ∧ acc.length ≤ i ∧ Inv i acc
theorem lc_step {W0 W W' : Wd} {σ : L2.St} {ρ' : List En} {Dd : Addr} {Inv : Nat → List D → Prop} {i : Nat} {acc : List D} {ws : List V} (hD : W.h Dd = none) (E : Env W0 W' σ ρ') (g : Grow W W') (h1 : W'.h Dd = some (.lst ws)) (h2 : W'.b Dd = none) (r : Reps W'.b acc ws) (hl : acc.length ≤ i) (hi : i < 100000)
    (t : ET tt ρ' fun b => if b = true then ED te ρ' fun y => Inv (i + 1) (acc ++ [y]) else Inv (i + 1) acc) :
    tt σ W'.h fun b H3 => if b = true then te σ H3 fun y H4 => ∃ acc, H4 Dd = some (.lst acc) ∧ acc.length < sizeLine ∧ Lc W Dd Inv (i + 1) (upd H4 Dd (.lst (acc ++ [y]))) else Lc W Dd Inv (i + 1) H3 := by
  refine t W0 W' σ E _ fun b W2 g2 p => ?_
  cases b with
  | false => exact iteF ⟨W2, acc, ws, rfl, g.trans g2, g2.h _ _ h1, g2.nw Dd h2 (by rw [h1]; exact fun z => nomatch z), r.mono g2.b, by omega, p⟩
  | true =>
    refine iteT (p W0 W2 σ (E.grow g2) _ fun y d W3 g3 r3 p3 => ?_)
    have k1 : W3.h Dd = some (.lst ws) := g3.h _ _ (g2.h _ _ h1)
    have k2 : W3.b Dd = none := g3.nw Dd (g2.nw Dd h2 (by rw [h1]; exact fun z => nomatch z)) (by rw [g2.h _ _ h1]; exact fun z => nomatch z)
    have hlen := r.len
    refine ⟨ws, k1, Evl.sz_lt (by omega), ⟨⟨W3.b, upd W3.h Dd (.lst (ws ++ [y])), fun a o e => ?_⟩, acc ++ [d], ws ++ [y], rfl, ⟨((g.trans g2).trans g3).b, fun a o e => ?_, ((g.trans g2).trans g3).nw⟩, upd_same, k2, (r.mono (g2.trans g3).b).app (.cons r3 .nil), by rw [List.length_append]; simp; omega, p3⟩⟩
    · show upd W3.h Dd _ a = some o
      rw [upd_ne (fun z => by rw [z, k2] at e; cases e)]; exact W3.le _ _ e
    · show upd W3.h Dd _ a = some o
      rw [upd_ne (ne_of_none e hD)]; exact ((g.trans g2).trans g3).h _ _ e
theorem set_wipe {σ : L2.St} {j : Nat} {x : Option V} : (((σ.set j none).set j x).set j none) = σ.set j none := by rw [List.set_set, List.set_set]
theorem e_lc1 {j : Nat} {T : List D → Prop} {Inv : List D → Nat → List D → Prop} (h : IV1 wi ρ T) (hn : ∀ ds, T ds → ds.length ≤ 100000) (h0 : ∀ ds, T ds → Inv ds 0 [])
    (hs : ∀ ds i d acc, T ds → ds[i]? = some d → Inv ds i acc → ET tt (ρ.set j (.dat d)) fun b => if b = true then ED te (ρ.set j (.dat d)) fun y => Inv ds (i + 1) (acc ++ [y]) else Inv ds (i + 1) acc) :
    EV (tLc wi (gName j) tt te [j]) ρ (fun e => ∃ ds acc, e = .own acc ∧ T ds ∧ Inv ds ds.length acc) := fun W0 W σ E Q q => h W0 W σ E _ fun J ds W1 g1 it t Dd hD => by
  have E1 := E.grow g1
  refine ⟨fun i m H => i ≤ ds.length ∧ m = ds.length - i ∧ Lc W1 Dd (Inv ds) i H, ⟨ds.length, Nat.zero_le _, rfl, ⟨W1.add Dd (.lst []) hD, [], [], rfl, Grow.add hD, upd_same, W1.le.none' hD, .nil, Nat.le_refl _, h0 ds t⟩⟩, ?_⟩
  rintro i m H ⟨hi, hm, ⟨W', acc, ws, rfl, g, k1, k2, r, hl, inv⟩⟩
  by_cases hlt : i < ds.length
  · refine .inr ⟨it.go W' g.b i hlt, fun H' => Lc W1 Dd (Inv ds) (i + 1) H', fun H' l => ⟨ds.length - (i + 1), by omega, hlt, rfl, l⟩, fun x H' y => ?_⟩
    obtain ⟨e, d, hd, rd⟩ := it.yld W' g.b i x H' hlt y
    subst e
    have E2 : Env W0 W' ((σ.set j none).set j (some x)) ((ρ.set j .un).set j (.dat d)) := Env.set ((E1.grow g).drop j none) (Grow.refl W') (e := .dat d) rd j
    have er : (ρ.set j .un).set j (.dat d) = ρ.set j (.dat d) := List.set_set ..
    rw [er] at E2
    exact ⟨set_wipe, lc_step hD E2 g k1 k2 r hl (by have := hn ds t; omega) (hs ds i d acc t hd inv)⟩
  · have e : i = ds.length := by omega
    subst e
    exact .inl ⟨it.stop W' g.b, q _ (.own acc) W' (g1.trans g) ⟨Dd, ws, rfl, k1, k2, g1.h.none' hD, r⟩ ⟨ds, acc, rfl, t, inv⟩⟩
theorem set_wipe2 {σ : L2.St} {j k : Nat} {x y : Option V} (hjk : j ≠ k) : ((((((σ.set k none).set j none).set j x).set k y).set k none).set j none) = (σ.set k none).set j none := by
  have a : ((σ.set k none).set j none).set j x = (σ.set k none).set j x := List.set_set ..
  have b : (((σ.set k none).set j x).set k y).set k none = ((σ.set k none).set j x).set k none := List.set_set ..
  have c : ((σ.set k none).set j x).set k none = ((σ.set k none).set k none).set j x := List.set_comm _ _ hjk
  have d : (σ.set k none).set k none = σ.set k none := List.set_set ..
  rw [a, b, c, d]
  exact List.set_set ..
theorem e_lc2 {j k : Nat} {T : List (D × D) → Prop} {Inv : List (D × D) → Nat → List D → Prop} (h : IV2 wi ρ T) (hjk : j ≠ k) (hn : ∀ ds, T ds → ds.length ≤ 100000) (h0 : ∀ ds, T ds → Inv ds 0 [])
    (hs : ∀ ds i d acc, T ds → ds[i]? = some d → Inv ds i acc → ET tt ((ρ.set j (.dat d.1)).set k (.dat d.2)) fun b => if b = true then ED te ((ρ.set j (.dat d.1)).set k (.dat d.2)) fun y => Inv ds (i + 1) (acc ++ [y]) else Inv ds (i + 1) acc) {K : PySem.W.Frag} :
    EV (tLc wi (gTup K 2 (gCons (gName j) (gCons (gName k) gNil))) tt te [j, k]) ρ (fun e => ∃ ds acc, e = .own acc ∧ T ds ∧ Inv ds ds.length acc) := fun W0 W σ E Q q => h W0 W σ E _ fun J ds W1 g1 it t Dd hD => by
  have E1 := E.grow g1
  refine ⟨fun i m H => i ≤ ds.length ∧ m = ds.length - i ∧ Lc W1 Dd (Inv ds) i H, ⟨ds.length, Nat.zero_le _, rfl, ⟨W1.add Dd (.lst []) hD, [], [], rfl, Grow.add hD, upd_same, W1.le.none' hD, .nil, Nat.le_refl _, h0 ds t⟩⟩, ?_⟩
  rintro i m H ⟨hi, hm, ⟨W', acc, ws, rfl, g, k1, k2, r, hl, inv⟩⟩
  by_cases hlt : i < ds.length
  · refine .inr ⟨it.go W' g.b i hlt, fun H' => Lc W1 Dd (Inv ds) (i + 1) H', fun H' l => ⟨ds.length - (i + 1), by omega, hlt, rfl, l⟩, fun v H' yy => ?_⟩
    obtain ⟨Tt, x, y, d, rfl, hT, rfl, hd, rx, ry⟩ := it.yld W' g.b i v H' hlt yy
    have gT := Grow.add (W := W') (o := .tup [x, y]) hT
    have neD : Dd ≠ Tt := fun z => by rw [z, hT] at k1; cases k1
    have E2 : Env W0 (W'.add Tt (.tup [x, y]) hT) (((σ.set k none).set j none).set j (some x)) (((ρ.set k .un).set j .un).set j (.dat d.1)) := Env.set ((((E1.grow g).grow gT).drop k none).drop j none) (Grow.refl _) (e := .dat d.1) rx j
    have E3 := Env.set E2 (Grow.refl _) (e := .dat d.2) ry k
    have er : ((((ρ.set k .un).set j .un).set j (.dat d.1)).set k (.dat d.2)) = ((ρ.set j (.dat d.1)).set k (.dat d.2)) := by
      rw [List.set_set, List.set_comm _ _ (show k ≠ j from hjk.symm), List.set_set]
    rw [er] at E3
    refine ⟨Tt, [x, y], rfl, sq_t upd_same, rfl, x, [y], rfl, y, [], rfl, rfl, set_wipe2 hjk, ?_⟩
    exact lc_step (W' := W'.add Tt (.tup [x, y]) hT) hD E3 (g.trans gT) (by show upd W'.h Tt _ Dd = _; rw [upd_ne neD]; exact k1) k2 r hl (by have := hn ds t; omega) (hs ds i d acc t hd inv)
  · have e : i = ds.length := by omega
    subst e
    exact .inl ⟨it.stop W' g.b, q _ (.own acc) W' (g1.trans g) ⟨Dd, ws, rfl, k1, k2, g1.h.none' hD, r⟩ ⟨ds, acc, rfl, t, inv⟩⟩
end
end Nt

namespace Nt
open PySem PySem.Spec PyProof.Rows L2
/-! ### own lists that change -/
theorem Env.mut {W0 W : Wd} {σ : L2.St} {ρ : List En} (E : Env W0 W σ ρ) {i : Nat} {ds ds' : List D} (h : ρ[i]? = some (.own ds)) :
    ∃ l vs, σ[i]? = some (some (.ref l)) ∧ W.h l = some (.lst vs) ∧ W0.h l = none ∧ Reps W.b ds vs ∧ ∀ vs', Reps W.b ds' vs' → ∃ W' : Wd, W'.b = W.b ∧ W'.h = upd W.h l (.lst vs') ∧ Env W0 W' σ (ρ.set i (.own ds')) := by
  obtain ⟨v, hv, l, vs, rfl, h1, h2, h3, h4⟩ := E.ent i _ h (fun z => nomatch z)
  refine ⟨l, vs, hv, h1, h3, h4, fun vs' r => ⟨⟨W.b, upd W.h l (.lst vs'), fun a o e => ?_⟩, rfl, rfl, ⟨⟨E.g.b, fun a o e => ?_, E.g.nw⟩, by rw [List.length_set, E.len], fun j e' hj n => ?_, fun j k e1 e2 l' a1 a2 t1 t2 a3 a4 => ?_⟩⟩⟩
  · show upd W.h l _ a = some o
    rw [upd_ne (fun z => by rw [z, h2] at e; cases e)]; exact W.le _ _ e
  · show upd W.h l _ a = some o
    rw [upd_ne (ne_of_none e h3)]; exact E.g.h _ _ e
  · rcases set_get hj with ⟨rfl, rfl, _⟩ | ⟨hne, hj⟩
    · exact ⟨_, hv, l, vs', rfl, upd_same, h2, h3, r⟩
    · obtain ⟨v', a, b⟩ := E.ent j e' hj n
      refine ⟨v', a, ?_⟩
      cases e' with
      | un => exact absurd rfl n
      | dat d => exact b
      | own es =>
        obtain ⟨l2, ws, rfl, w1, w2, w3, w4⟩ := b
        refine ⟨l2, ws, rfl, ?_, w2, w3, w4⟩
        show upd W.h l _ l2 = _
        rw [upd_ne (fun z => hne (E.apart j i _ _ l hj h rfl rfl (by rw [← z]; exact a) hv))]
        exact w1
      | dct es =>
        obtain ⟨l2, ws, rfl, w1, w2, w3, w4⟩ := b
        refine ⟨l2, ws, rfl, ?_, w2, w3, w4⟩
        show upd W.h l _ l2 = _
        rw [upd_ne (fun z => hne (E.apart j i _ _ l hj h rfl rfl (by rw [← z]; exact a) hv))]
        exact w1
  · rcases set_get a1 with ⟨q1, q, _⟩ | ⟨n1, m1⟩
    · rcases set_get a2 with ⟨q2, q', _⟩ | ⟨n2, m2⟩
      · rw [q1, q2]
      · rw [q1] at a3 ⊢
        exact E.apart i k _ _ l' h m2 rfl t2 a3 a4
    · rcases set_get a2 with ⟨q2, q', _⟩ | ⟨n2, m2⟩
      · rw [q2] at a4 ⊢
        exact E.apart j i _ _ l' m1 h t1 rfl a3 a4
      · exact E.apart j k _ _ l' m1 m2 t1 t2 a3 a4
/-- an own dict that changes -/
theorem Env.mutK {W0 W : Wd} {σ : L2.St} {ρ : List En} (E : Env W0 W σ ρ) {i : Nat} {kd kd' : List (Key × D)} (h : ρ[i]? = some (.dct kd)) :
    ∃ l kvs, σ[i]? = some (some (.ref l)) ∧ W.h l = some (.dK kvs) ∧ W0.h l = none ∧ RepK W.b kd kvs ∧ ∀ kvs', RepK W.b kd' kvs' → ∃ W' : Wd, W'.b = W.b ∧ W'.h = upd W.h l (.dK kvs') ∧ Env W0 W' σ (ρ.set i (.dct kd')) := by
  obtain ⟨v, hv, l, vs, rfl, h1, h2, h3, h4⟩ := E.ent i _ h (fun z => nomatch z)
  refine ⟨l, vs, hv, h1, h3, h4, fun vs' r => ⟨⟨W.b, upd W.h l (.dK vs'), fun a o e => ?_⟩, rfl, rfl, ⟨⟨E.g.b, fun a o e => ?_, E.g.nw⟩, by rw [List.length_set, E.len], fun j e' hj n => ?_, fun j k e1 e2 l' a1 a2 t1 t2 a3 a4 => ?_⟩⟩⟩
  · show upd W.h l _ a = some o
    rw [upd_ne (fun z => by rw [z, h2] at e; cases e)]; exact W.le _ _ e
  · show upd W.h l _ a = some o
    rw [upd_ne (ne_of_none e h3)]; exact E.g.h _ _ e
  · rcases set_get hj with ⟨rfl, rfl, _⟩ | ⟨hne, hj⟩
    · exact ⟨_, hv, l, vs', rfl, upd_same, h2, h3, r⟩
    · obtain ⟨v', a, b⟩ := E.ent j e' hj n
      refine ⟨v', a, ?_⟩
      cases e' with
      | un => exact absurd rfl n
      | dat d => exact b
      | own es =>
        obtain ⟨l2, ws, rfl, w1, w2, w3, w4⟩ := b
        refine ⟨l2, ws, rfl, ?_, w2, w3, w4⟩
        show upd W.h l _ l2 = _
        rw [upd_ne (fun z => hne (E.apart j i _ _ l hj h rfl rfl (by rw [← z]; exact a) hv))]
        exact w1
      | dct es =>
        obtain ⟨l2, ws, rfl, w1, w2, w3, w4⟩ := b
        refine ⟨l2, ws, rfl, ?_, w2, w3, w4⟩
        show upd W.h l _ l2 = _
        rw [upd_ne (fun z => hne (E.apart j i _ _ l hj h rfl rfl (by rw [← z]; exact a) hv))]
        exact w1
  · rcases set_get a1 with ⟨q1, q, _⟩ | ⟨n1, m1⟩
    · rcases set_get a2 with ⟨q2, q', _⟩ | ⟨n2, m2⟩
      · rw [q1, q2]
      · rw [q1] at a3 ⊢
        exact E.apart i k _ _ l' h m2 rfl t2 a3 a4
    · rcases set_get a2 with ⟨q2, q', _⟩ | ⟨n2, m2⟩
      · rw [q2] at a4 ⊢
        exact E.apart j i _ _ l' m1 h t1 rfl a3 a4
      · exact E.apart j k _ _ l' m1 m2 t1 t2 a3 a4
/-- an own list is asked, what comes is flat -/
theorem Env.lend {W0 W : Wd} {σ : L2.St} {ρ : List En} (E : Env W0 W σ ρ) {i : Nat} {ds : List D} (h : ρ[i]? = some (.own ds)) :
    ∃ W1 : Wd, W1.h = W.h ∧ Env W0 W1 σ (ρ.set i (.dat (.lst ds))) ∧ ∀ W2 : Wd, Grow W1 W2 → ∃ W3 : Wd, W3.h = W2.h ∧ Grow W W3 := by
  obtain ⟨W1, e1, e2, E1⟩ := E.freeze h
  have gh : ∀ W2 : Wd, Grow W1 W2 → Ex W.h W2.h := fun W2 g => by rw [← e1]; exact g.h
  exact ⟨W1, e1, E1, fun W2 g => ⟨⟨W.b, W2.h, W.le.tr (gh W2 g)⟩, rfl, ⟨Ex.rfl', gh W2 g, fun _ z _ => z⟩⟩⟩
/-! ### statements -/
structure Ps where
  N : List En → Prop
  R : En → Prop
  B : List En → Prop := fun _ => False
  C : List En → Prop := fun _ => False
def TT' (ts : TS) (ρ : List En) (p : Ps) : Prop := ∀ W0 W σ, Env W0 W σ ρ → ∀ Dd : Ends, (∀ σ' W' ρ', Env W0 W' σ' ρ' → Ex W.b W'.b → p.N ρ' → Dd.nx σ' W'.h) → (∀ v e W', Grow W0 W' → RepV W0 W' e v → p.R e → Dd.rt v W'.h) →
  (∀ σ' W' ρ', Env W0 W' σ' ρ' → Ex W.b W'.b → p.B ρ' → Dd.bk σ' W'.h) → (∀ σ' W' ρ', Env W0 W' σ' ρ' → Ex W.b W'.b → p.C ρ' → Dd.ct σ' W'.h) → ts Dd σ W.h
section
variable {K : PySem.W.Frag} {ta tb te : TE} {tt : TT} {ar : TA} {ρ : List En} {p : Ps} {t u : TS} {wi : TI} {P : En → Prop} {PD : D → Prop} {T : Bool → Prop}
theorem t_seq {M : List En → Prop} (h : TT' t ρ { p with N := M }) (k : ∀ ρ', M ρ' → TT' u ρ' p) : TT' (tSeq t u) ρ p := fun W0 W σ E Dd nx rt bk ct =>
  h W0 W σ E { Dd with nx := u Dd } (fun σ' W' ρ' E' e m => k ρ' m W0 W' σ' E' Dd (fun σ2 W2 ρ2 E2 e2 n => nx σ2 W2 ρ2 E2 (e.tr e2) n) rt (fun σ2 W2 ρ2 E2 e2 n => bk σ2 W2 ρ2 E2 (e.tr e2) n) (fun σ2 W2 ρ2 E2 e2 n => ct σ2 W2 ρ2 E2 (e.tr e2) n)) rt bk ct
theorem t_next (h : p.N ρ) : TT' tNext ρ p := fun W0 W σ E Dd nx _ _ _ => nx σ W ρ E Ex.rfl' h
theorem t_break (h : p.B ρ) : TT' tBreak ρ p := fun W0 W σ E Dd _ _ bk _ => bk σ W ρ E Ex.rfl' h
theorem t_cont (h : p.C ρ) : TT' tCont ρ p := fun W0 W σ E Dd _ _ _ ct => ct σ W ρ E Ex.rfl' h
theorem t_asg {i : Nat} (h : EV te ρ P) (k : ∀ e, P e → p.N (ρ.set i e)) : TT' (tAsg te (gName i)) ρ p := fun W0 W σ E Dd nx _ _ _ => h W0 W σ E _ fun v e W' g r q => nx _ W' _ (E.set g r i) g.b (k e q)
theorem t_asgd {i : Nat} (h : ED te ρ PD) (k : ∀ d, PD d → p.N (ρ.set i (.dat d))) : TT' (tAsg te (gName i)) ρ p := t_asg h.ev fun e ⟨d, q, r⟩ => by rw [q]; exact k d r
theorem q_asg {i : Nat} (h : EV te ρ P) (k : ∀ e, P e → TT' u (ρ.set i e) p) : TT' (tSeq (tAsg te (gName i)) u) ρ p := t_seq (M := fun ρ' => TT' u ρ' p) (t_asg h k) fun _ q => q
theorem q_asgd {i : Nat} (h : ED te ρ PD) (k : ∀ d, PD d → TT' u (ρ.set i (.dat d)) p) : TT' (tSeq (tAsg te (gName i)) u) ρ p := t_seq (M := fun ρ' => TT' u ρ' p) (t_asgd h k) fun _ q => q
theorem q_asg1 {i : Nat} {d : D} (h : ED te ρ (· = d)) (k : TT' u (ρ.set i (.dat d)) p) : TT' (tSeq (tAsg te (gName i)) u) ρ p := q_asgd h fun x e => by rw [e]; exact k
theorem q_asgo {i : Nat} {ds : List D} (h : EV te ρ (· = .own ds)) (k : TT' u (ρ.set i (.own ds)) p) : TT' (tSeq (tAsg te (gName i)) u) ρ p := q_asg h fun x e => by rw [e]; exact k
theorem t_ret (h : EV te ρ P) (k : ∀ e, P e → p.R e) : TT' (tRet te) ρ p := fun W0 W σ E Dd _ rt _ _ => h W0 W σ E _ fun v e W' g r q => rt v e W' (E.g.trans g) (r.back E.g.h) (k e q)
theorem t_retd (h : ED te ρ PD) (k : ∀ d, PD d → p.R (.dat d)) : TT' (tRet te) ρ p := t_ret h.ev fun e ⟨d, q, r⟩ => by rw [q]; exact k d r
theorem t_ret1 {d : D} (h : ED te ρ (· = d)) (k : p.R (.dat d)) : TT' (tRet te) ρ p := t_retd h fun _ e => by rw [e]; exact k
/-- an own list is handed back -/
theorem t_retO {i : Nat} {ds : List D} (h : ρ[i]? = some (.own ds)) (k : p.R (.own ds)) : TT' (tRet (tVar i)) ρ p := fun W0 W σ E Dd _ rt _ _ => by
  obtain ⟨v, a, r⟩ := E.ent i _ h (fun z => nomatch z)
  exact ⟨v, a, rt v _ W E.g r k⟩
theorem t_if (h : ET tt ρ T) (h1 : T true → TT' t ρ p) (h2 : T false → TT' u ρ p) : TT' (tIfS tt t u) ρ p := fun W0 W σ E Dd nx rt bk ct => h W0 W σ E _ fun b W' g q => by
  have f : ∀ {X : List En → Prop} {Y : L2.St → Hp → Prop}, (∀ σ' W' ρ', Env W0 W' σ' ρ' → Ex W.b W'.b → X ρ' → Y σ' W'.h) → (∀ σ' W2 ρ', Env W0 W2 σ' ρ' → Ex W'.b W2.b → X ρ' → Y σ' W2.h) := fun z σ' W2 ρ' E2 e2 x => z σ' W2 ρ' E2 (g.b.tr e2) x
  cases b with
  | true => exact iteT (h1 q W0 W' σ (E.grow g) Dd (f nx) rt (f bk) (f ct))
  | false => exact iteF (h2 q W0 W' σ (E.grow g) Dd (f nx) rt (f bk) (f ct))
theorem q_if (h : ET tt ρ T) (h1 : T true → TT' t ρ { p with N := fun ρ' => TT' u ρ' p }) (h2 : T false → TT' u ρ p) : TT' (tSeq (tIfS tt t tNext) u) ρ p :=
  t_seq (M := fun ρ' => TT' u ρ' p) (t_if h h1 fun q => t_next (h2 q)) fun _ q => q
theorem q_if1 {b : Bool} (h : ET tt ρ (· = b)) (h1 : b = true → TT' t ρ { p with N := fun ρ' => TT' u ρ' p }) (h2 : b = false → TT' u ρ p) : TT' (tSeq (tIfS tt t tNext) u) ρ p := q_if h (fun e => h1 e.symm) fun e => h2 e.symm
theorem q_ife {v : TS} (h : ET tt ρ T) (h1 : T true → TT' t ρ { p with N := fun ρ' => TT' u ρ' p }) (h2 : T false → TT' v ρ { p with N := fun ρ' => TT' u ρ' p }) : TT' (tSeq (tIfS tt t v) u) ρ p :=
  t_seq (M := fun ρ' => TT' u ρ' p) (t_if h h1 h2) fun _ q => q
theorem t_imp {p' : Ps} (h : TT' t ρ p') (n : ∀ r, p'.N r → p.N r) (r : ∀ r, p'.R r → p.R r) (b : ∀ r, p'.B r → p.B r) (c : ∀ r, p'.C r → p.C r) : TT' t ρ p := fun W0 W σ E Dd nx rt bk ct =>
  h W0 W σ E Dd (fun a b c d e f => nx a b c d e (n _ f)) (fun v e W' g q z => rt v e W' g q (r _ z)) (fun a x c d e f => bk a x c d e (b _ f)) (fun a b x d e f => ct a b x d e (c _ f))
/-- an own list is data from here on -/
theorem t_freeze {i : Nat} {ds : List D} (h : ρ[i]? = some (.own ds)) (k : TT' t (ρ.set i (.dat (.lst ds))) p) : TT' t ρ p := fun W0 W σ E Dd nx rt bk ct => by
  obtain ⟨W1, e1, e2, E1⟩ := E.freeze h
  rw [← e1]
  exact k W0 W1 σ E1 Dd (fun σ' W' ρ' E' e n => nx σ' W' ρ' E' (e2.tr e) n) rt (fun σ' W' ρ' E' e n => bk σ' W' ρ' E' (e2.tr e) n) (fun σ' W' ρ' E' e n => ct σ' W' ρ' E' (e2.tr e) n)
theorem e_lend {i : Nat} {ds : List D} (h : ρ[i]? = some (.own ds)) (k : ED te (ρ.set i (.dat (.lst ds))) PD) (f : ∀ d, PD d → d.flat = true) : ED te ρ PD := fun W0 W σ E Q q => by
  obtain ⟨W1, e1, E1, z⟩ := E.lend h
  rw [← e1]
  refine k W0 W1 σ E1 Q fun v d W2 g r pd => ?_
  obtain ⟨W3, e3, g3⟩ := z W2 g
  rw [← e3]
  exact q v d W3 g3 (r.flat (f d pd)) pd
theorem et_lend {i : Nat} {ds : List D} (h : ρ[i]? = some (.own ds)) (k : ET tt (ρ.set i (.dat (.lst ds))) T) : ET tt ρ T := fun W0 W σ E Q q => by
  obtain ⟨W1, e1, E1, z⟩ := E.lend h
  rw [← e1]
  refine k W0 W1 σ E1 Q fun b W2 g pd => ?_
  obtain ⟨W3, e3, g3⟩ := z W2 g
  rw [← e3]
  exact q b W3 g3 pd
/-! loops -/
theorem t_for1 {j : Nat} {Ti : List D → Prop} (h : IV1 wi ρ Ti) (Inv : List D → Nat → List En → Prop) (h0 : ∀ ds, Ti ds → Inv ds 0 ρ)
    (hs : ∀ ds i d ρ', Ti ds → ds[i]? = some d → Inv ds i ρ' → TT' t (ρ'.set j (.dat d)) { N := Inv ds (i + 1), R := p.R, B := p.N, C := Inv ds (i + 1) }) (hd : ∀ ds ρ', Ti ds → Inv ds ds.length ρ' → p.N ρ') : TT' (tFor wi (gName j) t) ρ p := fun W0 W σ E Dd nx rt bk ct =>
  h W0 W σ E _ fun J ds W1 g1 it ti => by
    refine ⟨fun i m σ' H => i ≤ ds.length ∧ m = ds.length - i ∧ ∃ W' ρ', W'.h = H ∧ Env W0 W' σ' ρ' ∧ Ex W1.b W'.b ∧ Inv ds i ρ', ⟨ds.length, Nat.zero_le _, rfl, W1, ρ, rfl, E.grow g1, Ex.rfl', h0 ds ti⟩, ?_⟩
    rintro i m σ' H ⟨hi, hm, W', ρ', rfl, E', e', inv⟩
    by_cases hlt : i < ds.length
    · refine .inr ⟨it.go W' e' i hlt, fun σ2 H2 => ∃ W' ρ', W'.h = H2 ∧ Env W0 W' σ2 ρ' ∧ Ex W1.b W'.b ∧ Inv ds (i + 1) ρ', fun σ2 H2 l => ⟨ds.length - (i + 1), by omega, hlt, rfl, l⟩, fun x H' y => ?_⟩
      obtain ⟨e, d, hd', rd⟩ := it.yld W' e' i x H' hlt y
      subst e
      exact hs ds i d ρ' ti hd' inv W0 W' _ (E'.set (Grow.refl W') (e := .dat d) rd j) _ (fun σ2 W2 ρ2 E2 e2 n => ⟨W2, ρ2, rfl, E2, e'.tr e2, n⟩) rt (fun σ2 W2 ρ2 E2 e2 n => nx σ2 W2 ρ2 E2 ((g1.b.tr e').tr e2) n) (fun σ2 W2 ρ2 E2 e2 n => ⟨W2, ρ2, rfl, E2, e'.tr e2, n⟩)
    · have e : i = ds.length := by omega
      subst e
      exact .inl ⟨it.stop W' e', nx σ' W' ρ' E' (g1.b.tr e') (hd ds ρ' ti inv)⟩
theorem t_while (Inv : Nat → List En → Prop) (m0 : Nat) (h0 : Inv m0 ρ)
    (hs : ∀ m ρ', Inv m ρ' → ∃ T : Bool → Prop, ET tt ρ' T ∧ (T true → TT' t ρ' { N := fun r => ∃ m', m' < m ∧ Inv m' r, R := p.R, B := p.N, C := fun r => ∃ m', m' < m ∧ Inv m' r }) ∧ (T false → p.N ρ')) : TT' (tWhile tt t) ρ p := fun W0 W σ E Dd nx rt bk ct => by
  refine ⟨fun m σ' H => ∃ W' ρ', W'.h = H ∧ Env W0 W' σ' ρ' ∧ Ex W.b W'.b ∧ Inv m ρ', ⟨m0, W, ρ, rfl, E, Ex.rfl', h0⟩, ?_⟩
  rintro m σ' H ⟨W', ρ', rfl, E', e', inv⟩
  obtain ⟨T, h, h1, h2⟩ := hs m ρ' inv
  refine h W0 W' σ' E' _ fun b W2 g2 q => ?_
  cases b with
  | true =>
    refine iteT ⟨fun σ2 H2 => ∃ m', m' < m ∧ ∃ W' ρ', W'.h = H2 ∧ Env W0 W' σ2 ρ' ∧ Ex W.b W'.b ∧ Inv m' ρ', fun σ2 H2 l => l, ?_⟩
    exact h1 q W0 W2 σ' (E'.grow g2) _ (fun σ2 W3 ρ2 E2 e2 ⟨m', a, b⟩ => ⟨m', a, W3, ρ2, rfl, E2, (e'.tr g2.b).tr e2, b⟩) rt (fun σ2 W3 ρ2 E2 e2 n => nx σ2 W3 ρ2 E2 ((e'.tr g2.b).tr e2) n) (fun σ2 W3 ρ2 E2 e2 ⟨m', a, b⟩ => ⟨m', a, W3, ρ2, rfl, E2, (e'.tr g2.b).tr e2, b⟩)
  | false => exact iteF (nx σ' W2 ρ' (E'.grow g2) (e'.tr g2.b) (h2 q))
theorem q_of {M : List En → Prop} (h : TT' t ρ { p with N := M }) (k : ∀ ρ', M ρ' → TT' u ρ' p) : TT' (tSeq t u) ρ p := t_seq h k
/-! own lists by their methods -/
theorem t_app {i : Nat} {ds : List D} (h : ρ[i]? = some (.own ds)) (he : ED te ρ PD) (hl : ds.length < 100000) (k : ∀ d, PD d → p.N (ρ.set i (.own (ds ++ [d])))) : TT' (tDrop (tBM K "list" rAppend (tVar i) (tCons te tNil))) ρ p := fun W0 W σ E Dd nx rt bk ct => by
  obtain ⟨l, vs, hv, h1, _⟩ := E.mut (ds' := []) h
  refine ⟨.ref l, hv, .inl ⟨rfl, _, sq_l h1⟩, ?_⟩
  refine he W0 W σ E _ fun v d W1 g1 r1 pd => ?_
  obtain ⟨l', vs', hv', h1', _, r', z⟩ := (E.grow g1).mut (ds' := ds ++ [d]) h
  rw [hv] at hv'
  cases hv'
  obtain ⟨W2, e1, e2, E2⟩ := z (vs' ++ [v]) (r'.app (.cons r1 .nil))
  have hlen := r'.len
  refine ⟨l, vs', v, rfl, rfl, h1', Evl.sz_lt (by omega), ?_⟩
  rw [← e2]
  exact nx σ W2 _ E2 (by rw [e1]; exact g1.b) (k d pd)
theorem t_pop {i j : Nat} {ds : List D} {d : D} (h : ρ[i]? = some (.own ds)) (hd : ds[ds.length - 1]? = some d) (k : p.N ((ρ.set i (.own ds.dropLast)).set j (.dat d))) : TT' (tAsg (tBM0 K "list" rPop (tVar i)) (gName j)) ρ p := fun W0 W σ E Dd nx rt bk ct => by
  obtain ⟨l, vs, hv, h1, _, r, z⟩ := E.mut (ds' := ds.dropLast) h
  obtain ⟨v, q1, q2⟩ := r.get hd
  obtain ⟨W2, e1, e2, E2⟩ := z vs.dropLast (by rw [List.dropLast_eq_take, List.dropLast_eq_take, r.len]; exact r.take _)
  refine ⟨.ref l, hv, .inl ⟨rfl, _, sq_l h1⟩, l, vs, v, rfl, rfl, h1, by rw [r.len]; exact q1, ?_⟩
  rw [← e2]
  exact nx _ W2 _ (E2.set (Grow.refl W2) (e := .dat d) (by show Rep W2.b d v; rw [e1]; exact q2) j) (by rw [e1]; exact Ex.rfl') k
theorem reps_erase {H : Hp} : ∀ {ds : List D} {vs : List V} (k : Nat), Reps H ds vs → Reps H (ds.eraseIdx k) (vs.eraseIdx k)
  | _, _, 0, .nil => .nil
  | _, _, k + 1, .nil => .nil
  | _, _, 0, .cons _ r => r
  | _, _, k + 1, .cons h r => .cons h (reps_erase k r)
/-- found.append(rest.pop(k)) -/
theorem t_apop {i j : Nat} {xs ys : List D} (hij : i ≠ j) (hi : ρ[i]? = some (.own xs)) (hj : ρ[j]? = some (.own ys)) (ha : EA ar ρ (fun ds => ∃ k : Nat, ds = [.int k] ∧ k < ys.length)) (hl : xs.length < 100000) (hl2 : ys.length ≤ 100000)
    (k : ∀ (k : Nat) y, ys[k]? = some y → p.N ((ρ.set j (.own (ys.eraseIdx k))).set i (.own (xs ++ [y])))) : TT' (tDrop (tBM K "list" rAppend (tVar i) (tCons (tBM K "list" rPopAt (tVar j) ar) tNil))) ρ p := fun W0 W σ E Dd nx rt bk ct => by
  obtain ⟨l, vs, hv, h1, _⟩ := E.mut (ds' := []) hi
  obtain ⟨l2, vs2, hv2, h2, _⟩ := E.mut (ds' := []) hj
  refine ⟨.ref l, hv, .inl ⟨rfl, _, sq_l h1⟩, .ref l2, hv2, .inl ⟨rfl, _, sq_l h2⟩, ?_⟩
  refine ha W0 W σ E _ fun ws ds W1 g1 r1 ⟨n, e, hn⟩ => ?_
  subst e
  cases r1 with
  | cons ra rr =>
    cases rr
    cases ra
    have hy : ys[n]? = some ys[n] := List.getElem?_eq_getElem hn
    obtain ⟨l', us, hu, q1, _, rj, z⟩ := (E.grow g1).mut (ds' := ys.eraseIdx n) hj
    rw [hv2] at hu
    cases hu
    obtain ⟨y, e3, ry⟩ := rj.get hy
    obtain ⟨W2, a1, a2, E2⟩ := z _ (reps_erase n rj)
    have hlen := rj.len
    refine ⟨l2, us, n, n, y, rfl, rfl, q1, by omega, by omega, ?_, e3, ?_⟩
    · rw [seqIndex_of (by omega) (by omega)]
      simp
    · have hi' : (ρ.set j (.own (ys.eraseIdx n)))[i]? = some (.own xs) := by rw [List.getElem?_set_ne hij.symm]; exact hi
      obtain ⟨l4, us4, hu4, q4, _, r4, z4⟩ := E2.mut (ds' := xs ++ [ys[n]]) hi'
      rw [hv] at hu4
      cases hu4
      have hlen4 := r4.len
      rw [a2] at q4
      obtain ⟨W3, b1, b2, E3⟩ := z4 (us4 ++ [y]) (r4.app (.cons (by rw [a1]; exact ry) .nil))
      refine ⟨l, us4, y, rfl, rfl, q4, Evl.sz_lt (by omega), ?_⟩
      rw [← a2, ← b2]
      exact nx σ W3 _ E3 (by rw [b1, a1]; exact g1.b) (k n _ hy)
/-! two at once -/
theorem t_par {i j : Nat} {P1 P2 : En → Prop} (h1 : EV ta ρ P1) (h2 : EV tb ρ P2) (k : ∀ a b, P1 a → P2 b → p.N ((ρ.set i a).set j b)) : TT' (tPar i j (tCons ta (tCons tb tNil))) ρ p := fun W0 W σ E Dd nx rt bk ct =>
  h1 W0 W σ E _ fun v a W1 g1 r1 p1 => h2 W0 W1 σ (E.grow g1) _ fun w b W2 g2 r2 p2 => ⟨v, w, rfl, nx _ W2 _ ((E.set g1 r1 i).set g2 r2 j) (g1.b.tr g2.b) (k a b p1 p2)⟩
theorem t_unp {i j : Nat} {Q2 : D → D → Prop} (h : ED te ρ (fun d => ∃ x y, d = .tup [x, y] ∧ Q2 x y)) (k : ∀ x y, Q2 x y → p.N ((ρ.set i (.dat x)).set j (.dat y))) : TT' (tAsg te (gTup K 2 (gCons (gName i) (gCons (gName j) gNil)))) ρ p := fun W0 W σ E Dd nx rt bk ct =>
  h W0 W σ E _ fun v d W1 g1 r1 ⟨x, y, e, q⟩ => by
    subst e
    cases r1 with
    | tup ha hr =>
      rename_i a ws
      cases hr with
      | cons rx rr =>
        cases rr with
        | cons ry rr =>
          cases rr
          refine ⟨a, _, rfl, sq_t (W1.le _ _ ha), rfl, _, _, rfl, _, _, rfl, rfl, ?_⟩
          exact nx _ W1 _ ((E.set g1 (e := .dat x) rx i).set (Grow.refl W1) (e := .dat y) ry j) g1.b (k x y q)
theorem t_drop (h : EV te ρ P) (k : p.N ρ) : TT' (tDrop te) ρ p := fun W0 W σ E Dd nx _ _ _ => h W0 W σ E _ fun v e W' g r q => nx σ W' ρ (E.grow g) g.b k
end
/-! ### a def by its body -/
theorem fn_body {Rg : List D → (En → Prop) → Prop} {N : List Str} {vs : List V} {H : Hp} {Q : VK} {X : XK} {t : TS} (h : SpE Rg vs H Q X) (hn : vs.length ≤ N.length)
    (k : ∀ ds P, Rg ds P → ds.length = vs.length → TT' t (ds.map En.dat ++ List.replicate (N.length - ds.length) .un) { N := fun _ => P (.dat .non), R := P }) : t { nx := fun _ H' => Q .non H', rt := Q } (start N vs) H := by
  obtain ⟨W, ds, P, rfl, r, hr, q⟩ := h
  have hl := r.len
  refine k ds P hr hl.symm W W (start N vs) ⟨Grow.refl W, ?_, fun i e hi hne => ?_, fun i j e1 e2 l h1 _ t1 _ _ _ => ?_⟩ _ (fun σ' W' ρ' E' _ n => q .non (.dat .non) W' E'.g (show Rep W'.b .non .non from .non) n) (fun v e W' g r n => q v e W' g r n) (fun _ _ _ _ _ z => z.elim) (fun _ _ _ _ _ z => z.elim)
  · simp [L2.start]; omega
  · rcases Nat.lt_or_ge i ds.length with hlt | hge
    · rw [List.getElem?_append_left (by simpa using hlt), List.getElem?_map] at hi
      have hd : ds[i]? = some ds[i] := List.getElem?_eq_getElem hlt
      rw [hd] at hi
      cases hi
      obtain ⟨v, hv, rv⟩ := r.get hd
      refine ⟨v, ?_, rv⟩
      unfold L2.start
      rw [List.getElem?_append_left (by simp; omega), List.getElem?_map, hv]
      rfl
    · rw [List.getElem?_append_right (by simpa using hge), List.getElem?_replicate] at hi
      split at hi
      · cases hi; exact absurd rfl hne
      · cases hi
  · rcases Nat.lt_or_ge i ds.length with hlt | hge
    · rw [List.getElem?_append_left (by simpa using hlt), List.getElem?_map] at h1
      have hd : ds[i]? = some ds[i] := List.getElem?_eq_getElem hlt
      rw [hd] at h1
      cases h1
      cases t1
    · rw [List.getElem?_append_right (by simpa using hge), List.getElem?_replicate] at h1
      split at h1 <;> cases h1
      cases t1
end Nt

namespace Nt
open PySem PySem.Spec PyProof.Rows L2
/-! ### operations that serve several kinds -/
theorem OpR.or {X : Cx} {f : Value → Value → Sem Value} {r r' : R2} (h : OpR X f r) (h' : OpR X f r') : OpR X f (fun x y H Q => r x y H Q ∨ r' x y H Q) := fun pins s σ H x y v u Q I a b q => q.elim (h pins s σ H x y v u Q I a b) (h' pins s σ H x y v u Q I a b)
theorem CallR.or {X : Cx} {f : Value} {r r' : List V → Hp → VK → Prop} (h : CallR X f r) (h' : CallR X f r') : CallR X f (fun x H Q => r x H Q ∨ r' x H Q) := fun pins s σ H xs us Q I a q => q.elim (h pins s σ H xs us Q I a) (h' pins s σ H xs us Q I a)
def rAddI : R2 := rI0 fun i j => .int (i + j)
def rAddS : R2 := fun x y H Q => ∃ i j : Str, x = .str i ∧ y = .str j ∧ i.length + j.length ≤ sizeLine ∧ Q (.str (i ++ j)) H
def rPlus : R2 := fun x y H Q => rAddI x y H Q ∨ rAddS x y H Q ∨ rCat x y H Q
theorem op_plus {X : Cx} : OpR X (binaryOp .Add) rPlus := OpR.or op_add (OpR.or op_add_str op_cat)
def rMulS : R2 := fun x y H Q => ∃ (z : Str) (n : Int), x = .str z ∧ y = .int n ∧ 0 ≤ n ∧ n ≤ 100000 ∧ z.length ≤ 100 ∧ Q (.str ⟨((List.replicate n.toNat z.cps.toList).flatten).toArray⟩) H
theorem foldl_cat (z : Array Nat) : ∀ (n : Nat) (acc : Array Nat), ((List.replicate n z).foldl (· ++ ·) acc).toList = acc.toList ++ (List.replicate n z.toList).flatten
  | 0, acc => by simp
  | n + 1, acc => by
    rw [List.replicate_succ, List.foldl_cons, foldl_cat z n, List.replicate_succ, List.flatten_cons]
    simp
theorem txt_mul (z : Str) (n : Int) (h : 0 ≤ n) : Txt.mul z n = ⟨((List.replicate n.toNat z.cps.toList).flatten).toArray⟩ := by
  unfold Txt.mul
  by_cases h1 : n < 1
  · have e : n = 0 := by omega
    subst e
    rw [if_pos (by omega)]
    rfl
  · rw [if_neg h1]
    by_cases h2 : (n == 1 || z.length == 0) = true
    · rw [if_pos h2]
      rw [Bool.or_eq_true, beq_iff_eq, beq_iff_eq] at h2
      rcases h2 with e | e
      · subst e
        obtain ⟨c⟩ := z
        simp [List.replicate]
      · obtain ⟨c⟩ := z
        have e' : c = #[] := Array.eq_empty_of_size_eq_zero e
        subst e'
        have : ∀ m : Nat, (List.replicate m ([] : List Nat)).flatten = [] := fun m => by simp
        simp [this]
    · rw [if_neg h2]
      congr 1
      apply Array.ext'
      rw [foldl_cat]
      simp
theorem op_mulS {X : Cx} : OpR X (binaryOp .Mult) rMulS := by
  intro pins s σ H x y v u Q I rx ry ⟨z, n, e1, e2, h0, h1, h2, q⟩
  subst e1 e2
  obtain ⟨t, rfl⟩ := rx
  obtain ⟨t', rfl⟩ := ry
  have hz : ∀ m : Nat, m ≤ 100000 → Builtin.Str.tooLong (z.length * m) = false := fun m hm => by
    have : z.length * m ≤ 100 * 100000 := Nat.mul_le_mul h2 hm
    unfold Builtin.Str.tooLong
    simp only [decide_eq_false_iff_not, sizeLine_eq]
    omega
  refine PySem.SB.mul ⟨?_, fun a b => ?_, fun a b => hz _ (by omega)⟩ fun t2 k => ⟨.str (Txt.mul z n), H, I.tok _, ⟨t2, rfl⟩, by rw [txt_mul z n h0]; exact q⟩
  · simp only [Bool.or_eq_false_iff, decide_eq_false_iff_not]; constructor <;> omega
  · have h3 : (100 : Int) ≤ (2 ^ 63 - 1) / n := (Int.le_ediv_iff_mul_le (by omega)).mpr (by omega)
    omega
def rTimes : R2 := fun x y H Q => rI CMulW (fun i j => .int (i * j)) x y H Q ∨ rMulS x y H Q ∨ rI CMul (fun i j => .int (i * j)) x y H Q
theorem op_times {X : Cx} : OpR X (binaryOp .Mult) rTimes := OpR.or op_mulW (OpR.or op_mulS op_mul)
def rEqU (K : PySem.W.Frag) : R2 := fun x y H Q => rEq x y H Q ∨ rEqD K x y H Q
def rNeU (K : PySem.W.Frag) : R2 := fun x y H Q => rNe x y H Q ∨ rNeD K x y H Q
theorem op_eqU {X : Cx} (hu : X.A.units + 64 < cLine) : OpR X (compareOp .Eq) (rEqU X.K) := OpR.or op_eq (op_eqD hu)
theorem op_neU {X : Cx} (hu : X.A.units + 64 < cLine) : OpR X (compareOp .NotEq) (rNeU X.K) := OpR.or op_ne (op_neD hu)
def rSgn (neg : Bool) : R2 := fun x y H Q => ∃ (c : Nat) (z : Str), x = .str ⟨#[c]⟩ ∧ y = .str z ∧ Q (.bl (if neg then !decide (c ∈ z.cps.toList) else decide (c ∈ z.cps.toList))) H
def rInU (K : PySem.W.Frag) (neg : Bool) : R2 := fun x y H Q => rSgn neg x y H Q ∨ rIn K neg x y H Q
theorem op_inU {X : Cx} : OpR X (compareOp .In) (rInU X.K false) := OpR.or op_in_sign op_in_seq
theorem op_notInU {X : Cx} : OpR X (compareOp .NotIn) (rInU X.K true) := OpR.or op_notIn_sign op_notIn_seq
def rLenQ (K : PySem.W.Frag) : List V → Hp → VK → Prop := fun xs H Q => ∃ (p : Addr) (ys : List V), xs = [.ref p] ∧ (SqL K H p ys ∨ SqT K H p ys) ∧ Q (.int ys.length) H
def rLenT : List V → Hp → VK → Prop := fun xs H Q => ∃ z : Str, xs = [.str z] ∧ z.length ≤ sizeLine ∧ Q (.int z.length) H
def rLenU (K : PySem.W.Frag) : List V → Hp → VK → Prop := fun xs H Q => rLenQ K xs H Q ∨ rLenT xs H Q
theorem call_lenU {X : Cx} : CallR X (.builtin "len") (rLenU X.K) := CallR.or call_len_seq call_len_str
def rSlU (K : PySem.W.Frag) : V → Option Int → Option Int → Hp → VK → Prop := fun x lo hi H Q => rSlL K x lo hi H Q ∨ rSlS x lo hi H Q ∨ L2.rSlT K x lo hi H Q
theorem sl_U {X : Cx} : L2.SlR X (rSlU X.K) := L2.SlR.or sl_list (L2.SlR.or sl_str L2.sl_tup)
/-! ### .. told over data -/
section
variable {K : PySem.W.Frag} {P : En → Prop}
theorem dat1 {W : Wd} {d : D} {v : V} {Q : VK} (r : Rep W.b d v) (q : ∀ u e W', Grow W W' → RepV W W' e u → e = .dat d → Q u W'.h) : Q v W.h := q v (.dat d) W (Grow.refl W) r rfl
theorem own1 {W : Wd} {ds : List D} {vs : List V} {Q : VK} (r : Reps W.b ds vs) (q : ∀ u e W', Grow W W' → RepV W W' e u → e = .own ds → Q u W'.h) : ∀ p, W.h p = none → Q (.ref p) (upd W.h p (.lst vs)) := fun p hp => by
  obtain ⟨a, b⟩ := new_own (Grow.refl W) hp r
  exact q (.ref p) (.own ds) _ a b rfl
theorem od_addI {i j : Int} : OD rPlus (.int i) (.int j) (· = .dat (.int (i + j))) := fun W v w a b Q q => by
  cases a; cases b
  exact .inl ⟨i, j, rfl, rfl, dat1 (.int (i + j)) q⟩
theorem tx_len (s : List Nat) : (⟨s.toArray⟩ : Str).length = s.length := by simp [Str.length]
theorem od_addS {i j : List Nat} (h : i.length + j.length ≤ 100000) : OD rPlus (.str i) (.str j) (· = .dat (.str (i ++ j))) := fun W v w a b Q q => by
  cases a; cases b
  refine .inr (.inl ⟨_, _, rfl, rfl, Evl.sz_of (by rw [tx_len, tx_len]; exact h), ?_⟩)
  have e : (⟨i.toArray⟩ : Str) ++ (⟨j.toArray⟩ : Str) = ⟨(i ++ j).toArray⟩ := by
    show (⟨i.toArray ++ j.toArray⟩ : Str) = _
    simp
  rw [e]
  exact dat1 (.str (i ++ j)) q
theorem od_addL {i j : List D} (h : i.length + j.length ≤ 100000) : OD rPlus (.lst i) (.lst j) (· = .own (i ++ j)) := fun W v w a b Q q => by
  cases a with
  | lst ha ra =>
    cases b with
    | lst hb rb => exact .inr (.inr ⟨_, _, _, _, rfl, rfl, W.le _ _ ha, W.le _ _ hb, Evl.sz_of (by rw [ra.len, rb.len]; exact h), own1 (ra.app rb) q⟩)
theorem od_subI {i j : Int} : OD (rI0 fun i j => .int (i - j)) (.int i) (.int j) (· = .dat (.int (i - j))) := fun W v w a b Q q => by
  cases a; cases b
  exact ⟨i, j, rfl, rfl, dat1 (.int (i - j)) q⟩
theorem od_mulI {i j : Int} (h : CMulW i j) : OD rTimes (.int i) (.int j) (· = .dat (.int (i * j))) := fun W v w a b Q q => by
  cases a; cases b
  exact .inl ⟨i, j, rfl, rfl, h, dat1 (.int (i * j)) q⟩
theorem od_mulS {s : List Nat} {n : Int} (h0 : 0 ≤ n) (h1 : n ≤ 100000) (h2 : s.length ≤ 100) : OD rTimes (.str s) (.int n) (· = .dat (.str (List.replicate n.toNat s).flatten)) := fun W v w a b Q q => by
  cases a; cases b
  exact .inr (.inl ⟨_, n, rfl, rfl, h0, h1, by rw [tx_len]; exact h2, dat1 (.str (List.replicate n.toNat s).flatten) q⟩)
theorem od_modI {i j : Int} (h : j ≠ 0) : OD (rI (fun _ j => j ≠ 0) fun i j => .int (i.fmod j)) (.int i) (.int j) (· = .dat (.int (i.fmod j))) := fun W v w a b Q q => by
  cases a; cases b
  exact ⟨i, j, rfl, rfl, h, dat1 (.int (i.fmod j)) q⟩
theorem od_divI {i j : Int} (h : CDivW i j) : OD (rI CDivW fun i j => .int (i / j)) (.int i) (.int j) (· = .dat (.int (i / j))) := fun W v w a b Q q => by
  cases a; cases b
  exact ⟨i, j, rfl, rfl, h, dat1 (.int (i / j)) q⟩
theorem od_lt {i j : Int} : OD (rI0 fun i j => .bl (decide (i < j))) (.int i) (.int j) (· = .dat (.bl (decide (i < j)))) := fun W v w a b Q q => by
  cases a; cases b
  exact ⟨i, j, rfl, rfl, dat1 (.bl _) q⟩
theorem od_gt {i j : Int} : OD (rI0 fun i j => .bl (decide (j < i))) (.int i) (.int j) (· = .dat (.bl (decide (j < i)))) := fun W v w a b Q q => by
  cases a; cases b
  exact ⟨i, j, rfl, rfl, dat1 (.bl _) q⟩
theorem od_le {i j : Int} : OD (rI0 fun i j => .bl (decide (i ≤ j))) (.int i) (.int j) (· = .dat (.bl (decide (i ≤ j)))) := fun W v w a b Q q => by
  cases a; cases b
  exact ⟨i, j, rfl, rfl, dat1 (.bl _) q⟩
theorem od_ge {i j : Int} : OD (rI0 fun i j => .bl (decide (j ≤ i))) (.int i) (.int j) (· = .dat (.bl (decide (j ≤ i)))) := fun W v w a b Q q => by
  cases a; cases b
  exact ⟨i, j, rfl, rfl, dat1 (.bl _) q⟩
theorem tx_inj {a b : List Nat} : (tx a = tx b) ↔ a = b := by
  constructor
  · intro h
    have h' := V.str.inj h
    have := congrArg (fun z : Str => z.cps.toList) h'
    simpa using this
  · intro h; rw [h]
theorem od_eqS {a b : List Nat} : OD (rEqU K) (.str a) (.str b) (· = .dat (.bl (decide (a = b)))) := fun W v w r r' Q q => by
  cases r; cases r'
  refine .inl ⟨rfl, ?_⟩
  have e : decide (tx a = tx b) = decide (a = b) := decide_eq_decide.mpr tx_inj
  rw [e]
  exact dat1 (.bl _) q
theorem od_neS {a b : List Nat} : OD (rNeU K) (.str a) (.str b) (· = .dat (.bl (!decide (a = b)))) := fun W v w r r' Q q => by
  cases r; cases r'
  refine .inl ⟨rfl, ?_⟩
  have e : decide (tx a = tx b) = decide (a = b) := decide_eq_decide.mpr tx_inj
  rw [e]
  exact dat1 (.bl _) q
theorem od_eqI {a b : Int} : OD (rEqU K) (.int a) (.int b) (· = .dat (.bl (decide (a = b)))) := fun W v w r r' Q q => by
  cases r; cases r'
  refine .inl ⟨rfl, ?_⟩
  have e : decide (V.int a = V.int b) = decide (a = b) := decide_eq_decide.mpr ⟨V.int.inj, congrArg _⟩
  rw [e]
  exact dat1 (.bl _) q
theorem od_neI {a b : Int} : OD (rNeU K) (.int a) (.int b) (· = .dat (.bl (!decide (a = b)))) := fun W v w r r' Q q => by
  cases r; cases r'
  refine .inl ⟨rfl, ?_⟩
  have e : decide (V.int a = V.int b) = decide (a = b) := decide_eq_decide.mpr ⟨V.int.inj, congrArg _⟩
  rw [e]
  exact dat1 (.bl _) q
theorem od_eqB {a b : Bool} : OD (rEqU K) (.bl a) (.bl b) (· = .dat (.bl (decide (a = b)))) := fun W v w r r' Q q => by
  cases r; cases r'
  refine .inl ⟨rfl, ?_⟩
  have e : decide (V.bl a = V.bl b) = decide (a = b) := decide_eq_decide.mpr ⟨V.bl.inj, congrArg _⟩
  rw [e]
  exact dat1 (.bl _) q
theorem od_neB {a b : Bool} : OD (rNeU K) (.bl a) (.bl b) (· = .dat (.bl (!decide (a = b)))) := fun W v w r r' Q q => by
  cases r; cases r'
  refine .inl ⟨rfl, ?_⟩
  have e : decide (V.bl a = V.bl b) = decide (a = b) := decide_eq_decide.mpr ⟨V.bl.inj, congrArg _⟩
  rw [e]
  exact dat1 (.bl _) q
/-- flat data read as the library's data -/
def D.py : D → PyData
  | .bl b => .bool b
  | .int i => .int i
  | .str s => .str ⟨s.toArray⟩
  | _ => .none
theorem py_dp {H H' : Hp} {d : D} {v : V} (f : d.flat = true) (r : Rep H d v) : Dp K H' v d.py := by
  cases r with
  | non => exact .non
  | bl b => exact .bl b
  | int i => exact .int i
  | str s => exact .str _
  | tup _ _ => cases f
  | lst _ _ => cases f
  | bag _ _ _ => cases f
  | scr _ => cases f
  | dic _ _ => cases f
  | obj _ _ => cases f
theorem py_dpall {H H' : Hp} : ∀ {ds : List D} {vs : List V}, (∀ d ∈ ds, d.flat = true) → Reps H ds vs → DpAll K H' vs (ds.map D.py)
  | _, _, _, .nil => .nil
  | _, _, f, .cons h r => .cons (py_dp (f _ List.mem_cons_self) h) (py_dpall (fun d hd => f d (List.mem_cons_of_mem _ hd)) r)
/-- flat, its signs signs -/
def D.ok : D → Bool
  | .non | .bl _ | .int _ => true
  | .str s => s.all (· < 0x110000)
  | _ => false
theorem D.ok.fl {d : D} (h : d.ok = true) : d.flat = true := by
  cases d with
  | tup _ => cases h
  | lst _ => cases h
  | bag => cases h
  | scr _ _ => cases h
  | dic _ => cases h
  | obj _ => cases h
  | _ => rfl
theorem py_lay {d : D} (h : d.ok = true) : d.py.canLay0 = true := by
  cases d with
  | str s =>
    show PyData.strOk _ = true
    unfold PyData.strOk
    simpa [D.ok] using h
  | _ => rfl
theorem py_layAll : ∀ ds : List D, (∀ d ∈ ds, d.ok = true) → PyData.canLayAll0 (ds.map D.py) = true
  | [], _ => rfl
  | d :: ds, h => by
    show (d.py.canLay0 && PyData.canLayAll0 (ds.map D.py)) = true
    rw [py_lay (h d List.mem_cons_self), py_layAll ds fun x hx => h x (List.mem_cons_of_mem _ hx)]; rfl
theorem py_depth (d : D) : d.py.depth = 0 := by cases d <;> rfl
theorem py_depthAll : ∀ ds : List D, PyData.depthAll (ds.map D.py) = 0
  | [] => rfl
  | d :: ds => by
    show max d.py.depth (PyData.depthAll (ds.map D.py)) = 0
    rw [py_depth, py_depthAll ds]; rfl
theorem py_shaped (ds : List D) (h : ∀ d ∈ ds, d.ok = true) : SeqAt.shaped (.list (ds.map D.py)) = true := by
  unfold SeqAt.shaped
  have h1 : PyData.canLay0 (.list (ds.map D.py)) = true := py_layAll ds h
  have h2 : PyData.depth (.list (ds.map D.py)) = PyData.depthAll (ds.map D.py) + 1 := rfl
  rw [h1, h2, py_depthAll]; rfl
theorem eqv_nil (ds : List D) : PyData.eqv (.list (ds.map D.py)) (.list []) = ds.isEmpty := by
  cases ds with
  | nil => rfl
  | cons d ds => rfl
/-- a list of flat data against the empty one -/
theorem od_eqN {ds : List D} (f : ∀ d ∈ ds, d.ok = true) : OD (rEqU K) (.lst ds) (.lst []) (· = .dat (.bl ds.isEmpty)) := fun W v w r r' Q q => by
  cases r with
  | lst ha ra =>
    cases r' with
    | lst hb rb =>
      cases rb
      refine .inr ⟨.list (ds.map D.py), .list [], .lst (sq_l (W.le _ _ ha)) (py_dpall (fun d hd => D.ok.fl (f d hd)) ra), .lst (sq_l (W.le _ _ hb)) .nil, py_shaped ds f, rfl, ?_⟩
      rw [eqv_nil]
      exact dat1 (.bl _) q
theorem od_neN {ds : List D} (f : ∀ d ∈ ds, d.ok = true) : OD (rNeU K) (.lst ds) (.lst []) (· = .dat (.bl (!ds.isEmpty))) := fun W v w r r' Q q => by
  cases r with
  | lst ha ra =>
    cases r' with
    | lst hb rb =>
      cases rb
      refine .inr ⟨.list (ds.map D.py), .list [], .lst (sq_l (W.le _ _ ha)) (py_dpall (fun d hd => D.ok.fl (f d hd)) ra), .lst (sq_l (W.le _ _ hb)) .nil, py_shaped ds f, rfl, ?_⟩
      rw [eqv_nil]
      exact dat1 (.bl _) q
theorem od_sgn {neg : Bool} {c : Nat} {s : List Nat} : OD (rInU K neg) (.str [c]) (.str s) (· = .dat (.bl (if neg then !decide (c ∈ s) else decide (c ∈ s)))) := fun W v w r r' Q q => by
  cases r; cases r'
  refine .inl ⟨c, _, rfl, rfl, ?_⟩
  show Q (V.bl (if neg then !decide (c ∈ s) else decide (c ∈ s))) W.h
  exact dat1 (.bl _) q
theorem eqV_tx (a b : List Nat) : eqV (tx a) (tx b) = decide (a = b) := by
  show ((⟨a.toArray⟩ : Str) == (⟨b.toArray⟩ : Str)) = decide (a = b)
  have : (⟨a.toArray⟩ : Str) = (⟨b.toArray⟩ : Str) ↔ a = b := by
    constructor
    · intro h; have := congrArg (fun z : Str => z.cps.toList) h; simpa using this
    · intro h; rw [h]
  by_cases h : a = b
  · subst h; simp
  · have h' : ¬ (⟨a.toArray⟩ : Str) = (⟨b.toArray⟩ : Str) := fun z => h (this.mp z)
    simp [h]
theorem in_txs {H : Hp} {s : List Nat} : ∀ {xs : List (List Nat)} {vs : List V}, Reps H (xs.map D.str) vs → inV (tx s) vs = decide (s ∈ xs) ∧ vs.all flatV = true
  | [], _, .nil => ⟨by simp [inV], rfl⟩
  | x :: xs, _, .cons h r => by
    obtain ⟨a, b⟩ := in_txs r
    cases h
    constructor
    · show (eqV (tx x) (tx s) || inV (tx s) _) = _
      rw [a, eqV_tx]
      by_cases e : x = s
      · subst e; simp
      · have e' : ¬ s = x := fun z => e z.symm
        simp [e, e']
    · show (true && _) = true
      rw [b]; rfl
/-- a text in a list of texts -/
theorem od_inL {neg : Bool} {s : List Nat} {xs : List (List Nat)} : OD (rInU K neg) (.str s) (.lst (xs.map D.str)) (· = .dat (.bl (if neg then !decide (s ∈ xs) else decide (s ∈ xs)))) := fun W v w r r' Q q => by
  cases r
  cases r' with
  | lst hb rb =>
    obtain ⟨a, b⟩ := in_txs (s := s) rb
    refine .inr ⟨_, _, rfl, .inl (sq_l (W.le _ _ hb)), rfl, b, ?_⟩
    rw [a]
    exact dat1 (.bl _) q
theorem atI_of {α : Type} {xs : List α} {i : Int} {j : Nat} {v : α} (e : i = (j : Int)) (h : xs[j]? = some v) : atI xs i = some v := by subst e; exact atI_nat h
theorem od_ixL {ds : List D} {i : Int} {j : Nat} {d : D} (e : i = (j : Int)) (h : ds[j]? = some d) : OD (rIx K) (.lst ds) (.int i) (· = .dat d) := fun W v w r r' Q q => by
  cases r'
  cases r with
  | lst ha ra =>
    obtain ⟨u, h1, h2⟩ := ra.get h
    exact .inl ⟨_, _, i, u, rfl, rfl, sq_l (W.le _ _ ha), atI_of e h1, dat1 h2 q⟩
theorem od_ixT {ds : List D} {i : Int} {j : Nat} {d : D} (e : i = (j : Int)) (h : ds[j]? = some d) : OD (rIx K) (.tup ds) (.int i) (· = .dat d) := fun W v w r r' Q q => by
  cases r'
  cases r with
  | tup ha ra =>
    obtain ⟨u, h1, h2⟩ := ra.get h
    exact .inr (.inl ⟨_, _, i, u, rfl, rfl, sq_t (W.le _ _ ha), atI_of e h1, dat1 h2 q⟩)
theorem od_ixS {s : List Nat} {i : Int} {j : Nat} {c : Nat} (e : i = (j : Int)) (h : s[j]? = some c) (hl : s.length ≤ 100000) : OD (rIx K) (.str s) (.int i) (· = .dat (.str [c])) := fun W v w r r' Q q => by
  cases r'
  cases r
  exact .inr (.inr ⟨_, i, c, rfl, rfl, Evl.sz_of (by rw [tx_len]; exact hl), atI_of e h, dat1 (.str [c]) q⟩)
theorem od_ixLlast {ds : List D} {d : D} (h : ds[ds.length - 1]? = some d) : OD (rIx K) (.lst ds) (.int (-1)) (· = .dat d) := fun W v w r r' Q q => by
  cases r'
  cases r with
  | lst ha ra =>
    rename_i a ws
    obtain ⟨u, h1, h2⟩ := ra.get h
    rw [← ra.len] at h1
    refine .inl ⟨a, ws, -1, u, rfl, rfl, sq_l (W.le _ _ ha), ?_, dat1 h2 q⟩
    have hl := (List.getElem?_eq_some_iff.mp h1).1
    have e : ws = ws.dropLast ++ [u] := by
      have hne : ws ≠ [] := fun z => by rw [z] at hl; simp at hl
      have h3 := List.dropLast_concat_getLast hne
      have h4 : ws.getLast hne = u := by
        rw [List.getLast_eq_getElem]
        have := List.getElem?_eq_some_iff.mp h1
        exact this.2
      rw [h4] at h3
      exact h3.symm
    rw [e]
    exact atI_last _ _
theorem cd_lenL {ds : List D} : CD (rLenU K) [.lst ds] (· = .dat (.int ds.length)) := fun W vs r Q q => by
  cases r with
  | cons r rr =>
    cases rr
    cases r with
    | lst ha ra => exact .inl ⟨_, _, rfl, .inl (sq_l (W.le _ _ ha)), by rw [ra.len]; exact dat1 (.int _) q⟩
theorem cd_lenT {ds : List D} : CD (rLenU K) [.tup ds] (· = .dat (.int ds.length)) := fun W vs r Q q => by
  cases r with
  | cons r rr =>
    cases rr
    cases r with
    | tup ha ra => exact .inl ⟨_, _, rfl, .inr (sq_t (W.le _ _ ha)), by rw [ra.len]; exact dat1 (.int _) q⟩
theorem cd_lenSq {x : D} {ds : List D} (s : Sq x ds) : CD (rLenU K) [x] (· = .dat (.int ds.length)) := by
  cases s with
  | lst => exact cd_lenL
  | tup => exact cd_lenT
theorem od_ixSq {x : D} {ds : List D} {i : Int} {j : Nat} {d : D} (s : Sq x ds) (e : i = (j : Int)) (h : ds[j]? = some d) : OD (rIx K) x (.int i) (· = .dat d) := by
  cases s with
  | lst => exact od_ixL e h
  | tup => exact od_ixT e h
theorem od_inT {neg : Bool} {s : List Nat} {xs : List (List Nat)} : OD (rInU K neg) (.str s) (.tup (xs.map D.str)) (· = .dat (.bl (if neg then !decide (s ∈ xs) else decide (s ∈ xs)))) := fun W v w r r' Q q => by
  cases r
  cases r' with
  | tup hb rb =>
    obtain ⟨a, b⟩ := in_txs (s := s) rb
    refine .inr ⟨_, _, rfl, .inr (sq_t (W.le _ _ hb)), rfl, b, ?_⟩
    rw [a]
    exact dat1 (.bl _) q
theorem od_inSq {neg : Bool} {s : List Nat} {xs : List (List Nat)} {x : D} (h : Sq x (xs.map D.str)) : OD (rInU K neg) (.str s) x (· = .dat (.bl (if neg then !decide (s ∈ xs) else decide (s ∈ xs)))) := by
  generalize hy : xs.map D.str = ys at h
  cases h with
  | lst => subst hy; exact od_inL
  | tup => subst hy; exact od_inT
theorem cd_lenS {s : List Nat} (h : s.length ≤ 100000) : CD (rLenU K) [.str s] (· = .dat (.int s.length)) := fun W vs r Q q => by
  cases r with
  | cons r rr =>
    cases rr
    cases r
    refine .inr ⟨_, rfl, Evl.sz_of (by rw [tx_len]; exact h), ?_⟩
    rw [tx_len]
    exact dat1 (.int _) q
def rListC (K : PySem.W.Frag) : List V → Hp → VK → Prop := fun xs H Q => ∃ (p : Addr) (ys : List V), xs = [.ref p] ∧ (SqL K H p ys ∨ SqT K H p ys) ∧ ∀ l, H l = none → Q (.ref l) (upd H l (.lst ys))
theorem call_listC {X : Cx} : CallR X (.type "list") (rListC X.K) := call_list_of
theorem cd_list {ds : List D} : CD (rListC K) [.lst ds] (· = .own ds) := fun W vs r Q q => by
  cases r with
  | cons r rr =>
    cases rr
    cases r with
    | lst ha ra => exact ⟨_, _, rfl, .inl (sq_l (W.le _ _ ha)), own1 ra q⟩
theorem bls_of {H : Hp} : ∀ {bs : List Bool} {vs : List V}, Reps H (bs.map D.bl) vs → vs = bs.map V.bl
  | [], _, .nil => rfl
  | b :: bs, _, .cons h r => by cases h; rw [bls_of r]; rfl
theorem cd_all {bs : List Bool} : CD (rAll K) [.lst (bs.map D.bl)] (· = .dat (.bl (bs.all id))) := fun W vs r Q q => by
  cases r with
  | cons r rr =>
    cases rr
    cases r with
    | lst ha ra => exact ⟨_, bs, rfl, sq_l (by rw [← bls_of ra]; exact W.le _ _ ha), dat1 (.bl _) q⟩
theorem txs_of {H : Hp} : ∀ {xs : List (List Nat)} {vs : List V}, Reps H (xs.map D.str) vs → vs = (xs.map fun s => (⟨s.toArray⟩ : Str)).map V.str
  | [], _, .nil => rfl
  | b :: bs, _, .cons h r => by cases h; rw [txs_of r]; rfl
def rJoin (K : PySem.W.Frag) : V → List V → Hp → VK → Prop := fun x xs H Q => ∃ a p, ∃ ys : List Str, x = .str a ∧ xs = [.ref p] ∧ (SqL K H p (ys.map V.str) ∨ SqT K H p (ys.map V.str)) ∧ (ys.map (·.length)).sum + ys.length * a.length ≤ 16777216 ∧ Q (.str (Txt.join a ys)) H
theorem join0 : ∀ xs : List (List Nat), Txt.join ⟨#[]⟩ (xs.map fun s => (⟨s.toArray⟩ : Str)) = ⟨xs.flatten.toArray⟩ := fun xs => by
  show PySem.Builtin.Str.glued _ _ = _
  rw [PySem.StrLaws.glued_eq_join]
  induction xs with
  | nil => rfl
  | cons x xs ih =>
    rw [List.map_cons]
    have h := PyProof.Rows.join_nil_cons (⟨x.toArray⟩ : Str) (xs.map fun s => (⟨s.toArray⟩ : Str))
    rw [h, ih]
    show (⟨x.toArray ++ xs.flatten.toArray⟩ : Str) = _
    simp
theorem md_join {xs : List (List Nat)} (h : xs.flatten.length ≤ 100000) : MD (rJoin K) (.str []) [.lst (xs.map D.str)] (· = .dat (.str xs.flatten)) := fun W v vs r rs Q q => by
  cases r
  cases rs with
  | cons r rr =>
    cases rr
    cases r with
    | lst ha ra =>
      refine ⟨⟨#[]⟩, _, xs.map fun s => (⟨s.toArray⟩ : Str), rfl, rfl, .inl (sq_l (by rw [← txs_of ra]; exact W.le _ _ ha)), ?_, ?_⟩
      · have e : ((xs.map fun s => (⟨s.toArray⟩ : Str)).map (·.length)).sum = xs.flatten.length := by
          rw [List.map_map, List.length_flatten]
          have e2 : (fun x : Str => x.length) ∘ (fun s : List Nat => (⟨s.toArray⟩ : Str)) = List.length := funext fun s => tx_len s
          rw [e2]
        rw [e]
        have z : (⟨#[]⟩ : Str).length = 0 := rfl
        rw [z, Nat.mul_zero]
        omega
      · rw [join0]
        exact dat1 (.str xs.flatten) q
theorem ud_neg {i : Int} : UD (rU fun i => .int (-i)) (.int i) (· = .dat (.int (-i))) := fun W v r Q q => by
  cases r
  exact ⟨i, rfl, dat1 (.int _) q⟩
end
end Nt

namespace Nt
open PySem PySem.Spec PyProof.Rows L2
section
variable {K : PySem.W.Frag} {ta tb te : TE} {tt tu : TT} {tl th : TO} {ar : TA} {ρ : List En} {PA : D → Prop} {R : En → Prop}
/-! ### slices -/
def SD (r : V → Option Int → Option Int → Hp → VK → Prop) (x : D) (lo hi : Option Int) (P : En → Prop) : Prop := ∀ (W : Wd) v, Rep W.b x v → ∀ Q : VK, (∀ u e W', Grow W W' → RepV W W' e u → P e → Q u W'.h) → r v lo hi W.h Q
theorem eo_part {i : Int} (h : ED te ρ (· = .int i)) : EO (tPart te) ρ (· = some i) := fun W0 W σ E Q q => h W0 W σ E _ fun v d W' g r p => by subst p; cases r; exact ⟨i, rfl, q _ W' g rfl⟩
theorem e_sl {r : V → Option Int → Option Int → Hp → VK → Prop} {x : D} {lo hi : Option Int} (h : ED te ρ (· = x)) (hl : EO tl ρ (· = lo)) (hh : EO th ρ (· = hi)) (hr : SD r x lo hi R) : EV (tSl r te tl th) ρ R := fun W0 W σ E Q q =>
  h W0 W σ E _ fun v d W1 g1 r1 p1 => by
    subst p1
    refine hl W0 W1 σ (E.grow g1) _ fun o W2 g2 e2 => ?_
    subst e2
    refine hh W0 W2 σ ((E.grow g1).grow g2) _ fun o W3 g3 e3 => ?_
    subst e3
    exact hr W3 v ((r1.mono g2.b).mono g3.b) Q fun u e W4 g4 r4 p4 => q u e W4 (((g1.trans g2).trans g3).trans g4) (r4.back ((g1.trans g2).trans g3).h) p4
def cutN {α : Type} (xs : List α) (lo hi : Option Int) : List α := (xs.drop (HT.sIx xs.length 0 lo)).take (HT.sIx xs.length xs.length hi - HT.sIx xs.length 0 lo)
theorem sd_str {s : List Nat} {lo hi : Option Int} (h : s.length ≤ 100000) : SD (rSlU K) (.str s) lo hi (· = .dat (.str (cutN s lo hi))) := fun W v r Q q => by
  cases r
  refine .inr (.inl ⟨_, rfl, Evl.sz_of (by rw [tx_len]; exact h), ?_⟩)
  have e : V.str (cutS ⟨s.toArray⟩ lo hi) = tx (cutN s lo hi) := by
    unfold cutS cutN tx
    rw [tx_len]
  rw [e]
  exact dat1 (.str (cutN s lo hi)) q
theorem sd_lst {ds : List D} {lo hi : Option Int} : SD (rSlU K) (.lst ds) lo hi (· = .own (cutN ds lo hi)) := fun W v r Q q => by
  cases r with
  | lst ha ra =>
    rename_i a ws
    refine .inl ⟨a, ws, rfl, sq_l (W.le _ _ ha), ?_⟩
    unfold cutV
    rw [ra.len]
    exact own1 ((ra.drop _).take _) q
theorem sd_tup {ds : List D} {lo hi : Option Int} (hne : ¬ (HT.sIx ds.length 0 lo = 0 ∧ HT.sIx ds.length ds.length hi = ds.length)) : SD (rSlU K) (.tup ds) lo hi (· = .dat (.tup (cutN ds lo hi))) := fun W v r Q q => by
  cases r with
  | tup ha ra =>
    rename_i a ws
    refine .inr (.inr ⟨a, ws, rfl, sq_t (W.le _ _ ha), by rw [ra.len]; exact hne, fun p hp => ?_⟩)
    have e : Reps W.b (cutN ds lo hi) (cutV ws lo hi) := by
      unfold cutV cutN
      rw [ra.len]
      exact (ra.drop _).take _
    exact q (.ref p) (.dat (.tup (cutN ds lo hi))) (W.put p _) (Grow.put hp) (.tup upd_same (e.mono (Ex.nw (W.le.none' hp)))) rfl
theorem reps_int {H : Hp} : ∀ ns : List Int, Reps H (ns.map D.int) (ns.map V.int)
  | [] => .nil
  | n :: ns => .cons (.int n) (reps_int ns)
theorem cutV_int (ns : List Int) (lo hi : Option Int) : cutV (ns.map V.int) lo hi = (cutN ns lo hi).map V.int := by
  unfold cutV cutN
  rw [List.length_map, List.map_take, List.map_drop]
theorem sd_scr {ns : List Int} {lo hi : Option Int} : SD (rSlU K) (.scr K ns) lo hi (· = .own ((cutN ns lo hi).map D.int)) := fun W v r Q q => by
  cases r with
  | scr h =>
    refine .inl ⟨_, _, rfl, Evl.ex_l W.le h, ?_⟩
    rw [cutV_int]
    exact own1 (reps_int _) q
theorem cut_to {α : Type} {xs : List α} {i : Int} {k : Nat} (e : i = k) (h : k ≤ xs.length) : cutN xs none (some i) = xs.take k := by
  subst e
  unfold cutN
  rw [HT.sIx_none, HT.sIx_nat, List.drop_zero, Nat.min_eq_left h, Nat.sub_zero]
theorem cut_from {α : Type} {xs : List α} {i : Int} {k : Nat} (e : i = k) (h : k ≤ xs.length) : cutN xs (some i) none = xs.drop k := by
  subst e
  unfold cutN
  rw [HT.sIx_none, HT.sIx_nat, Nat.min_eq_left h]
  exact List.take_of_length_le (by simp)
theorem e_rev {ds : List D} (h : ED te ρ (· = .lst ds)) : EV (tRevL K te) ρ (· = .own ds.reverse) := fun W0 W σ E Q q => h W0 W σ E _ fun v d W1 g1 r1 p1 => by
  subst p1
  cases r1 with
  | lst ha ra =>
    refine ⟨_, _, rfl, sq_l (W1.le _ _ ha), fun p hp => ?_⟩
    obtain ⟨a, b⟩ := new_own g1 hp ra.rev
    exact q (.ref p) (.own ds.reverse) _ a b rfl
/-! ### isinstance -/
def D.ty : D → String
  | .non => "NoneType"
  | .bl _ => "bool"
  | .int _ => "int"
  | .str _ => "str"
  | .tup _ => "tuple"
  | .lst _ => "list"
  | .bag => "list"
  | .scr _ _ => "list"
  | .dic _ => "dict"
  | .obj _ => "object"
/-- no list that is not of the program's own -/
def D.pl : D → Bool
  | .bag | .scr _ _ | .obj _ => false
  | _ => true
theorem ty_of {H H' : Hp} {d : D} {v : V} (nb : d.pl = true) (e : Ex H H') (r : Rep H d v) : TyX K H' v (.type d.ty) := by
  cases r with
  | non => exact .base .non
  | bl b => exact .base (.bl b)
  | int i => exact .base (.int i)
  | str s => exact .base (.str _)
  | tup h _ => exact .base (.tup (e _ _ h))
  | lst h _ => exact .base (.lst (e _ _ h))
  | bag _ _ _ => cases nb
  | scr _ => cases nb
  | dic h _ => exact .base (.dK (e _ _ h))
  | obj _ _ => cases nb
theorem e_isi {d : D} {T : String} {b : Bool} (h : ED te ρ (· = d)) (nb : d.pl = true) (hk : kitB d.ty T = some b) : ED (tCB (rIsi K) (tCons te (tCons (tC (.ty T)) tNil))) ρ (· = .bl b) := fun W0 W σ E Q q => h W0 W σ E _ fun v x W1 g1 r1 p1 => by
  subst p1
  exact ⟨v, .ty T, .type x.ty, .type T, b, rfl, .ty T, ty_of nb W1.le r1, kit_ty hk, q _ _ W1 g1 (.bl b) rfl⟩
theorem kit_any2 {a b c : String} {x y : Bool} (h1 : kitB a b = some x) (h2 : kitB a c = some y) : PySem.W.kitAny K (.type a) [.type b, .type c] = some (x || y) := by
  refine kitAny_cons (kit_ty h1) (fun e => ?_) (fun e => by rw [e]; rfl)
  subst e
  exact kitAny_cons (kit_ty h2) (fun e => by subst e; exact kitAny_nil) (fun e => by subst e; rfl)
theorem e_isi2 {d : D} {T U : String} {x y : Bool} (h : ED te ρ (· = d)) (nb : d.pl = true) (h1 : kitB d.ty T = some x) (h2 : kitB d.ty U = some y) :
    ED (tCB (rIsiT K) (tCons te (tCons (tTup (tCons (tC (.ty T)) (tCons (tC (.ty U)) tNil))) tNil))) ρ (· = .bl (x || y)) := fun W0 W σ E Q q => h W0 W σ E _ fun v d' W1 g1 r1 p1 => by
  subst p1
  refine ⟨by show 2 ≤ sizeLine; decide, fun p hp => ?_⟩
  have g2 := Grow.add (W := W1) (o := .tup [.ty T, .ty U]) hp
  exact ⟨v, p, [.ty T, .ty U], .type d'.ty, [.type T, .type U], _, rfl, upd_same, .cons (.ty T) (.cons (.ty U) .nil), ty_of nb (W1.add p (.tup [.ty T, .ty U]) hp).le r1, kit_any2 h1 h2, q _ _ (W1.add p (.tup [.ty T, .ty U]) hp) (g1.trans g2) (.bl _) rfl⟩
/-! ### None -/
def D.isN : D → Bool
  | .non => true
  | _ => false
theorem isN_of {H : Hp} {d : D} {v : V} (r : Rep H d v) : decide (v = .non) = d.isN := by
  cases r <;> simp [D.isN, tx]
def rIsNU : R2 := fun x y H Q => y = .non ∧ Q (.bl (decide (x = .non))) H
def rNotNU : R2 := fun x y H Q => y = .non ∧ Q (.bl (!decide (x = .non))) H
theorem op_isNU {X : Cx} : OpR X (compareOp .Is) rIsNU := op_isN
theorem op_notNU {X : Cx} : OpR X (compareOp .IsNot) rNotNU := op_notN
theorem od_isN {d : D} : OD rIsNU d .non (· = .dat (.bl d.isN)) := fun W v w r r' Q q => by
  cases r'
  refine ⟨rfl, ?_⟩
  rw [isN_of r]
  exact dat1 (.bl _) q
theorem od_notN {d : D} : OD rNotNU d .non (· = .dat (.bl (!d.isN))) := fun W v w r r' Q q => by
  cases r'
  refine ⟨rfl, ?_⟩
  rw [isN_of r]
  exact dat1 (.bl _) q
/-! ### truth -/
def tTru (K : PySem.W.Frag) (ta : TE) : TT := fun σ H Q => ta σ H fun x H' => ∃ k, TruV K x H' k ∧ Q k H'
theorem et_tru {ds : List D} (h : ED te ρ (· = .lst ds)) : ET (tTru K te) ρ (· = !ds.isEmpty) := fun W0 W σ E Q q => h W0 W σ E _ fun v d W1 g1 r1 p1 => by
  subst p1
  cases r1 with
  | lst ha ra =>
    refine ⟨_, .inl ⟨_, sq_l (W1.le _ _ ha), rfl⟩, q _ W1 g1 ?_⟩
    cases ra <;> rfl
theorem pe_joinU {X : Cx} {o e : Expr} {to te : TE} {apos pos : Pos} (ho : PE X o to) (he : PE X e te) (hs : starEach [e] X.env = [(false, eval e X.env)] := by rfl) (hbase : attributeBase o "join" X.env (eval o X.env) = eval o X.env := by rfl) (hline : (apos.endLine == pos.line) = true := by rfl) :
    PE X (.Call (.Attribute o "join" apos) [e] [] pos) (tM1 (rJoin X.K) to te) := pe_join ho he hs hbase hline
theorem pt_tru {X : Cx} {a : Expr} {ta : TE} (ha : PE X a ta) (he : ∀ whole, isTrue a X.env whole = (do let v ← whole; standAt a.pos; holding [v] (truthy v)) := by intro _; rfl) : PT X a (tTru X.K ta) := pt_truth ha he
/-! ### str(n), int(n), abs(n) -/
def rStrI : List V → Hp → VK → Prop := fun xs H Q => ∃ i : Int, xs = [.int i] ∧ i.natAbs.log2 < 1920 ∧ Q (.str (toString i)) H
theorem call_strI {X : Cx} : CallR X (.type "str") rStrI := call_str_int
theorem digit_str : ∀ n : Nat, n < 10 → ((toString (n : Int) : Str)).cps.toList = [48 + n] := by
  intro n hn
  have : n = 0 ∨ n = 1 ∨ n = 2 ∨ n = 3 ∨ n = 4 ∨ n = 5 ∨ n = 6 ∨ n = 7 ∨ n = 8 ∨ n = 9 := by omega
  rcases this with e | e | e | e | e | e | e | e | e | e <;> (subst e; decide +kernel)
theorem cd_digit {n : Nat} (h : n < 10) : CD rStrI [.int n] (· = .dat (.str [48 + n])) := fun W vs r Q q => by
  cases r with
  | cons r rr =>
    cases rr
    cases r
    refine ⟨n, rfl, ?_, ?_⟩
    · have h2 : (n : Int).natAbs.log2 ≤ n := by
        rw [Int.natAbs_natCast]
        exact Nat.log2_le_self n
      omega
    · rw [tx_eq, digit_str n h]
      exact dat1 (.str [48 + n]) q
def rIntI : List V → Hp → VK → Prop := fun xs H Q => (∃ i : Int, xs = [.int i] ∧ Q (.int i) H) ∨ ∃ k : Bool, xs = [.bl k] ∧ Q (.int (if k then 1 else 0)) H
theorem call_intI {X : Cx} : CallR X (.type "int") rIntI := call_int1
theorem cd_int {i : Int} : CD rIntI [.int i] (· = .dat (.int i)) := fun W vs r Q q => by
  cases r with
  | cons r rr =>
    cases rr
    cases r
    exact .inl ⟨i, rfl, dat1 (.int i) q⟩
def rAbsI : List V → Hp → VK → Prop := fun xs H Q => ∃ i : Int, xs = [.int i] ∧ Q (.int (if i < 0 then -i else i)) H
theorem call_absI {X : Cx} : CallR X (.builtin "abs") rAbsI := call_abs
theorem cd_abs {i : Int} : CD rAbsI [.int i] (· = .dat (.int (if i < 0 then -i else i))) := fun W vs r Q q => by
  cases r with
  | cons r rr =>
    cases rr
    cases r
    exact ⟨i, rfl, dat1 (.int _) q⟩
end
/-! ### the same heap, read otherwise -/
structure Rty (H H' : Hp) : Prop where
  non : ∀ b, H b = none → H' b = none
  tup : ∀ b xs, H b = some (.tup xs) → H' b = some (.tup xs)
  frz : ∀ b o u, H b = some (.frz o u) → H' b = some (.frz o u)
  tbl : ∀ b ps, H b = some (.tbl ps) → H' b = some (.tbl ps)
theorem fn_rty {P : Program} {w : World} {K : PySem.W.Frag} {mg : Str → Option Value} {base : Heap} {k : Nat} {f : Addr} {fd : FuncData} {ps : List Str} {sp sp' : Sp} (F : FnOk P w K mg base CX0 k f fd ps sp) (len : ∀ vs H Q E, sp' vs H Q E → vs.length = ps.length)
    (h : ∀ vs H Q E hp, sp' vs H Q E → HOk P w H hp → ∃ H1, Rty H H1 ∧ HOk P w H1 hp ∧ sp vs H1 (fun v H' => ∀ hp', HOk P w H' hp' → ∃ H'', Rty H' H'' ∧ HOk P w H'' hp' ∧ Q v H'') E) : FnOk P w K mg base CX0 k f fd ps sp' := by
  refine ⟨len, fun A outer s H args us vs Q E hr he hb hv hsp => ?_⟩
  obtain ⟨H1, t, ok, q⟩ := h vs H Q E s.heap hsp he.hok
  refine codeAny_mono (F.run A outer s H1 args us vs _ E hr ⟨he.frames, he.mod, fun b o e => ⟨(he.bs b o e).1, t.non b (he.bs b o e).2⟩, he.bsz, he.funs, fun b hb => t.non b (he.frf b hb), ok, he.bare⟩ hb hv q) fun r s' hq => ?_
  cases r with
  | error e => exact hq
  | ok fl =>
    cases fl with
    | ret u =>
      obtain ⟨v, H', a1, a2, un, ok', r1, z⟩ := hq
      obtain ⟨H'', t2, ok2, q2⟩ := z s'.heap ok'
      exact ⟨v, H'', a1, a2, ⟨fun b o x y => un.keep b o x (t.non b y), fun b o x y => un.slot b o x (t.non b y), fun b o x y n => t2.non b (un.free b o x (t.non b y) n), un.there, fun b xs x => t2.tup b xs (un.tups b xs (t.tup b xs x)), fun b o u x => t2.frz b o u (un.frzs b o u (t.frz b o u x)), fun b ps x => by
        obtain ⟨m, y⟩ := un.tbls b ps (t.tbl b ps x)
        exact ⟨m, t2.tbl b _ y⟩⟩, ok2, r1, q2⟩
    | next => exact hq.elim
    | brk => exact hq.elim
    | cont => exact hq.elim
theorem bag_ne {b c : Addr} {u : HO} (h : ∀ φ, u ≠ .ext φ) : bagO b c ≠ u := fun e => h _ e.symm
theorem rty_upd {H : Hp} {b : Addr} {o u : HO} (h : H b = some o) (n1 : ∀ xs, o ≠ .tup xs) (n2 : ∀ a v, o ≠ .frz a v) (n3 : ∀ ps, o ≠ .tbl ps) : Rty H (upd H b u) :=
  ⟨fun a e => by rw [upd_ne (fun z => by rw [z, h] at e; cases e)]; exact e, fun a xs e => by rw [upd_ne (fun z => by rw [z, h] at e; exact n1 xs (Option.some.inj e))]; exact e,
    fun a o' v e => by rw [upd_ne (fun z => by rw [z, h] at e; exact n2 o' v (Option.some.inj e))]; exact e, fun a ps e => by rw [upd_ne (fun z => by rw [z, h] at e; exact n3 ps (Option.some.inj e))]; exact e⟩
theorem hok_upd {P : Program} {w : World} {H : Hp} {hp : Heap} {b : Addr} {o u : HO} (ok : HOk P w H hp) (h : H b = some o) (n1 : ∀ xs, o ≠ .tup xs) (n2 : ∀ a, o ≠ .own a) (new : ObjOk P w (upd H b u) hp b u) : HOk P w (upd H b u) hp := fun a q e => by
  by_cases z : a = b
  · subst z; rw [upd_same] at e; cases e; exact new
  · rw [upd_ne z] at e
    exact (ok a q e).stay (fun _ _ _ y => y) (fun c y => by rw [upd_ne (fun z => by rw [z, h] at y; exact n2 a (Option.some.inj y))]; exact y) (fun c xs y => by rw [upd_ne (fun z => by rw [z, h] at y; exact n1 xs (Option.some.inj y))]; exact y)
/-- the bag's list -/
def bagL (c : Addr) (i r m n : Int) : HO := .lst [.ref c, .int i, .int r, .int m, .int n]
theorem bag_out {P : Program} {w : World} {H : Hp} {hp : Heap} {b c : Addr} (ok : HOk P w H hp) (h : H b = some (bagO b c)) :
    ∃ i r m n, 0 ≤ i ∧ 0 ≤ r ∧ 0 ≤ m ∧ m < 2147483648 ∧ Rty H (upd H b (bagL c i r m n)) ∧ HOk P w (upd H b (bagL c i r m n)) hp := by
  have q : ObjOk P w H hp b (.ext _) := ok b _ h
  obtain ⟨⟨i, r, m, n, its, nn, v, e, h1, h2, h3, h4⟩, _, _⟩ := q
  have ne : ∀ {u : HO}, (∀ φ, u ≠ .ext φ) → bagO b c ≠ u := fun h => bag_ne h
  exact ⟨i, r, m, n, h1, h2, h3, h4, rty_upd h (fun xs => ne fun _ z => nomatch z) (fun a v => ne fun _ z => nomatch z) (fun ps => ne fun _ z => nomatch z), hok_upd ok h (fun xs => ne fun _ z => nomatch z) (fun a => ne fun _ z => nomatch z) ⟨by show 5 ≤ sizeLine; decide, its, nn, v, e⟩⟩
theorem bag_in {P : Program} {w : World} {H : Hp} {hp : Heap} {b c : Addr} {i r m n : Int} (ok : HOk P w H hp) (h : H b = some (bagL c i r m n)) (h1 : 0 ≤ i) (h2 : 0 ≤ r) (h3 : 0 ≤ m) (h4 : m < 2147483648) :
    Rty H (upd H b (bagO b c)) ∧ HOk P w (upd H b (bagO b c)) hp := by
  have q : ObjOk P w H hp b (.lst [.ref c, .int i, .int r, .int m, .int n]) := ok b _ h
  obtain ⟨_, its, nn, v, e⟩ := q
  refine ⟨rty_upd h (fun xs z => nomatch z) (fun a v z => nomatch z) (fun ps z => nomatch z), hok_upd ok h (fun xs z => nomatch z) (fun a z => nomatch z) ⟨⟨i, r, m, n, its, nn, v, e, h1, h2, h3, h4⟩, ⟨_, e⟩, fun hp1 hp2 ⟨i, r, m, n, its, nn, v, e, y⟩ k => ⟨i, r, m, n, its, nn, v, k _ e, y⟩⟩⟩
end Nt

namespace Nt
open PySem PySem.Spec PyProof.Rows L2
theorem take_step {α : Type} {l : List α} {i : Nat} {x : α} (h : l[i]? = some x) : l.take (i + 1) = l.take i ++ [x] := by rw [List.take_add_one, h]; rfl
theorem take_all {α : Type} (l : List α) : l.take l.length = l := List.take_length
theorem map_get' {α β : Type} {f : α → β} {s : List α} {i : Nat} {d : β} (h : (s.map f)[i]? = some d) : ∃ c, s[i]? = some c ∧ d = f c := by
  rw [List.getElem?_map] at h
  cases hc : s[i]? with
  | none => rw [hc] at h; cases h
  | some c => rw [hc] at h; exact ⟨c, rfl, (Option.some.inj h).symm⟩
section
variable {K : PySem.W.Frag} {ρ : List En} {te : TE} {tt : TT} {wi : TI} {j k : Nat}
theorem lc1_filt {α : Type} {ds : List α} {emb : α → D} {t : α → Bool} {f : α → D} (h : IV1 wi ρ (· = ds.map emb)) (hn : ds.length ≤ 100000) (ht : ∀ (i : Nat) d, ds[i]? = some d → ET tt (ρ.set j (.dat (emb d))) (· = t d)) (he : ∀ (i : Nat) d, ds[i]? = some d → t d = true → ED te (ρ.set j (.dat (emb d))) (· = f d)) :
    EV (tLc wi (gName j) tt te [j]) ρ (· = .own ((ds.filter t).map f)) :=
  (e_lc1 (T := fun x => x = ds.map emb) (Inv := fun _ i acc => acc = ((ds.take i).filter t).map f) h (fun x e => by rw [e, List.length_map]; exact hn) (fun x e => rfl) (fun x i d acc e hd ha => by
    subst e
    obtain ⟨c, hc, rfl⟩ := map_get' hd
    refine (ht i c hc).imp fun b hb => ?_
    cases b with
    | true =>
      refine iteT ((he i c hc hb.symm).imp fun y hy => ?_)
      rw [take_step hc, List.filter_append, List.map_append, ha, hy]
      simp [← hb]
    | false =>
      refine iteF ?_
      rw [take_step hc, List.filter_append, List.map_append, ha]
      simp [← hb])).imp fun e ⟨x, acc, e1, e2, e3⟩ => by rw [e1, e3, e2, List.length_map, take_all]
theorem lc1_map {α : Type} {ds : List α} {emb : α → D} {f : α → D} (h : IV1 wi ρ (· = ds.map emb)) (hn : ds.length ≤ 100000) (he : ∀ (i : Nat) d, ds[i]? = some d → ED te (ρ.set j (.dat (emb d))) (· = f d)) : EV (tLc wi (gName j) tYes te [j]) ρ (· = .own (ds.map f)) :=
  (lc1_filt (t := fun _ => true) h hn (fun i d hd => et_yes) (fun i d hd _ => he i d hd)).imp fun e q => by rw [q, List.filter_eq_self.mpr fun _ _ => rfl]
theorem lc2_filt {α : Type} {ds : List α} {emb : α → D × D} {t : α → Bool} {f : α → D} (hjk : j ≠ k) (h : IV2 wi ρ (· = ds.map emb)) (hn : ds.length ≤ 100000) (ht : ∀ (i : Nat) d, ds[i]? = some d → ET tt ((ρ.set j (.dat (emb d).1)).set k (.dat (emb d).2)) (· = t d)) (he : ∀ (i : Nat) d, ds[i]? = some d → t d = true → ED te ((ρ.set j (.dat (emb d).1)).set k (.dat (emb d).2)) (· = f d)) :
    EV (tLc wi (gTup K 2 (gCons (gName j) (gCons (gName k) gNil))) tt te [j, k]) ρ (· = .own ((ds.filter t).map f)) :=
  (e_lc2 (T := fun x => x = ds.map emb) (Inv := fun _ i acc => acc = ((ds.take i).filter t).map f) h hjk (fun x e => by rw [e, List.length_map]; exact hn) (fun x e => rfl) (fun x i d acc e hd ha => by
    subst e
    obtain ⟨c, hc, rfl⟩ := map_get' hd
    refine (ht i c hc).imp fun b hb => ?_
    cases b with
    | true =>
      refine iteT ((he i c hc hb.symm).imp fun y hy => ?_)
      rw [take_step hc, List.filter_append, List.map_append, ha, hy]
      simp [← hb]
    | false =>
      refine iteF ?_
      rw [take_step hc, List.filter_append, List.map_append, ha]
      simp [← hb])).imp fun e ⟨x, acc, e1, e2, e3⟩ => by rw [e1, e3, e2, List.length_map, take_all]
theorem lc2_map {α : Type} {ds : List α} {emb : α → D × D} {f : α → D} (hjk : j ≠ k) (h : IV2 wi ρ (· = ds.map emb)) (hn : ds.length ≤ 100000) (he : ∀ (i : Nat) d, ds[i]? = some d → ED te ((ρ.set j (.dat (emb d).1)).set k (.dat (emb d).2)) (· = f d)) :
    EV (tLc wi (gTup K 2 (gCons (gName j) (gCons (gName k) gNil))) tYes te [j, k]) ρ (· = .own (ds.map f)) :=
  (lc2_filt (t := fun _ => true) hjk h hn (fun i d hd => et_yes) (fun i d hd _ => he i d hd)).imp fun e q => by rw [q, List.filter_eq_self.mpr fun _ _ => rfl]
/-- pairs of signs -/
def pr (p : Nat × Nat) : D × D := (.str [p.1], .str [p.2])
theorem iv_zipS {K' : PySem.W.Frag} {ar : TA} {x y : List Nat} (h : EA ar ρ (· = [.str x, .str y])) : IV2 (iZipG K' ar) ρ (· = (x.zip y).map pr) := by
  have e : (chs x).zip (chs y) = (x.zip y).map pr := by
    unfold chs pr
    rw [List.zip_map]
    rfl
  have h' := iv_zip (K := K') (.str x) (.str y) h
  rw [e] at h'
  exact h'
/-- a number and a sign -/
def ipr (p : Nat × Nat) : D × D := (.int p.1, .str [p.2])
theorem iv_enumZ {ar : TA} {s : List Nat} (h : EA ar ρ (· = [.str s])) : IV2 (iEnumS ar) ρ (· = ((List.range s.length).zip s).map ipr) := by
  have e : (ixs s.length).zip (chs s) = ((List.range s.length).zip s).map ipr := by
    unfold ixs chs ipr
    rw [List.zip_map]
    rfl
  have h' := iv_enum h
  rw [e] at h'
  exact h'
theorem iv_strS {s : List Nat} (h : ED te ρ (· = .str s)) : IV1 (iStr te) ρ (· = s.map fun c => .str [c]) := iv_str1 h
theorem iv_rngN {ar : TA} {n : Nat} (h : EA ar ρ (· = [.int n])) (hn : n ≤ 100000) : IV1 (iRng1 ar) ρ (· = (List.range n).map fun (i : Nat) => .int i) := by
  have h' := iv_rng1 h (by omega) (by omega)
  rw [Int.toNat_natCast] at h'
  exact h'
end
theorem hu64 {A : Around} {k : Nat} (hr : Room k A) : A.units + 64 < cLine := by have := hr.un; omega
theorem spE_len {Rg : List D → (En → Prop) → Prop} {vs : List V} {H : Hp} {Q : VK} {X : XK} {n : Nat} (h : SpE Rg vs H Q X) (hl : ∀ ds P, Rg ds P → ds.length = n) : vs.length = n := by
  obtain ⟨W, ds, P, _, r, hr, _⟩ := h
  rw [r.len]; exact hl ds P hr
/-- list index of a zip -/
theorem zip_get {α β : Type} {xs : List α} {ys : List β} {i : Nat} {p : α × β} (h : (xs.zip ys)[i]? = some p) : xs[i]? = some p.1 ∧ ys[i]? = some p.2 := by
  rw [List.getElem?_zip_eq_some] at h; exact h
theorem chs_get {s : List Nat} {i : Nat} {d : D} (h : (chs s)[i]? = some d) : ∃ c, s[i]? = some c ∧ d = .str [c] := by
  unfold chs at h
  rw [List.getElem?_map] at h
  cases hc : s[i]? with
  | none => rw [hc] at h; cases h
  | some c => rw [hc] at h; exact ⟨c, rfl, (Option.some.inj h).symm⟩
theorem map_get {α : Type} {f : α → D} {s : List α} {i : Nat} {d : D} (h : (s.map f)[i]? = some d) : ∃ c, s[i]? = some c ∧ d = f c := by
  rw [List.getElem?_map] at h
  cases hc : s[i]? with
  | none => rw [hc] at h; cases h
  | some c => rw [hc] at h; exact ⟨c, rfl, (Option.some.inj h).symm⟩
theorem ixs_get' {n i : Nat} {d : D} (h : (ixs n)[i]? = some d) : i < n ∧ d = .int i := by
  have hl := (List.getElem?_eq_some_iff.mp h).1
  have hl' : i < n := by simpa [ixs] using hl
  rw [ixs_get hl'] at h
  exact ⟨hl', (Option.some.inj h).symm⟩
end Nt
namespace Nt
open PySem PySem.Spec PyProof.Rows L2
/-! ### the rules with the written part named -/
section
variable {X : Cx} {K : PySem.W.Frag}
theorem op_eqK (hK : X.K = K) (hu : X.A.units + 64 < cLine) : OpR X (compareOp .Eq) (rEqU K) := hK ▸ op_eqU hu
theorem op_neK (hK : X.K = K) (hu : X.A.units + 64 < cLine) : OpR X (compareOp .NotEq) (rNeU K) := hK ▸ op_neU hu
theorem op_inK (hK : X.K = K) : OpR X (compareOp .In) (rInU K false) := hK ▸ op_inU
theorem op_notInK (hK : X.K = K) : OpR X (compareOp .NotIn) (rInU K true) := hK ▸ op_notInU
theorem ix_K (hK : X.K = K) : IxR X (rIx K) := hK ▸ ix_seq
theorem sl_K (hK : X.K = K) : L2.SlR X (rSlU K) := hK ▸ sl_U
theorem call_lenK (hK : X.K = K) : CallR X (.builtin "len") (rLenU K) := hK ▸ call_lenU
theorem call_listK (hK : X.K = K) : CallR X (.type "list") (rListC K) := hK ▸ call_listC
theorem call_allK (hK : X.K = K) (hc : X.calm = true) : CallR X (.builtin "all") (rAll K) := hK ▸ cr_all hc
theorem call_isiK1 (hK : X.K = K) : CallR X (.builtin "isinstance") (rIsi K) := hK ▸ call_isi
theorem call_isiK2 (hK : X.K = K) : CallR X (.builtin "isinstance") (rIsiT K) := hK ▸ call_isiT
theorem pe_joinK {o e : Expr} {to te : TE} {apos pos : Pos} (hK : X.K = K) (ho : PE X o to) (he : PE X e te) (hs : starEach [e] X.env = [(false, eval e X.env)] := by rfl) (hbase : attributeBase o "join" X.env (eval o X.env) = eval o X.env := by rfl) (hline : (apos.endLine == pos.line) = true := by rfl) :
    PE X (.Call (.Attribute o "join" apos) [e] [] pos) (tM1 (rJoin K) to te) := hK ▸ pe_joinU ho he hs hbase hline
theorem pt_truK {a : Expr} {ta : TE} (hK : X.K = K) (ha : PE X a ta) (he : ∀ whole, isTrue a X.env whole = (do let v ← whole; standAt a.pos; holding [v] (truthy v)) := by intro _; rfl) : PT X a (tTru K ta) := hK ▸ pt_tru ha he
theorem pe_revK {e : Expr} {te : TE} {k : Nat} {p1 p2 p3 pos : Pos} (hK : X.K = K) (he : PE X e te) : PE X (.Subscript e (.Slice none none (some (.UnaryOp .USub (.Constant (.int 1) k p1) p2)) p3) pos) (tRevL K te) := hK ▸ pe_revL he
theorem pi_listK {tg l : Expr} {tl : TE} (hK : X.K = K) (hl : PE X l tl) : PI X tg l (iSeq K tl) := ⟨fun pins s σ H R I h => by
  subst hK
  rcases h with h | h
  · exact (pi_list hl).run pins s σ H R I h
  · exact (pi_tup hl).run pins s σ H R I h⟩
theorem pi_zipK {e e2 : Expr} {ta : TA} {p pos tpos : Pos} {elts : List Expr} {kk : Nat} (hK : X.K = K) (hg : Gl X "zip") (hm : X.mg "zip" = none) (ha : PA X [e, e2] ta)
    (hs : starEach [e, e2] X.env = (false, eval e X.env) :: starEach [e2] X.env := by rfl) (hpl : (backTo pos (starEach [e2] X.env)).any (·.1) = false := by rfl) :
    PI X (.Tuple elts kk tpos) (.Call (.Name "zip" p) [e, e2] [] pos) (iZipG K ta) := hK ▸ pi_zipG hg hm ha hs hpl
end
end Nt

namespace Nt
open PySem PySem.Spec PyProof.Rows L2
/-! ### own dicts: keys texts (and ints), values data -/
theorem RepK.app {H : Hp} : ∀ {kd ke : List (Key × D)} {kvs kws : List (Key × V)}, RepK H kd kvs → RepK H ke kws → RepK H (kd ++ ke) (kvs ++ kws)
  | _, _, _, _, .nil, r => r
  | _, _, _, _, .cons h q, r => .cons h (q.app r)
theorem RepK.keys {H : Hp} : ∀ {kd : List (Key × D)} {kvs : List (Key × V)}, RepK H kd kvs → kvs.map Prod.fst = kd.map Prod.fst
  | _, _, .nil => rfl
  | _, _, .cons _ r => by rw [List.map_cons, List.map_cons, r.keys]
theorem RepK.len {H : Hp} {kd : List (Key × D)} {kvs : List (Key × V)} (r : RepK H kd kvs) : kvs.length = kd.length := by
  have e := congrArg List.length r.keys
  rw [List.length_map, List.length_map] at e
  exact e
instance decK (k : Key) (l : List Key) : Decidable (k ∈ l) := decidable_of_iff (l.any (fun z => decide (z = k)) = true) (by
  rw [List.any_eq_true]
  exact ⟨fun ⟨z, h, e⟩ => by rw [← of_decide_eq_true e]; exact h, fun h => ⟨k, h, decide_eq_true rfl⟩⟩)
theorem any_key (k : Key) : ∀ kvs : List (Key × V), (kvs.any fun kv => decide (kv.1 = k)) = decide (k ∈ kvs.map Prod.fst)
  | [] => rfl
  | p :: r => by
    rw [List.any_cons, any_key k r, List.map_cons]
    by_cases h : p.1 = k
    · rw [decide_eq_true h, Bool.true_or, decide_eq_true (by rw [h]; exact List.mem_cons_self)]
    · rw [decide_eq_false h, Bool.false_or]
      refine decide_eq_decide.mpr ⟨fun z => List.mem_cons_of_mem _ z, fun z => ?_⟩
      rcases List.mem_cons.mp z with e | e
      · exact absurd e.symm h
      · exact e
/-- a text as a key -/
def tk (s : List Nat) : Key := .inr ⟨s.toArray⟩
theorem tk_inj {a b : List Nat} (h : tk a = tk b) : a = b := by
  have h' := congrArg (fun z : Str => z.cps.toList) (Sum.inr.inj h)
  simpa using h'
theorem mem_tk {α : Type} {s : List Nat} {F : List (List Nat)} {f : List Nat → α} : tk s ∈ (F.map fun z => (tk z, f z)).map Prod.fst ↔ s ∈ F := by
  rw [List.map_map, List.mem_map]
  constructor
  · rintro ⟨z, hz, e⟩
    rw [← tk_inj e]; exact hz
  · exact fun h => ⟨s, h, rfl⟩
section
variable {K : PySem.W.Frag} {ta tb te ty tv : TE} {ρ : List En} {p : Ps} {d : D} {s : List Nat} {kd : List (Key × D)} {i : Nat}
/-- {e: f}, e a text -/
theorem e_disp1 (hk : ED ta ρ (· = .str s)) (hv : ED tb ρ (· = d)) : EV (tDisp [(ta, tb)]) ρ (· = .dct [(tk s, d)]) := fun W0 W σ E Q q pp hp => by
  have gp := Grow.add (W := W) (o := .dK []) hp
  refine hk W0 _ σ (E.grow gp) _ fun v1 d1 W1 g1 r1 e1 => ?_
  refine hv W0 _ σ ((E.grow gp).grow g1) _ fun v2 d2 W2 g2 r2 e2 => ?_
  subst e1 e2
  cases r1
  have h1 : (W.add pp (.dK []) hp).h pp = some (.dK []) := upd_same
  have h2 : W1.h pp = some (.dK []) := g1.h _ _ h1
  have h3 : W2.h pp = some (.dK []) := g2.h _ _ h2
  have b1 : W1.b pp = none := g1.nw pp (W.le.none' hp) (by rw [h1]; exact fun z => (nomatch z))
  have b2 : W2.b pp = none := g2.nw pp b1 (by rw [h2]; exact fun z => (nomatch z))
  refine ⟨h3, [(tk s, v2)], rfl, by simp, ?_⟩
  refine q (.ref pp) (.dct [(tk s, d2)]) ⟨W2.b, upd W2.h pp (.dK [(tk s, v2)]), fun a o e => ?_⟩ ⟨((gp.trans g1).trans g2).b, fun a o e => ?_, ((gp.trans g1).trans g2).nw⟩ ⟨pp, _, rfl, upd_same, b2, hp, .cons r2 .nil⟩ rfl
  · show upd W2.h pp _ a = some o
    rw [upd_ne (fun z => by rw [z, b2] at e; cases e)]; exact W2.le _ _ e
  · show upd W2.h pp _ a = some o
    rw [upd_ne (ne_of_none e hp)]; exact ((gp.trans g1).trans g2).h _ _ e
/-- e not in d -/
theorem et_dnotin (h : ρ[i]? = some (.dct kd)) (hy : ED ty ρ (· = .str s)) : ET (tB (tDNotIn ty (tVar i))) ρ (· = !decide (tk s ∈ kd.map Prod.fst)) := fun W0 W σ E Q q =>
  hy W0 W σ E _ fun v1 d1 W1 g1 r1 e1 => by
    subst e1
    cases r1
    obtain ⟨l, kvs, hv, h1, _, r, _⟩ := (E.grow g1).mutK (kd' := []) h
    refine ⟨.ref l, hv, l, _, rfl, DGet.k (k := tk s) h1, _, rfl, q _ W1 g1 ?_⟩
    rw [← valV_any, any_key, r.keys]
theorem et_din (h : ρ[i]? = some (.dct kd)) (hy : ED ty ρ (· = .str s)) : ET (tB (tDIn ty (tVar i))) ρ (· = decide (tk s ∈ kd.map Prod.fst)) := fun W0 W σ E Q q =>
  hy W0 W σ E _ fun v1 d1 W1 g1 r1 e1 => by
    subst e1
    cases r1
    obtain ⟨l, kvs, hv, h1, _, r, _⟩ := (E.grow g1).mutK (kd' := []) h
    refine ⟨.ref l, hv, l, _, rfl, DGet.k (k := tk s) h1, _, rfl, q _ W1 g1 ?_⟩
    rw [← valV_any, any_key, r.keys]
/-- d[e] = f, the key new -/
theorem t_dput (h : ρ[i]? = some (.dct kd)) (hv : ED tv ρ (· = d)) (hk : ED ty ρ (· = .str s)) (hn : ¬ tk s ∈ kd.map Prod.fst) (hl : kd.length < 100000) (k : p.N (ρ.set i (.dct (kd ++ [(tk s, d)])))) : TT' (sDPut (tVar i) ty tv) ρ p := fun W0 W σ E Dd nx rt bk ct =>
  hv W0 W σ E _ fun v d1 W1 g1 r1 e1 => by
    subst e1
    obtain ⟨l, _, hvl, _⟩ := E.mutK (kd' := []) h
    refine ⟨.ref l, hvl, hk W0 W1 σ (E.grow g1) _ fun y d2 W2 g2 r2 e2 => ?_⟩
    subst e2
    cases r2
    obtain ⟨l', kvs, hv', h1, _, r, z⟩ := ((E.grow g1).grow g2).mutK (kd' := kd ++ [(tk s, d1)]) h
    rw [hvl] at hv'
    cases hv'
    obtain ⟨W3, a1, a2, E3⟩ := z (kvs ++ [(tk s, v)]) (r.app (.cons (r1.mono g2.b) .nil))
    refine ⟨l, _, rfl, DPut.k (k := tk s) (v := v) h1 (Evl.sz_lt (by rw [r.len]; exact hl)), ?_⟩
    have e : putK kvs (tk s) v = kvs ++ [(tk s, v)] := by
      unfold putK
      rw [any_key, r.keys, decide_eq_false hn]
      rfl
    rw [e, ← a2]
    exact nx σ W3 _ E3 (by rw [a1]; exact (g1.trans g2).b) k
end
/-! ### sorted(list of texts) -/
theorem strs_back {H : Hp} : ∀ {xs : List (List Nat)} {ys : List Str}, ys.Perm (xs.map fun s => (⟨s.toArray⟩ : Str)) → (ys.map fun y => y.cps.toList).Perm xs := fun {xs ys} h => by
  have := h.map fun y : Str => y.cps.toList
  rw [List.map_map] at this
  have e : xs.map ((fun y : Str => y.cps.toList) ∘ fun s => (⟨s.toArray⟩ : Str)) = xs := by
    conv => rhs; rw [← List.map_id xs]
    rfl
  rw [e] at this
  exact this
theorem rep_strs {H : Hp} : ∀ ys : List Str, Reps H (ys.map fun y => D.str y.cps.toList) (ys.map V.str)
  | [] => .nil
  | y :: ys => .cons (rep_str y) (rep_strs ys)
theorem lst_tr2 {a b c : List Nat} (h1 : ¬ b < a) (h2 : ¬ c < b) : ¬ c < a := fun h => by
  rcases Decidable.em (a < b) with h3 | h3
  · exact h2 (List.lt_trans h h3)
  · have e := List.le_antisymm (List.not_lt.mp h1) (List.not_lt.mp h3)
    rw [e] at h
    exact h2 h
theorem rising2 : ∀ (r : List Str) (p : Str), risingS p r = true → (∀ x ∈ r, ¬ x.cps.toList < p.cps.toList) ∧ r.Pairwise fun a b => ¬ b.cps.toList < a.cps.toList
  | [], _, _ => ⟨fun _ h => (nomatch h), List.Pairwise.nil⟩
  | x :: r, p, h => by
    unfold risingS at h
    rw [Bool.and_eq_true, Bool.not_eq_true'] at h
    have h1 : ¬ x.cps.toList < p.cps.toList := by
      have := h.1
      rw [ltCps_eq] at this
      exact of_decide_eq_false this
    obtain ⟨a, b⟩ := rising2 r x h.2
    refine ⟨fun y hy => ?_, List.pairwise_cons.mpr ⟨a, b⟩⟩
    rcases List.mem_cons.mp hy with e | hy
    · rw [e]; exact h1
    · exact lst_tr2 h1 (a y hy)
theorem sorted2 {l : List Str} (h : sortedS l = true) (nd : (l.map fun y => y.cps.toList).Nodup) : (l.map fun y => y.cps.toList).Pairwise (· < ·) := by
  have h1 : l.Pairwise fun a b => ¬ b.cps.toList < a.cps.toList := by
    cases l with
    | nil => exact List.Pairwise.nil
    | cons x r =>
      obtain ⟨a, b⟩ := rising2 r x h
      exact List.pairwise_cons.mpr ⟨a, b⟩
  refine ((List.pairwise_map (R := fun a b : List Nat => ¬ b < a) (f := fun y : Str => y.cps.toList)).mpr h1 |>.and nd).imp fun {a b} hab => ?_
  by_cases q : a < b
  · exact q
  · exact absurd (List.le_antisymm (List.not_lt.mp hab.1) (List.not_lt.mp q)) hab.2
theorem cd_sortS {K : PySem.W.Frag} {F : List (List Nat)} (hl : F.length < 64) (nd : F.Nodup) : CD (rSortedS K) [.lst (F.map D.str)] (fun e => ∃ M : List (List Nat), e = .own (M.map D.str) ∧ M.Perm F ∧ M.Pairwise (· < ·)) := fun W vs r Q q => by
  cases r with
  | cons r rr =>
    cases rr
    cases r with
    | lst ha ra =>
      rename_i a ws
      have ew := txs_of ra
      refine ⟨a, _, rfl, sq_l (by rw [← ew]; exact W.le _ _ ha), by rw [List.length_map]; exact hl, fun ys pp hp hs hn => ?_⟩
      have pm := strs_back (H := W.b) hp
      obtain ⟨g, c⟩ := new_own (Grow.refl W) hn (rep_strs (H := W.b) ys)
      refine q (.ref pp) _ _ g c ⟨ys.map fun y => y.cps.toList, by rw [List.map_map]; rfl, pm, sorted2 hs (pm.nodup_iff.mpr nd)⟩
end Nt

namespace Nr
open PySem PySem.Spec PySem.Calls PyProof.Rows L2 NdefX
/-! ### an own error's __init__ that begins with super().__init__(text) -/
/-- an own error's instance e, its method-wrapper at u called: the wrapper hands e on to ValueError's own __init__, which lays the arguments anew -/
theorem call_mw {pr : Program} {wo : World} {Ar : Around} {Er : Value → Shared → Prop} {hp : Heap} {gs : Array GenState} {dw : Drawn} {tk : Nat} {oz : OsState} {n1 n2 : Str} {C N1 : Addr} {b1 b2 : List Value} {hd : Bool} {s1 : List Str} {s2 : List Value} {ab : Bool} {cl : Option Bool} {dt : Option Addr} {x0 x1 x2 x3 x5 : Option Value}
    {u e t0 : Addr} {us : List Value} {Q : Value → Shared → Prop} (hC : hp.get? C = some (excClassObj n1 n2 C N1 b1 b2 hd s1 s2 ab cl dt x0 x1 x2 x3 x5 "ValueError.__new__")) (he : hp.get? e = some (HandSPX.excO C t0)) (hu : hp.get? u = some (W.kxs_mw "ValueError.__init__" e)) (hl : us.length ≤ sizeLine)
    (hq : ∀ g1 t1, (∀ b o, b ≠ e → hp.get? b = some o → g1.get? b = some o) → g1.get? e = some (HandSPX.excO C t1) → Q .none ⟨g1, gs, dw, tk, oz⟩) : wpAny (model pr wo) Ar (call (.ref u) us) Q Er ⟨hp, gs, dw, tk, oz⟩ := by
  have kinds : (Value.type "method-wrapper" == Value.type "method" || Value.type "method-wrapper" == Value.type "builtin_function_or_method" || Value.type "method-wrapper" == Value.type "method-wrapper") = true := by decide
  apply wpAny_call; apply codeAny_of_tree
  show wpAny _ Ar.in1 (callAny (.ref u) ⟨us, []⟩) _ _ _
  unfold callAny; apply wpAny_bind; refine wpAny_load hu ?_
  simp only [W.kxs_mw, kinds, if_true]
  refine W.KFB.if_so (by decide) (wpAny_bind (ESX.check_bound F.excBase_ValueError hC he rfl (wpAny_bind (wpAny_pure (wpAny_pure ⟨plainId_quiet F.excBase_ValueError.init.plain _, codeAny_builtin F.excBase_ValueError.initEntry ?_⟩)))))
  rw [Around.under_plainId F.excBase_ValueError.init.plain _]
  wp_walk
  exact hq _ hp.objs.size (fun b o hb ho => by rw [Heap.get?_update_other _ _ (Ne.symm hb)]; exact Heap.get?_push_of_some _ ho) (by rw [Heap.get?_update_self _ (Heap.get?_push_of_some _ he) rfl]; rfl)
/-- what the written part says of the __init__ -/
structure SupFn (P : Program) (K : PySem.W.Frag) (qual : Str) (args : Arguments) (body : List Stmt) (scope : Scope) (C fI : Addr) (fd : FuncData) (cda cc : Addr) : Prop where
  ex : ∃ (oc kV doc pm : Value) (od an : Option Addr) (ct : Value) (osl : Array (Option Value)), fd = PySem.W.ksFn "__init__" qual args body scope .none kV doc pm an (.ref cda) ct cc ∧ K.lookup fI = some ⟨oc, od, .func fd, osl⟩
  cd : PySem.W.codeIn K (.ref cda) qual = true
  code : ∃ (ccl : Value) (cdd : Option Addr) (vs : Array Value) (ccs : Array (Option Value)) (file : Str) (tf : Tok), K.lookup cda = some ⟨ccl, cdd, .fields vs, ccs⟩ ∧ vs[2]? = some (.str file tf) ∧ ((P.main.file : Str) == file) = true
  cell : ∃ (cl : Value) (cld : Option Addr) (csl : Array (Option Value)), K.lookup cc = some ⟨cl, cld, .cell (some (.ref C)), csl⟩
  ini : PySem.W.ks_superIn K C C "__init__" = some (some (.builtin "ValueError.__init__"))
  tp : PySem.W.nsIn K cStatics "thirdparty.any" = some none
  own : PySem.W.mroIn K C (.ref C) = some true
  ve : PySem.W.subIn K (.ref C) (.type "ValueError") = some true
  top : (P.main.scope.names.lookup ("super" : Str)).isSome = false
section
variable {P : Program} {w : World} {K : PySem.W.Frag} {mg : Str → Option Value} {base : Heap} {CX : CXT} {qual : Str} {args : Arguments} {scope : Scope} {C fI cda cc : Addr} {fd : FuncData} {N ps' : List Str} {sp : Sp} {k : Nat} {ar : Arg}
  {m : Str} {j : Nat} {p0 p1 p2 p3 p4 p5 : Pos} {rest : List Stmt}
abbrev supSt (m : Str) (j : Nat) (p0 p1 p2 p3 p4 p5 : Pos) : Stmt := .Expr (.Call (.Attribute (.Call (.Name "super" p0) [] [] p1) "__init__" p2) [.Constant (.str m) j p3] [] p4) p5
theorem sup_ok (Fs : SupFn P K qual args (supSt m j p0 p1 p2 p3 p4 p5 :: rest) scope C fI fd cda cc) (T : OexC K C) (S : NScope N (("self" : Str) :: ps') ["__class__"] scope) (har : (args.posonlyargs ++ args.args).head? = some ar) (ha : ar.arg = "self")
    (hks : scope.names.lookup ("super" : Str) = some .globalImplicit) (hmg : mg "super" = none) (len : ∀ vs H Q E, sp vs H Q E → vs.length = (("self" : Str) :: ps').length)
    (hev : ∀ env : Env, ∃ pl : Sem Bool, eval (.Call (.Attribute (.Call (.Name "super" p0) [] [] p1) "__init__" p2) [.Constant (.str m) j p3] [] p4) env = (do
      let ov ← attributeBase (.Call (.Name "super" p0) [] [] p1) "__init__" env (eval (.Call (.Name "super" p0) [] [] p1) env)
      standAt p2.atName
      let (f, first) ← holding [ov] (getMethod ov "__init__" pl)
      callWith p4 f first (backTo p4 (starEach [.Constant (.str m) j p3] env)) []))
    (hs : ∀ env : Env, swapsWith (.Call (.Attribute (.Call (.Name "super" p0) [] [] p1) "__init__" p2) [.Constant (.str m) j p3] [] p4) none p5.line env = pure false)
    (hbody : ∀ (A : Around) (outer : List Env) (s : Shared) (H : Hp) (vs : List V) (Q : VK) (E : XK), Room k (A.deeper (envF ⟨"__init__", qual, args, supSt m j p0 p1 p2 p3 p4 p5 :: rest, scope, [("__class__", cc)], cda⟩ fI s.heap.objs.size)) → sp vs H Q E →
      ∃ a, vs.head? = some (.ref a) ∧ H a = some (exo a C none) ∧ ∃ t, PSs (ncx CX P w K mg base N ⟨"__init__", qual, args, supSt m j p0 p1 p2 p3 p4 p5 :: rest, scope, [("__class__", cc)], cda⟩ fI A outer s H E) rest t ∧
        t { nx := fun _ H' => Q .non H', rt := Q } (startF N vs [some (.ref C)]) H) :
    FnOk P w K mg base CX (k + 1) fI fd (("self" : Str) :: ps') sp := by
  obtain ⟨⟨oc, kV, doc, pm, od, an, ct, osl, rfl, lk⟩, hcd, ⟨ccl, cdd, vsC, ccs, file, tf, lc, hv2, hfile⟩, ⟨cl, cld, csl, lcc⟩, hini, htp, hown, hve, htop⟩ := Fs
  refine ⟨len, fun A outer s H as us vs Q E hr e0 hb r hsp => ?_⟩
  have hl := len _ _ _ _ hsp
  have low : ∀ b o, base.get? b = some o → s.heap.get? b = some o := fun b o e => (e0.bs b o e).1
  have KX : K.In s.heap := e0.mod.kin.keeps low
  have lim : s.heap.NoLimit := e0.mod.nolimit.keeps low
  obtain ⟨a, ea, eH, t, ht, hq⟩ := hbody A outer s H vs Q E (hr.deeper _) hsp
  have CA : CellsAt [("__class__", cc)] ["__class__"] [some (.ref C)] s.heap H := by
    have hnone : H cc = none := (e0.bs _ _ (e0.mod.kin _ _ lcc)).2
    have hcl : s.heap.IsCell cc (some (.ref C)) := ⟨_, KX _ _ lcc, rfl⟩
    have key : ∀ {y : Str} {c : Addr}, ([("__class__", cc)] : List (Str × Addr)).lookup y = some c → y = "__class__" ∧ c = cc := fun {y c} e => by
      rw [List.lookup_cons] at e
      by_cases hy : y = "__class__"
      · subst hy
        simp at e
        exact ⟨rfl, e.symm⟩
      · have hf : (y == ("__class__" : Str)) = false := beq_eq_false_iff_ne.mpr hy
        rw [hf] at e
        cases e
    refine ⟨rfl, fun y c e => ?_, fun x y c e1 e2 => ?_, fun i y e => ?_⟩
    · obtain ⟨rfl, rfl⟩ := key e
      exact ⟨hnone, _, hcl⟩
    · rw [(key e1).1, (key e2).1]
    · cases i with
      | zero =>
        cases e
        refine ⟨cc, rfl, fun v e => ?_⟩
        cases e
        exact ⟨_, rfl, hcl⟩
      | succ i => cases e
  have hcell := S.nocell
  have hloc : ∀ y ∈ (("self" : Str) :: ps').zip us, scope.names.lookup y.1 = some .local := fun ⟨n, v⟩ hy => S.par n (List.of_mem_zip hy).1
  refine ks_codeAny_call_defAt (fd := PySem.W.ksFn "__init__" qual args (supSt m j p0 p1 p2 p3 p4 p5 :: rest) scope .none kV doc pm an (.ref cda) ct cc) (body := supSt m j p0 p1 p2 p3 p4 p5 :: rest) (binds := (("self" : Str) :: ps').zip us)
    hr.depth (KX _ _ lk) rfl lim (PySem.W.codeRec_of KX hcd) rfl hb hcell hloc (fun h₁ hns kp => ?_) S.co S.gen S.kind
  have I : Inv (ncx CX P w K mg base N ⟨"__init__", qual, args, supSt m j p0 p1 p2 p3 p4 p5 :: rest, scope, [("__class__", cc)], cda⟩ fI A outer s H E) [] (startF N vs [some (.ref C)]) H { s with heap := h₁, toks := s.toks + ((("self" : Str) :: ps').zip us).length } :=
    inv_startN S hr.hd e0 hl r CA hns kp
  have KX1 : K.In h₁ := KX.keeps kp
  obtain ⟨nm, qc, Nc, bs, bm, sn, sub, ab, col, dd, k0, k1, k2, k3, k5, hC, hbm⟩ := T.cls
  have hcl : PySem.W.clsIn K C = some { name := nm, bases := bs, mro := .ref C :: bm, ns := Nc, qualname := qc, hasDict := true, slotNames := sn, subclasses := sub, abstract := ab, collection := col, hasDel := false } := by unfold PySem.W.clsIn; rw [hC] <;> rfl
  obtain ⟨t1, ho⟩ := exo_at I.hok eH
  obtain ⟨us', rfl⟩ : ∃ us', us = .ref a :: us' := by
    cases vs with
    | nil => cases ea
    | cons v vs' =>
      cases ea
      cases r with
      | cons r0 r' =>
        rename_i u ur
        have : u = Value.ref a := r0
        exact ⟨ur, by rw [this]⟩
  have ndp : ((("self" : Str) :: ps')).Nodup := by
    have q := S.nd.sublist (List.take_sublist ((("self" : Str) :: ps').length + [("__class__" : Str)].length) N)
    rw [S.pre] at q
    exact (List.nodup_append.mp q).1
  have hself : (((("self" : Str) :: ps').zip (Value.ref a :: us')).reverse.lookup ("self" : Str)) = some (Value.ref a) := zip_look (i := 0) (us := Value.ref a :: us') ndp (by rfl) (by rfl)
  obtain ⟨pl, hev⟩ := hev (callEnv (PySem.W.ksFn "__init__" qual args (supSt m j p0 p1 p2 p3 p4 p5 :: rest) scope .none kV doc pm an (.ref cda) ct cc) s.heap.objs.size fI)
  refine ks_wpAt_execs_cons (ks_wpAt_Expr_any (ks_wpAt_MethodCall ?_ hev) (by show (scope.kind == .module && _) = false; rw [S.kind]; rfl) (hs _))
  refine ks_wpAt_super_base (env := callEnv (PySem.W.ksFn "__init__" qual args (supSt m j p0 p1 p2 p3 p4 p5 :: rest) scope .none kV doc pm an (.ref cda) ct cc) s.heap.objs.size fI) hks (S.frk _ (List.mem_cons_self)) (by decide) rfl (KX1 _ _ lk) rfl har rfl (KX1 _ _ lc) rfl hv2 hfile htop ?_
  obtain ⟨mb, hb1, hb2⟩ := I.mod.blt
  refine PySem.W.ks_loadName_global S.kind hks (Calls.loadGlobal_builtin (by rw [show (callEnv (PySem.W.ksFn "__init__" qual args (supSt m j p0 p1 p2 p3 p4 p5 :: rest) scope .none kV doc pm an (.ref cda) ct cc) s.heap.objs.size fI).globals = mainGlobals from rfl]; exact I.mod.glob.keeps I.bk) hmg (hb1.keeps I.bk) ((hb2 _ (by decide)).trans (by first | rfl | kernel_rfl)) ⟨rfl, ?_⟩)
  refine wpAny_loadName_free S.kind (S.frk _ (List.mem_cons_self)) rfl ⟨_, KX1 _ _ lcc, rfl⟩ ?_
  rw [ha]
  refine wpAny_loadName_local S.kind (S.par _ (List.mem_cons_self)) hns hself ?_
  have hC1 : h₁.get? C = some (excClassObj nm qc C Nc bs bm true sn sub ab col dd k0 k1 k2 k3 k5 "ValueError.__new__") := KX1 _ _ hC
  have ho1 : h₁.get? a = some (HandSPX.excO C t1) := ho
  refine ks_wpAny_isType_cls hC1 rfl ⟨rfl, ?_⟩
  refine ks_wpAny_call_super hC1 rfl ho1 rfl (fun c e => by cases e) (PySem.W.looks_mroIn KX1 hown) (fun h2 hso k2' => ?_)
  have KX2 : K.In h2 := KX1.keeps k2'
  have I2' : PySem.W.InstAt h2 a (HandSPX.excO C t1) C none := ⟨k2' _ _ ho1, rfl, rfl, trivial⟩
  refine PySem.W.kxs_getMethod PySem.W.kxs_ValueError hso (PySem.W.looks_opaque KX2 htp) (l₀ := .ref C :: bm) ((PySem.W.looks_clsIn KX2 hcl).andThen .now) rfl KX2 (by
    have z := hini
    unfold PySem.W.ks_superIn at z
    rw [hcl] at z
    exact z) (I2'.type.andThen (PySem.W.looks_subIn KX2 hve)) (PySem.W.ks_ne KX2 I2' hcl) (by decide) ?_
  have hmw : (h2.push (PySem.W.kxs_mw "ValueError.__init__" a)).get? h2.objs.size = some (PySem.W.kxs_mw "ValueError.__init__" a) := Heap.get?_push_at rfl rfl
  have up : ∀ b o, h₁.get? b = some o → (h2.push (PySem.W.kxs_mw "ValueError.__init__" a)).get? b = some o := fun b o e => Heap.get?_push_of_some _ (k2' b o e)
  refine PySem.W.kxs_callWith (i := "ValueError.__init__") (x := a) rfl (evalArgs_plain (Calls.spliced_cons (Calls.Constant_str (k := j) (pos := p3) (Calls.spliced_nil ⟨hmw, ?_⟩))))
  show wpAny _ _ (call (.ref h2.objs.size) [.str m _]) _ _ _
  refine call_mw (up _ _ hC1) (up _ _ ho1) hmw (show 1 ≤ sizeLine by decide) (fun h3 t3 k3' e3 => ?_)
  have J := I.write (t' := s.toks + ((("self" : Str) :: ps').zip (Value.ref a :: us')).length + 1 + 1) (x := a) (e := a) (o := exo a C none) (by rw [eH]; exact True.intro) (.inl rfl) (fun b o hb e => k3' b o hb (up b o e)) ⟨_, e3⟩ (exo_ok e3)
  have eu : upd H a (exo a C none) = H := funext fun b => (Decidable.em (b = a)).elim (fun hb => by rw [hb, upd_same, eH]) fun hb => upd_ne hb
  rw [eu] at J
  refine wpAt_of_wpAny (wpAny_mono (ht.run [] _ (startF N vs [some (.ref C)]) H _ J hq) (fun fl s' hs => ?_) fun e s' hs => hs)
  have fin : ∀ {σ' : L2.St} {H' : Hp} {v : V} {u : Value}, Inv (ncx CX P w K mg base N ⟨"__init__", qual, args, supSt m j p0 p1 p2 p3 p4 p5 :: rest, scope, [("__class__", cc)], cda⟩ fI A outer s H E) [] σ' H' s' → L2.RelV v u → Q v H' → CE outer P w H s Q u s' :=
    fun {σ' H' v u} Iv rr qq => ⟨v, H', Iv.os, Iv.bare, Iv.base, Iv.hok, rr, qq⟩
  cases fl with
  | ret u =>
    obtain ⟨v, σ', H', Iv, rr, qq⟩ := hs
    exact fin Iv rr qq
  | next =>
    obtain ⟨σ', H', Iv, qq⟩ := hs
    exact fin (v := V.non) (u := Value.none) Iv rfl qq
  | brk =>
    obtain ⟨_, _, _, q⟩ := hs
    exact False.elim q
  | cont =>
    obtain ⟨_, _, _, q⟩ := hs
    exact False.elim q
end
/-- C(), an own error as a value, C's own __init__ keeping sp -/
def tNewO (C : Addr) (sp : Sp) : TE := fun σ H Q => ∀ a, H a = none → sp [.ref a] (upd H a (exo a C none)) (fun v H2 => v = .non ∧ Q (.ref a) H2) fun _ _ _ => False
section
variable {X : Cx} {CX : CXT} {x : Str} {C fI : Addr} {k : Nat} {fd : FuncData} {sp : Sp} {p pos : Pos}
theorem pe_new0 (T : OexC X.K C) (iC : PySem.W.findIn X.K (.ref C) "__init__" = some (some (.ref fI))) (tI : PySem.W.typeIn X.K (.ref fI) = some (.type "function"))
    (F1 : FnOk X.prog X.w X.K X.mg X.base CX k fI fd ["self"] sp) (hr : Room (k + 1) X.A) (hb : Binds X.K fd ["self"] []) (hx : Passes CX X (fun _ _ _ => False)) (hg : Gl X x) (hm : X.mg x = some (.ref C))
    (hdb : (x == ("__debug__" : Str)) = false := by decide) : PE X (.Call (.Name x p) [] [] pos) (tNewO C sp) := by
  obtain ⟨n1, n2, N1, b1, bm, s1, s2, ab, cl, dt, x0, x1, x2, x3, x5, hC, hbm⟩ := T.cls
  constructor; intro pins s σ H Q I h
  apply wpAny_Call_Name_kw; refine ld_glob I hg hm ?_ hdb
  refine PySem.W.callWith_K0 I.kIn T.kC ?_
  show wpAny _ _ (call (.ref C) []) _ _ _
  obtain ⟨h0, gs, dr, tz, os⟩ := s
  have ge0 : h0.objs.size ≤ h0.objs.size + 1 := Nat.le_succ _
  have hn : H (h0.objs.size + 1) = none := I.hok.fresh ge0
  have hq := h (h0.objs.size + 1) hn
  have kk : ∀ b o, h0.get? b = some o → ((h0.push (PySem.W.kdv_tup [])).push (PySem.HandSPX.excO C h0.objs.size)).get? b = some o := fun b o e => Heap.get?_push_of_some _ (Heap.get?_push_of_some _ e)
  have hget : ((h0.push (PySem.W.kdv_tup [])).push (PySem.HandSPX.excO C h0.objs.size)).get? (h0.objs.size + 1) = some (PySem.HandSPX.excO C h0.objs.size) := by heap_get
  have I2 : Inv X pins σ (upd H (h0.objs.size + 1) (exo (h0.objs.size + 1) C none)) ⟨(h0.push (PySem.W.kdv_tup [])).push (PySem.HandSPX.excO C h0.objs.size), gs, dr, tz, os⟩ :=
    I.laid (t' := tz) (a := h0.objs.size + 1) (o := exo (h0.objs.size + 1) C none) (h' := (h0.push (PySem.W.kdv_tup [])).push (PySem.HandSPX.excO C h0.objs.size)) kk ge0 (exo_ok hget)
  have r2 : Vals [V.ref (h0.objs.size + 1)] [Value.ref (h0.objs.size + 1)] := .cons rfl .nil
  refine wpAny_call (PySem.HandSPX.call_own F.excBase_ValueError (fun Y => PySem.HandSPX.refsVE_contains Y bm hbm) (I.kIn _ _ hC) (PySem.W.looks_findIn I.kIn iC) (fun self => PySem.W.bind_fn I.kIn self tI) (Nat.zero_le _)
    (codeAny_mono (F1.run _ X.stack _ _ ⟨[Value.ref (h0.objs.size + 1)], []⟩ [Value.ref (h0.objs.size + 1)] _ _ (fun _ _ _ => False) (hr.make C [] []) (I2.env0.make C [] []) (hb _ [Value.ref (h0.objs.size + 1)] I2.kIn rfl) r2 hq) fun r s' rq => ?_))
  cases r with
  | error er => exact hx pins σ _ _ er s' I2 rq
  | ok fl =>
    cases fl with
    | ret u =>
      have z := I2.after (show CE X.stack X.prog X.w _ _ _ u s' from rq)
      obtain ⟨v, H2, J, rv, ev, q2⟩ := z
      subst ev
      exact ⟨rv, .ref _, H2, J, rfl, q2⟩
    | _ => exact (False.elim rq)
end
end Nr

namespace Nr
open PySem PySem.Spec PySem.Calls PyProof.Rows L2 NdefX He
/-! ### what the head tells of own error classes -/
/-- an instance of such a class is asked by isinstance -/
structure ExCls (K : PySem.W.Frag) (C : Addr) : Prop where
  (cl : (PySem.W.clsIn K C).isSome = true)
  (ga : PySem.W.findIn K (.ref C) "__getattribute__" = some (some (.builtin "BaseException.__getattribute__")))
  (gt : PySem.W.findIn K (.ref C) "__getattr__" = some none)
  (ex : PySem.W.subIn K (.ref C) (.type "BaseException") = some true)
  (cs : PySem.W.findIn K (.ref C) "__class__" = some (some (.builtin "object.__class__")))
  (sp : PySem.W.specialIn K (.builtin "object.__class__") "__get__" = some (some (.builtin "getset_descriptor.__get__")))
  (tk : PySem.W.takesIn K (.builtin "object.__class__") = some true)
  (ob : PySem.W.mroIn K C (.type "object") = some true)
  (no : ∀ T ∈ (["str", "int", "bool", "tuple", "list", "dict"] : List String), PySem.W.kitOne K (.ref C) (.type T) = some false)
def exClsB (K : PySem.W.Frag) (C : Addr) : Bool :=
  (PySem.W.clsIn K C).isSome && (PySem.W.findIn K (.ref C) "__getattribute__" == some (some (.builtin "BaseException.__getattribute__")) && (PySem.W.findIn K (.ref C) "__getattr__" == some none &&
  (PySem.W.subIn K (.ref C) (.type "BaseException") == some true && (PySem.W.findIn K (.ref C) "__class__" == some (some (.builtin "object.__class__")) && (PySem.W.specialIn K (.builtin "object.__class__") "__get__" == some (some (.builtin "getset_descriptor.__get__")) &&
  (PySem.W.takesIn K (.builtin "object.__class__") == some true && (PySem.W.mroIn K C (.type "object") == some true && (["str", "int", "bool", "tuple", "list", "dict"] : List String).all fun T => PySem.W.kitOne K (.ref C) (.type T) == some false)))))))
theorem exClsB_ok {K : PySem.W.Frag} {C : Addr} (h : exClsB K C = true) : ExCls K C := by
  obtain ⟨h1, h⟩ := ba h
  obtain ⟨h2, h⟩ := ba h
  obtain ⟨h3, h⟩ := ba h
  obtain ⟨h4, h⟩ := ba h
  obtain ⟨h5, h⟩ := ba h
  obtain ⟨h6, h⟩ := ba h
  obtain ⟨h7, h⟩ := ba h
  obtain ⟨h8, h9⟩ := ba h
  exact ⟨h1, beq_iff_eq.mp h2, beq_iff_eq.mp h3, beq_iff_eq.mp h4, beq_iff_eq.mp h5, beq_iff_eq.mp h6, beq_iff_eq.mp h7, beq_iff_eq.mp h8, fun T hT => beq_iff_eq.mp (List.all_eq_true.mp h9 T hT)⟩
def mroB (C : Addr) : List Value → Bool
  | .ref C' :: bm => decide (C' = C) && PySem.HandSPX.refsVE bm
  | _ => false
theorem mroB_ok {C : Addr} {l : List Value} (h : mroB C l = true) : ∃ bm, l = .ref C :: bm ∧ PySem.HandSPX.refsVE bm = true := by
  cases l with
  | nil => cases h
  | cons v bm =>
    cases v with
    | ref C' =>
      obtain ⟨b1, b2⟩ := ba (show (decide (C' = C) && PySem.HandSPX.refsVE bm) = true from h)
      exact ⟨bm, by rw [of_decide_eq_true b1], b2⟩
    | _ => cases h
def slB : List (Option Value) → Bool
  | _ :: _ :: _ :: _ :: k4 :: _ :: [] => k4 == some (.builtin "ValueError.__new__")
  | _ => false
theorem slB_ok {l : List (Option Value)} (h : slB l = true) : ∃ k0 k1 k2 k3 k5, l = [k0, k1, k2, k3, some (.builtin "ValueError.__new__"), k5] := by
  match l, h with
  | [k0, k1, k2, k3, k4, k5], h =>
    have e : k4 = some (.builtin "ValueError.__new__") := beq_iff_eq.mp h
    exact ⟨k0, k1, k2, k3, k5, by rw [e]⟩
def oexB (K : PySem.W.Frag) (C : Addr) : Bool := (match K.lookup C with
  | some ⟨.type c, _, .cls cd, sl⟩ => decide (c = "type") && (cd.hasDict && (!cd.hasDel && (mroB C cd.mro && slB sl.toList)))
  | _ => false) && (PySem.W.findIn K (.ref C) "__setattr__" == some (some (.builtin "object.__setattr__")) && (PySem.W.subIn K (.ref C) (.type "BaseException") == some true && (PySem.W.typeIn K (.ref C) == some (.type "type") && PySem.W.keepIn K (.ref C))))
theorem oexB_ok {K : PySem.W.Frag} {C : Addr} (h : oexB K C = true) : OexC K C := by
  obtain ⟨h1, h⟩ := ba h
  obtain ⟨h2, h⟩ := ba h
  obtain ⟨h3, h⟩ := ba h
  obtain ⟨h4, h5⟩ := ba h
  refine ⟨?_, beq_iff_eq.mp h2, beq_iff_eq.mp h3, beq_iff_eq.mp h4, h5⟩
  cases q : K.lookup C with
  | none =>
    rw [q] at h1
    cases h1
  | some o =>
    obtain ⟨oc, od, dt, sl⟩ := o
    rw [q] at h1
    cases oc with
    | type c =>
      cases dt with
      | cls cd =>
        obtain ⟨a1, a2⟩ := ba h1
        obtain ⟨a3, a4⟩ := ba a2
        obtain ⟨a5, a6⟩ := ba a4
        obtain ⟨a7, a8⟩ := ba a6
        obtain ⟨c1, c2, c3, c4, c5, c6, c7, c8, c9, c10, c11⟩ := cd
        have e1 : c = "type" := of_decide_eq_true a1
        have e6 : c6 = true := a3
        have e11 : c11 = false := by
          cases c11 with
          | false => rfl
          | true => cases a5
        subst e1 e6 e11
        obtain ⟨bm, e3, b2⟩ := mroB_ok (show mroB C c3 = true from a7)
        subst e3
        obtain ⟨k0, k1, k2, k3, k5, es⟩ := slB_ok a8
        obtain ⟨l⟩ := sl
        have es' : l = [k0, k1, k2, k3, some (.builtin "ValueError.__new__"), k5] := es
        subst es'
        exact ⟨_, _, _, _, _, _, _, _, _, _, _, _, _, _, _, rfl, b2⟩
      | _ => cases h1
    | _ => cases dt <;> cases h1
abbrev FnC : Type := Option (Str × Str × Arguments × FuncBody × Scope × Addr × List Str × Addr)
def fnC (K : PySem.W.Frag) (f : Addr) : FnC := match K.lookup f with
  | some ⟨_, _, .func fd, _⟩ => some (fd.name, fd.qualname, fd.params, fd.body, fd.scope, fd.globals, fd.closure.map (·.1), fd.builtins)
  | _ => none
def fileB (f : Str) : Option Value → Bool
  | some (.str file _) => f == file
  | _ => false
theorem fileB_ok {f : Str} {v : Option Value} (h : fileB f v = true) : ∃ file tf, v = some (.str file tf) ∧ (f == file) = true := by
  cases v with
  | none => cases h
  | some u =>
    cases u with
    | str file tf => exact ⟨file, tf, rfl, h⟩
    | _ => cases h
def fldB (f : Str) : Option Obj → Bool
  | some ⟨_, _, .fields vs, _⟩ => fileB f vs[2]?
  | _ => false
theorem fldB_ok {f : Str} {o : Option Obj} (h : fldB f o = true) : ∃ ccl cdd vs ccs file tf, o = some ⟨ccl, cdd, .fields vs, ccs⟩ ∧ vs[2]? = some (.str file tf) ∧ (f == file) = true := by
  cases o with
  | none => cases h
  | some o =>
    obtain ⟨oc, od, dt, sl⟩ := o
    cases dt with
    | fields vs =>
      obtain ⟨file, tf, e, g⟩ := fileB_ok (show fileB f vs[2]? = true from h)
      exact ⟨oc, od, vs, sl, file, tf, rfl, e, g⟩
    | _ => cases h
def codB (P : Program) (K : PySem.W.Frag) : Value → Bool
  | .ref cda => fldB P.main.file (K.lookup cda)
  | _ => false
def celB (C : Addr) : Option Obj → Bool
  | some ⟨_, _, .cell (some v), _⟩ => v == .ref C
  | _ => false
theorem celB_ok {C : Addr} {o : Option Obj} (h : celB C o = true) : ∃ cl cld csl, o = some ⟨cl, cld, .cell (some (.ref C)), csl⟩ := by
  cases o with
  | none => cases h
  | some o =>
    obtain ⟨oc, od, dt, sl⟩ := o
    cases dt with
    | cell v =>
      cases v with
      | none => cases h
      | some v =>
        have e : v = .ref C := beq_iff_eq.mp (show (v == .ref C) = true from h)
        subst e
        exact ⟨oc, od, sl, rfl⟩
    | _ => cases h
def cloB (K : PySem.W.Frag) (C : Addr) : List (Str × Addr) → Bool
  | (_, cc) :: [] => celB C (K.lookup cc)
  | _ => false
/-- an own error class by its name, its __init__, the fields that it stores -/
structure ErrD where
  x : Str
  qual : Str
  params : Arguments
  body : List Stmt
  scope : Scope
  fields : List Str
def iniAd (K : PySem.W.Frag) (x : Str) : Addr := ma K (ga K x) "__init__"
def ErrD.val (d : ErrD) : FnC := some ("__init__", d.qual, d.params, .stmts d.body, d.scope, mainGlobals, ["__class__"], builtinsNs)
def ErrD.ok (P : Program) (K : PySem.W.Frag) (d : ErrD) : Bool :=
  (match K.lookup (iniAd K d.x) with
  | some ⟨_, _, .func fd, _⟩ => (fd.defaults == .none) && (PySem.W.codeIn K fd.code d.qual && (codB P K fd.code && cloB K (ga K d.x) fd.closure))
  | _ => false) && (PySem.W.ks_superIn K (ga K d.x) (ga K d.x) "__init__" == some (some (.builtin "ValueError.__init__")) && (PySem.W.nsIn K cStatics "thirdparty.any" == some none && (PySem.W.mroIn K (ga K d.x) (.ref (ga K d.x)) == some true &&
  (PySem.W.subIn K (.ref (ga K d.x)) (.type "ValueError") == some true && (!(P.main.scope.names.lookup ("super" : Str)).isSome && (PySem.W.findIn K (.ref (ga K d.x)) "__init__" == some (some (.ref (iniAd K d.x))) && (PySem.W.typeIn K (.ref (iniAd K d.x)) == some (.type "function") &&
  (oexB K (ga K d.x) && (exClsB K (ga K d.x) && d.fields.all fun f => PySem.W.findIn K (.ref (ga K d.x)) f == some none)))))))))
/-- an own error class, all told -/
structure ErrC (P : Program) (K : PySem.W.Frag) (d : ErrD) (C fI : Addr) (fd : FuncData) : Prop where
  sup : ∃ cda cc, SupFn P K d.qual d.params d.body d.scope C fI fd cda cc
  ini : PySem.W.findIn K (.ref C) "__init__" = some (some (.ref fI))
  ity : PySem.W.typeIn K (.ref fI) = some (.type "function")
  oex : OexC K C
  cls : ExCls K C
  nof : ∀ f ∈ d.fields, PySem.W.findIn K (.ref C) f = some none
theorem errC_of {P : Program} {K : PySem.W.Frag} {d : ErrD} (e : fnC K (iniAd K d.x) = d.val) (h : d.ok P K = true) : ∃ fd, ErrC P K d (ga K d.x) (iniAd K d.x) fd := by
  obtain ⟨h1, h⟩ := ba h
  obtain ⟨h2, h⟩ := ba h
  obtain ⟨h3, h⟩ := ba h
  obtain ⟨h4, h⟩ := ba h
  obtain ⟨h5, h⟩ := ba h
  obtain ⟨h6, h⟩ := ba h
  obtain ⟨h7, h⟩ := ba h
  obtain ⟨h8, h⟩ := ba h
  obtain ⟨h9, h⟩ := ba h
  obtain ⟨h10, h11⟩ := ba h
  have h6' : (P.main.scope.names.lookup ("super" : Str)).isSome = false := by
    cases z : (P.main.scope.names.lookup ("super" : Str)).isSome with
    | false => rfl
    | true => rw [z] at h6; cases h6
  cases q : K.lookup (iniAd K d.x) with
  | none =>
    rw [q] at h1
    cases h1
  | some o =>
    obtain ⟨oc, od, dt, osl⟩ := o
    unfold fnC at e
    rw [q] at h1 e
    cases dt with
    | func fd =>
      obtain ⟨n1, n2, n3, n4, n5, n6, n7, n8, n9, n10, n11, n12, n13, n14, n15⟩ := fd
      have e2 : (some (n1, n2, n3, n4, n5, n6, n7.map (·.1), n15) : FnC) = some (("__init__" : Str), d.qual, d.params, .stmts d.body, d.scope, mainGlobals, [("__class__" : Str)], builtinsNs) := e
      simp only [Option.some.injEq, Prod.mk.injEq] at e2
      obtain ⟨g1, g2, g3, g4, g5, g6, g7, g8⟩ := e2
      subst g1 g2 g3 g4 g5 g6 g8
      obtain ⟨a1, a⟩ := ba h1
      obtain ⟨a2, a⟩ := ba a
      obtain ⟨a3, a4⟩ := ba a
      have e8 : n8 = .none := beq_iff_eq.mp a1
      subst e8
      obtain ⟨cda, rfl⟩ : ∃ cda, n13 = .ref cda := by
        cases n13 with
        | ref c => exact ⟨c, rfl⟩
        | _ => cases a3
      obtain ⟨cc, rfl⟩ : ∃ cc : Addr, n7 = [(("__class__" : Str), cc)] := by
        cases n7 with
        | nil => cases g7
        | cons p r =>
          obtain ⟨y, c⟩ := p
          cases r with
          | nil =>
            have : y = ("__class__" : Str) := List.head_eq_of_cons_eq g7
            exact ⟨c, by rw [this]⟩
          | cons _ _ =>
            have := List.tail_eq_of_cons_eq g7
            cases this
      refine ⟨_, ⟨cda, cc, ⟨oc, n9, n10, n11, od, n12, n14, osl, rfl, q⟩, a2, ?_, ?_, beq_iff_eq.mp h2, beq_iff_eq.mp h3, beq_iff_eq.mp h4, beq_iff_eq.mp h5, h6'⟩, beq_iff_eq.mp h7, beq_iff_eq.mp h8, oexB_ok h9, exClsB_ok h10, fun f hf => beq_iff_eq.mp (List.all_eq_true.mp h11 f hf)⟩
      · obtain ⟨ccl, cdd, vs, ccs, file, tf, e1, e2, e3⟩ := fldB_ok (show fldB P.main.file (K.lookup cda) = true from a3)
        exact ⟨ccl, cdd, vs, ccs, file, tf, e1, e2, e3⟩
      · exact celB_ok (show celB (ga K d.x) (K.lookup cc) = true from a4)
    | _ => cases h1
/-! ### the Hook -/
def asE (g : Addr → Option Obj) (n : Nat) : List Addr := cStatics :: asD g n
abbrev AlE : Type := AlT × Bool × List FnC
def obsE (n : Nat) (fa : List Fa) (fn : List DefD) (ts : List Tab) (es : List ErrD) (ex : PySem.W.Frag → Bool) (g : Addr → Option Obj) : AlE :=
  (obsT fa fn ts (frG g (asE g n)), ex (frG g (asE g n)), es.map fun d => fnC (frG g (asE g n)) (iniAd (frG g (asE g n)) d.x))
def valE (fn : List DefD) (ts : List Tab) (es : List ErrD) (w : World) : AlE := (valT fn ts w, true, es.map ErrD.val)
structure SaysE (fa : List Fa) (fn : List DefD) (ts : List Tab) (es : List ErrD) (ex : PySem.W.Frag → Bool) (w : World) (K : PySem.W.Frag) : Prop where
  t : SaysT fa fn ts w K
  more : ex K = true
  fns : (es.map fun d => fnC K (iniAd K d.x)) = es.map ErrD.val
def hookE (n : Nat) (fa : List Fa) (fn : List DefD) (ts : List Tab) (es : List ErrD) (ex : PySem.W.Frag → Bool) : PySem.W.Hook where
  α := AlE
  obs := fun s => obsE n fa fn ts es ex s.heap.get?
  val := fun w => valE fn ts es w
  says := fun w h => ∃ K : PySem.W.Frag, K.In h ∧ SaysE fa fn ts es ex w K
  of := fun _ _ e => ⟨_, frG_in, congrArg (fun z : AlE => z.1) e, congrArg (fun z : AlE => z.2.1) e, congrArg (fun z : AlE => z.2.2) e⟩
  keeps := fun _ _ _ ⟨K, inh, says⟩ up => ⟨K, PySem.W.Frag.In.keeps inh up, says⟩
theorem obsE_eq {n : Nat} {fa : List Fa} {fn : List DefD} {ts : List Tab} {es : List ErrD} {ex : PySem.W.Frag → Bool} {g : Addr → Option Obj} {s : Shared} (h : ∀ a, g a = s.heap.get? a) : obsE n fa fn ts es ex g = (hookE n fa fn ts es ex).obs s := by
  have e := (funext h : g = s.heap.get?)
  rw [e] <;> rfl
theorem SaysE.err {fa : List Fa} {fn : List DefD} {ts : List Tab} {es : List ErrD} {ex : PySem.W.Frag → Bool} {w : World} {K : PySem.W.Frag} {P : Program} (c : SaysE fa fn ts es ex w K) (i : Nat) {d : ErrD} (h : es[i]? = some d) (hk : d.ok P K = true) : ∃ fd, ErrC P K d (ga K d.x) (iniAd K d.x) fd := by
  have e2 : (es.map fun d => fnC K (iniAd K d.x))[i]? = (es.map ErrD.val)[i]? := by rw [c.fns]
  rw [List.getElem?_map, List.getElem?_map, h] at e2
  exact errC_of (Option.some.inj e2) hk
end Nr

namespace Nt
open PySem PySem.Spec PyProof.Rows L2
/-! ### own errors as values -/
def spI1 (C : Addr) (code : Str) : Sp := fun vs H Q E => ∃ a, vs = [.ref a] ∧ H a = some (exo a C none) ∧ ∀ d, H d = none → d ≠ a → Q .non (upd (upd H d (exd d [("code", .str code)])) a (exo a C (some d)))
theorem len_spI1 {C : Addr} {code : Str} : ∀ vs H Q E, spI1 C code vs H Q E → vs.length = 1 := fun vs H Q E ⟨a, e, _⟩ => by rw [e] <;> rfl
section
variable {K : PySem.W.Frag} {ta tb tc te : TE} {ρ : List En} {P : En → Prop}
theorem e_new0 {C : Addr} {code : Str} : ED (Nr.tNewO C (spI1 C code)) ρ (· = .obj C) := fun W0 W σ E Q q => fun a ha => by
  refine ⟨a, rfl, upd_same, fun d hd hda => ⟨rfl, ?_⟩⟩
  have hd' : W.h d = none := by rw [upd_ne hda] at hd; exact hd
  have g1 := Grow.put (W := W) (o := exd d [(("code" : Str), V.str code)]) hd'
  have ha' : (W.put d (exd d [(("code" : Str), V.str code)])).h a = none := by
    show upd W.h d _ a = none
    rw [upd_ne (fun z => hda z.symm)]; exact ha
  have g2 := Grow.put (W := W.put d (exd d [(("code" : Str), V.str code)])) (o := exo a C (some d)) ha'
  have e : upd (upd (upd W.h a (exo a C none)) d (exd d [(("code" : Str), V.str code)])) a (exo a C (some d)) = ((W.put d (exd d [(("code" : Str), V.str code)])).put a (exo a C (some d))).h := by
    funext b
    show _ = upd (upd W.h d _) a _ b
    by_cases h1 : b = a
    · rw [h1, upd_same, upd_same]
    · rw [upd_ne h1, upd_ne h1]
      by_cases h2 : b = d
      · rw [h2, upd_same, upd_same]
      · rw [upd_ne h2, upd_ne h2, upd_ne h1]
  rw [e]
  refine q (.ref a) (.obj C) _ (g1.trans g2) (.obj (d := d) (fs := [(("code" : Str), V.str code)]) upd_same ?_) rfl
  show upd (upd W.b d _) a _ d = _
  rw [upd_ne hda, upd_same]
/-! ### isinstance of any value -/
def rIsiE (K : PySem.W.Frag) : List V → Hp → VK → Prop := fun xs H Q => rIsi K xs H Q ∨ ∃ (a C d : Addr) (fs : List (Str × V)) (T : String) (b : Bool), xs = [.ref a, .ty T] ∧ H a = some (exo a C (some d)) ∧ H d = some (exd d fs) ∧ Nr.ExCls K C ∧ PySem.W.kitOne K (.ref C) (.type T) = some b ∧ Q (.bl b) H
theorem call_isiE {X : Cx} : CallR X (.builtin "isinstance") (rIsiE X.K) := by
  intro pins s σ H xs us Q I r h
  rcases h with h | ⟨a, C, d, fs, T, b, rfl, ha, hd, c, e, q⟩
  · exact call_isi pins s σ H xs us Q I r h
  · obtain ⟨u1, u2, rfl, r1, r2⟩ := vals2 r
    cases (show u1 = Value.ref a from r1)
    cases (show u2 = Value.type T from r2)
    obtain ⟨t1, ho⟩ := exo_at I.hok ha
    obtain ⟨mA, ⟨od, es, ep, h1, h2⟩, _⟩ := exd_at I.hok hd
    have J : PySem.W.InstAt s.heap a ({ cls := .ref C, dict := some d, data := .fields #[.ref t1, .none, .none, .none, .bool false, .none] } : Obj) C (some od) := ⟨ho, rfl, rfl, h1⟩
    exact PySem.W.kia_one (PySem.W.kitx_exc c.cl c.ga c.gt c.ex c.cs c.sp c.tk c.ob) I.kIn J e (fun z => nomatch z) fun tk => ⟨.bl b, H, I.tok tk, rfl, q⟩
theorem call_isiE1 {X : Cx} (hK : X.K = K) : CallR X (.builtin "isinstance") (rIsiE K) := hK ▸ call_isiE
/-- a value that isinstance may be asked of -/
def ValK (K : PySem.W.Frag) : D → Prop
  | .bag | .scr _ _ => False
  | .obj C => Nr.ExCls K C
  | _ => True
def D.isT : D → String → Bool
  | .bl _, T => T == "bool" || T == "int"
  | .int _, T => T == "int"
  | .str _, T => T == "str"
  | .tup _, T => T == "tuple"
  | .lst _, T => T == "list"
  | .dic _, T => T == "dict"
  | _, _ => false
theorem kitB_is {d : D} {T : String} (nb : d.pl = true) (hT : T ∈ (["str", "int", "bool", "tuple", "list", "dict"] : List String)) : kitB d.ty T = some (d.isT T) := by
  simp only [List.mem_cons, List.not_mem_nil, or_false] at hT
  rcases hT with rfl | rfl | rfl | rfl | rfl | rfl <;> cases d <;> first | (simp only [D.ty, D.isT]; decide +kernel) | cases nb
theorem e_isA {d : D} {T : String} (h : ED te ρ (· = d)) (ok : ValK K d) (hT : T ∈ (["str", "int", "bool", "tuple", "list", "dict"] : List String)) : ED (tCB (rIsiE K) (tCons te (tCons (tC (.ty T)) tNil))) ρ (· = .bl (d.isT T)) := fun W0 W σ E Q q => h W0 W σ E _ fun v x W1 g1 r1 p1 => by
  subst p1
  by_cases nb : x.pl = true
  · exact .inl ⟨v, .ty T, .type x.ty, .type T, x.isT T, rfl, .ty T, ty_of nb W1.le r1, kit_ty (kitB_is nb hT), q _ _ W1 g1 (.bl _) rfl⟩
  · cases r1 with
    | obj ha hd => exact .inr ⟨_, _, _, _, T, false, rfl, W1.le _ _ ha, W1.le _ _ hd, ok, ok.no T hT, q _ _ W1 g1 (.bl _) rfl⟩
    | bag _ _ _ => exact ok.elim
    | scr _ => exact ok.elim
    | _ => exact absurd rfl nb
/-! ### further rules -/
theorem e_gcd {i j : Int} (ha : ED ta ρ (· = .int i)) (hb : ED tb ρ (· = .int j)) : ED (tCB rGcd (tCons ta (tCons tb tNil))) ρ (· = .int ((Nat.gcd i.natAbs j.natAbs : Nat) : Int)) := fun W0 W σ E Q q =>
  ha W0 W σ E _ fun v x W1 g1 r1 p1 => hb W0 W1 σ (E.grow g1) _ fun w y W2 g2 r2 p2 => by
    subst p1 p2
    cases r1; cases r2
    exact ⟨i, j, rfl, q _ _ W2 (g1.trans g2) (.int _) rfl⟩
def rMax2 : List V → Hp → VK → Prop := fun xs H Q => ∃ i j : Int, xs = [.int i, .int j] ∧ Q (.int (if j > i then j else i)) H
theorem e_max2 {i j : Int} (ha : ED ta ρ (· = .int i)) (hb : ED tb ρ (· = .int j)) : ED (tCB rMax2 (tCons ta (tCons tb tNil))) ρ (· = .int (if j > i then j else i)) := fun W0 W σ E Q q =>
  ha W0 W σ E _ fun v x W1 g1 r1 p1 => hb W0 W1 σ (E.grow g1) _ fun w y W2 g2 r2 p2 => by
    subst p1 p2
    cases r1; cases r2
    exact ⟨i, j, rfl, q _ _ W2 (g1.trans g2) (.int _) rfl⟩
theorem e_dnew : EV tDNewK ρ (· = .dct []) := fun W0 W σ E Q q => fun p hp =>
  q (.ref p) (.dct []) (W.add p (.dK []) hp) (Grow.add hp) ⟨p, [], rfl, upd_same, W.le.none' hp, hp, .nil⟩ rfl
theorem EV.k1 {kd : List (Key × D)} (h : EV te ρ (· = .dct kd)) : ED te ρ (· = .dic kd) := h.ed fun e q => ⟨.dic kd, by rw [q]; rfl, rfl⟩
/-- a op1 b op2 c -/
theorem e_chain {r r' : R2} {x y z : D} {b c : Bool} (ha : ED ta ρ (· = x)) (hb : ED tb ρ (· = y)) (hc : ED tc ρ (· = z)) (h1 : OD r x y (· = .dat (.bl b))) (h2 : b = true → OD r' y z (· = .dat (.bl c))) : ED (tChain r r' ta tb tc) ρ (· = .bl (b && c)) := fun W0 W σ E Q q =>
  ha W0 W σ E _ fun v x' W1 g1 r1 p1 => hb W0 W1 σ (E.grow g1) _ fun w y' W2 g2 r2 p2 => by
    subst p1 p2
    refine h1 W2 v w (r1.mono g2.b) r2 _ fun u e W3 g3 r3 p3 => ?_
    subst p3
    have r3' : Rep W3.b (.bl b) u := r3
    cases r3'
    refine ⟨b, rfl, ?_⟩
    cases b with
    | false => exact iteF (q _ _ W3 ((g1.trans g2).trans g3) (.bl false) rfl)
    | true =>
      refine iteT (hc W0 W3 σ (E.grow ((g1.trans g2).trans g3)) _ fun u' z' W4 g4 r4 p4 => ?_)
      subst p4
      refine h2 rfl W4 w u' ((r2.mono g3.b).mono g4.b) r4 Q fun u e W5 g5 r5 p5 => ?_
      subst p5
      exact q u _ W5 ((((g1.trans g2).trans g3).trans g4).trans g5) r5 rfl
def rLeS : R2 := fun x y H Q => ∃ i j : Str, x = .str i ∧ y = .str j ∧ Q (.bl (!decide (j.cps.toList < i.cps.toList))) H
theorem od_leS {s t : List Nat} : OD rLeS (.str s) (.str t) (· = .dat (.bl (!decide (t < s)))) := fun W v w a b Q q => by
  cases a; cases b
  exact ⟨_, _, rfl, rfl, dat1 (.bl _) q⟩
theorem od_notB {a b : Bool} : OD rNotB (.bl a) (.bl b) (· = .dat (.bl (!decide (a = b)))) := fun W v w r r' Q q => by
  cases r; cases r'
  exact ⟨a, b, rfl, rfl, dat1 (.bl _) q⟩
end
section
variable {X : Cx}
theorem op_leS : OpR X (compareOp .LtE) rLeS := op_le_str
theorem call_max2K (hc : X.calm = true) : CallR X (.builtin "max") rMax2 := call_max2 hc
end
end Nt

namespace Nt
open PySem PySem.Spec PyProof.Rows L2

def top (i : Nat) : Stmt := PySem.Challenge.pw_newesttells_k01_words_and_ratios_judged.main.body.getD i (.Pass ⟨0, 0, 0, 0⟩)
abbrev s_is_name : Stmt := top 3
abbrev N_is_name : List Str := ["value", "letter"]
abbrev s_is_integer : Stmt := top 4
abbrev N_is_integer : List Str := ["value"]
abbrev s_is_number : Stmt := top 5
abbrev N_is_number : List Str := ["value", "least", "most"]
abbrev s_is_ratio : Stmt := top 6
abbrev N_is_ratio : List Str := ["value", "top", "bottom"]
abbrev s_law_bag : Stmt := top 11
abbrev N_law_bag : List Str := ["_law_script", "_law_mixed", "_law_piece"]
abbrev s_law_draw : Stmt := top 12
abbrev N_law_draw : List Str := ["_law_bag_here", "_law_sides", "_law_piece", "_law_digit", "_law_state"]
abbrev s_law_of : Stmt := top 13
abbrev N_law_of : List Str := ["_law_bag_here", "_law_things"]
abbrev s_law_same : Stmt := top 14
abbrev N_law_same : List Str := ["_law_found", "_law_due", "_law_mark", "_law_x", "_law_y"]
abbrev s_law_word : Stmt := top 15
abbrev N_law_word : List Str := ["_law_bag_here", "_law_signs", "_law_found", "_law_spot", "_law_k"]
abbrev s_law_number : Stmt := top 16
abbrev N_law_number : List Str := ["_law_bag_here", "_law_found"]
abbrev s_law_strange : Stmt := top 17
abbrev N_law_strange : List Str := ["_law_bag_here"]
abbrev s_law_gcd : Stmt := top 18
abbrev N_law_gcd : List Str := ["_law_a", "_law_b", "_law_k"]
abbrev s_law_pair : Stmt := top 19
abbrev N_law_pair : List Str := ["_law_bag_here", "_law_top_part", "_law_low_part", "_law_shape", "_law_common", "_law_more"]
abbrev s_law_plain : Stmt := top 20
abbrev N_law_plain : List Str := ["_law_thing"]
abbrev s_law_is_pair : Stmt := top 21
abbrev N_law_is_pair : List Str := ["_law_thing"]
abbrev s_law_is_word : Stmt := top 22
abbrev N_law_is_word : List Str := ["_law_thing", "_law_sign"]
abbrev s_law : Stmt := top 23
abbrev N_law : List Str := ["_law_script", "_law_bag_here", "_law_turn", "_law_low", "_law_high", "_law_things", "_law_thing", "_law_due"]
abbrev P0 : Program := PySem.Challenge.pw_newesttells_k01_words_and_ratios_judged
def clsBody : Stmt → List Stmt
  | .ClassDef _ _ _ b _ _ _ _ _ _ _ => b
  | _ => []
abbrev si_BadPoint : Stmt := (clsBody (top 9)).getD 0 (.Pass ⟨0, 0, 0, 0⟩)
abbrev dE_BadPoint : Nr.ErrD := ⟨"BadPoint", "BadPoint.__init__", defArgs si_BadPoint, defBody si_BadPoint, defScope si_BadPoint, ["code"]⟩
/-- what the top has written -/
structure Txt (K : PySem.W.Frag) (mg : Str → Option Value) where
  a_is_name : Addr
  d_is_name : FuncData
  a_is_integer : Addr
  d_is_integer : FuncData
  a_is_number : Addr
  d_is_number : FuncData
  a_is_ratio : Addr
  d_is_ratio : FuncData
  a_law_bag : Addr
  d_law_bag : FuncData
  a_law_draw : Addr
  d_law_draw : FuncData
  a_law_of : Addr
  d_law_of : FuncData
  a_law_same : Addr
  d_law_same : FuncData
  a_law_word : Addr
  d_law_word : FuncData
  a_law_number : Addr
  d_law_number : FuncData
  a_law_strange : Addr
  d_law_strange : FuncData
  a_law_gcd : Addr
  d_law_gcd : FuncData
  a_law_pair : Addr
  d_law_pair : FuncData
  a_law_plain : Addr
  d_law_plain : FuncData
  a_law_is_pair : Addr
  d_law_is_pair : FuncData
  a_law_is_word : Addr
  d_law_is_word : FuncData
  a_law : Addr
  d_law : FuncData
  F_is_name : Fun K "is_name" "is_name" s_is_name a_is_name d_is_name
  g_is_name : mg "is_name" = some (.ref a_is_name)
  F_is_integer : Fun K "is_integer" "is_integer" s_is_integer a_is_integer d_is_integer
  g_is_integer : mg "is_integer" = some (.ref a_is_integer)
  F_is_number : Fun K "is_number" "is_number" s_is_number a_is_number d_is_number
  g_is_number : mg "is_number" = some (.ref a_is_number)
  F_is_ratio : Fun K "is_ratio" "is_ratio" s_is_ratio a_is_ratio d_is_ratio
  g_is_ratio : mg "is_ratio" = some (.ref a_is_ratio)
  F_law_bag : Fun K "_law_bag" "_law_bag" s_law_bag a_law_bag d_law_bag
  g_law_bag : mg "_law_bag" = some (.ref a_law_bag)
  F_law_draw : Fun K "_law_draw" "_law_draw" s_law_draw a_law_draw d_law_draw
  g_law_draw : mg "_law_draw" = some (.ref a_law_draw)
  F_law_of : Fun K "_law_of" "_law_of" s_law_of a_law_of d_law_of
  g_law_of : mg "_law_of" = some (.ref a_law_of)
  F_law_same : Fun K "_law_same" "_law_same" s_law_same a_law_same d_law_same
  g_law_same : mg "_law_same" = some (.ref a_law_same)
  F_law_word : Fun K "_law_word" "_law_word" s_law_word a_law_word d_law_word
  g_law_word : mg "_law_word" = some (.ref a_law_word)
  F_law_number : Fun K "_law_number" "_law_number" s_law_number a_law_number d_law_number
  g_law_number : mg "_law_number" = some (.ref a_law_number)
  F_law_strange : Fun K "_law_strange" "_law_strange" s_law_strange a_law_strange d_law_strange
  g_law_strange : mg "_law_strange" = some (.ref a_law_strange)
  F_law_gcd : Fun K "_law_gcd" "_law_gcd" s_law_gcd a_law_gcd d_law_gcd
  g_law_gcd : mg "_law_gcd" = some (.ref a_law_gcd)
  F_law_pair : Fun K "_law_pair" "_law_pair" s_law_pair a_law_pair d_law_pair
  g_law_pair : mg "_law_pair" = some (.ref a_law_pair)
  F_law_plain : Fun K "_law_plain" "_law_plain" s_law_plain a_law_plain d_law_plain
  g_law_plain : mg "_law_plain" = some (.ref a_law_plain)
  F_law_is_pair : Fun K "_law_is_pair" "_law_is_pair" s_law_is_pair a_law_is_pair d_law_is_pair
  g_law_is_pair : mg "_law_is_pair" = some (.ref a_law_is_pair)
  F_law_is_word : Fun K "_law_is_word" "_law_is_word" s_law_is_word a_law_is_word d_law_is_word
  g_law_is_word : mg "_law_is_word" = some (.ref a_law_is_word)
  F_law : Fun K "law" "law" s_law a_law d_law
  g_law : mg "law" = some (.ref a_law)
  n_len : mg "len" = none
  n_all : mg "all" = none
  n_range : mg "range" = none
  n_zip : mg "zip" = none
  n_isinstance : mg "isinstance" = none
  n_list : mg "list" = none
  n_tuple : mg "tuple" = none
  n_dict : mg "dict" = none
  n_str : mg "str" = none
  n_int : mg "int" = none
  n_bool : mg "bool" = none
  n_abs : mg "abs" = none
  n_max : mg "max" = none
  n_super : mg "super" = none
  m_gcd : mg "gcd" = some (.builtin "math.gcd")
  a_BadPoint : Addr
  ai_BadPoint : Addr
  di_BadPoint : FuncData
  g_BadPoint : mg "BadPoint" = some (.ref a_BadPoint)
  x_BadPoint : Nr.ErrC P0 K dE_BadPoint a_BadPoint ai_BadPoint di_BadPoint
  t_LONGEST_NAME : Tok
  c_LONGEST_NAME : mg "LONGEST_NAME" = some (.int 6 t_LONGEST_NAME)
theorem sc_is_name : FnScope N_is_name ["value"] (defScope s_is_name) := ⟨rfl, rfl, rfl, by decide +kernel, rfl, by decide +kernel, by decide +kernel⟩
theorem sc_is_integer : FnScope N_is_integer ["value"] (defScope s_is_integer) := ⟨rfl, rfl, rfl, by decide +kernel, rfl, by decide +kernel, by decide +kernel⟩
theorem sc_is_number : FnScope N_is_number ["value", "least", "most"] (defScope s_is_number) := ⟨rfl, rfl, rfl, by decide +kernel, rfl, by decide +kernel, by decide +kernel⟩
theorem sc_is_ratio : FnScope N_is_ratio ["value"] (defScope s_is_ratio) := ⟨rfl, rfl, rfl, by decide +kernel, rfl, by decide +kernel, by decide +kernel⟩
theorem sc_law_bag : FnScope N_law_bag ["_law_script"] (defScope s_law_bag) := ⟨rfl, rfl, rfl, by decide +kernel, rfl, by decide +kernel, by decide +kernel⟩
theorem sc_law_draw : FnScope N_law_draw ["_law_bag_here", "_law_sides"] (defScope s_law_draw) := ⟨rfl, rfl, rfl, by decide +kernel, rfl, by decide +kernel, by decide +kernel⟩
theorem sc_law_of : FnScope N_law_of ["_law_bag_here", "_law_things"] (defScope s_law_of) := ⟨rfl, rfl, rfl, by decide +kernel, rfl, by decide +kernel, by decide +kernel⟩
theorem sc_law_same : FnScope N_law_same ["_law_found", "_law_due"] (defScope s_law_same) := ⟨rfl, rfl, rfl, by decide +kernel, rfl, by decide +kernel, by decide +kernel⟩
theorem sc_law_word : FnScope N_law_word ["_law_bag_here"] (defScope s_law_word) := ⟨rfl, rfl, rfl, by decide +kernel, rfl, by decide +kernel, by decide +kernel⟩
theorem sc_law_number : FnScope N_law_number ["_law_bag_here"] (defScope s_law_number) := ⟨rfl, rfl, rfl, by decide +kernel, rfl, by decide +kernel, by decide +kernel⟩
theorem sc_law_strange : FnScope N_law_strange ["_law_bag_here"] (defScope s_law_strange) := ⟨rfl, rfl, rfl, by decide +kernel, rfl, by decide +kernel, by decide +kernel⟩
theorem sc_law_gcd : FnScope N_law_gcd ["_law_a", "_law_b"] (defScope s_law_gcd) := ⟨rfl, rfl, rfl, by decide +kernel, rfl, by decide +kernel, by decide +kernel⟩
theorem sc_law_pair : FnScope N_law_pair ["_law_bag_here"] (defScope s_law_pair) := ⟨rfl, rfl, rfl, by decide +kernel, rfl, by decide +kernel, by decide +kernel⟩
theorem sc_law_plain : FnScope N_law_plain ["_law_thing"] (defScope s_law_plain) := ⟨rfl, rfl, rfl, by decide +kernel, rfl, by decide +kernel, by decide +kernel⟩
theorem sc_law_is_pair : FnScope N_law_is_pair ["_law_thing"] (defScope s_law_is_pair) := ⟨rfl, rfl, rfl, by decide +kernel, rfl, by decide +kernel, by decide +kernel⟩
theorem sc_law_is_word : FnScope N_law_is_word ["_law_thing"] (defScope s_law_is_word) := ⟨rfl, rfl, rfl, by decide +kernel, rfl, by decide +kernel, by decide +kernel⟩
theorem sc_law : FnScope N_law ["_law_script"] (defScope s_law) := ⟨rfl, rfl, rfl, by decide +kernel, rfl, by decide +kernel, by decide +kernel⟩
theorem b_is_name {K : PySem.W.Frag} {mg : Str → Option Value} (T : Txt K mg) : Binds K T.d_is_name ["value"] [] := T.F_is_name.binds (ps := ["value"]) fun _ _ _ _ _ _ us hl => match us, hl with | [_], _ => rfl
theorem b_is_integer {K : PySem.W.Frag} {mg : Str → Option Value} (T : Txt K mg) : Binds K T.d_is_integer ["value"] [] := T.F_is_integer.binds (ps := ["value"]) fun _ _ _ _ _ _ us hl => match us, hl with | [_], _ => rfl
theorem b_is_number {K : PySem.W.Frag} {mg : Str → Option Value} (T : Txt K mg) : Binds K T.d_is_number ["value", "least", "most"] [] := T.F_is_number.binds (ps := ["value", "least", "most"]) fun _ _ _ _ _ _ us hl => match us, hl with | [_, _, _], _ => rfl
theorem b_is_ratio {K : PySem.W.Frag} {mg : Str → Option Value} (T : Txt K mg) : Binds K T.d_is_ratio ["value"] [] := T.F_is_ratio.binds (ps := ["value"]) fun _ _ _ _ _ _ us hl => match us, hl with | [_], _ => rfl
theorem b_law_bag {K : PySem.W.Frag} {mg : Str → Option Value} (T : Txt K mg) : Binds K T.d_law_bag ["_law_script"] [] := T.F_law_bag.binds (ps := ["_law_script"]) fun _ _ _ _ _ _ us hl => match us, hl with | [_], _ => rfl
theorem b_law_draw {K : PySem.W.Frag} {mg : Str → Option Value} (T : Txt K mg) : Binds K T.d_law_draw ["_law_bag_here", "_law_sides"] [] := T.F_law_draw.binds (ps := ["_law_bag_here", "_law_sides"]) fun _ _ _ _ _ _ us hl => match us, hl with | [_, _], _ => rfl
theorem b_law_of {K : PySem.W.Frag} {mg : Str → Option Value} (T : Txt K mg) : Binds K T.d_law_of ["_law_bag_here", "_law_things"] [] := T.F_law_of.binds (ps := ["_law_bag_here", "_law_things"]) fun _ _ _ _ _ _ us hl => match us, hl with | [_, _], _ => rfl
theorem b_law_same {K : PySem.W.Frag} {mg : Str → Option Value} (T : Txt K mg) : Binds K T.d_law_same ["_law_found", "_law_due"] [] := T.F_law_same.binds (ps := ["_law_found", "_law_due"]) fun _ _ _ _ _ _ us hl => match us, hl with | [_, _], _ => rfl
theorem b_law_word {K : PySem.W.Frag} {mg : Str → Option Value} (T : Txt K mg) : Binds K T.d_law_word ["_law_bag_here"] [] := T.F_law_word.binds (ps := ["_law_bag_here"]) fun _ _ _ _ _ _ us hl => match us, hl with | [_], _ => rfl
theorem b_law_number {K : PySem.W.Frag} {mg : Str → Option Value} (T : Txt K mg) : Binds K T.d_law_number ["_law_bag_here"] [] := T.F_law_number.binds (ps := ["_law_bag_here"]) fun _ _ _ _ _ _ us hl => match us, hl with | [_], _ => rfl
theorem b_law_strange {K : PySem.W.Frag} {mg : Str → Option Value} (T : Txt K mg) : Binds K T.d_law_strange ["_law_bag_here"] [] := T.F_law_strange.binds (ps := ["_law_bag_here"]) fun _ _ _ _ _ _ us hl => match us, hl with | [_], _ => rfl
theorem b_law_gcd {K : PySem.W.Frag} {mg : Str → Option Value} (T : Txt K mg) : Binds K T.d_law_gcd ["_law_a", "_law_b"] [] := T.F_law_gcd.binds (ps := ["_law_a", "_law_b"]) fun _ _ _ _ _ _ us hl => match us, hl with | [_, _], _ => rfl
theorem b_law_pair {K : PySem.W.Frag} {mg : Str → Option Value} (T : Txt K mg) : Binds K T.d_law_pair ["_law_bag_here"] [] := T.F_law_pair.binds (ps := ["_law_bag_here"]) fun _ _ _ _ _ _ us hl => match us, hl with | [_], _ => rfl
theorem b_law_plain {K : PySem.W.Frag} {mg : Str → Option Value} (T : Txt K mg) : Binds K T.d_law_plain ["_law_thing"] [] := T.F_law_plain.binds (ps := ["_law_thing"]) fun _ _ _ _ _ _ us hl => match us, hl with | [_], _ => rfl
theorem b_law_is_pair {K : PySem.W.Frag} {mg : Str → Option Value} (T : Txt K mg) : Binds K T.d_law_is_pair ["_law_thing"] [] := T.F_law_is_pair.binds (ps := ["_law_thing"]) fun _ _ _ _ _ _ us hl => match us, hl with | [_], _ => rfl
theorem b_law_is_word {K : PySem.W.Frag} {mg : Str → Option Value} (T : Txt K mg) : Binds K T.d_law_is_word ["_law_thing"] [] := T.F_law_is_word.binds (ps := ["_law_thing"]) fun _ _ _ _ _ _ us hl => match us, hl with | [_], _ => rfl
theorem b_law {K : PySem.W.Frag} {mg : Str → Option Value} (T : Txt K mg) : Binds K T.d_law ["_law_script"] [] := T.F_law.binds (ps := ["_law_script"]) fun _ _ _ _ _ _ us hl => match us, hl with | [_], _ => rfl
theorem si_sc_BadPoint : NdefX.NScope ["self", "__class__"] ["self"] ["__class__"] (defScope si_BadPoint) := NdefX.nscope_by (by decide +kernel)
theorem bi_BadPoint {K : PySem.W.Frag} {mg : Str → Option Value} (T : Txt K mg) : Binds K T.di_BadPoint ["self"] [] := by
  obtain ⟨cda, cc, ⟨oc, kV, doc, pm, od, an, ct, osl, e, lk⟩, _⟩ := T.x_BadPoint.sup
  rw [e]
  exact Binds.all fun us hl => match us, hl with | [_], _ => rfl
end Nt

namespace Nt
open PySem PySem.Spec PyProof.Rows L2


/-! ### the draws -/
def Rg_law_bagL (K : PySem.W.Frag) (ds : List D) (P : En → Prop) : Prop := ∃ (ns : List Int), ds = [.scr K ns] ∧ ns.length ≤ 63 ∧ ∀ m : Int, 0 ≤ m → m < 2147483648 → P (.own [.lst (ns.map .int), .int 0, .int 0, .int m, .int 0])
def Rg_law_bag (K : PySem.W.Frag) (ds : List D) (P : En → Prop) : Prop := ∃ (ns : List Int), ds = [.scr K ns] ∧ ns.length ≤ 63 ∧ P (.dat .bag)
theorem len_law_bag {K} (ds P) (h : Rg_law_bagL K ds P) : ds.length = 1 := by unfold Rg_law_bagL at h; obtain ⟨_, rfl, _⟩ := h; rfl
theorem len_law_bag' {K} (ds P) (h : Rg_law_bag K ds P) : ds.length = 1 := by unfold Rg_law_bag at h; obtain ⟨_, rfl, _⟩ := h; rfl
theorem fmod_lt {i j : Int} (h : 0 < j) : 0 ≤ i.fmod j ∧ i.fmod j < j := ⟨Int.fmod_nonneg_of_pos i h, Int.fmod_lt_of_pos i h⟩
theorem cut63 {α : Type} {ns : List α} (h : ns.length ≤ 63) : cutN ns none (some 63) = ns := by
  have e : (63 : Int) = ((63 : Nat) : Int) := rfl
  unfold cutN
  rw [HT.sIx_none, e, HT.sIx_nat, List.drop_zero, Nat.sub_zero]
  exact List.take_of_length_le (by omega)
def spDrawL : Sp := fun vs H Q _ => ∃ (b c : Addr) (k i r m n : Int) (ns : List Int), vs = [.ref b, .int k] ∧ H b = some (bagL c i r m n) ∧ H c = some (.lst (ns.map .int)) ∧ 1 ≤ k ∧ k.natAbs.log2 < 9000 ∧ 0 ≤ i ∧ 0 ≤ r ∧ 0 ≤ m ∧ m < 2147483648 ∧
  ∀ j i' r' m' n', 0 ≤ j → j < k → 0 ≤ i' → 0 ≤ r' → 0 ≤ m' → m' < 2147483648 → Q (.int j) (upd H b (bagL c i' r' m' n'))
theorem len_law_drawL {vs : List V} {H : Hp} {Q : VK} {E : XK} (h : spDrawL vs H Q E) : vs.length = 2 := by obtain ⟨_, _, _, _, _, _, _, _, rfl, _⟩ := h; rfl
theorem upd_upd {H : Hp} {b : Addr} {x y : HO} : upd (upd H b x) b y = upd H b y := by
  funext a
  by_cases e : a = b
  · rw [e, upd_same, upd_same]
  · rw [upd_ne e, upd_ne e, upd_ne e]
/-! values that leave the heap as it is -/
def Vl (te : TE) (σ : L2.St) (H : Hp) (v : V) : Prop := ∀ Q : VK, Q v H → te σ H Q
def Vt (te : TT) (σ : L2.St) (H : Hp) (v : Bool) : Prop := ∀ Q : Bool → Hp → Prop, Q v H → te σ H Q
section
variable {K : PySem.W.Frag} {σ : L2.St} {H : Hp} {ta tb : TE} {tt tu : TT} {i j : Int} {v : V}
theorem vl_var {k : Nat} (h : σ[k]? = some (some v)) : Vl (tVar k) σ H v := fun Q q => ⟨v, h, q⟩
theorem vl_c : Vl (tC v) σ H v := fun Q q => q
theorem vl_add (ha : Vl ta σ H (.int i)) (hb : Vl tb σ H (.int j)) : Vl (tOp rPlus ta tb) σ H (.int (i + j)) := fun Q q => ha _ (hb _ (.inl ⟨i, j, rfl, rfl, q⟩))
theorem vl_mul (ha : Vl ta σ H (.int i)) (hb : Vl tb σ H (.int j)) (h : CMulW i j) : Vl (tOp rTimes ta tb) σ H (.int (i * j)) := fun Q q => ha _ (hb _ (.inl ⟨i, j, rfl, rfl, h, q⟩))
theorem vl_mulN (ha : Vl ta σ H (.int i)) (hb : Vl tb σ H (.int j)) (h : CMul i j) : Vl (tOp rTimes ta tb) σ H (.int (i * j)) := fun Q q => ha _ (hb _ (.inr (.inr ⟨i, j, rfl, rfl, h, q⟩)))
theorem vl_mod (ha : Vl ta σ H (.int i)) (hb : Vl tb σ H (.int j)) (h : j ≠ 0) : Vl (tOp (rI (fun _ j => j ≠ 0) fun i j => .int (i.fmod j)) ta tb) σ H (.int (i.fmod j)) := fun Q q => ha _ (hb _ ⟨i, j, rfl, rfl, h, q⟩)
theorem vl_div (ha : Vl ta σ H (.int i)) (hb : Vl tb σ H (.int j)) (h : CDivW i j) : Vl (tOp (rI CDivW fun i j => .int (i / j)) ta tb) σ H (.int (i / j)) := fun Q q => ha _ (hb _ ⟨i, j, rfl, rfl, h, q⟩)
theorem vl_pow (ha : Vl ta σ H (.int i)) (hb : Vl tb σ H (.int j)) (h : CPow i j) : Vl (tOp (rI CPow fun i j => .int (i ^ j.toNat)) ta tb) σ H (.int (i ^ j.toNat)) := fun Q q => ha _ (hb _ ⟨i, j, rfl, rfl, h, q⟩)
theorem vl_int (ha : Vl ta σ H (.int i)) : Vl (tCB rIntI (tCons ta tNil)) σ H (.int i) := fun Q q => ha _ (.inl ⟨i, rfl, q⟩)
theorem vl_abs (ha : Vl ta σ H (.int i)) : Vl (tCB rAbsI (tCons ta tNil)) σ H (.int (if i < 0 then -i else i)) := fun Q q => ha _ ⟨i, rfl, q⟩
theorem vl_ix {b : Addr} {xs : List V} {k : Nat} (ha : Vl ta σ H (.ref b)) (hb : Vl tb σ H (.int k)) (h : H b = some (.lst xs)) (hx : xs[k]? = some v) : Vl (tOp (rIx K) ta tb) σ H v := fun Q q => ha _ (hb _ (.inl ⟨b, xs, k, v, rfl, rfl, sq_l h, atI_nat hx, q⟩))
theorem vl_len {b : Addr} {xs : List V} (ha : Vl ta σ H (.ref b)) (h : H b = some (.lst xs)) : Vl (tCB (rLenU K) (tCons ta tNil)) σ H (.int xs.length) := fun Q q => ha _ (.inl ⟨b, xs, rfl, .inl (sq_l h), q⟩)
theorem vt_eq (ha : Vl ta σ H (.int i)) (hb : Vl tb σ H (.int j)) : Vt (tTest (tOp (rEqU K) ta tb)) σ H (decide (i = j)) := fun Q q => ha _ (hb _ (.inl ⟨rfl, _, rfl, by
  have e : decide (V.int i = V.int j) = decide (i = j) := decide_eq_decide.mpr ⟨V.int.inj, congrArg _⟩
  rw [e]; exact q⟩))
theorem vt_lt (ha : Vl ta σ H (.int i)) (hb : Vl tb σ H (.int j)) : Vt (tTest (tOp (rI0 fun i j => .bl (decide (i < j))) ta tb)) σ H (decide (i < j)) := fun Q q => ha _ (hb _ ⟨i, j, rfl, rfl, _, rfl, q⟩)
theorem vt_gt (ha : Vl ta σ H (.int i)) (hb : Vl tb σ H (.int j)) : Vt (tTest (tOp (rI0 fun i j => .bl (decide (j < i))) ta tb)) σ H (decide (j < i)) := fun Q q => ha _ (hb _ ⟨i, j, rfl, rfl, _, rfl, q⟩)
theorem vt_ge (ha : Vl ta σ H (.int i)) (hb : Vl tb σ H (.int j)) : Vt (tTest (tOp (rI0 fun i j => .bl (decide (j ≤ i))) ta tb)) σ H (decide (j ≤ i)) := fun Q q => ha _ (hb _ ⟨i, j, rfl, rfl, _, rfl, q⟩)
theorem vt_and {a b : Bool} (h1 : Vt tt σ H a) (h2 : Vt tu σ H b) : Vt (tAnd tt tu) σ H (a && b) := fun Q q => h1 _ (by
  cases a with
  | true => exact iteT (h2 _ q)
  | false => exact iteF q)
/-- b[k] = v -/
theorem st_set {te : TE} {b : Addr} {xs : List V} {k : Nat} {D : Ends} (ha : Vl te σ H v) (ho : Vl ta σ H (.ref b)) (hi : Vl tb σ H (.int k)) (h : H b = some (.lst xs)) (hk : k < xs.length) (q : D.nx σ (upd H b (.lst (xs.set k v)))) : tAsg te (gSub ta tb rSetL) D σ H := by
  refine ha _ (ho _ (hi _ ⟨b, xs, k, k, rfl, rfl, h, ?_, q⟩))
  unfold ixN
  rw [if_pos (by omega), if_pos (by omega)]
  simp
theorem st_name {te : TE} {k : Nat} {D : Ends} (ha : Vl te σ H v) (q : D.nx (σ.set k (some v)) H) : tAsg te (gName k) D σ H := ha _ q
theorem st_if {a : Bool} {t u : TS} {D : Ends} (h : Vt tt σ H a) (h1 : a = true → t D σ H) (h2 : a = false → u D σ H) : tIfS tt t u D σ H := h _ (by
  cases a with
  | true => exact iteT (h1 rfl)
  | false => exact iteF (h2 rfl))
end
theorem mulS {i j : Int} {a b : Nat} (h0 : 0 ≤ i) (h1 : i < 2 ^ a) (g0 : 0 ≤ j) (g1 : j < 2 ^ b) (ha : 0 < a) (hb : 0 < b) (h : a + b ≤ 1000000) : CMulW i j := by
  have e1 : ((2 ^ a : Nat) : Int) = 2 ^ a := by rw [Int.natCast_pow]; rfl
  have e2 : ((2 ^ b : Nat) : Int) = 2 ^ b := by rw [Int.natCast_pow]; rfl
  exact wide_mul (a := a) (b := b) (by omega) (by omega) ha hb h
section
variable {P : Program} {w : World} {K : PySem.W.Frag} {mg : Str → Option Value} {base : Heap}
theorem ok_law_bagL (T : Txt K mg)  : FnOk P w K mg base CX0 1 T.a_law_bag T.d_law_bag ["_law_script"] (SpE (Rg_law_bagL K)) := by
  refine T.F_law_bag.ok sc_law_bag (fun vs H Q E h => spE_len h len_law_bag) (fun cdv A outer s H vs Q E hr h => ?_)
  have hu := hu64 hr
  have hvl : vs.length = 1 := spE_len h len_law_bag
  refine ⟨_, (pss_cons (ps_set (i := 1) sc_law_bag.nd rfl (Or.inl rfl) pe_int) (pss_cons (ps_for PassesOwn.never rfl (pi_listK (K := K) rfl (pe_slice (sl_K (K := K) rfl) (pv 0) po_none (po_some pe_int))) (pg_name (i := 2) sc_law_bag.nd rfl (Or.inl rfl)) (pss_one (ps_set (i := 1) sc_law_bag.nd rfl (Or.inl rfl) (pe_op op_modN (pe_callTy call_intI (by rfl) T.n_int (by decide +kernel) (pa_cons (pe_op op_plus (pe_op op_plus (pe_op op_times (pv 1) pe_int) (pe_op op_times (pe_op op_modN (pe_callTy call_intI (by rfl) T.n_int (by decide +kernel) (pa_cons (pv 2) pa_nil)) pe_int) pe_int)) pe_int) pa_nil)) pe_int)))) (pss_one (ps_ret (pe_lst (pa_cons (pe_callTy (call_listK (K := K) rfl) (by rfl) T.n_list (by decide +kernel) (pa_cons (pe_slice (sl_K (K := K) rfl) (pv 0) po_none (po_some pe_int)) pa_nil)) (pa_cons pe_int (pa_cons pe_int (pa_cons (pv 1) (pa_cons pe_int pa_nil)))))))))), fn_body h (by rw [hvl]; decide) (fun ds R hR hl => ?_)⟩
  obtain ⟨ns, rfl, hn, q⟩ := hR
  refine q_asg1 e_int ?_
  refine t_seq (M := fun ρ' => ∃ m x, ρ' = [.dat (.scr K ns), .dat (.int m), x] ∧ 0 ≤ m ∧ m < 2147483648) (t_for1 (iv_list1 (EV.o1 (e_sl (e_var rfl) eo_none (eo_part e_int) sd_scr))) (fun ds i ρ' => ∃ m x, ρ' = [.dat (.scr K ns), .dat (.int m), x] ∧ 0 ≤ m ∧ m < 2147483648) (fun ds e => ⟨42012, .un, rfl, by decide, by decide⟩) (fun ds i d ρ' e hd inv => ?_) (fun ds ρ' e h => h)) fun ρ' hm => ?_
  · subst e
    obtain ⟨m, x, rfl, h0, h1⟩ := inv
    obtain ⟨z, hz, rfl⟩ := map_get hd
    refine t_asgd (e_opd (EV.d1 (e_cb1 (ea_c (e_opd (e_opd (e_opd (e_var rfl) e_int (od_mulI (mulS (a := 31) (b := 16) h0 (by omega) (by decide) (by decide) (by decide) (by decide) (by decide)))) (e_opd (e_opd (EV.d1 (e_cb1 (ea_c (e_var rfl) ea_nil) cd_int)) e_int (od_modI (by decide))) e_int (od_mulI (mulS (a := 20) (b := 10) (fmod_lt (by decide)).1 (by have := (fmod_lt (i := z) (j := 999983) (by decide)).2; omega) (by decide) (by decide) (by decide) (by decide) (by decide)))) od_addI) e_int od_addI) ea_nil) cd_int)) e_int (od_modI (by decide))) fun d hd => ?_
    subst hd
    exact ⟨_, _, rfl, (fmod_lt (by decide)).1, by have := (fmod_lt (i := m * 40692 + z.fmod 999983 * 617 + 71) (j := 2147483399) (by decide)).2; omega⟩
  · obtain ⟨m, x, rfl, h0, h1⟩ := hm
    refine t_ret (e_lst1 (ds := [.lst (ns.map .int), .int 0, .int 0, .int m, .int 0]) (ea_c (EV.o1 ((e_cb1 (ea_c (EV.o1 (e_sl (e_var rfl) eo_none (eo_part e_int) sd_scr)) ea_nil) cd_list).imp fun e he => ?_)) (ea_c e_int (ea_c e_int (ea_c (e_var rfl) (ea_c e_int ea_nil))))) (by simp)) fun e he => by rw [he]; exact q m h0 h1
    rw [he, cut63 hn]

theorem ok_law_drawL (T : Txt K mg) : FnOk P w K mg base CX0 1 T.a_law_draw T.d_law_draw ["_law_bag_here", "_law_sides"] spDrawL := by
  refine T.F_law_draw.ok sc_law_draw (fun vs H Q E h => len_law_drawL h) (fun cdv A outer s H vs Q E hr h => ?_)
  have hu := hu64 hr
  refine ⟨_, (pss_cons (ps_asg (pe_op op_plus (pe_ix (ix_K (K := K) rfl) (pv 0) pe_int (fun _ _ => rfl)) pe_int) (pg_sub (pv 0) pe_int set_list)) (Evl.pss_cut (ps_if (PW.pt (pw_and (pt_cmpR (op_eqK (K := K) rfl hu) (pe_ix (ix_K (K := K) rfl) (pv 0) pe_int (fun _ _ => rfl)) pe_int (nomark _)) (pw_and1 (pt_cmpR op_lt (pe_ix (ix_K (K := K) rfl) (pv 0) pe_int (fun _ _ => rfl)) (pe_callB (call_lenK (K := K) rfl) (by rfl) T.n_len (by decide +kernel) (pa_cons (pe_ix (ix_K (K := K) rfl) (pv 0) pe_int (fun _ _ => rfl)) pa_nil)) (nomark _))))) (pss_cons (ps_set (i := 2) sc_law_draw.nd rfl (Or.inl rfl) (pe_callB call_absI (by rfl) T.n_abs (by decide +kernel) (pa_cons (pe_callTy call_intI (by rfl) T.n_int (by decide +kernel) (pa_cons (pe_ix (ix_K (K := K) rfl) (pe_ix (ix_K (K := K) rfl) (pv 0) pe_int (fun _ _ => rfl)) (pe_ix (ix_K (K := K) rfl) (pv 0) pe_int (fun _ _ => rfl)) (fun _ _ => rfl)) pa_nil)) pa_nil))) (pss_cons (ps_asg (pe_op op_plus (pe_ix (ix_K (K := K) rfl) (pv 0) pe_int (fun _ _ => rfl)) pe_int) (pg_sub (pv 0) pe_int set_list)) (pss_one (ps_if (pt_cmpR op_ge (pv 2) (pe_op op_pow pe_int pe_int) (nomark _)) (pss_one (ps_asg (pv 2) (pg_sub (pv 0) pe_int set_list))) (pss_one (ps_asg (pe_op op_modN (pe_callTy call_intI (by rfl) T.n_int (by decide +kernel) (pa_cons (pe_op op_plus (pe_op op_plus (pe_op op_times (pe_ix (ix_K (K := K) rfl) (pv 0) pe_int (fun _ _ => rfl)) pe_int) (pe_op op_times (pe_op op_modN (pv 2) pe_int) pe_int)) pe_int) pa_nil)) pe_int) (pg_sub (pv 0) pe_int set_list))))))) pss_nil) (pss_cons (ps_if (pt_cmpR op_gt (pe_ix (ix_K (K := K) rfl) (pv 0) pe_int (fun _ _ => rfl)) pe_int (nomark _)) (pss_cons (ps_set (i := 3) sc_law_draw.nd rfl (Or.inl rfl) (pe_op op_modN (pe_callTy call_intI (by rfl) T.n_int (by decide +kernel) (pa_cons (pe_ix (ix_K (K := K) rfl) (pv 0) pe_int (fun _ _ => rfl)) pa_nil)) (pv 1))) (pss_cons (ps_asg (pe_op op_fdivW (pe_ix (ix_K (K := K) rfl) (pv 0) pe_int (fun _ _ => rfl)) (pv 1)) (pg_sub (pv 0) pe_int set_list)) (pss_one (ps_ret (pv 3))))) pss_nil) (pss_cons (ps_set (i := 4) sc_law_draw.nd rfl (Or.inl rfl) (pe_callTy call_intI (by rfl) T.n_int (by decide +kernel) (pa_cons (pe_ix (ix_K (K := K) rfl) (pv 0) pe_int (fun _ _ => rfl)) pa_nil))) (pss_cons (ps_asg (pe_op op_modN (pe_callTy call_intI (by rfl) T.n_int (by decide +kernel) (pa_cons (pe_op op_plus (pe_op op_plus (pe_op op_plus (pe_op op_times (pe_op op_times (pv 4) (pv 4)) pe_int) (pe_op op_times (pv 4) pe_int)) (pe_op op_times (pe_ix (ix_K (K := K) rfl) (pv 0) pe_int (fun _ _ => rfl)) pe_int)) pe_int) pa_nil)) pe_int) (pg_sub (pv 0) pe_int set_list)) (pss_one (ps_ret (pe_op op_modN (pe_callTy call_intI (by rfl) T.n_int (by decide +kernel) (pa_cons (pe_op op_plus (pe_op op_fdivW (pe_ix (ix_K (K := K) rfl) (pv 0) pe_int (fun _ _ => rfl)) pe_int) (pe_op op_times (pe_op op_modN (pe_callTy call_intI (by rfl) T.n_int (by decide +kernel) (pa_cons (pe_ix (ix_K (K := K) rfl) (pv 0) pe_int (fun _ _ => rfl)) pa_nil)) pe_int) pe_int)) pa_nil)) (pv 1))))))))), ?_⟩
  obtain ⟨b, c, k, i, r, m, n, ns, rfl, hb, hc, hk, hk2, h1, h2, h3, h4, q⟩ := h
  have hbc : c ≠ b := fun e => by
    rw [e, hb] at hc
    have h5 := HO.lst.inj (Option.some.inj hc)
    cases ns with
    | nil => cases h5
    | cons z ns => cases h5
  have hcu : ∀ {o : HO}, (upd H b o) c = some (.lst (ns.map .int)) := by intro o; rw [upd_ne hbc]; exact hc
  -- bag[4] = bag[4] + 1
  refine st_set (k := 4) (vl_add (vl_ix (k := 4) (vl_var rfl) vl_c hb rfl) vl_c) (vl_var rfl) vl_c hb (show 4 < 5 by decide) ?_
  -- the first if
  refine ⟨fun σ' H' => ∃ i' r' m' n' x2, σ' = [some (.ref b), some (.int k), x2, none, none] ∧ H' = upd H b (bagL c i' r' m' n') ∧ 0 ≤ i' ∧ 0 ≤ r' ∧ 0 ≤ m' ∧ m' < 2147483648, ?_, fun σ' H' hm => ?_⟩
  · refine st_if (vt_and (vt_eq (vl_ix (k := 2) (vl_var rfl) vl_c upd_same rfl) vl_c) (vt_lt (vl_ix (k := 1) (vl_var rfl) vl_c upd_same rfl) (vl_len (vl_ix (k := 0) (vl_var rfl) vl_c upd_same rfl) hcu))) (fun e => ?_) (fun e => ?_)
    · rw [Bool.and_eq_true, decide_eq_true_eq, decide_eq_true_eq, List.length_map] at e
      have hil : i.toNat < ns.length := by omega
      have hiN : ((i.toNat : Nat) : Int) = i := by omega
      have hz : (ns.map V.int)[i.toNat]? = some (.int ns[i.toNat]) := by rw [List.getElem?_map, List.getElem?_eq_getElem hil]; rfl
      refine st_name (vl_abs (vl_int (vl_ix (k := i.toNat) (vl_ix (k := 0) (vl_var rfl) vl_c upd_same rfl) (by rw [hiN]; exact vl_ix (k := 1) (vl_var rfl) vl_c upd_same rfl) hcu hz))) ?_
      generalize hp : (if ns[i.toNat] < 0 then -ns[i.toNat] else ns[i.toNat]) = p
      have hp0 : 0 ≤ p := by rw [← hp]; split <;> omega
      refine st_set (k := 1) (vl_add (vl_ix (k := 1) (vl_var rfl) vl_c upd_same rfl) vl_c) (vl_var rfl) vl_c upd_same (show 1 < 5 by decide) ?_
      rw [upd_upd]
      refine st_if (vt_ge (vl_var rfl) (vl_pow vl_c vl_c ⟨by decide, by decide, by decide⟩)) (fun e2 => ?_) (fun e2 => ?_)
      · refine st_set (k := 2) (vl_var rfl) (vl_var rfl) vl_c upd_same (show 2 < 5 by decide) ?_
        rw [upd_upd]
        exact ⟨i + 1, p, m, n + 1, _, rfl, rfl, by omega, hp0, h3, h4⟩
      · have f1 := fmod_lt (i := p) (j := 999983) (by decide)
        refine st_set (k := 3) (vl_mod (vl_int (vl_add (vl_add (vl_mul (vl_ix (k := 3) (vl_var rfl) vl_c upd_same rfl) vl_c (mulS (a := 31) (b := 16) h3 (by omega) (by decide) (by decide) (by decide) (by decide) (by decide))) (vl_mul (vl_mod (vl_var rfl) vl_c (by decide)) vl_c (mulS (a := 20) (b := 10) f1.1 (by omega) (by decide) (by decide) (by decide) (by decide) (by decide)))) vl_c)) vl_c (by decide)) (vl_var rfl) vl_c upd_same (show 3 < 5 by decide) ?_
        rw [upd_upd]
        have f2 := fmod_lt (i := m * 39373 + p.fmod 999983 * 823 + 37) (j := 2147483563) (by decide)
        exact ⟨i + 1, r, _, n + 1, _, rfl, rfl, by omega, h2, f2.1, by omega⟩
    · exact ⟨i, r, m, n + 1, none, rfl, rfl, h1, h2, h3, h4⟩
  · obtain ⟨i', r', m', n', x2, rfl, rfl, g1, g2, g3, g4⟩ := hm
    refine st_if (vt_gt (vl_ix (k := 2) (vl_var rfl) vl_c upd_same rfl) vl_c) (fun e => ?_) (fun e => ?_)
    · have f1 := fmod_lt (i := r') (j := k) (by omega)
      have hne : k ≠ 0 := by omega
      have hdv : 0 ≤ r' / k := Int.ediv_nonneg g2 (by omega)
      refine st_name (vl_mod (vl_int (vl_ix (k := 2) (vl_var rfl) vl_c upd_same rfl)) (vl_var rfl) hne) ?_
      refine st_set (k := 2) (vl_div (vl_ix (k := 2) (vl_var rfl) vl_c upd_same rfl) (vl_var rfl) ⟨by omega, hk2⟩) (vl_var rfl) vl_c upd_same (show 2 < 5 by decide) ?_
      rw [upd_upd]
      exact vl_var rfl _ (q _ i' (r' / k) m' n' f1.1 f1.2 g1 hdv g3 g4)
    · refine st_name (vl_int (vl_ix (k := 3) (vl_var rfl) vl_c upd_same rfl)) ?_
      have hm2 : 0 ≤ m' * m' := Int.mul_nonneg g3 g3
      have hm3 : m' * m' < 2 ^ 62 := by
        have : m' * m' ≤ 2147483647 * 2147483647 := Int.mul_le_mul (by omega) (by omega) g3 (by decide)
        omega
      refine st_set (k := 3) (vl_mod (vl_int (vl_add (vl_add (vl_add (vl_mul (vl_mul (vl_var rfl) (vl_var rfl) (mulS (a := 31) (b := 31) g3 (by omega) g3 (by omega) (by decide) (by decide) (by decide))) vl_c (mulS (a := 62) (b := 5) hm2 hm3 (by decide) (by decide) (by decide) (by decide) (by decide))) (vl_mul (vl_var rfl) vl_c (mulS (a := 31) (b := 16) g3 (by omega) (by decide) (by decide) (by decide) (by decide) (by decide)))) (vl_mulN (vl_ix (k := 4) (vl_var rfl) vl_c upd_same rfl) vl_c (.inr ⟨by decide, by decide⟩))) vl_c)) vl_c (by decide)) (vl_var rfl) vl_c upd_same (show 3 < 5 by decide) ?_
      rw [upd_upd]
      have f2 := fmod_lt (i := m' * m' * 23 + m' * 46021 + n' * 104729 + 60013) (j := 2147483543) (by decide)
      generalize (m' * m' * 23 + m' * 46021 + n' * 104729 + 60013).fmod 2147483543 = m2 at f2
      have f3 := fmod_lt (i := m2) (j := 8009) (by decide)
      have hkz : k ≠ 0 := by omega
      have f4 := fun x => fmod_lt (i := x) (j := k) (by omega)
      refine vl_mod (vl_int (vl_add (vl_div (vl_ix (k := 3) (vl_var rfl) vl_c upd_same rfl) vl_c ⟨by decide, by decide⟩) (vl_mul (vl_mod (vl_int (vl_ix (k := 3) (vl_var rfl) vl_c upd_same rfl)) vl_c (by decide)) vl_c (mulS (a := 13) (b := 6) f3.1 (by omega) (by decide) (by decide) (by decide) (by decide) (by decide))))) (vl_var rfl) hkz _ ?_
      exact q _ i' r' m2 n' (f4 _).1 (f4 _).2 g1 g2 f2.1 (by omega)


theorem ints_of {H : Hp} : ∀ {ns : List Int} {vs : List V}, Reps H (ns.map D.int) vs → vs = ns.map V.int
  | [], _, .nil => rfl
  | n :: ns, _, .cons h r => by cases h; rw [ints_of r]; rfl
theorem Rty.refl (H : Hp) : Rty H H := ⟨fun _ h => h, fun _ _ h => h, fun _ _ _ h => h, fun _ _ h => h⟩
theorem ok_law_bag (T : Txt K mg) : FnOk P w K mg base CX0 1 T.a_law_bag T.d_law_bag ["_law_script"] (SpE (Rg_law_bag K)) := by
  refine fn_rty (ok_law_bagL T) (fun vs H Q E h => spE_len h len_law_bag') fun vs H Q E hp h ok => ?_
  obtain ⟨W, ds, P1, rfl, r, ⟨ns, rfl, hn, q⟩, k⟩ := h
  refine ⟨W.h, Rty.refl _, ok, W, _, fun e => ∃ m : Int, 0 ≤ m ∧ m < 2147483648 ∧ e = .own [.lst (ns.map .int), .int 0, .int 0, .int m, .int 0], rfl, r, ⟨ns, rfl, hn, fun m h0 h1 => ⟨m, h0, h1, rfl⟩⟩, fun v e W' g rv pe hp' ok' => ?_⟩
  obtain ⟨m, h0, h1, rfl⟩ := pe
  obtain ⟨l, vs', rfl, e1, e2, e3, e4⟩ := rv
  cases e4 with
  | cons ra e4 => cases e4 with
    | cons rb e4 => cases e4 with
      | cons rc e4 => cases e4 with
        | cons rd e4 => cases e4 with
          | cons re e4 =>
            cases e4
            cases rb; cases rc; cases rd; cases re
            cases ra with
            | lst hc rc =>
              rename_i c ws
              have hw := ints_of rc
              subst hw
              obtain ⟨t, ok2⟩ := bag_in ok' e1 (Int.le_refl 0) (Int.le_refl 0) h0 h1
              refine ⟨_, t, ok2, ?_⟩
              have hcl : c ≠ l := fun z => by rw [z, e2] at hc; cases hc
              exact k (.ref l) (.dat .bag) ⟨upd W'.b l (bagO l c), upd W'.h l (bagO l c), W'.le.two⟩ ⟨g.b.tr (Ex.nw e2), fun a o e => by
                show upd W'.h l _ a = some o
                rw [upd_ne (ne_of_none e e3)]; exact g.h _ _ e, fun a q1 q2 => by
                show upd W'.b l _ a = none
                rw [upd_ne (fun z => q2 (by rw [z]; exact e3))]; exact g.nw a q1 q2⟩ (.bag upd_same (by
                show upd W'.b l _ c = _
                rw [upd_ne hcl]; exact hc) hn) q
def Rg_law_draw (ds : List D) (P : En → Prop) : Prop := ∃ k : Int, ds = [.bag, .int k] ∧ 1 ≤ k ∧ k.natAbs.log2 < 9000 ∧ ∀ j, 0 ≤ j → j < k → P (.dat (.int j))
theorem len_law_draw (ds P) (h : Rg_law_draw ds P) : ds.length = 2 := by unfold Rg_law_draw at h; obtain ⟨_, rfl, _⟩ := h; rfl
theorem ok_law_draw (T : Txt K mg) : FnOk P w K mg base CX0 1 T.a_law_draw T.d_law_draw ["_law_bag_here", "_law_sides"] (SpE Rg_law_draw) := by
  refine fn_rty (ok_law_drawL T) (fun vs H Q E h => spE_len h len_law_draw) fun vs H Q E hp h ok => ?_
  obtain ⟨W, ds, P1, rfl, r, ⟨k, rfl, hk, hk2, q⟩, kk⟩ := h
  cases r with
  | cons ra r => cases r with
    | cons rb r =>
      cases r
      cases rb
      cases ra with
      | bag hb hc hn =>
        rename_i b c ns
        obtain ⟨i, r, m, n, h1, h2, h3, h4, t, ok1⟩ := bag_out ok (W.le _ _ hb)
        have hcb : c ≠ b := fun z => by
          rw [z, hb] at hc
          exact bag_ne (u := .lst (ns.map V.int)) (fun _ z => nomatch z) (Option.some.inj hc)
        refine ⟨_, t, ok1, b, c, k, i, r, m, n, ns, rfl, upd_same, by rw [upd_ne hcb]; exact W.le _ _ hc, hk, hk2, h1, h2, h3, h4, fun j i' r' m' n' j0 j1 a1 a2 a3 a4 hp' ok' => ?_⟩
        obtain ⟨t2, ok2⟩ := bag_in ok' upd_same a1 a2 a3 a4
        refine ⟨_, t2, ok2, ?_⟩
        have e : upd (upd (upd W.h b (bagL c i r m n)) b (bagL c i' r' m' n')) b (bagO b c) = W.h := by
          rw [upd_upd, upd_upd]
          funext a
          by_cases z : a = b
          · rw [z, upd_same, W.le _ _ hb]
          · rw [upd_ne z]
        rw [e]
        exact kk (.int j) (.dat (.int j)) W (Grow.refl W) (.int j) (q j j0 j1)
/-- things that are drawn from -/
inductive Src : D → List D → Prop where
  | lst (ds : List D) : Src (.lst ds) ds
  | str (s : List Nat) : Src (.str s) (chs s)
def Rg_law_of (ds : List D) (P : En → Prop) : Prop := ∃ (x : D) (xs : List D), ds = [.bag, x] ∧ Src x xs ∧ 1 ≤ xs.length ∧ xs.length ≤ 1000 ∧ ∀ d ∈ xs, P (.dat d)
theorem len_law_of (ds P) (h : Rg_law_of ds P) : ds.length = 2 := by unfold Rg_law_of at h; obtain ⟨_, _, rfl, _⟩ := h; rfl
theorem log_small {n : Nat} (h : n ≤ 1000) : ((n : Int)).natAbs.log2 < 9000 := by
  rw [Int.natAbs_natCast]
  have := Nat.log2_le_self n
  omega

theorem ok_law_of (T : Txt K mg) (G_law_draw : FnOk P w K mg base CX0 1 T.a_law_draw T.d_law_draw ["_law_bag_here", "_law_sides"] (SpE Rg_law_draw)) : FnOk P w K mg base CX0 2 T.a_law_of T.d_law_of ["_law_bag_here", "_law_things"] (SpE Rg_law_of) := by
  refine T.F_law_of.ok sc_law_of (fun vs H Q E h => spE_len h len_law_of) (fun cdv A outer s H vs Q E hr h => ?_)
  have hu := hu64 hr
  have hvl : vs.length = 2 := spE_len h len_law_of
  refine ⟨_, (pss_one (ps_ret (pe_ix (ix_K (K := K) rfl) (pv 1) (pe_call G_law_draw (hr.mono (by decide)) (by rfl) T.g_law_draw T.F_law_draw.kp (b_law_draw T) .nil pass0 (pa_cons (pv 0) (pa_cons (pe_callB (call_lenK (K := K) rfl) (by rfl) T.n_len (by decide +kernel) (pa_cons (pv 1) pa_nil)) pa_nil))) (fun _ _ => rfl)))), fn_body h (by rw [hvl]; decide) (fun ds R hR hl => ?_)⟩
  obtain ⟨x, xs, rfl, hx, h1, h2, q⟩ := hR
  have hlen : CD (rLenU K) [x] (· = .dat (.int (xs.length : Nat))) := by
    cases hx with
    | lst => exact cd_lenL
    | str s =>
      have e : (chs s).length = s.length := by simp [chs]
      rw [e] at h2 ⊢
      exact cd_lenS (by omega)
  refine t_ret (P := fun e => ∃ d, d ∈ xs ∧ e = .dat d) (e_op (PA := fun d => d = x) (PB := fun d => ∃ j : Nat, j < xs.length ∧ d = .int j) (e_var rfl) (EV.ed (R := fun e => ∃ j : Nat, j < xs.length ∧ e = .dat (.int j)) (e_callP (ea_c (e_var rfl) (ea_c (EV.d1 (e_cb1 (ea_c (e_var rfl) ea_nil) hlen)) ea_nil)) fun ds e => by rw [e]; exact ⟨(xs.length : Nat), rfl, by omega, log_small h2, fun j j0 j1 => ⟨j.toNat, by omega, by rw [show ((j.toNat : Nat) : Int) = j by omega]⟩⟩) fun e ⟨j, hj, he⟩ => ⟨.int j, by rw [he]; rfl, j, hj, rfl⟩) fun a b ha hb => ?_) fun e ⟨d, hd, he⟩ => by rw [he]; exact q d hd
  obtain ⟨j, hj, rfl⟩ := hb
  subst ha
  cases hx with
  | lst =>
    intro W v w r1 r2 Q q2
    exact od_ixL (K := K) (j := j) rfl (List.getElem?_eq_getElem hj) W v w r1 r2 Q fun u e W' g r p => q2 u e W' g r ⟨_, List.getElem_mem hj, p⟩
  | str s =>
    have e : (chs s).length = s.length := by simp [chs]
    have hj' : j < s.length := by omega
    intro W v w r1 r2 Q q2
    refine od_ixS (K := K) (j := j) rfl (List.getElem?_eq_getElem hj') (by omega) W v w r1 r2 Q fun u e W' g r p => q2 u e W' g r ⟨_, ?_, p⟩
    exact List.mem_map.mpr ⟨_, List.getElem_mem hj', rfl⟩

end
end Nt

namespace Nt
open PySem PySem.Spec PyProof.Rows L2


/-- one of the four plain kinds -/
def D.scal : D → Bool
  | .non | .bl _ | .int _ | .str _ => true
  | _ => false
def D.sm : Nat → D → Bool
  | n + 1, .tup ds | n + 1, .lst ds => ds.all (D.sm n) && decide (ds.length ≤ 100000)
  | _, d => d.scal
theorem kit_sc {d : D} (h : d.scal = true) : d.pl = true ∧ kitB d.ty "list" = some false ∧ kitB d.ty "tuple" = some false ∧ kitB d.ty "dict" = some false ∧ (∃ b, kitB d.ty "bool" = some b) ∧ (∃ b, kitB d.ty "int" = some b) ∧ (∃ b, kitB d.ty "str" = some b) := by
  cases d with
  | non => exact ⟨rfl, rfl, rfl, rfl, ⟨_, rfl⟩, ⟨_, rfl⟩, ⟨_, rfl⟩⟩
  | bl b => exact ⟨rfl, rfl, rfl, rfl, ⟨_, rfl⟩, ⟨_, rfl⟩, ⟨_, rfl⟩⟩
  | int i => exact ⟨rfl, rfl, rfl, rfl, ⟨_, rfl⟩, ⟨_, rfl⟩, ⟨_, rfl⟩⟩
  | str s => exact ⟨rfl, rfl, rfl, rfl, ⟨_, rfl⟩, ⟨_, rfl⟩, ⟨_, rfl⟩⟩
  | _ => cases h
theorem od_eqSc {K : PySem.W.Frag} {d : D} (h : d.scal = true) (hn : d.isN = false) : OD (rEqU K) d d (· = .dat (.bl true)) := by
  cases d with
  | non => cases hn
  | bl b => have := od_eqB (K := K) (a := b) (b := b); rw [decide_eq_true rfl] at this; exact this
  | int i => have := od_eqI (K := K) (a := i) (b := i); rw [decide_eq_true rfl] at this; exact this
  | str s => have := od_eqS (K := K) (a := s) (b := s); rw [decide_eq_true rfl] at this; exact this
  | _ => cases h
def Rg_same (n : Nat) (ds : List D) (P : En → Prop) : Prop := ∃ d : D, ds = [d, d] ∧ d.sm n = true ∧ P (.dat (.bl true))
abbrev Rg_law_same := Rg_same 2
theorem len_same {n : Nat} (ds P) (h : Rg_same n ds P) : ds.length = 2 := by obtain ⟨_, rfl, _⟩ := h; rfl
theorem len_law_same (ds P) (h : Rg_law_same ds P) : ds.length = 2 := len_same ds P h
section
variable {P : Program} {w : World} {K : PySem.W.Frag} {mg : Str → Option Value} {base : Heap}

theorem ok_law_same0 (T : Txt K mg) : FnOk P w K mg base CX0 1 T.a_law_same T.d_law_same ["_law_found", "_law_due"] (SpE (Rg_same 0)) := by
  refine T.F_law_same.ok sc_law_same (fun vs H Q E h => spE_len h len_same) (fun cdv A outer s H vs Q E hr h => ?_)
  have hu := hu64 hr
  have hvl : vs.length = 2 := spE_len h len_same
  refine ⟨_, (pss_cons (ps_if (PW.pt (pw_or (pt_cmpR op_isNU (pv 1) pe_non (nomark _)) (pw_or1 (pt_cmpR op_isNU (pv 0) pe_non (nomark _))))) (pss_one (ps_ret (pe_and (pe_cmpR op_isNU (pv 1) pe_non (nomark _)) (pe_one (pe_cmpR op_isNU (pv 0) pe_non (nomark _)))))) pss_nil) (pss_cons (ps_if (pt_val (pe_callB (call_isiK2 (K := K) rfl) (by rfl) T.n_isinstance (by decide +kernel) (pa_cons (pv 1) (pa_cons (pe_tup (pa_cons (pe_bltn (v := .ty "list") (by rfl) T.n_list (by decide +kernel) rfl) (pa_cons (pe_bltn (v := .ty "tuple") (by rfl) T.n_tuple (by decide +kernel) rfl) pa_nil))) pa_nil)))) (pss_cons ps_never (pss_one ps_never)) pss_nil) (pss_cons (ps_if (pt_val (pe_callB (call_isiK1 (K := K) rfl) (by rfl) T.n_isinstance (by decide +kernel) (pa_cons (pv 1) (pa_cons (pe_bltn (v := .ty "dict") (by rfl) T.n_dict (by decide +kernel) rfl) pa_nil)))) (pss_cons ps_never (pss_one ps_never)) pss_nil) (pss_cons (ps_if (PW.pt (pw_or (pt_cmpR (op_neK (K := K) rfl hu) (pe_callB (call_isiK1 (K := K) rfl) (by rfl) T.n_isinstance (by decide +kernel) (pa_cons (pv 1) (pa_cons (pe_bltn (v := .ty "bool") (by rfl) T.n_bool (by decide +kernel) rfl) pa_nil))) (pe_callB (call_isiK1 (K := K) rfl) (by rfl) T.n_isinstance (by decide +kernel) (pa_cons (pv 0) (pa_cons (pe_bltn (v := .ty "bool") (by rfl) T.n_bool (by decide +kernel) rfl) pa_nil))) (nomark _)) (pw_or1 (pt_cmpR (op_neK (K := K) rfl hu) (pe_callB (call_isiK1 (K := K) rfl) (by rfl) T.n_isinstance (by decide +kernel) (pa_cons (pv 1) (pa_cons (pe_bltn (v := .ty "int") (by rfl) T.n_int (by decide +kernel) rfl) pa_nil))) (pe_callB (call_isiK1 (K := K) rfl) (by rfl) T.n_isinstance (by decide +kernel) (pa_cons (pv 0) (pa_cons (pe_bltn (v := .ty "int") (by rfl) T.n_int (by decide +kernel) rfl) pa_nil))) (nomark _))))) (pss_one (ps_ret pe_bl)) pss_nil) (pss_one (ps_ret (pe_and (pe_cmpR (op_eqK (K := K) rfl hu) (pe_callB (call_isiK1 (K := K) rfl) (by rfl) T.n_isinstance (by decide +kernel) (pa_cons (pv 1) (pa_cons (pe_bltn (v := .ty "str") (by rfl) T.n_str (by decide +kernel) rfl) pa_nil))) (pe_callB (call_isiK1 (K := K) rfl) (by rfl) T.n_isinstance (by decide +kernel) (pa_cons (pv 0) (pa_cons (pe_bltn (v := .ty "str") (by rfl) T.n_str (by decide +kernel) rfl) pa_nil))) (nomark _)) (pe_one (pe_cmpR (op_eqK (K := K) rfl hu) (pv 0) (pv 1) (nomark _)))))))))), fn_body h (by rw [hvl]; decide) (fun ds R hR hl => ?_)⟩
  obtain ⟨d, rfl, hd, q⟩ := hR
  refine q_if1 (b := d.isN || d.isN) (et_or1 (et_t1 (e_opd (e_var rfl) e_non od_isN)) fun _ => et_t1 (e_opd (e_var rfl) e_non od_isN)) (fun e => t_ret1 (e_and (e_opd (e_var rfl) e_non od_isN) fun _ => e_opd (e_var rfl) e_non od_isN) ?_) (fun e => ?_)
  · have e' : d.isN = true := by simpa using e
    rw [e']; exact q
  have hn : d.isN = false := by simpa using e
  obtain ⟨pl, k1, k2, k3, ⟨b4, k4⟩, ⟨b5, k5⟩, ⟨b6, k6⟩⟩ := kit_sc hd
  refine q_if1 (b := false || false) (et_v1 (e_isi2 (e_var rfl) pl k1 k2)) (fun e => nomatch e) fun _ => ?_
  refine q_if1 (b := false) (et_v1 (e_isi (e_var rfl) pl k3)) (fun e => nomatch e) fun _ => ?_
  refine q_if1 (b := (!decide (b4 = b4)) || (!decide (b5 = b5))) (et_or1 (et_t1 (e_opd (e_isi (e_var rfl) pl k4) (e_isi (e_var rfl) pl k4) od_neB)) fun _ => et_t1 (e_opd (e_isi (e_var rfl) pl k5) (e_isi (e_var rfl) pl k5) od_neB)) (fun e => by simp at e) fun _ => ?_
  refine t_ret1 (e_and (a := decide (b6 = b6)) (c := true) (e_opd (e_isi (e_var rfl) pl k6) (e_isi (e_var rfl) pl k6) od_eqB) fun _ => e_opd (e_var rfl) (e_var rfl) (od_eqSc hd hn)) ?_
  rw [decide_eq_true rfl]
  exact q

theorem IV2.imp2 {wi : TI} {ρ : List En} {R R' : List (D × D) → Prop} (h : IV2 wi ρ R) (k : ∀ l, R l → R' l) : IV2 wi ρ R' := fun W0 W σ E Q q => h W0 W σ E Q fun v e W' g r p => q v e W' g r (k e p)

theorem ok_law_sameS (T : Txt K mg) (n : Nat) (G_law_same : FnOk P w K mg base CX0 (n + 1) T.a_law_same T.d_law_same ["_law_found", "_law_due"] (SpE (Rg_same n))) : FnOk P w K mg base CX0 (n + 2) T.a_law_same T.d_law_same ["_law_found", "_law_due"] (SpE (Rg_same (n + 1))) := by
  refine T.F_law_same.ok sc_law_same (fun vs H Q E h => spE_len h len_same) (fun cdv A outer s H vs Q E hr h => ?_)
  have hu := hu64 hr
  have hvl : vs.length = 2 := spE_len h len_same
  refine ⟨_, (pss_cons (ps_if (PW.pt (pw_or (pt_cmpR op_isNU (pv 1) pe_non (nomark _)) (pw_or1 (pt_cmpR op_isNU (pv 0) pe_non (nomark _))))) (pss_one (ps_ret (pe_and (pe_cmpR op_isNU (pv 1) pe_non (nomark _)) (pe_one (pe_cmpR op_isNU (pv 0) pe_non (nomark _)))))) pss_nil) (pss_cons (ps_if (pt_val (pe_callB (call_isiK2 (K := K) rfl) (by rfl) T.n_isinstance (by decide +kernel) (pa_cons (pv 1) (pa_cons (pe_tup (pa_cons (pe_bltn (v := .ty "list") (by rfl) T.n_list (by decide +kernel) rfl) (pa_cons (pe_bltn (v := .ty "tuple") (by rfl) T.n_tuple (by decide +kernel) rfl) pa_nil))) pa_nil)))) (pss_cons (ps_if (PW.pt (pw_or (pt_cmpR (op_neK (K := K) rfl hu) (pe_callB (call_isiK1 (K := K) rfl) (by rfl) T.n_isinstance (by decide +kernel) (pa_cons (pv 0) (pa_cons (pe_bltn (v := .ty "list") (by rfl) T.n_list (by decide +kernel) rfl) pa_nil))) (pe_callB (call_isiK1 (K := K) rfl) (by rfl) T.n_isinstance (by decide +kernel) (pa_cons (pv 1) (pa_cons (pe_bltn (v := .ty "list") (by rfl) T.n_list (by decide +kernel) rfl) pa_nil))) (nomark _)) (pw_or1 (pt_cmpR (op_neK (K := K) rfl hu) (pe_callB (call_isiK1 (K := K) rfl) (by rfl) T.n_isinstance (by decide +kernel) (pa_cons (pv 0) (pa_cons (pe_bltn (v := .ty "tuple") (by rfl) T.n_tuple (by decide +kernel) rfl) pa_nil))) (pe_callB (call_isiK1 (K := K) rfl) (by rfl) T.n_isinstance (by decide +kernel) (pa_cons (pv 1) (pa_cons (pe_bltn (v := .ty "tuple") (by rfl) T.n_tuple (by decide +kernel) rfl) pa_nil))) (nomark _))))) (pss_one (ps_ret pe_bl)) pss_nil) (pss_one (ps_ret (pe_and (pe_cmpR (op_eqK (K := K) rfl hu) (pe_callB (call_lenK (K := K) rfl) (by rfl) T.n_len (by decide +kernel) (pa_cons (pv 0) pa_nil)) (pe_callB (call_lenK (K := K) rfl) (by rfl) T.n_len (by decide +kernel) (pa_cons (pv 1) pa_nil)) (nomark _)) (pe_one (pe_callB (call_allK (K := K) rfl rfl) (by rfl) T.n_all (by decide +kernel) (pa_cons (pe_lc (own := [("_law_x", 3), ("_law_y", 4)]) (g := gTup K 2 (gCons (gName 3) (gCons (gName 4) gNil))) (tt := tYes) rfl sc_law_same.nd (pi_zipK (K := K) rfl (by rfl) T.n_zip (pa_cons (pv 0) (pa_cons (pv 1) pa_nil))) (blkOk_by (N := N_law_same) (sc := defScope s_law_same) (by decide +kernel)) (fun _ _ _ _ _ => (pg_tup rfl (pgs_cons (pg_name (i := 3) sc_law_same.nd rfl (Or.inl rfl)) (pgs_cons (pg_name (i := 4) sc_law_same.nd rfl (Or.inl rfl)) pgs_nil)))) (fun _ _ _ _ _ => pts_nil) (fun _ _ _ _ _ => (pe_call G_law_same (hr.mono (by omega)) (by rfl) T.g_law_same T.F_law_same.kp (b_law_same T) .nil pass0 (pa_cons (pv 3) (pa_cons (pv 4) pa_nil))))) pa_nil))))))) pss_nil) (pss_cons (ps_if (pt_val (pe_callB (call_isiK1 (K := K) rfl) (by rfl) T.n_isinstance (by decide +kernel) (pa_cons (pv 1) (pa_cons (pe_bltn (v := .ty "dict") (by rfl) T.n_dict (by decide +kernel) rfl) pa_nil)))) (pss_cons ps_never (pss_one ps_never)) pss_nil) (pss_cons (ps_if (PW.pt (pw_or (pt_cmpR (op_neK (K := K) rfl hu) (pe_callB (call_isiK1 (K := K) rfl) (by rfl) T.n_isinstance (by decide +kernel) (pa_cons (pv 1) (pa_cons (pe_bltn (v := .ty "bool") (by rfl) T.n_bool (by decide +kernel) rfl) pa_nil))) (pe_callB (call_isiK1 (K := K) rfl) (by rfl) T.n_isinstance (by decide +kernel) (pa_cons (pv 0) (pa_cons (pe_bltn (v := .ty "bool") (by rfl) T.n_bool (by decide +kernel) rfl) pa_nil))) (nomark _)) (pw_or1 (pt_cmpR (op_neK (K := K) rfl hu) (pe_callB (call_isiK1 (K := K) rfl) (by rfl) T.n_isinstance (by decide +kernel) (pa_cons (pv 1) (pa_cons (pe_bltn (v := .ty "int") (by rfl) T.n_int (by decide +kernel) rfl) pa_nil))) (pe_callB (call_isiK1 (K := K) rfl) (by rfl) T.n_isinstance (by decide +kernel) (pa_cons (pv 0) (pa_cons (pe_bltn (v := .ty "int") (by rfl) T.n_int (by decide +kernel) rfl) pa_nil))) (nomark _))))) (pss_one (ps_ret pe_bl)) pss_nil) (pss_one (ps_ret (pe_and (pe_cmpR (op_eqK (K := K) rfl hu) (pe_callB (call_isiK1 (K := K) rfl) (by rfl) T.n_isinstance (by decide +kernel) (pa_cons (pv 1) (pa_cons (pe_bltn (v := .ty "str") (by rfl) T.n_str (by decide +kernel) rfl) pa_nil))) (pe_callB (call_isiK1 (K := K) rfl) (by rfl) T.n_isinstance (by decide +kernel) (pa_cons (pv 0) (pa_cons (pe_bltn (v := .ty "str") (by rfl) T.n_str (by decide +kernel) rfl) pa_nil))) (nomark _)) (pe_one (pe_cmpR (op_eqK (K := K) rfl hu) (pv 0) (pv 1) (nomark _)))))))))), fn_body h (by rw [hvl]; decide) (fun ds R hR hl => ?_)⟩
  obtain ⟨d, rfl, hd, q⟩ := hR
  rcases (show d.scal = true ∨ (∃ ds, d = .tup ds) ∨ ∃ ds, d = .lst ds from by
    cases d <;> first | exact .inl rfl | exact .inr (.inl ⟨_, rfl⟩) | exact .inr (.inr ⟨_, rfl⟩) | cases hd) with hd | ⟨ds, rfl⟩ | ⟨ds, rfl⟩
  · refine q_if1 (b := d.isN || d.isN) (et_or1 (et_t1 (e_opd (e_var rfl) e_non od_isN)) fun _ => et_t1 (e_opd (e_var rfl) e_non od_isN)) (fun e => t_ret1 (e_and (e_opd (e_var rfl) e_non od_isN) fun _ => e_opd (e_var rfl) e_non od_isN) ?_) (fun e => ?_)
    · have e' : d.isN = true := by simpa using e
      rw [e']; exact q
    have hn : d.isN = false := by simpa using e
    obtain ⟨pl, k1, k2, k3, ⟨b4, k4⟩, ⟨b5, k5⟩, ⟨b6, k6⟩⟩ := kit_sc hd
    refine q_if1 (b := false || false) (et_v1 (e_isi2 (e_var rfl) pl k1 k2)) (fun e => nomatch e) fun _ => ?_
    refine q_if1 (b := false) (et_v1 (e_isi (e_var rfl) pl k3)) (fun e => nomatch e) fun _ => ?_
    refine q_if1 (b := (!decide (b4 = b4)) || (!decide (b5 = b5))) (et_or1 (et_t1 (e_opd (e_isi (e_var rfl) pl k4) (e_isi (e_var rfl) pl k4) od_neB)) fun _ => et_t1 (e_opd (e_isi (e_var rfl) pl k5) (e_isi (e_var rfl) pl k5) od_neB)) (fun e => by simp at e) fun _ => ?_
    refine t_ret1 (e_and (a := decide (b6 = b6)) (c := true) (e_opd (e_isi (e_var rfl) pl k6) (e_isi (e_var rfl) pl k6) od_eqB) fun _ => e_opd (e_var rfl) (e_var rfl) (od_eqSc hd hn)) ?_
    rw [decide_eq_true rfl]
    exact q

  · -- tup
    have h2 : ds.all (D.sm n) = true ∧ ds.length ≤ 100000 := by
      have := hd
      unfold D.sm at this
      rw [Bool.and_eq_true, decide_eq_true_eq] at this
      exact this
    refine q_if1 (b := false || false) (et_or1 (et_t1 (e_opd (e_var rfl) e_non od_isN)) fun _ => et_t1 (e_opd (e_var rfl) e_non od_isN)) (fun e => nomatch e) (fun e => ?_)
    refine q_if1 (b := false || true) (et_v1 (e_isi2 (e_var rfl) rfl rfl rfl)) (fun _ => ?_) (fun e => nomatch e)
    refine q_if1 (b := (!decide (false = false)) || (!decide (true = true))) (et_or1 (et_t1 (e_opd (e_isi (e_var rfl) rfl rfl) (e_isi (e_var rfl) rfl rfl) od_neB)) fun _ => et_t1 (e_opd (e_isi (e_var rfl) rfl rfl) (e_isi (e_var rfl) rfl rfl) od_neB)) (fun e => by simp at e) fun _ => ?_
    refine t_ret1 (e_and (a := decide ((ds.length : Int) = (ds.length : Int))) (c := ((ds.zip ds).map fun _ => true).all id) (e_opd (EV.d1 (e_cb1 (ea_c (e_var rfl) ea_nil) cd_lenT)) (EV.d1 (e_cb1 (ea_c (e_var rfl) ea_nil) cd_lenT)) od_eqI) fun _ => EV.d1 (e_cb1 (ea_c (EV.o1 ((lc2_map (ds := ds.zip ds) (emb := fun p => p) (f := fun _ => .bl true) (by decide) ((iv_zip (.tup _) (.tup _) (ea_c (e_var rfl) (ea_c (e_var rfl) ea_nil))).imp2 fun l e => by rw [e, List.map_id']) (by rw [List.length_zip]; omega) (fun i p hp => ?_)).imp fun e he => by rw [he, List.map_map]; rfl)) ea_nil) cd_all)) ?_
    · obtain ⟨z1, z2⟩ := zip_get hp
      have e12 : p.1 = p.2 := by rw [z1] at z2; exact Option.some.inj z2
      have hsc : p.2.sm n = true := List.all_eq_true.mp h2.1 _ (List.mem_of_getElem? z2)
      exact EV.d1 (e_call0 (R := fun e => e = .dat (.bl true)) (ea_c (e_var rfl) (ea_c (e_var rfl) ea_nil)) ⟨p.2, by rw [e12], hsc, rfl⟩)
    · rw [decide_eq_true rfl, List.all_map]
      have : (ds.zip ds).all (id ∘ fun _ => true) = true := List.all_eq_true.mpr fun _ _ => rfl
      rw [this]
      exact q

  · -- lst
    have h2 : ds.all (D.sm n) = true ∧ ds.length ≤ 100000 := by
      have := hd
      unfold D.sm at this
      rw [Bool.and_eq_true, decide_eq_true_eq] at this
      exact this
    refine q_if1 (b := false || false) (et_or1 (et_t1 (e_opd (e_var rfl) e_non od_isN)) fun _ => et_t1 (e_opd (e_var rfl) e_non od_isN)) (fun e => nomatch e) (fun e => ?_)
    refine q_if1 (b := true || false) (et_v1 (e_isi2 (e_var rfl) rfl rfl rfl)) (fun _ => ?_) (fun e => nomatch e)
    refine q_if1 (b := (!decide (true = true)) || (!decide (false = false))) (et_or1 (et_t1 (e_opd (e_isi (e_var rfl) rfl rfl) (e_isi (e_var rfl) rfl rfl) od_neB)) fun _ => et_t1 (e_opd (e_isi (e_var rfl) rfl rfl) (e_isi (e_var rfl) rfl rfl) od_neB)) (fun e => by simp at e) fun _ => ?_
    refine t_ret1 (e_and (a := decide ((ds.length : Int) = (ds.length : Int))) (c := ((ds.zip ds).map fun _ => true).all id) (e_opd (EV.d1 (e_cb1 (ea_c (e_var rfl) ea_nil) cd_lenL)) (EV.d1 (e_cb1 (ea_c (e_var rfl) ea_nil) cd_lenL)) od_eqI) fun _ => EV.d1 (e_cb1 (ea_c (EV.o1 ((lc2_map (ds := ds.zip ds) (emb := fun p => p) (f := fun _ => .bl true) (by decide) ((iv_zip (.lst _) (.lst _) (ea_c (e_var rfl) (ea_c (e_var rfl) ea_nil))).imp2 fun l e => by rw [e, List.map_id']) (by rw [List.length_zip]; omega) (fun i p hp => ?_)).imp fun e he => by rw [he, List.map_map]; rfl)) ea_nil) cd_all)) ?_
    · obtain ⟨z1, z2⟩ := zip_get hp
      have e12 : p.1 = p.2 := by rw [z1] at z2; exact Option.some.inj z2
      have hsc : p.2.sm n = true := List.all_eq_true.mp h2.1 _ (List.mem_of_getElem? z2)
      exact EV.d1 (e_call0 (R := fun e => e = .dat (.bl true)) (ea_c (e_var rfl) (ea_c (e_var rfl) ea_nil)) ⟨p.2, by rw [e12], hsc, rfl⟩)
    · rw [decide_eq_true rfl, List.all_map]
      have : (ds.zip ds).all (id ∘ fun _ => true) = true := List.all_eq_true.mpr fun _ _ => rfl
      rw [this]
      exact q

theorem ok_same_n (T : Txt K mg) : ∀ n : Nat, FnOk P w K mg base CX0 (n + 1) T.a_law_same T.d_law_same ["_law_found", "_law_due"] (SpE (Rg_same n))
  | 0 => ok_law_same0 T
  | n + 1 => ok_law_sameS T n (ok_same_n T n)
theorem ok_law_same (T : Txt K mg) : FnOk P w K mg base CX0 3 T.a_law_same T.d_law_same ["_law_found", "_law_due"] (SpE Rg_law_same) := ok_same_n T 2
end
end Nt

namespace Nt
open PySem PySem.Spec PyProof.Rows L2


abbrev BB : Nat := 7000000000000000000000000000000
/-- a thing that is judged -/
def ThK (K : PySem.W.Frag) (d : D) : Prop := ValK K d ∧ match d with
  | .str s => s.length ≤ 1000 ∧ ∀ c ∈ s, c < 0x110000
  | .tup [x, y] => ValK K x ∧ ValK K y ∧ ∀ a b : Int, x = .int a → y = .int b → a.natAbs ≤ BB ∧ b.natAbs ≤ BB
  | _ => True
theorem isT_str {d : D} (h : d.isT "str" = true) : ∃ s, d = .str s := by
  cases d <;> first | exact ⟨_, rfl⟩ | exact absurd h (by simp [D.isT])
theorem isT_tup {d : D} (h : d.isT "tuple" = true) : ∃ ds, d = .tup ds := by
  cases d <;> first | exact ⟨_, rfl⟩ | exact absurd h (by simp [D.isT])
def intB (d : D) : Bool := d.isT "int" && !d.isT "bool"
theorem intB_int {d : D} (h : intB d = true) : ∃ i, d = .int i := by
  cases d <;> first | exact ⟨_, rfl⟩ | exact absurd h (by simp [intB, D.isT])
def numB (d : D) (lo hi : Int) : Bool := match d with
  | .int i => decide (lo ≤ i) && decide (i ≤ hi)
  | _ => false
def chB (c : Nat) : Bool := !decide ([c] < [97]) && !decide ([122] < [c])
def nameB : D → Bool
  | .str s => decide ((1 : Int) ≤ s.length) && decide ((s.length : Int) ≤ 6) && s.all chB
  | _ => false
def pairB : D → Bool
  | .tup [.int a, .int b] => decide ((1 : Int) ≤ b) && decide (((Nat.gcd a.natAbs b.natAbs : Nat) : Int) = 1)
  | _ => false
theorem nameB_no {d : D} (h : d.isT "str" = false) : nameB d = false := by
  cases d <;> first | rfl | exact absurd h (by simp [D.isT])
theorem pairB_no {d : D} (h : d.isT "tuple" = false) : pairB d = false := by
  cases d <;> first | rfl | exact absurd h (by simp [D.isT])
theorem pairB_two {ds : List D} (h : ds.length ≠ 2) : pairB (.tup ds) = false := by
  match ds, h with
  | [], _ => rfl
  | [a], _ => cases a <;> rfl
  | [a, b], h => exact absurd rfl h
  | a :: b :: c :: r, _ => cases a <;> cases b <;> rfl
theorem pairB_not {x y : D} (h : ¬ (intB x = true ∧ intB y = true)) : pairB (.tup [x, y]) = false := by
  cases x <;> cases y <;> first | rfl | exact absurd ⟨rfl, rfl⟩ h
theorem two_of {ds : List D} (h : ds.length = 2) : ∃ x y, ds = [x, y] := by
  match ds, h with
  | [x, y], _ => exact ⟨x, y, rfl⟩
def lowB : D → Bool
  | .int j => decide (j < 1)
  | _ => false
/-! Euclid -/
def fbs : Nat → Nat × Nat
  | 0 => (0, 1)
  | n + 1 => ((fbs n).2, (fbs n).1 + (fbs n).2)
theorem fbs_big : 2 * BB < (fbs 160).2 := by decide +kernel
def euI (g : Nat) (i x y : Nat) : Prop := Nat.gcd x y = g ∧ (i = 0 ∧ x ≤ BB ∧ y ≤ BB ∨ 1 ≤ i ∧ (y = 0 ∨ (y ≤ x ∧ (fbs i).2 * x + (fbs i).1 * y ≤ 2 * BB)))
theorem eu_step {g i x y : Nat} (hy : 0 < y) (h : euI g i x y) : euI g (i + 1) y (x % y) := by
  obtain ⟨h1, h2⟩ := h
  refine ⟨by rw [← h1, Nat.gcd_comm x y, Nat.gcd_rec y x, Nat.gcd_comm], .inr ⟨by omega, ?_⟩⟩
  have hm : x % y < y := Nat.mod_lt _ hy
  by_cases hz : x % y = 0
  · exact .inl hz
  refine .inr ⟨Nat.le_of_lt hm, ?_⟩
  rcases h2 with ⟨rfl, hx, hyb⟩ | ⟨hi, h0 | ⟨hle, hf⟩⟩
  · show (fbs 1).2 * y + (fbs 1).1 * (x % y) ≤ 2 * BB
    have e1 : (fbs 1).2 = 1 := rfl
    have e2 : (fbs 1).1 = 1 := rfl
    rw [e1, e2]
    omega
  · omega
  · show ((fbs i).1 + (fbs i).2) * y + (fbs i).2 * (x % y) ≤ 2 * BB
    have hq : y + x % y ≤ x := by
      have := Nat.div_add_mod x y
      have h1 : 1 ≤ x / y := (Nat.one_le_div_iff hy).mpr hle
      have h2 : y * 1 ≤ y * (x / y) := Nat.mul_le_mul_left y h1
      omega
    have h3 : (fbs i).2 * (y + x % y) ≤ (fbs i).2 * x := Nat.mul_le_mul_left _ hq
    rw [Nat.mul_add] at h3
    rw [Nat.add_mul]
    omega
theorem eu_stay {g i x : Nat} (h : euI g i x 0) : euI g (i + 1) x 0 := ⟨h.1, .inr ⟨by omega, .inl rfl⟩⟩
theorem eu_end {g x y : Nat} (h : euI g 160 x y) : x = g := by
  obtain ⟨h1, h2⟩ := h
  rcases h2 with ⟨h0, _⟩ | ⟨_, h0 | ⟨hle, hf⟩⟩
  · omega
  · rw [h0, Nat.gcd_zero_right] at h1; exact h1
  · by_cases hy : y = 0
    · rw [hy, Nat.gcd_zero_right] at h1; exact h1
    · exfalso
      have hx : 1 ≤ x := by omega
      have : (fbs 160).2 * 1 ≤ (fbs 160).2 * x := Nat.mul_le_mul_left _ hx
      have := fbs_big
      omega
theorem absN (i : Int) : (if i < 0 then -i else i) = ((i.natAbs : Nat) : Int) := by split <;> omega
theorem abc_eq : "abcdefghijklmnopqrstuvwxyz".toList.map Char.toNat = List.range' 97 26 := by decide +kernel
theorem chB_eq (c : Nat) : chB c = decide (c ∈ List.range' 97 26) := by
  unfold chB
  rw [Bool.eq_iff_iff, Bool.and_eq_true, Bool.not_eq_true', Bool.not_eq_true', decide_eq_false_iff_not, decide_eq_false_iff_not, decide_eq_true_eq, List.mem_range'_1]
  simp only [List.cons_lt_cons_iff, List.not_lt_nil, and_false, or_false]
  omega
/-! contracts -/
def Rg_is_name (K : PySem.W.Frag) (ds : List D) (P : En → Prop) : Prop := ∃ d, ds = [d] ∧ ThK K d ∧ P (.dat (.bl (nameB d)))
def Rg_is_integer (K : PySem.W.Frag) (ds : List D) (P : En → Prop) : Prop := ∃ d, ds = [d] ∧ ValK K d ∧ P (.dat (.bl (intB d)))
def Rg_is_number (K : PySem.W.Frag) (ds : List D) (P : En → Prop) : Prop := ∃ d lo hi, ds = [d, .int lo, .int hi] ∧ ValK K d ∧ P (.dat (.bl (numB d lo hi)))
def Rg_is_ratio (K : PySem.W.Frag) (ds : List D) (P : En → Prop) : Prop := ∃ d, ds = [d] ∧ ThK K d ∧ P (.dat (.bl (pairB d)))
def Rg_law_plain (K : PySem.W.Frag) (ds : List D) (P : En → Prop) : Prop := ∃ d, ds = [d] ∧ ValK K d ∧ P (.dat (.bl (intB d)))
def Rg_law_is_pair (K : PySem.W.Frag) (ds : List D) (P : En → Prop) : Prop := ∃ d, ds = [d] ∧ ThK K d ∧ P (.dat (.bl (pairB d)))
def Rg_law_is_word (K : PySem.W.Frag) (ds : List D) (P : En → Prop) : Prop := ∃ d, ds = [d] ∧ ThK K d ∧ P (.dat (.bl (nameB d)))
def Rg_law_gcd (ds : List D) (P : En → Prop) : Prop := ∃ a b : Int, ds = [.int a, .int b] ∧ a.natAbs ≤ BB ∧ b.natAbs ≤ BB ∧ P (.dat (.int ((Nat.gcd a.natAbs b.natAbs : Nat) : Int)))
theorem len_law_gcd (ds P) (h : Rg_law_gcd ds P) : ds.length = 2 := by obtain ⟨_, _, rfl, _⟩ := h; rfl
theorem len_is_number {K} (ds P) (h : Rg_is_number K ds P) : ds.length = 3 := by obtain ⟨_, _, _, rfl, _⟩ := h; rfl

theorem len_is_name {K} (ds P) (h : Rg_is_name K ds P) : ds.length = 1 := by obtain ⟨_, rfl, _⟩ := h; rfl
theorem len_is_integer {K} (ds P) (h : Rg_is_integer K ds P) : ds.length = 1 := by obtain ⟨_, rfl, _⟩ := h; rfl
theorem len_is_ratio {K} (ds P) (h : Rg_is_ratio K ds P) : ds.length = 1 := by obtain ⟨_, rfl, _⟩ := h; rfl
theorem len_law_plain {K} (ds P) (h : Rg_law_plain K ds P) : ds.length = 1 := by obtain ⟨_, rfl, _⟩ := h; rfl
theorem len_law_is_pair {K} (ds P) (h : Rg_law_is_pair K ds P) : ds.length = 1 := by obtain ⟨_, rfl, _⟩ := h; rfl
theorem len_law_is_word {K} (ds P) (h : Rg_law_is_word K ds P) : ds.length = 1 := by obtain ⟨_, rfl, _⟩ := h; rfl
section
variable {P : Program} {w : World} {K : PySem.W.Frag} {mg : Str → Option Value} {base : Heap}
theorem e_lenA {d : D} {te : TE} {ρ : List En} (h : ED te ρ (· = d)) : (∀ s, d = .str s → s.length ≤ 1000 → ED (tCB (rLenU K) (tCons te tNil)) ρ (· = .int s.length)) ∧ ∀ ds, d = .tup ds → ED (tCB (rLenU K) (tCons te tNil)) ρ (· = .int ds.length) :=
  ⟨fun s e hl => by subst e; exact EV.d1 (e_cb1 (ea_c h ea_nil) (cd_lenS (by omega))), fun ds e => by subst e; exact EV.d1 (e_cb1 (ea_c h ea_nil) cd_lenT)⟩

theorem ok_is_name (T : Txt K mg)  : FnOk P w K mg base CX0 1 T.a_is_name T.d_is_name ["value"] (SpE (Rg_is_name K)) := by
  refine T.F_is_name.ok sc_is_name (fun vs H Q E h => spE_len h len_is_name) (fun cdv A outer s H vs Q E hr h => ?_)
  have hu := hu64 hr
  have hvl : vs.length = 1 := spE_len h len_is_name
  refine ⟨_, (pss_cons (ps_if (PW.pt (pw_or (pt_not (pt_val (pe_callB (call_isiE1 (K := K) rfl) (by rfl) T.n_isinstance (by decide +kernel) (pa_cons (pv 0) (pa_cons (pe_bltn (v := .ty "str") (by rfl) T.n_str (by decide +kernel) rfl) pa_nil))))) (pw_or1 (pt_not (pt_chain op_le op_le pe_int (pe_callB (call_lenK (K := K) rfl) (by rfl) T.n_len (by decide +kernel) (pa_cons (pv 0) pa_nil)) (pe_glob (v := .int 6) rfl T.c_LONGEST_NAME ⟨_, rfl⟩)))))) (pss_one (ps_ret pe_bl)) pss_nil) (pss_one (ps_ret (pe_callB (call_allK (K := K) rfl rfl) (by rfl) T.n_all (by decide +kernel) (pa_cons (pe_lc (own := [("letter", 1)]) (g := gName 1) (tt := tYes) rfl sc_is_name.nd (pi_str (pv 0)) (blkOk_by (N := N_is_name) (sc := defScope s_is_name) (by decide +kernel)) (fun _ _ _ _ _ => (pg_name (i := 1) sc_is_name.nd rfl (Or.inl rfl))) (fun _ _ _ _ _ => pts_nil) (fun _ _ _ _ _ => (pe_chain op_leS op_leS pe_str (pv 1) pe_str))) pa_nil))))), fn_body h (by rw [hvl]; decide) (fun ds R hR hl => ?_)⟩
  obtain ⟨d, rfl, hd, q⟩ := hR
  cases hs : d.isT "str" with
  | false =>
    refine q_if1 (b := true) ((et_or1 (c := true) (et_not1 (et_v1 (e_isA (e_var rfl) hd.1 (by simp)))) (fun e => by rw [hs] at e; cases e)).is (by rw [hs]; rfl)) (fun _ => t_ret1 e_bl ?_) (fun e => by cases e)
    rw [nameB_no hs] at q; exact q
  | true =>
    obtain ⟨s, rfl⟩ := isT_str hs
    have hl : s.length ≤ 1000 := hd.2.1
    refine q_if1 (b := !(decide ((1 : Int) ≤ s.length) && decide ((s.length : Int) ≤ 6))) ((et_or1 (c := !(decide ((1 : Int) ≤ s.length) && decide ((s.length : Int) ≤ 6))) (et_not1 (et_v1 (e_isA (e_var rfl) hd.1 (by simp)))) (fun _ => et_not1 (et_t1 (e_chain e_int ((e_lenA (e_var rfl)).1 s rfl hl) e_int od_le (fun _ => od_le))))).is (by rw [hs]; rfl)) (fun e => t_ret1 e_bl ?_) (fun e => ?_)
    · rw [show nameB (.str s) = false by
        show (decide ((1 : Int) ≤ s.length) && decide ((s.length : Int) ≤ 6) && s.all chB) = false
        rw [Bool.not_eq_true'] at e
        rw [e]; rfl] at q
      exact q
    · refine t_ret1 (EV.d1 (e_cb1 (ea_c (EV.o1 ((lc1_map (f := fun c => .bl (chB c)) (iv_strS (e_var rfl)) (by omega) fun i c hc => e_chain (b := !decide ([c] < [97])) (c := !decide ([122] < [c])) (e_str (s := [97]) (by decide +kernel)) (e_var rfl) (e_str (s := [122]) (by decide +kernel)) od_leS (fun _ => od_leS)).imp fun e he => ?_)) ea_nil) (cd_all (bs := s.map chB)))) ?_
      · rw [he, List.map_map]; rfl
      · rw [show nameB (.str s) = s.all chB by
          show (decide ((1 : Int) ≤ s.length) && decide ((s.length : Int) ≤ 6) && s.all chB) = _
          have e' : (decide ((1 : Int) ≤ s.length) && decide ((s.length : Int) ≤ 6)) = true := by simpa using e
          rw [e']; rfl] at q
        rw [List.all_map]
        exact q

theorem ok_is_integer (T : Txt K mg)  : FnOk P w K mg base CX0 1 T.a_is_integer T.d_is_integer ["value"] (SpE (Rg_is_integer K)) := by
  refine T.F_is_integer.ok sc_is_integer (fun vs H Q E h => spE_len h len_is_integer) (fun cdv A outer s H vs Q E hr h => ?_)
  have hu := hu64 hr
  have hvl : vs.length = 1 := spE_len h len_is_integer
  refine ⟨_, (pss_one (ps_ret (pe_and (pe_callB (call_isiE1 (K := K) rfl) (by rfl) T.n_isinstance (by decide +kernel) (pa_cons (pv 0) (pa_cons (pe_bltn (v := .ty "int") (by rfl) T.n_int (by decide +kernel) rfl) pa_nil))) (pe_one (pe_not (pe_callB (call_isiE1 (K := K) rfl) (by rfl) T.n_isinstance (by decide +kernel) (pa_cons (pv 0) (pa_cons (pe_bltn (v := .ty "bool") (by rfl) T.n_bool (by decide +kernel) rfl) pa_nil)))))))), fn_body h (by rw [hvl]; decide) (fun ds R hR hl => ?_)⟩
  obtain ⟨d, rfl, hd, q⟩ := hR
  exact t_ret1 (e_and (e_isA (e_var rfl) hd (by simp)) (fun _ => e_not (e_isA (e_var rfl) hd (by simp)))) q

theorem ok_law_plain (T : Txt K mg)  : FnOk P w K mg base CX0 1 T.a_law_plain T.d_law_plain ["_law_thing"] (SpE (Rg_law_plain K)) := by
  refine T.F_law_plain.ok sc_law_plain (fun vs H Q E h => spE_len h len_law_plain) (fun cdv A outer s H vs Q E hr h => ?_)
  have hu := hu64 hr
  have hvl : vs.length = 1 := spE_len h len_law_plain
  refine ⟨_, (pss_one (ps_ret (pe_and (pe_callB (call_isiE1 (K := K) rfl) (by rfl) T.n_isinstance (by decide +kernel) (pa_cons (pv 0) (pa_cons (pe_bltn (v := .ty "int") (by rfl) T.n_int (by decide +kernel) rfl) pa_nil))) (pe_one (pe_not (pe_callB (call_isiE1 (K := K) rfl) (by rfl) T.n_isinstance (by decide +kernel) (pa_cons (pv 0) (pa_cons (pe_bltn (v := .ty "bool") (by rfl) T.n_bool (by decide +kernel) rfl) pa_nil)))))))), fn_body h (by rw [hvl]; decide) (fun ds R hR hl => ?_)⟩
  obtain ⟨d, rfl, hd, q⟩ := hR
  exact t_ret1 (e_and (e_isA (e_var rfl) hd (by simp)) (fun _ => e_not (e_isA (e_var rfl) hd (by simp)))) q

theorem ok_is_number (T : Txt K mg) (G_is_integer : FnOk P w K mg base CX0 1 T.a_is_integer T.d_is_integer ["value"] (SpE (Rg_is_integer K))) : FnOk P w K mg base CX0 2 T.a_is_number T.d_is_number ["value", "least", "most"] (SpE (Rg_is_number K)) := by
  refine T.F_is_number.ok sc_is_number (fun vs H Q E h => spE_len h len_is_number) (fun cdv A outer s H vs Q E hr h => ?_)
  have hu := hu64 hr
  have hvl : vs.length = 3 := spE_len h len_is_number
  refine ⟨_, (pss_one (ps_ret (pe_and (pe_call G_is_integer (hr.mono (by decide)) (by rfl) T.g_is_integer T.F_is_integer.kp (b_is_integer T) .nil pass0 (pa_cons (pv 0) pa_nil)) (pe_one (pe_chain op_le op_le (pv 1) (pv 0) (pv 2)))))), fn_body h (by rw [hvl]; decide) (fun ds R hR hl => ?_)⟩
  obtain ⟨d, lo, hi, rfl, hd, q⟩ := hR
  refine t_ret1 (d := .bl (intB d && numB d lo hi)) (e_and (EV.d1 (e_call0 (R := fun e => e = .dat (.bl (intB d))) (ea_c (e_var rfl) ea_nil) ⟨d, rfl, hd, rfl⟩)) (fun h => ?_)) ?_
  · obtain ⟨i, rfl⟩ := intB_int h
    exact e_chain (e_var rfl) (e_var rfl) (e_var rfl) od_le (fun _ => od_le)
  · rw [show (intB d && numB d lo hi) = numB d lo hi by cases d <;> rfl]
    exact q

theorem ok_is_ratio (T : Txt K mg) (G_is_integer : FnOk P w K mg base CX0 1 T.a_is_integer T.d_is_integer ["value"] (SpE (Rg_is_integer K))) : FnOk P w K mg base CX0 2 T.a_is_ratio T.d_is_ratio ["value"] (SpE (Rg_is_ratio K)) := by
  refine T.F_is_ratio.ok sc_is_ratio (fun vs H Q E h => spE_len h len_is_ratio) (fun cdv A outer s H vs Q E hr h => ?_)
  have hu := hu64 hr
  have hvl : vs.length = 1 := spE_len h len_is_ratio
  refine ⟨_, (pss_cons (ps_if (PW.pt (pw_or (pt_not (pt_val (pe_callB (call_isiE1 (K := K) rfl) (by rfl) T.n_isinstance (by decide +kernel) (pa_cons (pv 0) (pa_cons (pe_bltn (v := .ty "tuple") (by rfl) T.n_tuple (by decide +kernel) rfl) pa_nil))))) (pw_or1 (pt_cmpR (op_neK (K := K) rfl hu) (pe_callB (call_lenK (K := K) rfl) (by rfl) T.n_len (by decide +kernel) (pa_cons (pv 0) pa_nil)) pe_int (nomark _))))) (pss_one (ps_ret pe_bl)) pss_nil) (pss_cons (ps_asg (pv 0) (pg_tup rfl (pgs_cons (pg_name (i := 1) sc_is_ratio.nd rfl (Or.inl rfl)) (pgs_cons (pg_name (i := 2) sc_is_ratio.nd rfl (Or.inl rfl)) pgs_nil)))) (pss_cons (ps_if (PW.pt (pw_or (pt_not (pt_val (pe_call G_is_integer (hr.mono (by decide)) (by rfl) T.g_is_integer T.F_is_integer.kp (b_is_integer T) .nil pass0 (pa_cons (pv 1) pa_nil)))) (pw_or1 (pt_not (pt_val (pe_call G_is_integer (hr.mono (by decide)) (by rfl) T.g_is_integer T.F_is_integer.kp (b_is_integer T) .nil pass0 (pa_cons (pv 2) pa_nil))))))) (pss_one (ps_ret pe_bl)) pss_nil) (pss_one (ps_ret (pe_and (pe_cmpR op_ge (pv 2) pe_int (nomark _)) (pe_one (pe_cmpR (op_eqK (K := K) rfl hu) (pe_callBfun cr_gcd (by rfl) T.m_gcd (pa_cons (pv 1) (pa_cons (pv 2) pa_nil))) pe_int (nomark _))))))))), fn_body h (by rw [hvl]; decide) (fun ds R hR hl => ?_)⟩
  obtain ⟨d, rfl, hd, q⟩ := hR
  cases hs : d.isT "tuple" with
  | false =>
    refine q_if1 (b := true) ((et_or1 (c := true) (et_not1 (et_v1 (e_isA (e_var rfl) hd.1 (by simp)))) (fun e => by rw [hs] at e; cases e)).is (by rw [hs]; rfl)) (fun _ => t_ret1 e_bl ?_) (fun e => by cases e)
    rw [pairB_no hs] at q; exact q
  | true =>
    obtain ⟨ds, rfl⟩ := isT_tup hs
    refine q_if1 (b := !decide ((ds.length : Int) = 2)) ((et_or1 (c := !decide ((ds.length : Int) = 2)) (et_not1 (et_v1 (e_isA (e_var rfl) hd.1 (by simp)))) (fun _ => et_t1 (e_opd ((e_lenA (e_var rfl)).2 ds rfl) e_int od_neI))).is (by rw [hs]; rfl)) (fun e => t_ret1 e_bl ?_) (fun e => ?_)
    · rw [pairB_two (ds := ds) (fun z => by simp at e; omega)] at q; exact q
    obtain ⟨x, y, rfl⟩ := two_of (ds := ds) (by simp at e; omega)
    obtain ⟨_, hx, hy, hb⟩ := hd
    have cint : ∀ (X : XK) (ρ0 : List En) (te : TE) (z : D), ValK K z → ED te ρ0 (· = z) → ED (tCall (SpE (Rg_is_integer K)) [] X (tCons te tNil)) ρ0 (· = .bl (intB z)) := fun X ρ0 te z hz h => EV.d1 (e_call0 (R := fun e => e = .dat (.bl (intB z))) (ea_c h ea_nil) ⟨z, rfl, hz, rfl⟩)
    refine t_seq (M := fun ρ' => ρ' = [.dat (.tup [x, y]), .dat x, .dat y]) (t_unp (Q2 := fun u v => u = x ∧ v = y) ((e_var rfl).imp fun d e => ⟨x, y, e, rfl, rfl⟩) fun u v ⟨h1, h2⟩ => by rw [h1, h2]; rfl) fun ρ' e => ?_
    subst e
    refine q_if1 (b := !(intB x) || !(intB y)) (et_or1 (et_not1 (et_v1 (cint _ _ _ x hx (e_var rfl)))) (fun _ => et_not1 (et_v1 (cint _ _ _ y hy (e_var rfl))))) (fun e => t_ret1 e_bl ?_) (fun e => ?_)
    · rw [pairB_not (x := x) (y := y) (fun ⟨h1, h2⟩ => by rw [h1, h2] at e; cases e)] at q; exact q
    · have e1 : intB x = true ∧ intB y = true := by simpa using e
      obtain ⟨i, rfl⟩ := intB_int e1.1
      obtain ⟨j, rfl⟩ := intB_int e1.2
      exact t_ret1 (e_and (e_opd (e_var rfl) e_int od_ge) (fun _ => e_opd (e_gcd (e_var rfl) (e_var rfl)) e_int od_eqI)) q

theorem ok_law_gcd (T : Txt K mg)  : FnOk P w K mg base CX0 1 T.a_law_gcd T.d_law_gcd ["_law_a", "_law_b"] (SpE Rg_law_gcd) := by
  refine T.F_law_gcd.ok sc_law_gcd (fun vs H Q E h => spE_len h len_law_gcd) (fun cdv A outer s H vs Q E hr h => ?_)
  have hu := hu64 hr
  have hvl : vs.length = 2 := spE_len h len_law_gcd
  refine ⟨_, (pss_cons (ps_par (i := 0) (j := 1) (by rfl) sc_law_gcd.nd rfl rfl (by decide) rfl rfl (pa_cons (pe_callB call_absI (by rfl) T.n_abs (by decide +kernel) (pa_cons (pv 0) pa_nil)) (pa_cons (pe_callB call_absI (by rfl) T.n_abs (by decide +kernel) (pa_cons (pv 1) pa_nil)) pa_nil)) (by rfl)) (pss_cons (ps_for PassesOwn.never rfl (pi_range1 (by rfl) T.n_range (pa_cons pe_int pa_nil)) (pg_name (i := 2) sc_law_gcd.nd rfl (Or.inl rfl)) (pss_one (ps_if (pt_cmpR op_gt (pv 1) pe_int (nomark _)) (pss_one (ps_par (i := 0) (j := 1) (by rfl) sc_law_gcd.nd rfl rfl (by decide) rfl rfl (pa_cons (pv 1) (pa_cons (pe_op op_modN (pe_callTy call_intI (by rfl) T.n_int (by decide +kernel) (pa_cons (pv 0) pa_nil)) (pv 1)) pa_nil)) (by rfl))) pss_nil))) (pss_one (ps_ret (pv 0))))), fn_body h (by rw [hvl]; decide) (fun ds R hR hl => ?_)⟩
  obtain ⟨a, b, rfl, ha, hb, q⟩ := hR
  have gabs : ∀ (i : Int) (te : TE) (ρ0 : List En), ED te ρ0 (· = .int i) → ED (tCB rAbsI (tCons te tNil)) ρ0 (· = .int ((i.natAbs : Nat) : Int)) := fun i te ρ0 h => by
    rw [← absN]; exact EV.d1 (e_cb1 (ea_c h ea_nil) cd_abs)
  refine t_seq (M := fun ρ' => ρ' = [.dat (.int ((a.natAbs : Nat) : Int)), .dat (.int ((b.natAbs : Nat) : Int)), .un]) (t_par (P1 := (· = .dat (.int ((a.natAbs : Nat) : Int)))) (P2 := (· = .dat (.int ((b.natAbs : Nat) : Int)))) ((gabs a _ _ (e_var rfl)).ev.imp fun e ⟨d, h1, h2⟩ => by rw [h1, h2]) ((gabs b _ _ (e_var rfl)).ev.imp fun e ⟨d, h1, h2⟩ => by rw [h1, h2]) fun u v h1 h2 => by rw [h1, h2]; rfl) fun ρ' e => ?_
  subst e
  refine t_seq (M := fun ρ' => ∃ (x y : Nat) (e : En), ρ' = [.dat (.int x), .dat (.int y), e] ∧ euI (Nat.gcd a.natAbs b.natAbs) 160 x y) (t_for1 (iv_rngN (n := 160) (ea_c e_int ea_nil) (by decide)) (fun ds i ρ' => ∃ (x y : Nat) (e : En), ρ' = [.dat (.int x), .dat (.int y), e] ∧ euI (Nat.gcd a.natAbs b.natAbs) i x y) (fun ds e => ⟨_, _, _, rfl, rfl, .inl ⟨rfl, ha, hb⟩⟩) (fun ds i d ρ' e hd inv => ?_) (fun ds ρ' e inv => by rw [e, List.length_map, List.length_range] at inv; exact inv)) fun ρ' m => ?_
  · obtain ⟨x, y, e, rfl, h⟩ := inv
    refine t_if (T := fun b => b = decide ((0 : Int) < (y : Int))) (et_t1 (e_opd (e_var rfl) e_int od_gt)) (fun hy => ?_) (fun hy => t_next ⟨x, y, _, rfl, ?_⟩)
    · have hy' : 0 < y := by have := of_decide_eq_true hy.symm; omega
      refine t_par (P1 := (· = .dat (.int (y : Int)))) (P2 := (· = .dat (.int ((x % y : Nat) : Int)))) ((e_var (d := .int (y : Int)) rfl).ev.imp fun e ⟨d, h1, h2⟩ => by rw [h1, h2]) ((e_op1 (EV.d1 (e_cb1 (ea_c (e_var rfl) ea_nil) cd_int)) (e_var rfl) (od_modI (by omega))).imp fun e h1 => ?_) fun u v h1 h2 => ⟨y, x % y, .dat d, by subst h1; subst h2; rfl, eu_step hy' h⟩
      rw [h1]
      have : (x : Int).fmod (y : Int) = ((x % y : Nat) : Int) := by rw [Int.fmod_eq_emod_of_nonneg _ (by omega)]; rfl
      rw [this]
    · have hy' : y = 0 := by have := of_decide_eq_false hy.symm; omega
      subst hy'
      exact eu_stay h
  · obtain ⟨x, y, e, rfl, h⟩ := m
    have hx := eu_end h
    exact t_ret1 (e_var rfl) (by rw [hx]; exact q)

theorem ok_law_is_pair (T : Txt K mg) (G_law_gcd : FnOk P w K mg base CX0 1 T.a_law_gcd T.d_law_gcd ["_law_a", "_law_b"] (SpE Rg_law_gcd)) (G_law_plain : FnOk P w K mg base CX0 1 T.a_law_plain T.d_law_plain ["_law_thing"] (SpE (Rg_law_plain K))) : FnOk P w K mg base CX0 2 T.a_law_is_pair T.d_law_is_pair ["_law_thing"] (SpE (Rg_law_is_pair K)) := by
  refine T.F_law_is_pair.ok sc_law_is_pair (fun vs H Q E h => spE_len h len_law_is_pair) (fun cdv A outer s H vs Q E hr h => ?_)
  have hu := hu64 hr
  have hvl : vs.length = 1 := spE_len h len_law_is_pair
  refine ⟨_, (pss_cons (ps_if (PW.pt (pw_or (pt_not (pt_val (pe_callB (call_isiE1 (K := K) rfl) (by rfl) T.n_isinstance (by decide +kernel) (pa_cons (pv 0) (pa_cons (pe_bltn (v := .ty "tuple") (by rfl) T.n_tuple (by decide +kernel) rfl) pa_nil))))) (pw_or1 (pt_cmpR (op_neK (K := K) rfl hu) (pe_callB (call_lenK (K := K) rfl) (by rfl) T.n_len (by decide +kernel) (pa_cons (pv 0) pa_nil)) pe_int (nomark _))))) (pss_one (ps_ret pe_bl)) pss_nil) (pss_cons (ps_if (PW.pt (pw_or (pt_not (pt_val (pe_call G_law_plain (hr.mono (by decide)) (by rfl) T.g_law_plain T.F_law_plain.kp (b_law_plain T) .nil pass0 (pa_cons (pe_ix (ix_K (K := K) rfl) (pv 0) pe_int (fun _ _ => rfl)) pa_nil)))) (pw_or (pt_not (pt_val (pe_call G_law_plain (hr.mono (by decide)) (by rfl) T.g_law_plain T.F_law_plain.kp (b_law_plain T) .nil pass0 (pa_cons (pe_ix (ix_K (K := K) rfl) (pv 0) pe_int (fun _ _ => rfl)) pa_nil)))) (pw_or1 (pt_cmpR op_lt (pe_ix (ix_K (K := K) rfl) (pv 0) pe_int (fun _ _ => rfl)) pe_int (nomark _)))))) (pss_one (ps_ret pe_bl)) pss_nil) (pss_one (ps_ret (pe_cmpR (op_eqK (K := K) rfl hu) (pe_call G_law_gcd (hr.mono (by decide)) (by rfl) T.g_law_gcd T.F_law_gcd.kp (b_law_gcd T) .nil pass0 (pa_cons (pe_ix (ix_K (K := K) rfl) (pv 0) pe_int (fun _ _ => rfl)) (pa_cons (pe_ix (ix_K (K := K) rfl) (pv 0) pe_int (fun _ _ => rfl)) pa_nil))) pe_int (nomark _)))))), fn_body h (by rw [hvl]; decide) (fun ds R hR hl => ?_)⟩
  obtain ⟨d, rfl, hd, q⟩ := hR
  cases hs : d.isT "tuple" with
  | false =>
    refine q_if1 (b := true) ((et_or1 (c := true) (et_not1 (et_v1 (e_isA (e_var rfl) hd.1 (by simp)))) (fun e => by rw [hs] at e; cases e)).is (by rw [hs]; rfl)) (fun _ => t_ret1 e_bl ?_) (fun e => by cases e)
    rw [pairB_no hs] at q; exact q
  | true =>
    obtain ⟨ds, rfl⟩ := isT_tup hs
    refine q_if1 (b := !decide ((ds.length : Int) = 2)) ((et_or1 (c := !decide ((ds.length : Int) = 2)) (et_not1 (et_v1 (e_isA (e_var rfl) hd.1 (by simp)))) (fun _ => et_t1 (e_opd ((e_lenA (e_var rfl)).2 ds rfl) e_int od_neI))).is (by rw [hs]; rfl)) (fun e => t_ret1 e_bl ?_) (fun e => ?_)
    · rw [pairB_two (ds := ds) (fun z => by simp at e; omega)] at q; exact q
    obtain ⟨x, y, rfl⟩ := two_of (ds := ds) (by simp at e; omega)
    obtain ⟨_, hx, hy, hb⟩ := hd
    have cint : ∀ (X : XK) (ρ0 : List En) (te : TE) (z : D), ValK K z → ED te ρ0 (· = z) → ED (tCall (SpE (Rg_law_plain K)) [] X (tCons te tNil)) ρ0 (· = .bl (intB z)) := fun X ρ0 te z hz h => EV.d1 (e_call0 (R := fun e => e = .dat (.bl (intB z))) (ea_c h ea_nil) ⟨z, rfl, hz, rfl⟩)
    have ix0 : ∀ ρ0 : List En, ρ0[0]? = some (.dat (.tup [x, y])) → ED (tOp (rIx K) (tVar 0) (tC (.int 0))) ρ0 (· = x) := fun ρ0 h => e_opd (e_var h) e_int (od_ixT (j := 0) rfl rfl)
    have ix1 : ∀ ρ0 : List En, ρ0[0]? = some (.dat (.tup [x, y])) → ED (tOp (rIx K) (tVar 0) (tC (.int 1))) ρ0 (· = y) := fun ρ0 h => e_opd (e_var h) e_int (od_ixT (j := 1) rfl rfl)
    refine q_if1 (b := !(intB x) || (!(intB y) || lowB y)) (et_or1 (et_not1 (et_v1 (cint _ _ _ x hx (ix0 _ rfl)))) (fun e0 => et_or1 (et_not1 (et_v1 (cint _ _ _ y hy (ix1 _ rfl)))) (fun e1 => ?_))) (fun e => t_ret1 e_bl ?_) (fun e => ?_)
    · obtain ⟨j, rfl⟩ := intB_int (d := y) (by simpa using e1)
      exact et_t1 (e_opd (ix1 _ rfl) e_int od_lt)
    · rw [show pairB (.tup [x, y]) = false by
        by_cases hxy : intB x = true ∧ intB y = true
        · obtain ⟨i, rfl⟩ := intB_int hxy.1
          obtain ⟨j, rfl⟩ := intB_int hxy.2
          have hj : j < 1 := of_decide_eq_true (show decide (j < 1) = true by simpa [intB, D.isT, lowB] using e)
          show (decide ((1 : Int) ≤ j) && _) = false
          rw [decide_eq_false (by omega)]; rfl
        · exact pairB_not hxy] at q
      exact q
    · simp only [Bool.or_eq_false_iff, Bool.not_eq_false'] at e
      obtain ⟨e1, e2, e3⟩ := e
      obtain ⟨i, rfl⟩ := intB_int e1
      obtain ⟨j, rfl⟩ := intB_int e2
      have hj : ¬ j < 1 := of_decide_eq_false e3
      obtain ⟨h1, h2⟩ := hb i j rfl rfl
      refine t_ret1 (d := .bl (decide (((Nat.gcd i.natAbs j.natAbs : Nat) : Int) = 1))) (e_opd (EV.d1 (e_call0 (R := fun e => e = .dat (.int ((Nat.gcd i.natAbs j.natAbs : Nat) : Int))) (ea_c (ix0 _ rfl) (ea_c (ix1 _ rfl) ea_nil)) ⟨i, j, rfl, h1, h2, rfl⟩)) e_int od_eqI) ?_
      have e4 : pairB (.tup [.int i, .int j]) = decide (((Nat.gcd i.natAbs j.natAbs : Nat) : Int) = 1) := by
        show (decide ((1 : Int) ≤ j) && _) = _
        rw [decide_eq_true (by omega), Bool.true_and]
      rw [e4] at q
      exact q

theorem ok_law_is_word (T : Txt K mg)  : FnOk P w K mg base CX0 1 T.a_law_is_word T.d_law_is_word ["_law_thing"] (SpE (Rg_law_is_word K)) := by
  refine T.F_law_is_word.ok sc_law_is_word (fun vs H Q E h => spE_len h len_law_is_word) (fun cdv A outer s H vs Q E hr h => ?_)
  have hu := hu64 hr
  have hvl : vs.length = 1 := spE_len h len_law_is_word
  refine ⟨_, (pss_cons (ps_if (PW.pt (pw_or (pt_not (pt_val (pe_callB (call_isiE1 (K := K) rfl) (by rfl) T.n_isinstance (by decide +kernel) (pa_cons (pv 0) (pa_cons (pe_bltn (v := .ty "str") (by rfl) T.n_str (by decide +kernel) rfl) pa_nil))))) (pw_or (pt_cmpR op_lt (pe_callB (call_lenK (K := K) rfl) (by rfl) T.n_len (by decide +kernel) (pa_cons (pv 0) pa_nil)) pe_int (nomark _)) (pw_or1 (pt_cmpR op_gt (pe_callB (call_lenK (K := K) rfl) (by rfl) T.n_len (by decide +kernel) (pa_cons (pv 0) pa_nil)) pe_int (nomark _)))))) (pss_one (ps_ret pe_bl)) pss_nil) (pss_one (ps_ret (pe_cmpR (op_eqK (K := K) rfl hu) (pe_lc (own := [("_law_sign", 1)]) (g := gName 1) (tt := _) rfl sc_law_is_word.nd (pi_str (pv 0)) (blkOk_by (N := N_law_is_word) (sc := defScope s_law_is_word) (by decide +kernel)) (fun _ _ _ _ _ => (pg_name (i := 1) sc_law_is_word.nd rfl (Or.inl rfl))) (fun _ _ _ _ _ => (pts_one (pt_cmpR (op_notInK (K := K) rfl) (pv 1) pe_str (by rfl)))) (fun _ _ _ _ _ => (pv 1))) (pe_lst pa_nil) (nomark _))))), fn_body h (by rw [hvl]; decide) (fun ds R hR hl => ?_)⟩
  obtain ⟨d, rfl, hd, q⟩ := hR
  cases hs : d.isT "str" with
  | false =>
    refine q_if1 (b := true) ((et_or1 (c := true) (et_not1 (et_v1 (e_isA (e_var rfl) hd.1 (by simp)))) (fun e => by rw [hs] at e; cases e)).is (by rw [hs]; rfl)) (fun _ => t_ret1 e_bl ?_) (fun e => by cases e)
    rw [nameB_no hs] at q; exact q
  | true =>
    obtain ⟨s, rfl⟩ := isT_str hs
    have hl : s.length ≤ 1000 := hd.2.1
    refine q_if1 (b := decide ((s.length : Int) < 1) || decide ((6 : Int) < s.length)) ((et_or1 (c := decide ((s.length : Int) < 1) || decide ((6 : Int) < s.length)) (et_not1 (et_v1 (e_isA (e_var rfl) hd.1 (by simp)))) (fun _ => et_or1 (et_t1 (e_opd ((e_lenA (e_var rfl)).1 s rfl hl) e_int od_lt)) (fun _ => et_t1 (e_opd ((e_lenA (e_var rfl)).1 s rfl hl) e_int od_gt)))).is (by rw [hs]; rfl)) (fun e => t_ret1 e_bl ?_) (fun e => ?_)
    · rw [show nameB (.str s) = false by
        show (decide ((1 : Int) ≤ s.length) && decide ((s.length : Int) ≤ 6) && s.all chB) = false
        have h1 : (decide ((1 : Int) ≤ s.length) && decide ((s.length : Int) ≤ 6)) = false := by
          simp only [Bool.or_eq_true, decide_eq_true_eq] at e
          rw [Bool.and_eq_false_iff, decide_eq_false_iff_not, decide_eq_false_iff_not]
          omega
        rw [h1]; rfl] at q
      exact q
    · have hf : ∀ c, (if true then !decide (c ∈ List.range' 97 26) else decide (c ∈ List.range' 97 26)) = !chB c := fun c => by rw [chB_eq]; rfl
      refine t_ret1 (d := .bl ((s.filter fun c => !chB c).isEmpty)) (e_opd (EV.o1 ((lc1_filt (t := fun c => !chB c) (f := fun c => .str [c]) (iv_strS (e_var rfl)) (by omega) (fun i c hc => (et_t1 (e_opd (e_var rfl) (e_str (s := List.range' 97 26) (by decide +kernel)) (od_sgn (neg := true)))).is (hf c)) (fun i c hc _ => e_var rfl)).imp fun e he => he)) (EV.o1 (e_lst1 ea_nil (by simp))) ?_) ?_
      · have := od_eqN (K := K) (ds := (s.filter fun c => !chB c).map fun c => D.str [c]) (fun d hd' => ?_)
        · rw [List.isEmpty_map] at this; exact this
        · obtain ⟨c, hc, rfl⟩ := List.mem_map.mp hd'
          have hc2 := hd.2.2 c (List.mem_filter.mp hc).1
          simp [D.ok, hc2]
      · rw [show nameB (.str s) = (s.filter fun c => !chB c).isEmpty by
          show (decide ((1 : Int) ≤ s.length) && decide ((s.length : Int) ≤ 6) && s.all chB) = _
          have h1 : (decide ((1 : Int) ≤ s.length) && decide ((s.length : Int) ≤ 6)) = true := by
            simp only [Bool.or_eq_false_iff, decide_eq_false_iff_not] at e
            rw [Bool.and_eq_true, decide_eq_true_eq, decide_eq_true_eq]
            omega
          rw [h1, Bool.true_and, Bool.eq_iff_iff, List.all_eq_true, List.isEmpty_iff, List.filter_eq_nil_iff]
          simp] at q
        exact q

end
end Nt

namespace Nt
open PySem PySem.Spec PyProof.Rows L2


theorem flat1 {α : Type} (l : List α) (f : α → Nat) : (l.map fun a => [f a]).flatten = l.map f := by
  induction l with
  | nil => rfl
  | cons a l ih => rw [List.map_cons, List.flatten_cons, ih]; rfl
section
variable {K : PySem.W.Frag} {ρ : List En} {ta tb to te : TE} {X : XK}
theorem e_draw {k : Int} (h1 : ED ta ρ (· = .bag)) (h2 : ED tb ρ (· = .int k)) (hk : 1 ≤ k) (hk2 : k ≤ 1000) : ED (tCall (SpE Rg_law_draw) [] X (tCons ta (tCons tb tNil))) ρ (fun d => ∃ j : Nat, d = .int j ∧ (j : Int) < k) :=
  EV.ed (R := fun e => ∃ j : Nat, e = .dat (.int j) ∧ (j : Int) < k) (e_call0 (ea_c h1 (ea_c h2 ea_nil)) ⟨k, rfl, hk, by
    obtain ⟨n, rfl⟩ : ∃ n : Nat, k = n := ⟨k.toNat, by omega⟩
    exact log_small (by omega), fun j j0 j1 => ⟨j.toNat, by rw [show ((j.toNat : Nat) : Int) = j by omega], by omega⟩⟩) fun e ⟨j, hj, hl⟩ => ⟨.int j, by rw [hj]; rfl, j, rfl, hl⟩
theorem e_of {x : D} {xs : List D} (h1 : ED ta ρ (· = .bag)) (h2 : ED tb ρ (· = x)) (hx : Src x xs) (hl : 1 ≤ xs.length) (hl2 : xs.length ≤ 1000) : ED (tCall (SpE Rg_law_of) [] X (tCons ta (tCons tb tNil))) ρ (fun d => d ∈ xs) :=
  EV.ed (R := fun e => ∃ d, d ∈ xs ∧ e = .dat d) (e_call0 (ea_c h1 (ea_c h2 ea_nil)) ⟨x, xs, rfl, hx, hl, hl2, fun d hd => ⟨d, hd, rfl⟩⟩) fun e ⟨d, hd, he⟩ => ⟨d, by rw [he]; rfl, hd⟩
/-- join of signs -/
theorem e_joinP {G : List Nat → Prop} (h0 : ED to ρ (· = .str [])) (h : EV te ρ (fun e => ∃ l : List Nat, e = .own (l.map fun c => .str [c]) ∧ G l ∧ l.length ≤ 100000)) : ED (tM1 (rJoin K) to te) ρ (fun d => ∃ l, d = .str l ∧ G l) := by
  refine EV.ed (R := fun e => ∃ l, e = .dat (.str l) ∧ G l) (e_m1 h0 (EV.ed (P := fun d => ∃ l : List Nat, d = .lst (l.map fun c => .str [c]) ∧ G l ∧ l.length ≤ 100000) h fun e ⟨l, e1, a, b⟩ => ⟨_, by rw [e1]; rfl, l, rfl, a, b⟩) fun y ⟨l, hy, a, b⟩ => ?_) fun e ⟨l, e1, a⟩ => ⟨_, by rw [e1]; rfl, l, rfl, a⟩
  subst hy
  have e : (l.map fun c => D.str [c]) = (l.map fun c => [c]).map D.str := by rw [List.map_map]; rfl
  rw [e]
  intro W v vs r rs Q q
  refine md_join (by rw [flat1 l (fun c => c), List.map_id']; exact b) W v vs r rs Q fun u e W' g r p => q u e W' g r ⟨l, ?_, a⟩
  rw [p, flat1 l (fun c => c), List.map_id']

theorem e_drawW {k : Int} (h1 : ED ta ρ (· = .bag)) (h2 : ED tb ρ (· = .int k)) (hk : 1 ≤ k) (hk2 : k.natAbs.log2 < 9000) : ED (tCall (SpE Rg_law_draw) [] X (tCons ta (tCons tb tNil))) ρ (fun d => ∃ j : Nat, d = .int j ∧ (j : Int) < k) :=
  EV.ed (R := fun e => ∃ j : Nat, e = .dat (.int j) ∧ (j : Int) < k) (e_call0 (ea_c h1 (ea_c h2 ea_nil)) ⟨k, rfl, hk, hk2, fun j j0 j1 => ⟨j.toNat, by rw [show ((j.toNat : Nat) : Int) = j by omega], by omega⟩⟩) fun e ⟨j, hj, hl⟩ => ⟨.int j, by rw [hj]; rfl, j, rfl, hl⟩
/-- draw(bag, k) == 0 -/
theorem et_draw0 {k : Int} (h1 : ED ta ρ (· = .bag)) (hk : 1 ≤ k) (hk2 : k ≤ 1000) : ET (tTest (tOp (rEqU K) (tCall (SpE Rg_law_draw) [] X (tCons ta (tCons (tC (.int k)) tNil))) (tC (.int 0)))) ρ (fun _ => True) :=
  et_test (EV.ed (R := fun e => ∃ b, e = .dat (.bl b)) (e_op (PA := fun d => ∃ j : Nat, d = .int j ∧ (j : Int) < k) (PB := fun d => d = .int 0) (e_draw h1 e_int hk hk2) e_int fun x y ⟨j, hx, _⟩ hy => by
    subst hx hy
    intro W v w' r1 r2 Q q
    exact od_eqI W v w' r1 r2 Q fun u e W' g r p => q u e W' g r ⟨_, p⟩) fun e ⟨b, hb⟩ => ⟨.bl b, by rw [hb]; rfl, b, rfl, trivial⟩)
theorem e_pow {i j z : Int} (hc : CPow i j) (hz : i ^ j.toNat = z) : ED (tOp (rI CPow fun i j => .int (i ^ j.toNat)) (tC (.int i)) (tC (.int j))) ρ (· = .int z) := e_opd e_int e_int fun W v w a b Q q => by
  cases a; cases b
  exact ⟨i, j, rfl, rfl, hc, by show Q (V.int (i ^ j.toNat)) W.h; rw [hz]; exact dat1 (.int z) q⟩
theorem e_neg {i : Int} (h : ED ta ρ (· = .int i)) : ED (tUn (rU fun i => .int (-i)) ta) ρ (· = .int (-i)) := fun W0 W σ E Q q => h W0 W σ E _ fun v d W' g r p => by
  subst p; cases r
  exact ⟨i, rfl, q _ _ W' g (.int _) rfl⟩
theorem eo_partA (h : ED te ρ (fun d => ∃ i, d = .int i)) : EO (tPart te) ρ (fun _ => True) := fun W0 W σ E Q q => h W0 W σ E _ fun v d W' g r ⟨i, p⟩ => by subst p; cases r; exact ⟨i, rfl, q _ W' g trivial⟩
theorem cutN_sub {s : List Nat} {lo hi : Option Int} : (cutN s lo hi).length ≤ s.length ∧ ∀ c ∈ cutN s lo hi, c ∈ s := by
  unfold cutN
  refine ⟨?_, fun c h => List.mem_of_mem_drop (List.mem_of_mem_take h)⟩
  rw [List.length_take, List.length_drop]
  omega
theorem e_slA {s : List Nat} {tl th : TO} (hs : s.length ≤ 100000) (h : ED te ρ (· = .str s)) (hl : EO tl ρ (fun _ => True)) (hh : EO th ρ (fun _ => True)) : ED (tSl (rSlU K) te tl th) ρ (fun d => ∃ t, d = .str t ∧ t.length ≤ s.length ∧ ∀ c ∈ t, c ∈ s) := fun W0 W σ E Q q =>
  h W0 W σ E _ fun v d W1 g1 r1 p1 => by
    subst p1
    refine hl W0 W1 σ (E.grow g1) _ fun o W2 g2 e2 => ?_
    refine hh W0 W2 σ ((E.grow g1).grow g2) _ fun o' W3 g3 e3 => ?_
    refine sd_str hs W3 v ((r1.mono g2.b).mono g3.b) Q fun u e W4 g4 r4 p4 => ?_
    subst p4
    exact q u _ W4 (((g1.trans g2).trans g3).trans g4) r4 ⟨_, rfl, cutN_sub⟩
theorem eo_noneA : EO tNoPart ρ (fun _ => True) := fun W0 W σ E Q q => q none W (Grow.refl W) trivial
theorem e_catA {G1 G2 : List Nat → Prop} (h1 : ED ta ρ (fun d => ∃ t, d = .str t ∧ t.length ≤ 1000 ∧ G1 t)) (h2 : ED tb ρ (fun d => ∃ t, d = .str t ∧ t.length ≤ 1000 ∧ G2 t)) : ED (tOp rPlus ta tb) ρ (fun d => ∃ t u, d = .str (t ++ u) ∧ G1 t ∧ G2 u) :=
  EV.ed (R := fun e => ∃ t u, e = .dat (.str (t ++ u)) ∧ G1 t ∧ G2 u) (e_op h1 h2 fun x y ⟨t, hx, l1, g1⟩ ⟨u, hy, l2, g2⟩ => by
    subst hx hy
    intro W v w r1 r2 Q q
    exact od_addS (by omega) W v w r1 r2 Q fun z e W' g r p => q z e W' g r ⟨t, u, p, g1, g2⟩) fun e ⟨t, u, e1, h⟩ => ⟨_, by rw [e1]; rfl, t, u, rfl, h⟩
end
abbrev B30 : Nat := 1000000000000000000000000000000
def strangeL (C : Addr) : List D := [.non, .bl true, .bl false, .str [55], .str [], .tup [], .lst [], .dic [], .lst [.int 1], .tup [.int 1], .tup [.bl true, .int 1], .tup [.int 1, .bl true], .tup [.int 0, .bl true], .lst [.int 0, .int 1], .tup [.int 1, .int 2, .int 3], .tup [.str [49], .int 1], .tup [.int 1, .str [49]], .tup [.non, .int 1], .tup [.int 1, .non], .tup [.tup [.int 1, .int 2], .int 1], .str [97], .lst [.str [97]], .tup [.str [97]], .dic [(tk [97], .int 1)], .tup [.int 1, .lst [.int 2]], .tup [.int 1, .int 0], .tup [.int 0, .int 0], .obj C, .tup [.int (-1), .int 1], .tup [.int 0, .int 1], .str [97, 98, 32, 99, 100], .tup [.bl false, .int 1]]
def Rg_law_number (ds : List D) (P : En → Prop) : Prop := ds = [.bag] ∧ ∀ i : Int, i.natAbs ≤ B30 → P (.dat (.int i))
def Rg_law_word (ds : List D) (P : En → Prop) : Prop := ds = [.bag] ∧ ∀ s : List Nat, s.length ≤ 1000 → (∀ c ∈ s, c < 0x110000) → P (.dat (.str s))
def Rg_law_strange (C : Addr) (ds : List D) (P : En → Prop) : Prop := ds = [.bag] ∧ ∀ d ∈ strangeL C, P (.dat d)
def Rg_law_pair (ds : List D) (P : En → Prop) : Prop := ds = [.bag] ∧ ∀ a b : Int, a.natAbs ≤ BB → b.natAbs ≤ BB → P (.dat (.tup [.int a, .int b]))
theorem len_law_number (ds P) (h : Rg_law_number ds P) : ds.length = 1 := by rw [h.1]; rfl
theorem len_law_word (ds P) (h : Rg_law_word ds P) : ds.length = 1 := by rw [h.1]; rfl
theorem len_law_strange {C : Addr} (ds P) (h : Rg_law_strange C ds P) : ds.length = 1 := by rw [h.1]; rfl
theorem len_law_pair (ds P) (h : Rg_law_pair ds P) : ds.length = 1 := by rw [h.1]; rfl
theorem th_strange {K : PySem.W.Frag} {C : Addr} (h : Nr.ExCls K C) : ∀ d ∈ strangeL C, ThK K d := by
  intro d hd
  unfold strangeL at hd
  simp only [List.mem_cons, List.not_mem_nil, or_false] at hd
  rcases hd with h1 | h1 | h1 | h1 | h1 | h1 | h1 | h1 | h1 | h1 | h1 | h1 | h1 | h1 | h1 | h1 | h1 | h1 | h1 | h1 | h1 | h1 | h1 | h1 | h1 | h1 | h1 | h1 | h1 | h1 | h1 | h1 <;> subst h1
  all_goals first
    | exact ⟨trivial, trivial⟩
    | exact ⟨trivial, by decide, by decide⟩
    | exact ⟨h, trivial⟩
    | exact ⟨trivial, trivial, trivial, fun a b e1 e2 => by cases e1 <;> cases e2 <;> decide⟩
section
variable {P : Program} {w : World} {K : PySem.W.Frag} {mg : Str → Option Value} {base : Heap}

theorem ok_law_number (T : Txt K mg) (G_law_draw : FnOk P w K mg base CX0 1 T.a_law_draw T.d_law_draw ["_law_bag_here", "_law_sides"] (SpE Rg_law_draw)) (G_law_of : FnOk P w K mg base CX0 2 T.a_law_of T.d_law_of ["_law_bag_here", "_law_things"] (SpE Rg_law_of)) : FnOk P w K mg base CX0 3 T.a_law_number T.d_law_number ["_law_bag_here"] (SpE Rg_law_number) := by
  refine T.F_law_number.ok sc_law_number (fun vs H Q E h => spE_len h len_law_number) (fun cdv A outer s H vs Q E hr h => ?_)
  have hu := hu64 hr
  have hvl : vs.length = 1 := spE_len h len_law_number
  refine ⟨_, (pss_cons (ps_set (i := 1) sc_law_number.nd rfl (Or.inl rfl) (pe_call G_law_of (hr.mono (by decide)) (by rfl) T.g_law_of T.F_law_of.kp (b_law_of T) .nil pass0 (pa_cons (pv 0) (pa_cons (pe_lst (pa_cons (pe_call G_law_draw (hr.mono (by decide)) (by rfl) T.g_law_draw T.F_law_draw.kp (b_law_draw T) .nil pass0 (pa_cons (pv 0) (pa_cons pe_int pa_nil))) (pa_cons (pe_call G_law_draw (hr.mono (by decide)) (by rfl) T.g_law_draw T.F_law_draw.kp (b_law_draw T) .nil pass0 (pa_cons (pv 0) (pa_cons (pe_op op_pow pe_int pe_int) pa_nil))) (pa_cons (pe_call G_law_draw (hr.mono (by decide)) (by rfl) T.g_law_draw T.F_law_draw.kp (b_law_draw T) .nil pass0 (pa_cons (pv 0) (pa_cons (pe_op op_pow pe_int pe_int) pa_nil))) pa_nil)))) pa_nil)))) (pss_one (ps_ret (pe_ifExp (pt_cmpR (op_eqK (K := K) rfl hu) (pe_call G_law_draw (hr.mono (by decide)) (by rfl) T.g_law_draw T.F_law_draw.kp (b_law_draw T) .nil pass0 (pa_cons (pv 0) (pa_cons pe_int pa_nil))) pe_int (nomark _)) (pe_un un_neg (pv 1)) (pv 1))))), fn_body h (by rw [hvl]; decide) (fun ds R hR hl => ?_)⟩
  obtain ⟨rfl, q⟩ := hR
  have p4 : ∀ ρ0, ED (tOp (rI CPow fun i j => .int (i ^ j.toNat)) (tC (.int 10)) (tC (.int 4))) ρ0 (· = .int 10000) := fun ρ0 => e_pow ⟨by decide, by decide, by decide⟩ (by decide)
  have p30 : ∀ ρ0, ED (tOp (rI CPow fun i j => .int (i ^ j.toNat)) (tC (.int 10)) (tC (.int 30))) ρ0 (· = .int 1000000000000000000000000000000) := fun ρ0 => e_pow ⟨by decide, by decide, by decide⟩ (by decide)
  refine q_asgd (PD := fun d => ∃ j : Nat, d = .int j ∧ j ≤ B30) (EV.ed (R := fun e => ∃ j : Nat, e = .dat (.int j) ∧ j ≤ B30) (e_callP (T := fun ds => ∃ j1 j2 j3 : Nat, ds = [.bag, .lst [.int j1, .int j2, .int j3]] ∧ j1 ≤ B30 ∧ j2 ≤ B30 ∧ j3 ≤ B30) (ea_cons (T' := fun _ => True) (P := fun d => d = .bag) (e_var rfl) fun x hx => (ea_1 (P := fun d => ∃ j1 j2 j3 : Nat, d = .lst [.int j1, .int j2, .int j3] ∧ j1 ≤ B30 ∧ j2 ≤ B30 ∧ j3 ≤ B30) (EV.ed (R := fun e => ∃ j1 j2 j3 : Nat, e = .own [.int j1, .int j2, .int j3] ∧ j1 ≤ B30 ∧ j2 ≤ B30 ∧ j3 ≤ B30) ((e_lst (T := fun ds => ∃ j1 j2 j3 : Nat, ds = [.int j1, .int j2, .int j3] ∧ j1 ≤ B30 ∧ j2 ≤ B30 ∧ j3 ≤ B30) (ea_cons (T' := fun _ => True) (e_draw (e_var rfl) e_int (by decide) (by decide)) fun y1 ⟨j1, h1, b1⟩ => ea_cons (T' := fun _ => True) (e_drawW (e_var rfl) (p4 _) (by decide) (by decide)) fun y2 ⟨j2, h2, b2⟩ => (ea_1 (e_drawW (e_var rfl) (p30 _) (by decide) (by decide +kernel))).imp fun ds ⟨y3, e3, j3, h3, b3⟩ => ⟨j1, j2, j3, by rw [e3, h1, h2, h3], by unfold B30; omega, by unfold B30; omega, by unfold B30; omega⟩) (fun ds ⟨j1, j2, j3, e, _⟩ => by rw [e]; simp)).imp fun e ⟨ds, e1, j1, j2, j3, e2, h⟩ => ⟨j1, j2, j3, by rw [e1, e2], h⟩) fun e ⟨j1, j2, j3, e1, h⟩ => ⟨_, by rw [e1]; rfl, j1, j2, j3, rfl, h⟩)).imp fun ds ⟨y, e, j1, j2, j3, h1, h2⟩ => ⟨j1, j2, j3, by rw [e, hx, h1], h2⟩) fun ds ⟨j1, j2, j3, e, b1, b2, b3⟩ => ⟨_, _, e, .lst _, by simp, by simp, fun d hd => ?_⟩) fun e ⟨j, e1, h⟩ => ⟨.int j, by rw [e1]; rfl, j, rfl, h⟩) fun d ⟨j, e, hj⟩ => ?_
  · simp only [List.mem_cons, List.not_mem_nil, or_false] at hd
    rcases hd with h | h | h <;> subst h
    · exact ⟨j1, rfl, b1⟩
    · exact ⟨j2, rfl, b2⟩
    · exact ⟨j3, rfl, b3⟩
  · subst e
    exact t_retd (PD := fun d => ∃ i : Int, d = .int i ∧ i.natAbs ≤ B30) (e_ifd (et_draw0 (e_var rfl) (by decide) (by decide)) (fun _ => (e_neg (e_var rfl)).imp fun d e => ⟨_, e, by omega⟩) (fun _ => (e_var rfl).imp fun d e => ⟨_, e, by omega⟩)) fun d ⟨i, e, hi⟩ => by subst e; exact q i hi

theorem ok_law_word (T : Txt K mg) (G_law_draw : FnOk P w K mg base CX0 1 T.a_law_draw T.d_law_draw ["_law_bag_here", "_law_sides"] (SpE Rg_law_draw)) (G_law_of : FnOk P w K mg base CX0 2 T.a_law_of T.d_law_of ["_law_bag_here", "_law_things"] (SpE Rg_law_of)) : FnOk P w K mg base CX0 3 T.a_law_word T.d_law_word ["_law_bag_here"] (SpE Rg_law_word) := by
  refine T.F_law_word.ok sc_law_word (fun vs H Q E h => spE_len h len_law_word) (fun cdv A outer s H vs Q E hr h => ?_)
  have hu := hu64 hr
  have hvl : vs.length = 1 := spE_len h len_law_word
  refine ⟨_, (pss_cons (ps_set (i := 1) sc_law_word.nd rfl (Or.inr rfl) pe_str) (pss_cons (ps_set (i := 2) sc_law_word.nd rfl (Or.inl rfl) (pe_joinK (K := K) rfl pe_str (pe_lc (own := [("_law_k", 4)]) (g := gName 4) (tt := tYes) rfl sc_law_word.nd (pi_range1 (by rfl) T.n_range (pa_cons (pe_call G_law_of (hr.mono (by decide)) (by rfl) T.g_law_of T.F_law_of.kp (b_law_of T) .nil pass0 (pa_cons (pv 0) (pa_cons (pe_lst (pa_cons pe_int (pa_cons pe_int (pa_cons pe_int (pa_cons pe_int (pa_cons pe_int (pa_cons pe_int (pa_cons pe_int (pa_cons pe_int pa_nil))))))))) pa_nil))) pa_nil)) (blkOk_by (N := N_law_word) (sc := defScope s_law_word) (by decide +kernel)) (fun _ _ _ _ _ => (pg_name (i := 4) sc_law_word.nd rfl (Or.inl rfl))) (fun _ _ _ _ _ => pts_nil) (fun _ _ _ _ _ => (pe_call G_law_of (hr.mono (by decide)) (by rfl) T.g_law_of T.F_law_of.kp (b_law_of T) .nil pass0 (pa_cons (pv 0) (pa_cons (pv 1) pa_nil))))))) (pss_cons (ps_if (pt_cmpR (op_eqK (K := K) rfl hu) (pe_call G_law_draw (hr.mono (by decide)) (by rfl) T.g_law_draw T.F_law_draw.kp (b_law_draw T) .nil pass0 (pa_cons (pv 0) (pa_cons pe_int pa_nil))) pe_int (nomark _)) (pss_cons (ps_set (i := 3) sc_law_word.nd rfl (Or.inl rfl) (pe_call G_law_draw (hr.mono (by decide)) (by rfl) T.g_law_draw T.F_law_draw.kp (b_law_draw T) .nil pass0 (pa_cons (pv 0) (pa_cons (pe_op op_plus (pe_callB (call_lenK (K := K) rfl) (by rfl) T.n_len (by decide +kernel) (pa_cons (pv 2) pa_nil)) pe_int) pa_nil)))) (pss_one (ps_set (i := 2) sc_law_word.nd rfl (Or.inl rfl) (pe_op op_plus (pe_op op_plus (pe_slice (sl_K (K := K) rfl) (pv 2) po_none (po_some (pv 3))) (pe_call G_law_of (hr.mono (by decide)) (by rfl) T.g_law_of T.F_law_of.kp (b_law_of T) .nil pass0 (pa_cons (pv 0) (pa_cons pe_str pa_nil)))) (pe_slice (sl_K (K := K) rfl) (pv 2) (po_some (pe_op op_plus (pv 3) (pe_call G_law_draw (hr.mono (by decide)) (by rfl) T.g_law_draw T.F_law_draw.kp (b_law_draw T) .nil pass0 (pa_cons (pv 0) (pa_cons pe_int pa_nil))))) po_none))))) pss_nil) (pss_one (ps_ret (pv 2)))))), fn_body h (by rw [hvl]; decide) (fun ds R hR hl => ?_)⟩
  obtain ⟨rfl, q⟩ := hR
  refine q_asg1 (d := .str (List.range' 97 26)) (e_str (by decide +kernel)) ?_
  have hrng : ∀ (X : XK) (ρ0 : List En), ρ0[0]? = some (.dat .bag) → EA (tCons (tCall (SpE Rg_law_of) [] X (tCons (tVar 0) (tCons (tLst (tCons (tC (.int 0)) (tCons (tC (.int 1)) (tCons (tC (.int 2)) (tCons (tC (.int 5)) (tCons (tC (.int 6)) (tCons (tC (.int 6)) (tCons (tC (.int 7)) (tCons (tC (.int 8)) tNil))))))))) tNil))) tNil) ρ0 (fun ds => ∃ n : Int, ds = [.int n] ∧ n ≤ 100000 ∧ -100000 ≤ n ∧ n ≤ 8) := fun X ρ0 h0 =>
    (ea_1 (P := fun d => ∃ n : Int, d = .int n ∧ 0 ≤ n ∧ n ≤ 8) ((e_of (e_var h0) (EV.o1 (e_lst1 (ea_c e_int (ea_c e_int (ea_c e_int (ea_c e_int (ea_c e_int (ea_c e_int (ea_c e_int (ea_c e_int ea_nil)))))))) (by simp))) (.lst _) (by simp) (by simp)).imp fun d hd => by
      simp only [List.mem_cons, List.not_mem_nil, or_false] at hd
      rcases hd with h | h | h | h | h | h | h | h <;> subst h <;> exact ⟨_, rfl, by decide, by decide⟩)).imp fun ds ⟨x, e, n, ex, h0, h8⟩ => ⟨n, by rw [e, ex], by omega, by omega, h8⟩
  refine q_asgd (PD := fun d => ∃ s, d = .str s ∧ s.length ≤ 8 ∧ ∀ c ∈ s, c < 0x110000) (e_joinP (G := fun l => l.length ≤ 8 ∧ ∀ c ∈ l, c < 0x110000) (e_str rfl) ((e_lc1 (T := fun ds => ∃ n : Int, ds = ixs n.toNat ∧ n ≤ 8) (Inv := fun _ i acc => ∃ l : List Nat, acc = l.map (fun c => .str [c]) ∧ l.length = i ∧ ∀ c ∈ l, c < 0x110000) (iv_rngP (T := fun n => n ≤ 8) (hrng _ _ rfl)) (fun ds ⟨n, e, hn⟩ => by rw [e]; simp [ixs]; omega) (fun ds e => ⟨[], rfl, rfl, by simp⟩) fun ds i d acc e hd ⟨l, ha, hl, hc⟩ => ?_).imp fun e ⟨ds, acc, e1, ⟨n, e2, hn⟩, l, e3, hl, hc⟩ => ⟨l, by rw [e1, e3], ⟨?_, hc⟩, ?_⟩)) fun d ⟨s, e, hs, hc⟩ => ?_
  · refine et_yes.imp fun b hb => ?_
    rw [hb]
    refine iteT ((e_of (e_var rfl) (e_var rfl) (.str _) (by decide +kernel) (by decide +kernel)).imp fun y hy => ?_)
    obtain ⟨c, hm, rfl⟩ := List.mem_map.mp hy
    have hm2 := List.mem_range'_1.mp hm
    exact ⟨l ++ [c], by rw [ha, List.map_append]; rfl, by rw [List.length_append, hl]; rfl, fun x hx => by
      rcases List.mem_append.mp hx with h | h
      · exact hc x h
      · rw [List.mem_singleton.mp h]; omega⟩
  · rw [hl, e2]; simp [ixs]; omega
  · rw [hl, e2]; simp [ixs]; omega
  subst e
  refine t_seq (M := fun ρ' => ∃ (t : List Nat) (x y : En), ρ' = [.dat .bag, .dat (.str (List.range' 97 26)), .dat (.str t), x, y] ∧ t.length ≤ 1000 ∧ ∀ c ∈ t, c < 0x110000) (t_if (et_draw0 (e_var rfl) (by decide) (by decide)) (fun _ => ?_) (fun _ => t_next ⟨s, _, _, rfl, by omega, hc⟩)) fun ρ' m => ?_
  · refine q_asgd (PD := fun d => ∃ j : Nat, d = .int j) ((e_draw (k := (s.length : Int) + 1) (e_var rfl) (e_opd (EV.d1 (e_cb1 (ea_c (e_var rfl) ea_nil) (cd_lenS (by omega)))) e_int od_addI) (by omega) (by omega)).imp fun d ⟨j, e, _⟩ => ⟨j, e⟩) fun d' ⟨j, e⟩ => ?_
    subst e
    refine t_asgd (PD := fun d => ∃ t, d = .str t ∧ t.length ≤ 1000 ∧ ∀ c ∈ t, c < 0x110000) ((e_catA (G1 := fun t => t.length ≤ 9 ∧ ∀ c ∈ t, c < 0x110000) (G2 := fun t => t.length ≤ 8 ∧ ∀ c ∈ t, c < 0x110000) ((e_catA (G1 := fun t => t.length ≤ 8 ∧ ∀ c ∈ t, c < 0x110000) (G2 := fun t => t.length ≤ 1 ∧ ∀ c ∈ t, c < 0x110000) ((e_slA (by omega) (e_var rfl) eo_noneA (eo_partA ((e_var rfl).imp fun d e => ⟨_, e⟩))).imp fun d ⟨t, e, h1, h2⟩ => ⟨t, e, by omega, by omega, fun c h => hc c (h2 c h)⟩) ((e_of (e_var rfl) e_strz (.str _) (by decide +kernel) (by decide +kernel)).imp fun d hd => ?_)).imp fun d ⟨t, u, e, ⟨a1, a2⟩, b1, b2⟩ => ⟨t ++ u, e, by rw [List.length_append]; omega, by rw [List.length_append]; omega, fun c h => ?_⟩) ((e_slA (by omega) (e_var rfl) (eo_partA (EV.ed (R := fun e => ∃ i : Int, e = .dat (.int i)) (e_op (PA := fun d => d = .int j) (PB := fun d => ∃ k : Nat, d = .int k ∧ (k : Int) < 2) (e_var rfl) (e_draw (e_var rfl) e_int (by decide) (by decide)) fun x y hx ⟨k, hy, _⟩ => ?_) fun e ⟨i, h⟩ => ⟨.int i, by rw [h]; rfl, i, rfl⟩)) eo_noneA).imp fun d ⟨t, e, h1, h2⟩ => ⟨t, e, by omega, by omega, fun c h => hc c (h2 c h)⟩)).imp fun d ⟨t, u, e, ⟨a1, a2⟩, b1, b2⟩ => ⟨t ++ u, e, by rw [List.length_append]; omega, fun c h => ?_⟩) fun d' ⟨t, e, h1, h2⟩ => by subst e; exact ⟨t, _, _, rfl, h1, h2⟩
    · obtain ⟨c, hm, rfl⟩ := List.mem_map.mp hd
      refine ⟨[c], rfl, by simp, by simp, fun x hx => ?_⟩
      rw [List.mem_singleton.mp hx]
      exact (show ∀ c ∈ ("A1_ .-Z0\n{`~" : Str).cps.toList, c < 0x110000 by decide +kernel) c hm
    · rcases List.mem_append.mp h with h | h
      · exact a2 c h
      · exact b2 c h
    · subst hx hy
      intro W v w2 r1 r2 Q q
      exact od_addI W v w2 r1 r2 Q fun u e W' g r p => q u e W' g r ⟨_, p⟩
    · rcases List.mem_append.mp h with h | h
      · exact a2 c h
      · exact b2 c h
  · obtain ⟨t, x, y, rfl, h1, h2⟩ := m
    exact t_ret1 (e_var rfl) (q t h1 h2)

end
end Nt

namespace Nt
open PySem PySem.Spec PyProof.Rows L2


section
variable {w : World} {K : PySem.W.Frag} {mg : Str → Option Value} {base : Heap}
theorem ok_ini_BadPoint (T : Txt K mg) : FnOk P0 w K mg base CX0 1 T.ai_BadPoint T.di_BadPoint ["self"] (spI1 T.a_BadPoint "BadPoint") := by
  obtain ⟨cda, cc, Fs⟩ := T.x_BadPoint.sup
  refine Nr.sup_ok (k := 0) (N := ["self", "__class__"]) Fs T.x_BadPoint.oex si_sc_BadPoint rfl rfl (by decide +kernel) T.n_super len_spI1 (fun env => ⟨_, rfl⟩) (fun env => rfl) (fun A outer s H vs Q E hr h => ?_)
  obtain ⟨a, rfl, ea, q⟩ := h
  refine ⟨a, rfl, ea, _, pss_one (ps_ost (pv 0) pe_str), ?_⟩
  exact ⟨.ref a, rfl, a, T.a_BadPoint, rfl, T.x_BadPoint.oex, T.x_BadPoint.nof "code" (by simp), .inl ⟨ea, fun dx hd hne => q dx hd hne⟩⟩

theorem ok_law_strange (T : Txt K mg) (G_law_of : FnOk P0 w K mg base CX0 2 T.a_law_of T.d_law_of ["_law_bag_here", "_law_things"] (SpE Rg_law_of)) : FnOk P0 w K mg base CX0 3 T.a_law_strange T.d_law_strange ["_law_bag_here"] (SpE (Rg_law_strange T.a_BadPoint)) := by
  refine T.F_law_strange.ok sc_law_strange (fun vs H Q E h => spE_len h len_law_strange) (fun cdv A outer s H vs Q E hr h => ?_)
  have hu := hu64 hr
  have hvl : vs.length = 1 := spE_len h len_law_strange
  refine ⟨_, (pss_one (ps_ret (pe_call G_law_of (hr.mono (by decide)) (by rfl) T.g_law_of T.F_law_of.kp (b_law_of T) .nil pass0 (pa_cons (pv 0) (pa_cons (pe_lst (pa_cons pe_non (pa_cons pe_bl (pa_cons pe_bl (pa_cons pe_str (pa_cons pe_str (pa_cons (pe_tup pa_nil) (pa_cons (pe_lst pa_nil) (pa_cons pe_dnewK (pa_cons (pe_lst (pa_cons pe_int pa_nil)) (pa_cons (pe_tup (pa_cons pe_int pa_nil)) (pa_cons (pe_tup (pa_cons pe_bl (pa_cons pe_int pa_nil))) (pa_cons (pe_tup (pa_cons pe_int (pa_cons pe_bl pa_nil))) (pa_cons (pe_tup (pa_cons pe_int (pa_cons pe_bl pa_nil))) (pa_cons (pe_lst (pa_cons pe_int (pa_cons pe_int pa_nil))) (pa_cons (pe_tup (pa_cons pe_int (pa_cons pe_int (pa_cons pe_int pa_nil)))) (pa_cons (pe_tup (pa_cons pe_str (pa_cons pe_int pa_nil))) (pa_cons (pe_tup (pa_cons pe_int (pa_cons pe_str pa_nil))) (pa_cons (pe_tup (pa_cons pe_non (pa_cons pe_int pa_nil))) (pa_cons (pe_tup (pa_cons pe_int (pa_cons pe_non pa_nil))) (pa_cons (pe_tup (pa_cons (pe_tup (pa_cons pe_int (pa_cons pe_int pa_nil))) (pa_cons pe_int pa_nil))) (pa_cons pe_str (pa_cons (pe_lst (pa_cons pe_str pa_nil)) (pa_cons (pe_tup (pa_cons pe_str pa_nil)) (pa_cons (pe_disp (pps_cons pe_str pe_int pps_nil) rfl rfl (by simp) (by decide)) (pa_cons (pe_tup (pa_cons pe_int (pa_cons (pe_lst (pa_cons pe_int pa_nil)) pa_nil))) (pa_cons (pe_tup (pa_cons pe_int (pa_cons pe_int pa_nil))) (pa_cons (pe_tup (pa_cons pe_int (pa_cons pe_int pa_nil))) (pa_cons (Nr.pe_new0 T.x_BadPoint.oex T.x_BadPoint.ini T.x_BadPoint.ity (ok_ini_BadPoint T) (hr.mono (by decide)) (bi_BadPoint T) pass0 (by rfl) T.g_BadPoint) (pa_cons (pe_tup (pa_cons (pe_un un_neg pe_int) (pa_cons pe_int pa_nil))) (pa_cons (pe_tup (pa_cons pe_int (pa_cons pe_int pa_nil))) (pa_cons pe_str (pa_cons (pe_tup (pa_cons pe_bl (pa_cons pe_int pa_nil))) pa_nil))))))))))))))))))))))))))))))))) pa_nil))))), fn_body h (by rw [hvl]; decide) (fun ds R hR hl => ?_)⟩
  obtain ⟨rfl, q⟩ := hR
  exact t_retd (PD := fun d => d ∈ strangeL T.a_BadPoint) (e_of (e_var rfl) (EV.o1 (e_lst1 (ds := strangeL T.a_BadPoint) (ea_c e_non (ea_c e_bl (ea_c e_bl (ea_c (e_str (by decide +kernel)) (ea_c (e_str (by decide +kernel)) (ea_c (e_tup1 ea_nil (by simp)) (ea_c (EV.o1 (e_lst1 ea_nil (by simp))) (ea_c (EV.k1 e_dnew) (ea_c (EV.o1 (e_lst1 (ea_c e_int ea_nil) (by simp))) (ea_c (e_tup1 (ea_c e_int ea_nil) (by simp)) (ea_c (e_tup1 (ea_c e_bl (ea_c e_int ea_nil)) (by simp)) (ea_c (e_tup1 (ea_c e_int (ea_c e_bl ea_nil)) (by simp)) (ea_c (e_tup1 (ea_c e_int (ea_c e_bl ea_nil)) (by simp)) (ea_c (EV.o1 (e_lst1 (ea_c e_int (ea_c e_int ea_nil)) (by simp))) (ea_c (e_tup1 (ea_c e_int (ea_c e_int (ea_c e_int ea_nil))) (by simp)) (ea_c (e_tup1 (ea_c (e_str (by decide +kernel)) (ea_c e_int ea_nil)) (by simp)) (ea_c (e_tup1 (ea_c e_int (ea_c (e_str (by decide +kernel)) ea_nil)) (by simp)) (ea_c (e_tup1 (ea_c e_non (ea_c e_int ea_nil)) (by simp)) (ea_c (e_tup1 (ea_c e_int (ea_c e_non ea_nil)) (by simp)) (ea_c (e_tup1 (ea_c (e_tup1 (ea_c e_int (ea_c e_int ea_nil)) (by simp)) (ea_c e_int ea_nil)) (by simp)) (ea_c (e_str (by decide +kernel)) (ea_c (EV.o1 (e_lst1 (ea_c (e_str (by decide +kernel)) ea_nil) (by simp))) (ea_c (e_tup1 (ea_c (e_str (by decide +kernel)) ea_nil) (by simp)) (ea_c (EV.k1 (e_disp1 (e_str (by decide +kernel)) e_int)) (ea_c (e_tup1 (ea_c e_int (ea_c (EV.o1 (e_lst1 (ea_c e_int ea_nil) (by simp))) ea_nil)) (by simp)) (ea_c (e_tup1 (ea_c e_int (ea_c e_int ea_nil)) (by simp)) (ea_c (e_tup1 (ea_c e_int (ea_c e_int ea_nil)) (by simp)) (ea_c e_new0 (ea_c (e_tup1 (ea_c (e_neg e_int) (ea_c e_int ea_nil)) (by simp)) (ea_c (e_tup1 (ea_c e_int (ea_c e_int ea_nil)) (by simp)) (ea_c (e_str (by decide +kernel)) (ea_c (e_tup1 (ea_c e_bl (ea_c e_int ea_nil)) (by simp)) ea_nil)))))))))))))))))))))))))))))))) (by simp [strangeL]))) (.lst _) (by simp [strangeL]) (by simp [strangeL])) fun d hd => q d hd

end
theorem gcd_le {a b : Int} (ha : a.natAbs ≤ B30) (hb : b.natAbs ≤ B30) : Nat.gcd a.natAbs b.natAbs ≤ B30 := by
  by_cases h : a.natAbs = 0
  · rw [h, Nat.gcd_zero_left]; exact hb
  · exact Nat.le_trans (Nat.gcd_le_left _ (by omega)) ha
theorem b30_lt : B30 < 2 ^ 100 := by decide +kernel
section
variable {P : Program} {w : World} {K : PySem.W.Frag} {mg : Str → Option Value} {base : Heap}

theorem ok_law_pair (T : Txt K mg) (G_law_draw : FnOk P w K mg base CX0 1 T.a_law_draw T.d_law_draw ["_law_bag_here", "_law_sides"] (SpE Rg_law_draw)) (G_law_of : FnOk P w K mg base CX0 2 T.a_law_of T.d_law_of ["_law_bag_here", "_law_things"] (SpE Rg_law_of)) (G_law_number : FnOk P w K mg base CX0 3 T.a_law_number T.d_law_number ["_law_bag_here"] (SpE Rg_law_number)) (G_law_gcd : FnOk P w K mg base CX0 1 T.a_law_gcd T.d_law_gcd ["_law_a", "_law_b"] (SpE Rg_law_gcd)) : FnOk P w K mg base CX0 4 T.a_law_pair T.d_law_pair ["_law_bag_here"] (SpE Rg_law_pair) := by
  refine T.F_law_pair.ok sc_law_pair (fun vs H Q E h => spE_len h len_law_pair) (fun cdv A outer s H vs Q E hr h => ?_)
  have hu := hu64 hr
  have hvl : vs.length = 1 := spE_len h len_law_pair
  refine ⟨_, (pss_cons (ps_par (i := 1) (j := 2) (by rfl) sc_law_pair.nd rfl rfl (by decide) rfl rfl (pa_cons (pe_call G_law_number (hr.mono (by decide)) (by rfl) T.g_law_number T.F_law_number.kp (b_law_number T) .nil pass0 (pa_cons (pv 0) pa_nil)) (pa_cons (pe_call G_law_number (hr.mono (by decide)) (by rfl) T.g_law_number T.F_law_number.kp (b_law_number T) .nil pass0 (pa_cons (pv 0) pa_nil)) pa_nil)) (by rfl)) (pss_cons (ps_set (i := 3) sc_law_pair.nd rfl (Or.inl rfl) (pe_call G_law_draw (hr.mono (by decide)) (by rfl) T.g_law_draw T.F_law_draw.kp (b_law_draw T) .nil pass0 (pa_cons (pv 0) (pa_cons pe_int pa_nil)))) (pss_cons (ps_if (pt_cmpR (op_eqK (K := K) rfl hu) (pv 3) pe_int (nomark _)) (pss_one (ps_ret (pe_tup (pa_cons (pv 1) (pa_cons (pv 2) pa_nil))))) pss_nil) (pss_cons (ps_set (i := 4) sc_law_pair.nd rfl (Or.inl rfl) (pe_callB (call_max2K rfl) (by rfl) T.n_max (by decide +kernel) (pa_cons pe_int (pa_cons (pe_call G_law_gcd (hr.mono (by decide)) (by rfl) T.g_law_gcd T.F_law_gcd.kp (b_law_gcd T) .nil pass0 (pa_cons (pv 1) (pa_cons (pv 2) pa_nil))) pa_nil)))) (pss_cons (ps_par (i := 1) (j := 2) (by rfl) sc_law_pair.nd rfl rfl (by decide) rfl rfl (pa_cons (pe_op op_fdivW (pv 1) (pv 4)) (pa_cons (pe_op op_fdivW (pe_callB call_absI (by rfl) T.n_abs (by decide +kernel) (pa_cons (pv 2) pa_nil)) (pv 4)) pa_nil)) (by rfl)) (pss_cons (ps_if (pt_cmpR (op_eqK (K := K) rfl hu) (pv 3) pe_int (nomark _)) (pss_one (ps_ret (pe_tup (pa_cons (pv 1) (pa_cons (pv 2) pa_nil))))) pss_nil) (pss_cons (ps_set (i := 5) sc_law_pair.nd rfl (Or.inl rfl) (pe_call G_law_of (hr.mono (by decide)) (by rfl) T.g_law_of T.F_law_of.kp (b_law_of T) .nil pass0 (pa_cons (pv 0) (pa_cons (pe_lst (pa_cons pe_int (pa_cons pe_int (pa_cons pe_int (pa_cons pe_int (pa_cons (pe_un un_neg pe_int) pa_nil)))))) pa_nil)))) (pss_one (ps_ret (pe_tup (pa_cons (pe_op op_times (pv 1) (pv 5)) (pa_cons (pe_op op_times (pv 2) (pv 5)) pa_nil)))))))))))), fn_body h (by rw [hvl]; decide) (fun ds R hR hl => ?_)⟩
  obtain ⟨rfl, q⟩ := hR
  have num : ∀ (X : XK) (ρ0 : List En), ρ0[0]? = some (.dat .bag) → EV (tCall (SpE Rg_law_number) [] X (tCons (tVar 0) tNil)) ρ0 (fun e => ∃ i : Int, e = .dat (.int i) ∧ i.natAbs ≤ B30) := fun X ρ0 h => e_call0 (ea_c (e_var h) ea_nil) ⟨rfl, fun i hi => ⟨i, rfl, hi⟩⟩
  refine t_seq (M := fun ρ' => ∃ a b : Int, ρ' = [.dat .bag, .dat (.int a), .dat (.int b), .un, .un, .un] ∧ a.natAbs ≤ B30 ∧ b.natAbs ≤ B30) (t_par (num _ _ rfl) (num _ _ rfl) fun u v ⟨a, h1, h2⟩ ⟨b, h3, h4⟩ => ⟨a, b, by rw [h1, h3]; rfl, h2, h4⟩) fun ρ' ⟨a, b, e, ha, hb⟩ => ?_
  subst e
  have hBB : B30 ≤ BB := by decide
  refine q_asgd (PD := fun d => ∃ j : Nat, d = .int j) ((e_draw (e_var rfl) e_int (by decide) (by decide)).imp fun d ⟨j, e, _⟩ => ⟨j, e⟩) fun d ⟨j, e⟩ => ?_
  subst e
  refine q_if1 (b := decide ((j : Int) = 0)) (et_t1 (e_opd (e_var rfl) e_int od_eqI)) (fun _ => t_ret1 (e_tup1 (ea_c (e_var rfl) (ea_c (e_var rfl) ea_nil)) (by simp)) (q a b (by omega) (by omega))) fun _ => ?_
  refine q_asgd (PD := fun d => ∃ c : Int, d = .int c ∧ 1 ≤ c ∧ c.natAbs ≤ B30) ((e_max2 (i := 1) (j := ((Nat.gcd a.natAbs b.natAbs : Nat) : Int)) e_int (EV.d1 (e_call0 (R := fun e => e = .dat (.int ((Nat.gcd a.natAbs b.natAbs : Nat) : Int))) (ea_c (e_var rfl) (ea_c (e_var rfl) ea_nil)) ⟨a, b, rfl, by omega, by omega, rfl⟩))).imp fun d e => ⟨_, e, ?_, ?_⟩) fun d ⟨c, e, hc1, hc2⟩ => ?_
  · split <;> omega
  · have := gcd_le ha hb
    have h1 : 1 ≤ B30 := by decide
    split <;> omega
  subst e
  have hc : CDivW a c := wide_div (b := 100) (by omega) (Nat.lt_of_le_of_lt hc2 b30_lt) (by decide) (by decide)
  have gabs : ∀ ρ0 : List En, ρ0[2]? = some (.dat (.int b)) → ED (tCB rAbsI (tCons (tVar 2) tNil)) ρ0 (· = .int ((b.natAbs : Nat) : Int)) := fun ρ0 h => by
    rw [← absN]; exact EV.d1 (e_cb1 (ea_c (e_var h) ea_nil) cd_abs)
  have dle : ∀ x : Int, (x / c).natAbs ≤ x.natAbs := fun x => by
    have := Int.natAbs_ediv_le_natAbs x c
    exact this
  refine t_seq (M := fun ρ' => ∃ a' b' : Int, ρ' = [.dat .bag, .dat (.int a'), .dat (.int b'), .dat (.int j), .dat (.int c), .un] ∧ a'.natAbs ≤ B30 ∧ b'.natAbs ≤ B30) (t_par (P1 := (· = .dat (.int (a / c)))) (P2 := (· = .dat (.int (((b.natAbs : Nat) : Int) / c)))) (e_op1 (e_var rfl) (e_var rfl) (od_divI hc)) (e_op1 (gabs _ rfl) (e_var rfl) (od_divI hc)) fun u v h1 h2 => ⟨a / c, ((b.natAbs : Nat) : Int) / c, by rw [h1, h2]; rfl, Nat.le_trans (dle _) ha, Nat.le_trans (dle _) (by omega)⟩) fun ρ' ⟨a', b', e, ha', hb'⟩ => ?_
  subst e
  refine q_if1 (b := decide ((j : Int) = 1)) (et_t1 (e_opd (e_var rfl) e_int od_eqI)) (fun _ => t_ret1 (e_tup1 (ea_c (e_var rfl) (ea_c (e_var rfl) ea_nil)) (by simp)) (q a' b' (by omega) (by omega))) fun _ => ?_
  refine q_asgd (PD := fun d => ∃ m : Int, d = .int m ∧ m.natAbs ≤ 7) ((e_of (e_var rfl) (EV.o1 (e_lst1 (ea_c e_int (ea_c e_int (ea_c e_int (ea_c e_int (ea_c (e_neg e_int) ea_nil))))) (by simp))) (.lst _) (by simp) (by simp)).imp fun d hd => ?_) fun d ⟨m, e, hm⟩ => ?_
  · simp only [List.mem_cons, List.not_mem_nil, or_false] at hd
    rcases hd with h | h | h | h | h <;> subst h <;> exact ⟨_, rfl, by decide⟩
  subst e
  have hmul : ∀ x : Int, x.natAbs ≤ B30 → CMulW x m ∧ (x * m).natAbs ≤ BB := fun x hx => ⟨wide_mul (a := 100) (b := 3) (Nat.lt_of_le_of_lt hx b30_lt) (by omega) (by decide) (by decide) (by decide), by
    rw [Int.natAbs_mul]
    have h1 : x.natAbs * m.natAbs ≤ B30 * 7 := Nat.mul_le_mul hx hm
    have h2 : B30 * 7 = BB := by decide
    omega⟩
  exact t_ret1 (e_tup1 (ea_c (e_opd (e_var rfl) (e_var rfl) (od_mulI (hmul a' ha').1)) (ea_c (e_opd (e_var rfl) (e_var rfl) (od_mulI (hmul b' hb').1)) ea_nil)) (by simp)) (q _ _ (hmul a' ha').2 (hmul b' hb').2)

end
end Nt

namespace Nt
open PySem PySem.Spec PyProof.Rows L2


def Rg_law (K : PySem.W.Frag) (ds : List D) (P : En → Prop) : Prop := ∃ ns : List Int, ds = [.scr K ns] ∧ ns.length ≤ 63 ∧ P (.dat (.bl true))
theorem len_law {K : PySem.W.Frag} (ds P) (h : Rg_law K ds P) : ds.length = 1 := by obtain ⟨_, rfl, _⟩ := h; rfl
section
variable {P : Program} {w : World} {K : PySem.W.Frag} {mg : Str → Option Value} {base : Heap}

theorem ok_law (T : Txt K mg) (G_is_name : FnOk P w K mg base CX0 1 T.a_is_name T.d_is_name ["value"] (SpE (Rg_is_name K))) (G_is_number : FnOk P w K mg base CX0 2 T.a_is_number T.d_is_number ["value", "least", "most"] (SpE (Rg_is_number K))) (G_is_ratio : FnOk P w K mg base CX0 2 T.a_is_ratio T.d_is_ratio ["value"] (SpE (Rg_is_ratio K))) (G_law_bag : FnOk P w K mg base CX0 1 T.a_law_bag T.d_law_bag ["_law_script"] (SpE (Rg_law_bag K))) (G_law_draw : FnOk P w K mg base CX0 1 T.a_law_draw T.d_law_draw ["_law_bag_here", "_law_sides"] (SpE Rg_law_draw)) (G_law_same : FnOk P w K mg base CX0 3 T.a_law_same T.d_law_same ["_law_found", "_law_due"] (SpE Rg_law_same)) (G_law_word : FnOk P w K mg base CX0 3 T.a_law_word T.d_law_word ["_law_bag_here"] (SpE Rg_law_word)) (G_law_number : FnOk P w K mg base CX0 3 T.a_law_number T.d_law_number ["_law_bag_here"] (SpE Rg_law_number)) (G_law_strange : FnOk P w K mg base CX0 3 T.a_law_strange T.d_law_strange ["_law_bag_here"] (SpE (Rg_law_strange T.a_BadPoint))) (G_law_pair : FnOk P w K mg base CX0 4 T.a_law_pair T.d_law_pair ["_law_bag_here"] (SpE Rg_law_pair)) (G_law_plain : FnOk P w K mg base CX0 1 T.a_law_plain T.d_law_plain ["_law_thing"] (SpE (Rg_law_plain K))) (G_law_is_pair : FnOk P w K mg base CX0 2 T.a_law_is_pair T.d_law_is_pair ["_law_thing"] (SpE (Rg_law_is_pair K))) (G_law_is_word : FnOk P w K mg base CX0 1 T.a_law_is_word T.d_law_is_word ["_law_thing"] (SpE (Rg_law_is_word K))) : FnOk P w K mg base CX0 5 T.a_law T.d_law ["_law_script"] (SpE (Rg_law K)) := by
  refine T.F_law.ok sc_law (fun vs H Q E h => spE_len h len_law) (fun cdv A outer s H vs Q E hr h => ?_)
  have hu := hu64 hr
  have hvl : vs.length = 1 := spE_len h len_law
  refine ⟨_, (pss_cons (ps_set (i := 1) sc_law.nd rfl (Or.inl rfl) (pe_call G_law_bag (hr.mono (by decide)) (by rfl) T.g_law_bag T.F_law_bag.kp (b_law_bag T) .nil pass0 (pa_cons (pv 0) pa_nil))) (pss_cons (ps_for PassesOwn.never rfl (pi_range1 (by rfl) T.n_range (pa_cons pe_int pa_nil)) (pg_name (i := 2) sc_law.nd rfl (Or.inl rfl)) (pss_cons (ps_par (i := 3) (j := 4) (by rfl) sc_law.nd rfl rfl (by decide) rfl rfl (pa_cons (pe_call G_law_number (hr.mono (by decide)) (by rfl) T.g_law_number T.F_law_number.kp (b_law_number T) .nil pass0 (pa_cons (pv 1) pa_nil)) (pa_cons (pe_call G_law_number (hr.mono (by decide)) (by rfl) T.g_law_number T.F_law_number.kp (b_law_number T) .nil pass0 (pa_cons (pv 1) pa_nil)) pa_nil)) (by rfl)) (pss_cons (ps_if (PW.pt (pw_and (pt_cmpR op_gt (pv 3) (pv 4) (nomark _)) (pw_and1 (pt_cmpR op_gt (pe_call G_law_draw (hr.mono (by decide)) (by rfl) T.g_law_draw T.F_law_draw.kp (b_law_draw T) .nil pass0 (pa_cons (pv 1) (pa_cons pe_int pa_nil))) pe_int (nomark _))))) (pss_one (ps_par (i := 3) (j := 4) (by rfl) sc_law.nd rfl rfl (by decide) rfl rfl (pa_cons (pv 4) (pa_cons (pv 3) pa_nil)) (by rfl))) pss_nil) (pss_cons (ps_set (i := 5) sc_law.nd rfl (Or.inl rfl) (pe_lst (pa_cons (pe_call G_law_word (hr.mono (by decide)) (by rfl) T.g_law_word T.F_law_word.kp (b_law_word T) .nil pass0 (pa_cons (pv 1) pa_nil)) (pa_cons (pe_call G_law_strange (hr.mono (by decide)) (by rfl) T.g_law_strange T.F_law_strange.kp (b_law_strange T) .nil pass0 (pa_cons (pv 1) pa_nil)) (pa_cons (pe_call G_law_pair (hr.mono (by decide)) (by rfl) T.g_law_pair T.F_law_pair.kp (b_law_pair T) .nil pass0 (pa_cons (pv 1) pa_nil)) (pa_cons (pe_call G_law_number (hr.mono (by decide)) (by rfl) T.g_law_number T.F_law_number.kp (b_law_number T) .nil pass0 (pa_cons (pv 1) pa_nil)) (pa_cons (pv 3) (pa_cons (pv 4) pa_nil)))))))) (pss_cons (ps_set (i := 5) sc_law.nd rfl (Or.inl rfl) (pe_op op_plus (pv 5) (pe_lst (pa_cons (pe_ifExp (pt_cmpR op_gt (pv 3) (pe_un un_neg (pe_op op_pow pe_int pe_int)) (nomark _)) (pe_op op_sub (pv 3) pe_int) (pv 3)) (pa_cons (pe_ifExp (pt_cmpR op_lt (pv 4) (pe_op op_pow pe_int pe_int) (nomark _)) (pe_op op_plus (pv 4) pe_int) (pv 4)) pa_nil))))) (pss_one (ps_for PassesOwn.never rfl (pi_listK (K := K) rfl (pv 5)) (pg_name (i := 6) sc_law.nd rfl (Or.inl rfl)) (pss_cons (ps_set (i := 7) sc_law.nd rfl (Or.inl rfl) (pe_lst (pa_cons (pe_call G_law_is_word (hr.mono (by decide)) (by rfl) T.g_law_is_word T.F_law_is_word.kp (b_law_is_word T) .nil pass0 (pa_cons (pv 6) pa_nil)) (pa_cons (pe_and (pe_call G_law_plain (hr.mono (by decide)) (by rfl) T.g_law_plain T.F_law_plain.kp (b_law_plain T) .nil pass0 (pa_cons (pv 6) pa_nil)) (pe_and (pe_cmpR op_le (pv 3) (pv 6) (nomark _)) (pe_one (pe_cmpR op_le (pv 6) (pv 4) (nomark _))))) (pa_cons (pe_call G_law_is_pair (hr.mono (by decide)) (by rfl) T.g_law_is_pair T.F_law_is_pair.kp (b_law_is_pair T) .nil pass0 (pa_cons (pv 6) pa_nil)) pa_nil))))) (pss_cons (ps_if (pt_not (pt_val (pe_call G_law_same (hr.mono (by decide)) (by rfl) T.g_law_same T.F_law_same.kp (b_law_same T) .nil pass0 (pa_cons (pe_lst (pa_cons (pe_call G_is_name (hr.mono (by decide)) (by rfl) T.g_is_name T.F_is_name.kp (b_is_name T) .nil pass0 (pa_cons (pv 6) pa_nil)) (pa_cons (pe_call G_is_number (hr.mono (by decide)) (by rfl) T.g_is_number T.F_is_number.kp (b_is_number T) .nil pass0 (pa_cons (pv 6) (pa_cons (pv 3) (pa_cons (pv 4) pa_nil)))) (pa_cons (pe_call G_is_ratio (hr.mono (by decide)) (by rfl) T.g_is_ratio T.F_is_ratio.kp (b_is_ratio T) .nil pass0 (pa_cons (pv 6) pa_nil)) pa_nil)))) (pa_cons (pv 7) pa_nil))))) (pss_one (ps_ret pe_bl)) pss_nil) (pss_one (ps_if (PW.pt (pw_and (pt_val (pe_call G_law_plain (hr.mono (by decide)) (by rfl) T.g_law_plain T.F_law_plain.kp (b_law_plain T) .nil pass0 (pa_cons (pv 6) pa_nil))) (pw_and1 (pt_cmpR op_notBl (pe_call G_is_number (hr.mono (by decide)) (by rfl) T.g_is_number T.F_is_number.kp (b_is_number T) .nil pass0 (pa_cons (pv 6) (pa_cons (pv 6) (pa_cons (pv 6) pa_nil)))) pe_bl (nomark _))))) (pss_one (ps_ret pe_bl)) pss_nil))))))))))) (pss_one (ps_ret pe_bl)))), fn_body h (by rw [hvl]; decide) (fun ds R hR hl => ?_)⟩
  obtain ⟨ns, rfl, hns, q⟩ := hR
  refine q_asg1 (EV.d1 (e_call0 (R := fun e => e = .dat .bag) (ea_c (e_var rfl) ea_nil) ⟨ns, rfl, hns, rfl⟩)) ?_
  refine t_seq (M := fun _ => True) (t_for1 (iv_rngN (n := 6) (ea_c e_int ea_nil) (by decide)) (fun ds i ρ' => ∃ x2 x3 x4 x5 x6 x7 : En, ρ' = [.dat (.scr K ns), .dat .bag, x2, x3, x4, x5, x6, x7]) (fun ds e => ⟨_, _, _, _, _, _, rfl⟩) (fun ds i d0 ρ' e hd inv => ?_) (fun ds ρ' e inv => trivial)) fun ρ' _ => t_ret1 e_bl q
  obtain ⟨x2, x3, x4, x5, x6, x7, rfl⟩ := inv
  have num : ∀ (X : XK) (ρ0 : List En), ρ0[1]? = some (.dat .bag) → EV (tCall (SpE Rg_law_number) [] X (tCons (tVar 1) tNil)) ρ0 (fun e => ∃ i : Int, e = .dat (.int i)) := fun X ρ0 h => e_call0 (ea_c (e_var h) ea_nil) ⟨rfl, fun i hi => ⟨i, rfl⟩⟩
  have p30 : ∀ ρ0, ED (tOp (rI CPow fun i j => .int (i ^ j.toNat)) (tC (.int 10)) (tC (.int 30))) ρ0 (· = .int 1000000000000000000000000000000) := fun ρ0 => e_pow ⟨by decide, by decide, by decide⟩ (by decide)
  refine t_seq (M := fun ρ' => ∃ lo hi : Int, ρ' = [.dat (.scr K ns), .dat .bag, .dat d0, .dat (.int lo), .dat (.int hi), x5, x6, x7]) (t_par (num _ _ rfl) (num _ _ rfl) fun u v ⟨a, h1⟩ ⟨b, h3⟩ => ⟨a, b, by rw [h1, h3]; rfl⟩) fun ρ' ⟨lo0, hi0, e⟩ => ?_
  subst e
  refine t_seq (M := fun ρ' => ∃ lo hi : Int, ρ' = [.dat (.scr K ns), .dat .bag, .dat d0, .dat (.int lo), .dat (.int hi), x5, x6, x7]) (t_if (T := fun _ => True) (et_and (T1 := fun _ => True) ((et_t1 (e_opd (e_var rfl) (e_var rfl) od_gt)).imp fun _ _ => trivial) (fun _ => et_test (EV.ed (R := fun e => ∃ b, e = .dat (.bl b)) (e_op (PA := fun d => ∃ j : Nat, d = .int j ∧ (j : Int) < 6) (PB := fun d => d = .int 0) (e_draw (e_var rfl) e_int (by decide) (by decide)) e_int fun x y ⟨j, hx, _⟩ hy => ?_) fun e ⟨b, hb⟩ => ⟨.bl b, by rw [hb]; rfl, b, rfl, trivial⟩)) (fun _ => trivial)) (fun _ => t_par (P1 := (· = .dat (.int hi0))) (P2 := (· = .dat (.int lo0))) ((e_var rfl).ev.imp fun e ⟨d, h1, h2⟩ => by rw [h1, h2]) ((e_var rfl).ev.imp fun e ⟨d, h1, h2⟩ => by rw [h1, h2]) fun u v h1 h2 => ⟨hi0, lo0, by rw [h1, h2]; rfl⟩) (fun _ => t_next ⟨lo0, hi0, rfl⟩)) fun ρ' ⟨lo, hi, e⟩ => ?_
  · subst hx hy
    intro W v w' r1 r2 Q q
    exact od_gt W v w' r1 r2 Q fun u e W' g r p => q u e W' g r ⟨_, p⟩
  subst e
  refine q_asg (P := fun e => ∃ L : List D, e = .own L ∧ L.length = 6 ∧ ∀ d ∈ L, ThK K d) ((e_lst (T := fun ds => ds.length = 6 ∧ ∀ d ∈ ds, ThK K d) (ea_cons (T' := fun _ => True) (P := ThK K) (EV.ed (R := fun e => ∃ s : List Nat, e = .dat (.str s) ∧ s.length ≤ 1000 ∧ ∀ c ∈ s, c < 0x110000) (e_call0 (ea_c (e_var rfl) ea_nil) ⟨rfl, fun s h1 h2 => ⟨s, rfl, h1, h2⟩⟩) fun e ⟨s, e1, h⟩ => ⟨.str s, by rw [e1]; rfl, trivial, h⟩) fun y1 h1 =>
    ea_cons (T' := fun _ => True) (P := ThK K) (EV.ed (R := fun e => ∃ d ∈ strangeL T.a_BadPoint, e = .dat d) (e_call0 (ea_c (e_var rfl) ea_nil) ⟨rfl, fun d hd => ⟨d, hd, rfl⟩⟩) fun e ⟨d, hd, e1⟩ => ⟨d, by rw [e1]; rfl, th_strange T.x_BadPoint.cls d hd⟩) fun y2 h2 =>
    ea_cons (T' := fun _ => True) (P := ThK K) (EV.ed (R := fun e => ∃ a b : Int, e = .dat (.tup [.int a, .int b]) ∧ a.natAbs ≤ BB ∧ b.natAbs ≤ BB) (e_call0 (ea_c (e_var rfl) ea_nil) ⟨rfl, fun a b ha hb => ⟨a, b, rfl, ha, hb⟩⟩) fun e ⟨a, b, e1, ha, hb⟩ => ⟨.tup [.int a, .int b], by rw [e1]; rfl, trivial, trivial, trivial, fun a' b' h1 h2 => by cases h1; cases h2; exact ⟨ha, hb⟩⟩) fun y3 h3 =>
    ea_cons (T' := fun _ => True) (P := ThK K) (EV.ed (num _ _ rfl) fun e ⟨i, e1⟩ => ⟨.int i, by rw [e1]; rfl, trivial, trivial⟩) fun y4 h4 =>
    ea_cons (T' := fun _ => True) (P := ThK K) ((e_var rfl).imp fun d (e : d = .int lo) => by subst e; exact ⟨trivial, trivial⟩) fun y5 h5 =>
    (ea_1 (P := ThK K) ((e_var rfl).imp fun d (e : d = .int hi) => by subst e; exact ⟨trivial, trivial⟩)).imp fun ds ⟨y6, e, h6⟩ => ⟨by rw [e]; rfl, fun d hd => by
      rw [e] at hd
      simp only [List.mem_cons, List.not_mem_nil, or_false] at hd
      rcases hd with h | h | h | h | h | h <;> subst h <;> assumption⟩) (fun ds h => by rw [h.1]; decide)).imp fun e ⟨ds, e1, h⟩ => ⟨ds, e1, h⟩) fun e ⟨L, e1, hl, hL⟩ => ?_
  subst e1
  refine t_freeze (i := 5) (ds := L) rfl ?_
  refine q_asg (P := fun e => ∃ L : List D, e = .own L ∧ L.length ≤ 8 ∧ ∀ d ∈ L, ThK K d) (e_op (PA := fun d => d = .lst L) (PB := fun d => ∃ i j : Int, d = .lst [.int i, .int j]) (e_var rfl) (EV.ed (R := fun e => ∃ i j : Int, e = .own [.int i, .int j]) ((e_lst (T := fun ds => ∃ i j : Int, ds = [.int i, .int j]) (ea_cons (T' := fun _ => True) (P := fun d => ∃ i : Int, d = .int i) (e_ifd (T := fun _ => True) ((et_t1 (e_opd (e_var rfl) (e_neg (p30 _)) od_gt)).imp fun _ _ => trivial) (fun _ => (e_opd (e_var rfl) e_int od_subI).imp fun d e => ⟨_, e⟩) (fun _ => (e_var rfl).imp fun d e => ⟨_, e⟩)) fun y1 ⟨i, h1⟩ => (ea_1 (P := fun d => ∃ i : Int, d = .int i) (e_ifd (T := fun _ => True) ((et_t1 (e_opd (e_var rfl) (p30 _) od_lt)).imp fun _ _ => trivial) (fun _ => (e_opd (e_var rfl) e_int od_addI).imp fun d e => ⟨_, e⟩) (fun _ => (e_var rfl).imp fun d e => ⟨_, e⟩))).imp fun ds ⟨y2, e, j, h2⟩ => ⟨i, j, by rw [e, h1, h2]⟩) (fun ds ⟨i, j, e⟩ => by rw [e]; simp)).imp fun e ⟨ds, e1, i, j, e2⟩ => ⟨i, j, by rw [e1, e2]⟩) fun e ⟨i, j, e1⟩ => ⟨_, by rw [e1]; rfl, i, j, rfl⟩) fun x y hx ⟨i, j, hy⟩ => ?_) fun e ⟨M, e1, hm, hM⟩ => ?_
  · subst hx hy
    intro W v w' r1 r2 Q q
    refine od_addL (by rw [hl]; simp) W v w' r1 r2 Q fun u e W' g r p => q u e W' g r ⟨L ++ [.int i, .int j], p, by rw [List.length_append, hl]; simp, fun d hd => ?_⟩
    rcases List.mem_append.mp hd with h | h
    · exact hL d h
    · simp only [List.mem_cons, List.not_mem_nil, or_false] at h
      rcases h with h | h <;> subst h <;> exact ⟨trivial, trivial⟩
  subst e1
  refine t_freeze (i := 5) (ds := M) rfl ?_
  refine t_for1 (iv_list1 (e_var rfl)) (fun ds i ρ' => ∃ y6 y7 : En, ρ' = [.dat (.scr K ns), .dat .bag, .dat d0, .dat (.int lo), .dat (.int hi), .dat (.lst M), y6, y7]) (fun ds e => ⟨_, _, rfl⟩) (fun ds i d ρ' e hd inv => ?_) (fun ds ρ' e ⟨y6, y7, e1⟩ => ⟨_, _, _, _, _, _, e1⟩)
  obtain ⟨y6, y7, rfl⟩ := inv
  subst e
  have hth := hM d (List.mem_of_getElem? hd)
  have plain : ∀ (X : XK) (ρ0 : List En), ρ0[6]? = some (.dat d) → ED (tCall (SpE (Rg_law_plain K)) [] X (tCons (tVar 6) tNil)) ρ0 (· = .bl (intB d)) := fun X ρ0 h => EV.d1 (e_call0 (R := fun e => e = .dat (.bl (intB d))) (ea_c (e_var h) ea_nil) ⟨d, rfl, hth.1, rfl⟩)
  refine q_asgo (ds := [.bl (nameB d), .bl (numB d lo hi), .bl (pairB d)]) (e_lst1 (ea_c (EV.d1 (e_call0 (R := fun e => e = .dat (.bl (nameB d))) (ea_c (e_var rfl) ea_nil) ⟨d, rfl, hth, rfl⟩)) (ea_c ((e_and (a := intB d) (c := numB d lo hi) (plain _ _ rfl) (fun h => ?_)).is (by cases d <;> rfl)) (ea_c (EV.d1 (e_call0 (R := fun e => e = .dat (.bl (pairB d))) (ea_c (e_var rfl) ea_nil) ⟨d, rfl, hth, rfl⟩)) ea_nil))) (by simp)) ?_
  · obtain ⟨i, rfl⟩ := intB_int h
    exact e_and (a := decide (lo ≤ i)) (c := decide (i ≤ hi)) (e_opd (e_var rfl) (e_var rfl) od_le) fun _ => e_opd (e_var rfl) (e_var rfl) od_le
  refine t_freeze (i := 7) (ds := [.bl (nameB d), .bl (numB d lo hi), .bl (pairB d)]) rfl ?_
  refine q_if1 (b := !true) (et_not1 (et_v1 (EV.d1 (e_call0 (R := fun e => e = .dat (.bl true)) (ea_c (EV.o1 (e_lst1 (ea_c (EV.d1 (e_call0 (R := fun e => e = .dat (.bl (nameB d))) (ea_c (e_var rfl) ea_nil) ⟨d, rfl, hth, rfl⟩)) (ea_c (EV.d1 (e_call0 (R := fun e => e = .dat (.bl (numB d lo hi))) (ea_c (e_var rfl) (ea_c (e_var rfl) (ea_c (e_var rfl) ea_nil))) ⟨d, lo, hi, rfl, hth.1, rfl⟩)) (ea_c (EV.d1 (e_call0 (R := fun e => e = .dat (.bl (pairB d))) (ea_c (e_var rfl) ea_nil) ⟨d, rfl, hth, rfl⟩)) ea_nil))) (by simp))) (ea_c (e_var rfl) ea_nil)) ⟨.lst [.bl (nameB d), .bl (numB d lo hi), .bl (pairB d)], rfl, by simp [D.sm, D.scal], rfl⟩)))) (fun e => nomatch e) (fun _ => ?_)
  refine t_if (T := fun b => b = (intB d && false)) (et_and1 (et_v1 (plain _ _ rfl)) (fun h => ?_)) (fun e => by simp at e) (fun _ => t_next ⟨_, _, rfl⟩)
  obtain ⟨i, rfl⟩ := intB_int h
  have hn : numB (.int i) i i = true := by show (decide (i ≤ i) && decide (i ≤ i)) = true; simp
  exact (et_t1 (e_opd ((EV.d1 (e_call0 (R := fun e => e = .dat (.bl (numB (.int i) i i))) (ea_c (e_var rfl) (ea_c (e_var rfl) (ea_c (e_var rfl) ea_nil))) ⟨.int i, i, i, rfl, trivial, rfl⟩)).is (by rw [hn])) e_bl od_notB)).is (by simp)

end
end Nt


namespace Nt
open PySem PySem.Spec PyProof.Rows L2

section
variable {w : World} {K : PySem.W.Frag} {mg : Str → Option Value} {base : Heap}
/-- every def keeps its promise -/
theorem all_ok (T : Txt K mg) : FnOk P0 w K mg base CX0 5 T.a_law T.d_law ["_law_script"] (SpE (Rg_law K)) := by
  have H_is_name := ok_is_name (P := P0) (w := w) (base := base) T 
  have H_is_integer := ok_is_integer (P := P0) (w := w) (base := base) T 
  have H_law_bag := ok_law_bag (P := P0) (w := w) (base := base) T
  have H_law_draw := ok_law_draw (P := P0) (w := w) (base := base) T
  have H_law_gcd := ok_law_gcd (P := P0) (w := w) (base := base) T 
  have H_law_plain := ok_law_plain (P := P0) (w := w) (base := base) T 
  have H_law_is_word := ok_law_is_word (P := P0) (w := w) (base := base) T 
  have H_is_number := ok_is_number (P := P0) (w := w) (base := base) T H_is_integer
  have H_is_ratio := ok_is_ratio (P := P0) (w := w) (base := base) T H_is_integer
  have H_law_of := ok_law_of (P := P0) (w := w) (base := base) T H_law_draw
  have H_law_is_pair := ok_law_is_pair (P := P0) (w := w) (base := base) T H_law_gcd H_law_plain
  have H_law_same := ok_law_same (P := P0) (w := w) (base := base) T
  have H_law_word := ok_law_word (P := P0) (w := w) (base := base) T H_law_draw H_law_of
  have H_law_number := ok_law_number (P := P0) (w := w) (base := base) T H_law_draw H_law_of
  have H_law_strange := ok_law_strange (w := w) (base := base) T H_law_of
  have H_law_pair := ok_law_pair (P := P0) (w := w) (base := base) T H_law_draw H_law_of H_law_number H_law_gcd
  exact ok_law (P := P0) T H_is_name H_is_number H_is_ratio H_law_bag H_law_draw H_law_same H_law_word H_law_number H_law_strange H_law_pair H_law_plain H_law_is_pair H_law_is_word
end
/-! ### the top, by names -/
theorem fun_of {K : PySem.W.Frag} {x q : Str} {st : Stmt} {kws : List (Str × V)} {f : Addr} {fd : FuncData} (F : FunD K x q (defArgs st) (defBody st) (defScope st) [] kws f fd) : Fun K x q st f fd := by
  obtain ⟨⟨oc, od, dV, kV, doc, pm, an, cdv, ct, osl, e, l, c, dv, kw⟩, kp⟩ := F
  rcases dv with ⟨_, rfl⟩ | ⟨z, _⟩
  · exact ⟨⟨oc, od, kV, doc, pm, an, cdv, ct, osl, e, l, c⟩, kp⟩
  · exact absurd rfl z
def hFn0 : List He.DefD := [⟨("is_name", none), "is_name", "is_name", defArgs s_is_name, defBody s_is_name, defScope s_is_name, [], []⟩, ⟨("is_integer", none), "is_integer", "is_integer", defArgs s_is_integer, defBody s_is_integer, defScope s_is_integer, [], []⟩, ⟨("is_number", none), "is_number", "is_number", defArgs s_is_number, defBody s_is_number, defScope s_is_number, [], []⟩, ⟨("is_ratio", none), "is_ratio", "is_ratio", defArgs s_is_ratio, defBody s_is_ratio, defScope s_is_ratio, [], []⟩, ⟨("_law_bag", none), "_law_bag", "_law_bag", defArgs s_law_bag, defBody s_law_bag, defScope s_law_bag, [], []⟩, ⟨("_law_draw", none), "_law_draw", "_law_draw", defArgs s_law_draw, defBody s_law_draw, defScope s_law_draw, [], []⟩, ⟨("_law_of", none), "_law_of", "_law_of", defArgs s_law_of, defBody s_law_of, defScope s_law_of, [], []⟩, ⟨("_law_same", none), "_law_same", "_law_same", defArgs s_law_same, defBody s_law_same, defScope s_law_same, [], []⟩, ⟨("_law_word", none), "_law_word", "_law_word", defArgs s_law_word, defBody s_law_word, defScope s_law_word, [], []⟩, ⟨("_law_number", none), "_law_number", "_law_number", defArgs s_law_number, defBody s_law_number, defScope s_law_number, [], []⟩, ⟨("_law_strange", none), "_law_strange", "_law_strange", defArgs s_law_strange, defBody s_law_strange, defScope s_law_strange, [], []⟩, ⟨("_law_gcd", none), "_law_gcd", "_law_gcd", defArgs s_law_gcd, defBody s_law_gcd, defScope s_law_gcd, [], []⟩, ⟨("_law_pair", none), "_law_pair", "_law_pair", defArgs s_law_pair, defBody s_law_pair, defScope s_law_pair, [], []⟩, ⟨("_law_plain", none), "_law_plain", "_law_plain", defArgs s_law_plain, defBody s_law_plain, defScope s_law_plain, [], []⟩, ⟨("_law_is_pair", none), "_law_is_pair", "_law_is_pair", defArgs s_law_is_pair, defBody s_law_is_pair, defScope s_law_is_pair, [], []⟩, ⟨("_law_is_word", none), "_law_is_word", "_law_is_word", defArgs s_law_is_word, defBody s_law_is_word, defScope s_law_is_word, [], []⟩, ⟨("law", none), "law", "law", defArgs s_law, defBody s_law, defScope s_law, [], []⟩]
def hFn : List He.DefD := hFn0
def hFa0 : List He.Fa := [.glo "is_name", .glo "is_integer", .glo "is_number", .glo "is_ratio", .glo "_law_bag", .glo "_law_draw", .glo "_law_of", .glo "_law_same", .glo "_law_word", .glo "_law_number", .glo "_law_strange", .glo "_law_gcd", .glo "_law_pair", .glo "_law_plain", .glo "_law_is_pair", .glo "_law_is_word", .glo "law", .free "len", .free "all", .free "range"]
def hFa1 : List He.Fa := [.free "zip", .free "isinstance", .free "list", .free "tuple", .free "dict", .free "str", .free "int", .free "bool", .free "abs", .free "max", .free "super", .int "LONGEST_NAME" 6, .glo "BadPoint"]
def hFa : List He.Fa := hFa0 ++ hFa1
def hNames0 : List PySem.Str := ["LONGEST_NAME", "is_name", "is_integer", "is_number", "is_ratio", "TellsError", "BadPoint", "_law_bag", "_law_draw", "_law_of", "_law_same", "_law_word", "_law_number", "_law_strange", "_law_gcd", "_law_pair", "_law_plain", "_law_is_pair", "_law_is_word"]
def hNames : List PySem.Str := hNames0
abbrev hR : PySem.W.OpenRow := PySem.W.OpenLaw.row PySem.Challenge.rw_newesttells_k01_words_and_ratios_judged
def hE : List Nr.ErrD := [dE_BadPoint]
def hEx (K : PySem.W.Frag) : Bool := (hE.all fun d => d.ok P0 K) && PySem.W.nsIn K mainGlobals "gcd" == some (some (.builtin "math.gcd"))
abbrev hHk : PySem.W.Hook := Nr.hookE 4 hFa hFn [] hE hEx
def hOb (s : PySem.W.SharedT) : Nr.AlE := Nr.obsE 4 hFa hFn [] hE hEx (HandSHeadRun.getT s)
theorem hOb_eq (s : PySem.W.SharedT) : hOb s = hHk.obs s.abs := Nr.obsE_eq (HandSHeadRun.getT_eq s)
theorem hRun (w : World) : HandSHeadRun.RunEqI hR (PySem.W.view hR.prog [0, 23]) hHk hOb 6000 hNames w := by
  unfold HandSHeadRun.RunEqI
  kernel_rfl
theorem hEx_ok {K : PySem.W.Frag} (h : hEx K = true) (i : Nat) {d : Nr.ErrD} (e : hE[i]? = some d := by rfl) : d.ok P0 K = true := List.all_eq_true.mp (He.ba (show ((hE.all fun d => d.ok P0 K) && _) = true from h)).1 d (List.mem_of_getElem? e)
theorem hIm_ok {K : PySem.W.Frag} (h : hEx K = true) : PySem.W.nsIn K mainGlobals "gcd" = some (some (.builtin "math.gcd")) := beq_iff_eq.mp (He.ba (show ((hE.all fun d => d.ok P0 K) && _) = true from h)).2
theorem hTxt {K : PySem.W.Frag} {h : Heap} {mg : Str → Option Value} (X : K.In h) (G : h.Ns mainGlobals mg) {w : World} (c0 : Nr.SaysE hFa hFn [] hE hEx w K) : ∃ T : Txt K mg, T.a_law = He.ga K "law" ∧ ∀ (s : Shared) (v : Value), BindsTo s T.d_law ⟨[v], []⟩ [("_law_script", v)] := by
  have c := c0.t.d
  obtain ⟨e0, E0⟩ := c0.err (P := P0) 0 (d := dE_BadPoint) rfl (hEx_ok c0.more 0)
  have M0 := PySem.W.mg_of X G (hIm_ok c0.more)
  obtain ⟨d0, F0⟩ := c.def_ 0 rfl
  obtain ⟨d1, F1⟩ := c.def_ 1 rfl
  obtain ⟨d2, F2⟩ := c.def_ 2 rfl
  obtain ⟨d3, F3⟩ := c.def_ 3 rfl
  obtain ⟨d4, F4⟩ := c.def_ 4 rfl
  obtain ⟨d5, F5⟩ := c.def_ 5 rfl
  obtain ⟨d6, F6⟩ := c.def_ 6 rfl
  obtain ⟨d7, F7⟩ := c.def_ 7 rfl
  obtain ⟨d8, F8⟩ := c.def_ 8 rfl
  obtain ⟨d9, F9⟩ := c.def_ 9 rfl
  obtain ⟨d10, F10⟩ := c.def_ 10 rfl
  obtain ⟨d11, F11⟩ := c.def_ 11 rfl
  obtain ⟨d12, F12⟩ := c.def_ 12 rfl
  obtain ⟨d13, F13⟩ := c.def_ 13 rfl
  obtain ⟨d14, F14⟩ := c.def_ 14 rfl
  obtain ⟨d15, F15⟩ := c.def_ 15 rfl
  obtain ⟨d16, F16⟩ := c.def_ 16 rfl
  obtain ⟨t0, C0⟩ := He.int_ok X G (c.fact 31 (f := .int "LONGEST_NAME" 6) rfl)
  have b := FunD.bindsA (ps := ["_law_script"]) F16 fun _ _ _ _ _ _ us hl => match us, hl with | [_], _ => rfl
  exact ⟨⟨He.ga K "is_name", d0, He.ga K "is_integer", d1, He.ga K "is_number", d2, He.ga K "is_ratio", d3,
    He.ga K "_law_bag", d4, He.ga K "_law_draw", d5, He.ga K "_law_of", d6, He.ga K "_law_same", d7,
    He.ga K "_law_word", d8, He.ga K "_law_number", d9, He.ga K "_law_strange", d10, He.ga K "_law_gcd", d11,
    He.ga K "_law_pair", d12, He.ga K "_law_plain", d13, He.ga K "_law_is_pair", d14, He.ga K "_law_is_word", d15,
    He.ga K "law", d16, fun_of F0, He.glo_ok X G (c.fact 0 rfl), fun_of F1, He.glo_ok X G (c.fact 1 rfl), fun_of F2, He.glo_ok X G (c.fact 2 rfl),
    fun_of F3, He.glo_ok X G (c.fact 3 rfl), fun_of F4, He.glo_ok X G (c.fact 4 rfl), fun_of F5, He.glo_ok X G (c.fact 5 rfl), fun_of F6, He.glo_ok X G (c.fact 6 rfl),
    fun_of F7, He.glo_ok X G (c.fact 7 rfl), fun_of F8, He.glo_ok X G (c.fact 8 rfl), fun_of F9, He.glo_ok X G (c.fact 9 rfl), fun_of F10, He.glo_ok X G (c.fact 10 rfl),
    fun_of F11, He.glo_ok X G (c.fact 11 rfl), fun_of F12, He.glo_ok X G (c.fact 12 rfl), fun_of F13, He.glo_ok X G (c.fact 13 rfl), fun_of F14, He.glo_ok X G (c.fact 14 rfl),
    fun_of F15, He.glo_ok X G (c.fact 15 rfl), fun_of F16, He.glo_ok X G (c.fact 16 rfl), He.free_ok X G (c.fact 17 rfl), He.free_ok X G (c.fact 18 rfl), He.free_ok X G (c.fact 19 rfl), He.free_ok X G (c.fact 20 rfl),
    He.free_ok X G (c.fact 21 rfl), He.free_ok X G (c.fact 22 rfl), He.free_ok X G (c.fact 23 rfl), He.free_ok X G (c.fact 24 rfl), He.free_ok X G (c.fact 25 rfl), He.free_ok X G (c.fact 26 rfl), He.free_ok X G (c.fact 27 rfl), He.free_ok X G (c.fact 28 rfl),
    He.free_ok X G (c.fact 29 rfl), He.free_ok X G (c.fact 30 rfl), M0, He.ga K "BadPoint", Nr.iniAd K "BadPoint", e0, He.glo_ok X G (c.fact 32 rfl), E0,
    t0, C0⟩, rfl, fun s v => b s [v] rfl⟩
theorem hFacts {w : World} {K : PySem.W.Frag} {h : Heap} {mg : Str → Option Value} {f : Addr} (X : K.In h) (G : h.Ns mainGlobals mg) (hfa : mg ("law" : Str) = some (.ref f)) (c : Nr.SaysE hFa hFn [] hE hEx w K) :
    ∃ fd : FuncData, (∀ (s : Shared) (v : Value), BindsTo s fd ⟨[v], []⟩ [("_law_script", v)]) ∧ ∀ base : Heap, K.In base → base.Ns mainGlobals mg → FnOk P0 w K mg base CX0 5 f fd ["_law_script"] (SpE (Rg_law K)) := by
  obtain ⟨T, e0, hb⟩ := hTxt X G c
  have e := hfa.symm.trans T.g_law
  cases e
  exact ⟨T.d_law, hb, fun base _ _ => all_ok T⟩
theorem hSp {K : PySem.W.Frag} {H : Hp} {a : Addr} {ns : List Int} (hl : ns.length ≤ 63) (hS : SqL K H a (ns.map V.int)) : SpE (Rg_law K) [.ref a] H (fun v _ => v = .bl true) (fun _ _ _ => False) :=
  ⟨⟨H, H, Ex.rfl'⟩, [.scr K ns], fun e => e = .dat (.bl true), rfl, .cons (.scr hS) .nil, ⟨ns, rfl, hl, rfl⟩, fun v e W' _ r p => by subst p; cases r; rfl⟩
end Nt
open PySem PySem.W PySem.Calls PyProof.Rows
theorem PySem.Challenge.cw_newesttells_k01_words_and_ratios_judged_holds : PySem.Challenge.rw_newesttells_k01_words_and_ratios_judged.Holds := by
  w_on; o_law
  refine HandSHeadRun.head_imp (r := OpenLaw.row PySem.Challenge.rw_newesttells_k01_words_and_ratios_judged) (q := view (OpenLaw.row PySem.Challenge.rw_newesttells_k01_words_and_ratios_judged).prog [0, 23]) (H := Nt.hHk) (ob := Nt.hOb) (M := 6000) (loose := Nt.hNames) (d := HandSHeadRun.topDef (OpenLaw.row PySem.Challenge.rw_newesttells_k01_words_and_ratios_judged).prog 23) (kwd := []) Nt.hOb_eq
    Nt.hRun (by kernel_rfl) (by kernel_rfl) (by kernel_rfl) (by rfl) (by first | assumption | decide +kernel) (by decide +kernel) ⟨rfl, rfl, rfl, rfl, rfl, by decide +kernel⟩ ?hw ?hc
  case hw => w_witness2
  case hc =>
    refine L2.walk_ofE (l := PySem.Challenge.rw_newesttells_k01_words_and_ratios_judged) (n := 63) (k := 5) (x := "_law_script") (CX := L2.CX0) rfl (by decide) (by kernel_rfl) ⟨rfl, by decide, by decide⟩ ?F (fun _ _ _ _ z => z)
    intro w mg fa h Y G hmg0
    obtain ⟨K, KX, c⟩ := Y
    have hmg : mg ("law" : PySem.Str) = some (.ref fa) := by
      have e : (HandSHeadRun.topDef (OpenLaw.row PySem.Challenge.rw_newesttells_k01_words_and_ratios_judged).prog 23).name = ("law" : PySem.Str) := by kernel_rfl
      rw [← e]
      exact hmg0
    obtain ⟨fd, hb, hF⟩ := Nt.hFacts (w := w) KX G hmg c
    exact ⟨K, fd, Nt.SpE (Nt.Rg_law K), KX, hb, fun H a ns hl _ hS => Nt.hSp hl hS, hF⟩

