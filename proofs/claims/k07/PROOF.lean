import PyProof.Rows.All
import Wide.All
import OpenK.AllK
import Wide.FinOn
import HandS.ForMost
import HandS.Walk
import HandS.Zip
import KE.GoesEnum
import KE.GoesNew
import HandS.Evl
import HandS.Flow
import HandS.Style
import HandS.Wide
import HandS.IsInst
import HandS.Defaults
import HandS.ExcInit
import HandS.Gcd
import HandS.Dict
import KE.GoesEnumKw
import HandS.SortKw
import HandS.More
import HandS.Deep
import HandS.HeadHook3
import HandS.Conv
import HandS.Head0
import HandS.Head1
import HandS.Head2
import HandS.HeadEnd
import HandS.HeadHook1
import HandS.HeadHook2
import HandS.HeadHook4
import PySem.Challenge.RW_newesttells_k07_whole_papers_looked_at
set_option Elab.async false
set_option linter.all false
set_option maxRecDepth 100000
set_option maxHeartbeats 4000000
namespace Nt
open PySem PySem.Spec PyProof.Rows L2
/-! ### what zip and enumerate go over: a text, a list, a tuple -/
inductive Sk where
  | txt (z : Str)
  | lst (a : Addr)
  | tup (a : Addr)
def Sk.val : Sk → V
  | .txt z => .str z
  | .lst a => .ref a
  | .tup a => .ref a
def Sk.fp : Sk → List Addr
  | .txt _ => []
  | .lst a => [a]
  | .tup a => [a]
def Sk.it : Sk → Addr → Nat → Heap → Prop
  | .txt z, it, i, h => ∃ t, h.IsStrIter it (strIterType z) z t i
  | .lst a, it, i, h => h.IsListIter it a i
  | .tup a, it, i, h => h.IsTupleIter it a i
/-- the things that stand in a value, told by the abstract heap -/
def Sk.has (K : PySem.W.Frag) (H : Hp) : Sk → List V → Prop
  | .txt z, xs => xs = z.cps.toList.map fun c => V.str ⟨#[c]⟩
  | .lst a, xs => SqL K H a xs
  | .tup a, xs => SqT K H a xs
theorem Sk.it_at {k : Sk} {it : Addr} {i : Nat} {h h' : Heap} (s : k.it it i h) (e : ∀ o, h.get? it = some o → h'.get? it = some o) : k.it it i h' := by
  cases k with
  | txt z => obtain ⟨t, o, ho, r⟩ := s; exact ⟨t, o, e o ho, r⟩
  | lst a => exact Heap.IsListIter.at s e
  | tup a => obtain ⟨o, ho, r⟩ := s; exact ⟨o, e o ho, r⟩
theorem Sk.it_obj {k : Sk} {it : Addr} {i : Nat} {h : Heap} (s : k.it it i h) : ∃ o, h.get? it = some o ∧ ∀ v, o.data ≠ .cell v := by
  cases k with
  | txt z => obtain ⟨t, o, ho, _, d⟩ := s; exact ⟨o, ho, fun v q => by rw [d] at q; cases q⟩
  | lst a => obtain ⟨o, ho, _, d⟩ := s; exact ⟨o, ho, fun v q => by rw [d] at q; cases q⟩
  | tup a => obtain ⟨o, ho, _, d⟩ := s; exact ⟨o, ho, fun v q => by rw [d] at q; cases q⟩
section
variable {X : Cx} {pins : List (Addr × Obj)} {σ : L2.St} {H : Hp} {s : Shared} {k : Sk} {xs : List V}
theorem Sk.has_inj {ys : List V} (I : L2.Inv X pins σ H s) (a : k.has X.K H xs) (b : k.has X.K H ys) : xs = ys := by
  cases k with
  | txt z => exact Eq.trans a (Eq.symm b)
  | lst q => exact I.list_inj a b
  | tup q => exact I.tuple_inj a b
/-- what draws its items, at the heap as it stands -/
theorem Sk.draws {w : World} {A : Around} (I : L2.Inv X pins σ H s) (hh : A.handled = none) (hk : k.has X.K H xs) (it : Addr) (hit : it ∉ k.fp) (i : Nat) (hi : k.it it i s.heap) :
    ∃ (P : Nat → Value → Prop) (St : Nat → Heap → Prop), Draws X.prog w A it (it :: k.fp) xs.length P St ∧ (∀ i u, P i u → ∃ x, xs[i]? = some x ∧ RelV x u) ∧
      (∀ i h, St i h → k.it it i h) ∧ St i s.heap := by
  cases k with
  | txt z =>
    cases hk
    obtain ⟨t, hi⟩ := hi
    have D := Draws.text (prog := X.prog) (w := w) (A := A) hh it z t
    have e : (List.map (fun c => V.str ⟨#[c]⟩) z.cps.toList).length = z.cps.size := by simp
    refine ⟨_, fun i h => h.IsStrIter it (strIterType z) z t i, (by rw [e]; exact D), ?_, fun i h q => ⟨t, q⟩, hi⟩
    rintro i u ⟨c, t', hc, rfl⟩
    refine ⟨V.str ⟨#[c]⟩, ?_, ⟨t', rfl⟩⟩
    rw [List.getElem?_map]
    have : z.cps.toList[i]? = some c := by simpa using hc
    rw [this]; rfl
  | lst a =>
    obtain ⟨its, rv, p, hz⟩ := I.list hk
    have ne : a ≠ it := fun e => hit (by simp [Sk.fp, e])
    have hl := rv.length
    have D := Draws.list (prog := X.prog) (w := w) (A := A) hh it a ne its.toArray
    have e : its.toArray.size = xs.length := by simp [hl]
    rw [e] at D
    refine ⟨_, fun i h => h.IsListIter it a i ∧ h.IsList a its.toArray, D, ?_, fun i h q => q.1, ⟨hi, p.isList⟩⟩
    intro i u hu
    have hu' : its[i]? = some u := by simpa using hu
    obtain ⟨h1, e1⟩ := List.getElem?_eq_some_iff.mp hu'
    have hx : xs[i]? = some (xs[i]'(by omega)) := List.getElem?_eq_getElem (by omega)
    obtain ⟨u', q1, q2⟩ := rv.get hx
    rw [hu'] at q1
    cases q1
    exact ⟨_, hx, q2⟩
  | tup a =>
    obtain ⟨its, rv, p, hz⟩ := I.tuple hk
    have ne : a ≠ it := fun e => hit (by simp [Sk.fp, e])
    have hl := rv.length
    have D := Draws.tuple (prog := X.prog) (w := w) (A := A) hh it a ne its.toArray
    have e : its.toArray.size = xs.length := by simp [hl]
    rw [e] at D
    refine ⟨_, fun i h => h.IsTupleIter it a i ∧ h.IsTuple a its.toArray, D, ?_, fun i h q => q.1, ⟨hi, p⟩⟩
    intro i u hu
    have hu' : its[i]? = some u := by simpa using hu
    obtain ⟨h1, e1⟩ := List.getElem?_eq_some_iff.mp hu'
    have hx : xs[i]? = some (xs[i]'(by omega)) := List.getElem?_eq_getElem (by omega)
    obtain ⟨u', q1, q2⟩ := rv.get hx
    rw [hu'] at q1
    cases q1
    exact ⟨_, hx, q2⟩
/-- how it begins -/
theorem Sk.begins (I : L2.Inv X pins σ H s) (hk : k.has X.K H xs) {u : Value} (r : RelV k.val u) :
    ∃ (o : Obj) (Hc : Heap → Prop), Begins u o Hc ∧ Hc s.heap ∧ (∀ h it, h.get? it = some o → k.it it 0 h) ∧ ∀ b ∈ k.fp, b < s.heap.objs.size := by
  cases k with
  | txt z =>
    obtain ⟨t, rfl⟩ := r
    exact ⟨_, _, begins_text z t, trivial, fun h it e => ⟨t, _, e, rfl, rfl⟩, fun b hb => absurd hb (by simp [Sk.fp])⟩
  | lst a =>
    cases r
    obtain ⟨its, rv, p, hz⟩ := I.list hk
    exact ⟨_, _, begins_list a its.toArray, p.isList, fun h it e => ⟨_, e, rfl, rfl⟩, fun b hb => by
      have : b = a := by simpa [Sk.fp] using hb
      rw [this]; exact p.lt⟩
  | tup a =>
    cases r
    obtain ⟨its, rv, p, hz⟩ := I.tuple hk
    exact ⟨_, _, begins_tuple a its.toArray, p, fun h it e => ⟨_, e, rfl, rfl⟩, fun b hb => by
      have : b = a := by simpa [Sk.fp] using hb
      obtain ⟨o, e, _⟩ := p
      rw [this]; exact Heap.lt_size e⟩
end
/-! ### zip(a, b) -/
def ItZ (K : PySem.W.Frag) (k1 k2 : Sk) : It :=
  ⟨fun i H => ∃ xs ys, k1.has K H xs ∧ k2.has K H ys ∧ i < xs.length ∧ i < ys.length,
    fun i H v H' => ∃ T x y, v = .ref T ∧ H T = none ∧ H' = upd H T (.tup [x, y]) ∧ (∀ xs, k1.has K H xs → xs[i]? = some x) ∧ ∀ ys, k2.has K H ys → ys[i]? = some y,
    fun i H => ∃ xs ys, k1.has K H xs ∧ k2.has K H ys ∧ i = min xs.length ys.length⟩
def SepZ (z TI TO i1 i2 : Addr) (k1 k2 : Sk) : Prop := ZipSep2 z TI TO i1 i2 (i1 :: k1.fp) (i2 :: k2.fp)
theorem turn_zipG {P : Program} {w : World} {K : PySem.W.Frag} {elts : List Expr} {kk : Nat} {tpos : Pos} {k1 k2 : Sk} {z TI TO i1 i2 : Addr} (S : SepZ z TI TO i1 i2 k1 k2) (h12 : i1 ∉ k1.fp) (h22 : i2 ∉ k2.fp) :
    Turn P w K (.Tuple elts kk tpos) (ItZ K k1 k2) [z, TI, TO, i1, i2] z (fun i h => IsZip h z TI TO .none ∧ IsTupOf2 h TI (.ref i1) (.ref i2) ∧ (∃ x y, IsTupOf2 h TO x y) ∧ k1.it i1 i h ∧ k2.it i2 i h) where
  mem := by simp
  obj := fun i h st c hc => by
    obtain ⟨hz, hTI, ⟨x, y, hTO⟩, h1, h2⟩ := st
    have e' : c = z ∨ c = TI ∨ c = TO ∨ c = i1 ∨ c = i2 := by simpa using hc
    rcases e' with q | q | q | q | q
    · rw [q]; exact ⟨_, hz, fun v q => nomatch q⟩
    · rw [q]; exact ⟨_, hTI, fun v q => nomatch q⟩
    · rw [q]; exact ⟨_, hTO, fun v q => nomatch q⟩
    · rw [q]; exact Sk.it_obj h1
    · rw [q]; exact Sk.it_obj h2
  keep := fun i h h' st k => by
    obtain ⟨hz, hTI, ⟨x, y, hTO⟩, h1, h2⟩ := st
    exact ⟨k z (by simp) _ hz, k TI (by simp) _ hTI, ⟨x, y, k TO (by simp) _ hTO⟩, Sk.it_at h1 fun o q => k i1 (by simp) o q, Sk.it_at h2 fun o q => k i2 (by simp) o q⟩
  item := by
    intro X hP hw hK hc i pins s σ H E I hf st hg
    subst hP hw hK
    obtain ⟨hz, hTI, hTO, h1, h2⟩ := st
    obtain ⟨xs, ys, hx, hy, lx, ly⟩ := hg
    have hh : X.A.in1.handled = none := I.ok.hd hc
    obtain ⟨P1, St1, D1, p1, a1, b1⟩ := Sk.draws (w := X.w) (A := X.A.in1) I hh hx i1 h12 i h1
    obtain ⟨P2, St2, D2, p2, a2, b2⟩ := Sk.draws (w := X.w) (A := X.A.in1) I hh hy i2 h22 i h2
    have W := GoesN.zip2 (elts := elts) (x1 := kk) (pos := tpos) S D1 D2
    have hlt : ∀ c ∈ [z, TI, TO, i1, i2], c < s.heap.objs.size := fun c hcm => by
      have e' : c = z ∨ c = TI ∨ c = TO ∨ c = i1 ∨ c = i2 := by simpa using hcm
      rcases e' with q | q | q | q | q
      · rw [q]; exact Heap.lt_size hz
      · rw [q]; exact Heap.lt_size hTI
      · rw [q]; obtain ⟨_, _, e⟩ := hTO; exact Heap.lt_size e
      · rw [q]; obtain ⟨_, e1, _⟩ := Sk.it_obj h1; exact Heap.lt_size e1
      · rw [q]; obtain ⟨_, e1, _⟩ := Sk.it_obj h2; exact Heap.lt_size e1
    refine thn (W.goes i s (fun v s2 => ∃ x H', L2.Inv X pins σ H' s2 ∧ RelV x v ∧ (ItZ X.K k1 k2).yld i H x H' ∧ (IsZip s2.heap z TI TO .none ∧ IsTupOf2 s2.heap TI (.ref i1) (.ref i2) ∧ (∃ x y, IsTupOf2 s2.heap TO x y) ∧ k1.it i1 (i + 1) s2.heap ∧ k2.it i2 (i + 1) s2.heap) ∧ ∀ b ∈ [z, TI, TO, i1, i2], H' b = none) E (by omega) ⟨hz, hTI, hTO, b1, b2⟩ ?_) fun r s1 q => q
    rintro v h' tk ⟨T, u1, u2, rfl, hT, q1, q2, hTT⟩ ⟨g1, g2, g3, g4, g5⟩ kk' _
    obtain ⟨x, ex, rx⟩ := p1 i u1 q1
    obtain ⟨y, ey, ry⟩ := p2 i u2 q2
    have new : ObjOk X.prog X.w (upd H T (.tup [x, y])) h' T (.tup [x, y]) := ⟨by show 2 ≤ sizeLine; decide, [u1, u2], .cons rx (.cons ry .nil), hTT⟩
    have I1 : L2.Inv X pins σ (upd H T (.tup [x, y])) { s with heap := h', toks := tk } :=
      I.turnedNew (t' := tk) (ch := [z, TI, TO, i1, i2]) (fun c o hb q => kk' c o (fun q' => hb (by
        have e' : c = z ∨ c = TO ∨ c = i1 ∨ c = i2 := by simpa using q'
        rcases e' with e | e | e | e <;> simp [e])) q) hf hT new
    refine ⟨.ref T, _, I1, rfl, ⟨T, x, y, rfl, I.hok.fresh hT, rfl, fun l hl => by rw [Sk.has_inj I hl hx]; exact ex, fun l hl => by rw [Sk.has_inj I hl hy]; exact ey⟩, ⟨g1, g2, g3, a1 _ _ g4, a2 _ _ g5⟩, fun c hcm => ?_⟩
    have h3 := hlt c hcm
    rw [upd_ne (Nat.ne_of_lt (Nat.lt_of_lt_of_le h3 hT))]
    exact (hf c hcm).1
  done := by
    intro X hP hw hK hc i pins s σ H E I hf st hg
    subst hP hw hK
    obtain ⟨hz, hTI, hTO, h1, h2⟩ := st
    obtain ⟨xs, ys, hx, hy, e⟩ := hg
    have hh : X.A.in1.handled = none := I.ok.hd hc
    obtain ⟨P1, St1, D1, p1, a1, b1⟩ := Sk.draws (w := X.w) (A := X.A.in1) I hh hx i1 h12 i h1
    obtain ⟨P2, St2, D2, p2, a2, b2⟩ := Sk.draws (w := X.w) (A := X.A.in1) I hh hy i2 h22 i h2
    have W := GoesN.zip2 (elts := elts) (x1 := kk) (pos := tpos) S D1 D2
    subst e
    refine W.stops s (fun s1 => L2.Inv X pins σ H s1) E ⟨hz, hTI, hTO, b1, b2⟩ fun h' tk k _ => ?_
    exact I.turnedL (t' := tk) (ch := [z, TI, TO, i1, i2]) (fun c o hb q => k c o (fun q' => hb (by
        have e' : c = z ∨ c = TO ∨ c = i1 ∨ c = i2 := by simpa using q'
        rcases e' with e | e | e | e <;> simp [e])) q) hf
  self := fun A i s Q E st h => wpAny_pyIter_zip st.1 h
def iZipG (K : PySem.W.Frag) (ta : TA) : TI := fun σ H R => ta σ H fun vs H1 => ∃ (k1 k2 : Sk) (xs ys : List V), vs = [k1.val, k2.val] ∧ k1.has K H1 xs ∧ k2.has K H1 ys ∧ R (ItZ K k1 k2) H1
theorem pi_zipG {X : Cx} {e e2 : Expr} {ta : TA} {p pos tpos : Pos} {elts : List Expr} {kk : Nat} (hg : Gl X "zip") (hm : X.mg "zip" = none) (ha : PA X [e, e2] ta)
    (hs : starEach [e, e2] X.env = (false, eval e X.env) :: starEach [e2] X.env := by rfl) (hpl : (backTo pos (starEach [e2] X.env)).any (·.1) = false := by rfl) :
    PI X (.Tuple elts kk tpos) (.Call (.Name "zip" p) [e, e2] [] pos) (iZipG X.K ta) := by
  refine ⟨fun pins s σ H R I h => ?_⟩
  refine Call_ (ld_blt I hg hm PyProof.Rows.boot_zip (PyProof.Rows.callWith_type1 (thn (ha.run pos pins s σ H _ I h) fun us s1 ⟨vs, H1, I1, r1, q1⟩ => ?_) hs hpl))
  obtain ⟨k1, k2, xs, ys, ex, hx, hy, q⟩ := q1
  subst ex
  obtain ⟨u1, u2, rfl, ra, rb⟩ := vals2 r1
  obtain ⟨o1, Hc1, B1, c1, t1, f1⟩ := Sk.begins I1 hx ra
  obtain ⟨o2, Hc2, B2, c2, t2, f2⟩ := Sk.begins I1 hy rb
  refine zip_begins2 B1 B2 c1 c2 fun h' hz hTI hTO g1 g2 hsz hk => wpAny_pyIter_zip hz ?_
  have I2 : L2.Inv X pins σ H1 { s1 with heap := h' } := I1.kept (t' := s1.toks) hk
  refine ⟨s1.heap.objs.size + 4, [s1.heap.objs.size + 4, s1.heap.objs.size + 2, s1.heap.objs.size + 3, s1.heap.objs.size, s1.heap.objs.size + 1], _, _, H1, rfl, I2,
    turn_zipG (zip_sep2 f1 f2) (fun z => Nat.lt_irrefl _ (f1 _ z)) (fun z => absurd (f2 _ z) (Nat.not_lt_of_le (Nat.le_succ _))), ⟨hz, hTI, ⟨_, _, hTO⟩, t1 _ _ g1, t2 _ _ g2⟩, fun c hcm => ?_, q⟩
  have e' : c = s1.heap.objs.size + 4 ∨ c = s1.heap.objs.size + 2 ∨ c = s1.heap.objs.size + 3 ∨ c = s1.heap.objs.size ∨ c = s1.heap.objs.size + 1 := by simpa using hcm
  have hle : s1.heap.objs.size ≤ c := by
    rcases e' with z | z | z | z | z
    · rw [z]; exact Nat.le_add_right _ _
    · rw [z]; exact Nat.le_add_right _ _
    · rw [z]; exact Nat.le_add_right _ _
    · rw [z]; exact Nat.le_refl _
    · rw [z]; exact Nat.le_add_right _ _
  exact I1.fpOk hle (I1.hok.fresh hle)
theorem walk_zipG {K : PySem.W.Frag} {k1 k2 : Sk} {xs ys : List V} {n : Nat} (hn : n = min xs.length ys.length) :
    Walk (ItZ K k1 k2) n (fun H => k1.has K H xs ∧ k2.has K H ys) (YPair (fun i => xs[i]?) (fun i => ys[i]?)) := by
  subst hn
  refine ⟨fun i _ hi q => ⟨xs, ys, q.1, q.2, by omega, by omega⟩, fun _ q => ⟨xs, ys, q.1, q.2, rfl⟩, fun i H v H' _ q y => ?_⟩
  obtain ⟨T, x, z, h1, h2, h3, h4, h5⟩ := y
  exact ⟨T, x, z, h1, h2, h3, h4 xs q.1, h5 ys q.2⟩
/-! ### enumerate(text) -/
def ItE (z : Str) : It :=
  ⟨fun i _ => i < z.cps.size, fun i H v H' => ∃ (T : Addr) (c : Nat), v = .ref T ∧ H T = none ∧ H' = upd H T (.tup [.int (i : Nat), .str ⟨#[c]⟩]) ∧ z.cps[i]? = some c, fun i _ => i = z.cps.size⟩
theorem turn_enumS {P : Program} {w : World} {K : PySem.W.Frag} {elts : List Expr} {kk : Nat} {tpos : Pos} {z : Str} {e it : Addr} (hne : e ≠ it) :
    Turn P w K (.Tuple elts kk tpos) (ItE z) [e, it] e (fun i h => (∃ old, IsEnum h e it (0 + (i : Int)) old) ∧ (Sk.txt z).it it i h) where
  mem := by simp
  obj := fun i h st c hc => by
    obtain ⟨⟨old, he⟩, h1⟩ := st
    have e' : c = e ∨ c = it := by simpa using hc
    rcases e' with q | q
    · rw [q]; exact ⟨_, he, fun v q => nomatch q⟩
    · rw [q]; exact Sk.it_obj h1
  keep := fun i h h' st k => by
    obtain ⟨⟨old, he⟩, h1⟩ := st
    exact ⟨⟨old, k e (by simp) _ he⟩, Sk.it_at h1 fun o q => k it (by simp) o q⟩
  item := by
    intro X hP hw hK hc i pins s σ H E I hf st hg
    subst hP hw hK
    obtain ⟨⟨old, he⟩, h1⟩ := st
    have hh : X.A.in1.handled = none := I.ok.hd hc
    obtain ⟨P1, St1, D1, p1, a1, b1⟩ := Sk.draws (k := .txt z) (w := X.w) (A := X.A.in1) I hh rfl it (by simp [Sk.fp]) i h1
    have W := GoesN.enumFrom (elts := elts) (x1 := kk) (pos := tpos) 0 D1 e hne (by simp [Sk.fp, hne]) (by simp [Sk.fp])
    have hlt : ∀ c ∈ [e, it], c < s.heap.objs.size := fun c hcm => by
      have e' : c = e ∨ c = it := by simpa using hcm
      rcases e' with q | q
      · rw [q]; exact Heap.lt_size he
      · rw [q]; obtain ⟨_, e1, _⟩ := Sk.it_obj h1; exact Heap.lt_size e1
    have hg' : i < z.cps.size := hg
    have hi : i < (List.map (fun c => V.str ⟨#[c]⟩) z.cps.toList).length := by simpa using hg'
    refine thn (W.goes i s (fun v s2 => ∃ x H', L2.Inv X pins σ H' s2 ∧ RelV x v ∧ (ItE z).yld i H x H' ∧ ((∃ old, IsEnum s2.heap e it (0 + ((i + 1 : Nat) : Int)) old) ∧ (Sk.txt z).it it (i + 1) s2.heap) ∧ ∀ b ∈ [e, it], H' b = none) E hi ⟨⟨old, he⟩, b1⟩ ?_) fun r s1 q => q
    rintro v h' tk ⟨T, t, u, rfl, hT, q1, hTT⟩ ⟨g1, g2⟩ kk' _
    obtain ⟨x, ex, rx⟩ := p1 i u q1
    obtain ⟨c, hc1, rfl⟩ : ∃ c, z.cps[i]? = some c ∧ x = V.str ⟨#[c]⟩ := by
      rw [List.getElem?_map] at ex
      cases hq : z.cps.toList[i]? with
      | none => rw [hq] at ex; cases ex
      | some c => rw [hq] at ex; exact ⟨c, by simpa using hq, (Option.some.inj ex).symm⟩
    have new : ObjOk X.prog X.w (upd H T (.tup [.int (i : Nat), .str ⟨#[c]⟩])) h' T (.tup [.int (i : Nat), .str ⟨#[c]⟩]) :=
      ⟨by show 2 ≤ sizeLine; decide, [.int (0 + (i : Int)) t, u], .cons ⟨t, by rw [Int.zero_add]⟩ (.cons rx .nil), hTT⟩
    have I1 : L2.Inv X pins σ (upd H T (.tup [.int (i : Nat), .str ⟨#[c]⟩])) { s with heap := h', toks := tk } :=
      I.turnedNew (t' := tk) (ch := [e, it]) (fun c o hb q => kk' c o hb q) hf hT new
    refine ⟨.ref T, _, I1, rfl, ⟨T, c, rfl, I.hok.fresh hT, rfl, hc1⟩, ⟨g1, a1 _ _ g2⟩, fun c hcm => ?_⟩
    rw [upd_ne (Nat.ne_of_lt (Nat.lt_of_lt_of_le (hlt c hcm) hT))]
    exact (hf c hcm).1
  done := by
    intro X hP hw hK hc i pins s σ H E I hf st hg
    subst hP hw hK
    obtain ⟨⟨old, he⟩, h1⟩ := st
    have hh : X.A.in1.handled = none := I.ok.hd hc
    obtain ⟨P1, St1, D1, p1, a1, b1⟩ := Sk.draws (k := .txt z) (w := X.w) (A := X.A.in1) I hh rfl it (by simp [Sk.fp]) i h1
    have W := GoesN.enumFrom (elts := elts) (x1 := kk) (pos := tpos) 0 D1 e hne (by simp [Sk.fp, hne]) (by simp [Sk.fp])
    have hg' : i = z.cps.size := hg
    have hi : i = (List.map (fun c => V.str ⟨#[c]⟩) z.cps.toList).length := by simpa using hg'
    rw [← hi] at W
    exact W.stops s (fun s1 => L2.Inv X pins σ H s1) E ⟨⟨old, he⟩, b1⟩ fun h' tk k _ => I.turnedL (t' := tk) (ch := [e, it]) (fun c o hb q => k c o hb q) hf
  self := fun A i s Q E st h => let ⟨⟨_, he⟩, _⟩ := st; wpAny_pyIter_enum he h
def iEnumS (ta : TA) : TI := fun σ H R => ta σ H fun vs H1 => ∃ z, vs = [.str z] ∧ R (ItE z) H1
theorem pi_enumS {X : Cx} {e : Expr} {ta : TA} {p pos tpos : Pos} {elts : List Expr} {kk : Nat} (hg : Gl X "enumerate") (hm : X.mg "enumerate" = none) (ha : PA X [e] ta) (hs : starEach [e] X.env = [(false, eval e X.env)] := by rfl) :
    PI X (.Tuple elts kk tpos) (.Call (.Name "enumerate" p) [e] [] pos) (iEnumS ta) := by
  refine ⟨fun pins s σ H R I h => ?_⟩
  refine Call_ (ld_blt I hg hm boot_enumerate (PyProof.Rows.callWith_type1 (thn (ha.run pos pins s σ H _ I h) fun us s1 ⟨vs, H1, I1, r1, q1⟩ => ?_) hs rfl))
  obtain ⟨z, ex, q⟩ := q1
  subst ex
  cases r1 with
  | cons r rr =>
    cases rr
    obtain ⟨t, rfl⟩ := r
    refine call_enumerate_str fun h' he hit hsz hk => wpAny_pyIter_enum he ?_
    have I2 : L2.Inv X pins σ H1 { s1 with heap := h' } := I1.kept (t' := s1.toks) hk
    refine ⟨s1.heap.objs.size + 1, [s1.heap.objs.size + 1, s1.heap.objs.size], _, _, H1, rfl, I2, turn_enumS (Nat.succ_ne_self _), ⟨⟨.none, he⟩, ⟨t, hit⟩⟩, fun b hb => ?_, q⟩
    have e' : b = s1.heap.objs.size + 1 ∨ b = s1.heap.objs.size := by simpa using hb
    have hle : s1.heap.objs.size ≤ b := by
      rcases e' with z | z
      · rw [z]; exact Nat.le_add_right _ _
      · rw [z]; exact Nat.le_refl _
    exact I1.fpOk hle (I1.hok.fresh hle)
theorem walk_enumS {z : Str} : Walk (ItE z) z.cps.size (fun _ => True) (YPair (fun i => some (.int (i : Nat))) (fun i => (z.cps[i]?).map fun c => .str ⟨#[c]⟩)) := by
  refine ⟨fun i _ hi _ => hi, fun _ _ => rfl, fun i H v H' _ q y => ?_⟩
  obtain ⟨T, c, h1, h2, h3, h4⟩ := y
  exact ⟨T, _, _, h1, h2, h3, rfl, by show Option.map _ z.cps[i]? = _; rw [h4]; rfl⟩
end Nt

namespace Nt
open PySem PySem.Spec PyProof.Rows L2
abbrev Ex (H H' : Hp) : Prop := ∀ a o, H a = some o → H' a = some o
theorem Ex.rfl' {H : Hp} : Ex H H := fun _ _ h => h
theorem Ex.tr {H H1 H2 : Hp} (a : Ex H H1) (b : Ex H1 H2) : Ex H H2 := fun x o h => b x o (a x o h)
theorem Ex.none' {H H' : Hp} (e : Ex H H') {p : Addr} (h : H' p = none) : H p = none := by
  cases h1 : H p with
  | none => rfl
  | some o => rw [e p o h1] at h; cases h
theorem Ex.nw {H : Hp} {p : Addr} {o : HO} (h : H p = none) : Ex H (upd H p o) := fun a u e => by rw [upd_ne (ne_of_none e h)]; exact e
theorem Ex.two {H H' : Hp} {p : Addr} {o : HO} (e : Ex H H') : Ex (upd H p o) (upd H' p o) := fun a u h => by
  by_cases q : a = p
  · subst q; rw [upd_same] at h ⊢; exact h
  · rw [upd_ne q] at h ⊢; exact e a u h
/-- a text of codes -/
def tx (s : List Nat) : V := .str ⟨s.toArray⟩
/-! ### data -/
inductive D where
  | non | bl (b : Bool) | int (i : Int) | str (s : List Nat) | tup (xs : List D) | lst (xs : List D) | bag | scr (K : PySem.W.Frag) (ns : List Int) | dic (kd : List (Key × D)) | obj (C : Addr)
/-- the bag of draws: its cells at c -/
def bagO (b c : Addr) : HO := .ext fun h => ∃ (i r m n : Int) (its : List Value) (nn : Nat), Vals [.ref c, .int i, .int r, .int m, .int n] its ∧ h.get? b = some { cls := .type "list", data := .seq its.toArray nn } ∧ 0 ≤ i ∧ 0 ≤ r ∧ 0 ≤ m ∧ m < 2147483648
mutual
inductive Rep (H : Hp) : D → V → Prop where
  | non : Rep H .non .non
  | bl (b : Bool) : Rep H (.bl b) (.bl b)
  | int (i : Int) : Rep H (.int i) (.int i)
  | str (s : List Nat) : Rep H (.str s) (tx s)
  | tup {ds : List D} {a : Addr} {ws : List V} : H a = some (.tup ws) → Reps H ds ws → Rep H (.tup ds) (.ref a)
  | lst {ds : List D} {a : Addr} {ws : List V} : H a = some (.lst ws) → Reps H ds ws → Rep H (.lst ds) (.ref a)
  | bag {b c : Addr} {ns : List Int} : H b = some (bagO b c) → H c = some (.lst (ns.map V.int)) → ns.length ≤ 63 → Rep H .bag (.ref b)
  | scr {K : PySem.W.Frag} {a : Addr} {ns : List Int} : SqL K H a (ns.map V.int) → Rep H (.scr K ns) (.ref a)
  | dic {kd : List (Key × D)} {a : Addr} {kvs : List (Key × V)} : H a = some (.dK kvs) → RepK H kd kvs → Rep H (.dic kd) (.ref a)
  | obj {C a d : Addr} {fs : List (Str × V)} : H a = some (exo a C (some d)) → H d = some (exd d fs) → Rep H (.obj C) (.ref a)
inductive Reps (H : Hp) : List D → List V → Prop where
  | nil : Reps H [] []
  | cons {d : D} {v : V} {ds : List D} {vs : List V} : Rep H d v → Reps H ds vs → Reps H (d :: ds) (v :: vs)
inductive RepK (H : Hp) : List (Key × D) → List (Key × V) → Prop where
  | nil : RepK H [] []
  | cons {k : Key} {d : D} {v : V} {kd : List (Key × D)} {kvs : List (Key × V)} : Rep H d v → RepK H kd kvs → RepK H ((k, d) :: kd) ((k, v) :: kvs)
end
mutual
theorem Rep.mono {H H' : Hp} (e : Ex H H') : ∀ {d v}, Rep H d v → Rep H' d v
  | _, _, .non => .non
  | _, _, .bl b => .bl b
  | _, _, .int i => .int i
  | _, _, .str s => .str s
  | _, _, .tup h r => .tup (e _ _ h) (Reps.mono e r)
  | _, _, .lst h r => .lst (e _ _ h) (Reps.mono e r)
  | _, _, .bag h c l => .bag (e _ _ h) (e _ _ c) l
  | _, _, .scr h => .scr (Evl.ex_l e h)
  | _, _, .dic h r => .dic (e _ _ h) (RepK.mono e r)
  | _, _, .obj h g => .obj (e _ _ h) (e _ _ g)
theorem Reps.mono {H H' : Hp} (e : Ex H H') : ∀ {ds vs}, Reps H ds vs → Reps H' ds vs
  | _, _, .nil => .nil
  | _, _, .cons h r => .cons (h.mono e) (r.mono e)
theorem RepK.mono {H H' : Hp} (e : Ex H H') : ∀ {kd kvs}, RepK H kd kvs → RepK H' kd kvs
  | _, _, .nil => .nil
  | _, _, .cons h r => .cons (Rep.mono e h) (RepK.mono e r)
end
theorem Reps.len {H : Hp} : ∀ {ds : List D} {vs : List V}, Reps H ds vs → vs.length = ds.length
  | _, _, .nil => rfl
  | _, _, .cons _ r => by rw [List.length_cons, List.length_cons, r.len]
theorem Reps.get {H : Hp} : ∀ {ds : List D} {vs : List V} {i : Nat} {d : D}, Reps H ds vs → ds[i]? = some d → ∃ v, vs[i]? = some v ∧ Rep H d v
  | _, _, 0, _, .cons h _, e => by cases e; exact ⟨_, rfl, h⟩
  | _, _, i + 1, _, .cons _ r, e => by
    obtain ⟨v, q, h⟩ := r.get (i := i) e
    exact ⟨v, q, h⟩
  | _, _, 0, _, .nil, e => by cases e
  | _, _, i + 1, _, .nil, e => by cases e
theorem Reps.at {H : Hp} : ∀ {ds : List D} {vs : List V} {i : Nat} {v : V}, Reps H ds vs → vs[i]? = some v → ∃ d, ds[i]? = some d ∧ Rep H d v
  | _, _, 0, _, .cons h _, e => by cases e; exact ⟨_, rfl, h⟩
  | _, _, i + 1, _, .cons _ r, e => by
    obtain ⟨d, q, h⟩ := r.at (i := i) e
    exact ⟨d, q, h⟩
  | _, _, 0, _, .nil, e => by cases e
  | _, _, i + 1, _, .nil, e => by cases e
theorem Reps.app {H : Hp} : ∀ {ds es : List D} {vs ws : List V}, Reps H ds vs → Reps H es ws → Reps H (ds ++ es) (vs ++ ws)
  | _, _, _, _, .nil, r => r
  | _, _, _, _, .cons h q, r => .cons h (q.app r)
theorem Reps.drop {H : Hp} : ∀ {ds : List D} {vs : List V} (n : Nat), Reps H ds vs → Reps H (ds.drop n) (vs.drop n)
  | _, _, 0, r => r
  | _, _, n + 1, .nil => .nil
  | _, _, n + 1, .cons _ r => r.drop n
theorem Reps.take {H : Hp} : ∀ {ds : List D} {vs : List V} (n : Nat), Reps H ds vs → Reps H (ds.take n) (vs.take n)
  | _, _, 0, _ => .nil
  | _, _, n + 1, .nil => .nil
  | _, _, n + 1, .cons h r => .cons h (r.take n)
theorem Reps.rev {H : Hp} : ∀ {ds : List D} {vs : List V}, Reps H ds vs → Reps H ds.reverse vs.reverse
  | _, _, .nil => .nil
  | _, _, .cons h r => by
    rw [List.reverse_cons, List.reverse_cons]
    exact r.rev.app (.cons h .nil)
/-- data that need no heap -/
def D.flat : D → Bool
  | .non | .bl _ | .int _ | .str _ => true
  | _ => false
theorem Rep.flat {H H' : Hp} {d : D} {v : V} (f : d.flat = true) (r : Rep H d v) : Rep H' d v := by
  cases r with
  | non => exact .non
  | bl b => exact .bl b
  | int i => exact .int i
  | str s => exact .str s
  | tup _ _ => cases f
  | lst _ _ => cases f
  | bag _ _ _ => cases f
  | scr _ => cases f
  | dic _ _ => cases f
  | obj _ _ => cases f
/-! ### worlds: a heap, and the part of it that data may lie in -/
structure Wd where
  b : Hp
  h : Hp
  le : Ex b h
structure Grow (W W' : Wd) : Prop where
  b : Ex W.b W'.b
  h : Ex W.h W'.h
  nw : ∀ a, W.b a = none → W.h a ≠ none → W'.b a = none
theorem Grow.refl (W : Wd) : Grow W W := ⟨Ex.rfl', Ex.rfl', fun _ h _ => h⟩
theorem Grow.trans {W W1 W2 : Wd} (x : Grow W W1) (y : Grow W1 W2) : Grow W W2 :=
  ⟨x.b.tr y.b, x.h.tr y.h, fun a h1 h2 => y.nw a (x.nw a h1 h2) fun z => h2 (x.h.none' z)⟩
/-- a new object that is data -/
def Wd.put (W : Wd) (p : Addr) (o : HO) : Wd := ⟨upd W.b p o, upd W.h p o, W.le.two⟩
theorem Grow.put {W : Wd} {p : Addr} {o : HO} (h : W.h p = none) : Grow W (W.put p o) :=
  ⟨Ex.nw (W.le.none' h), Ex.nw h, fun a h1 h2 => by
    show upd W.b p o a = none
    rw [upd_ne (fun e => h2 (by rw [e]; exact h))]; exact h1⟩
/-- a new object that is none of the data -/
def Wd.add (W : Wd) (p : Addr) (o : HO) (h : W.h p = none) : Wd := ⟨W.b, upd W.h p o, W.le.tr (Ex.nw h)⟩
theorem Grow.add {W : Wd} {p : Addr} {o : HO} (h : W.h p = none) : Grow W (W.add p o h) := ⟨Ex.rfl', Ex.nw h, fun _ h1 _ => h1⟩
/-! ### what slots hold -/
inductive En where
  | un
  | dat (d : D)
  | own (ds : List D)
  | dct (kd : List (Key × D))
/-- it holds an object of its own -/
def En.adr : En → Bool
  | .own _ | .dct _ => true
  | _ => false
/-- a value that has come: data, or a new list that nobody else holds -/
def RepV (W W' : Wd) : En → V → Prop
  | .un, _ => False
  | .dat d, v => Rep W'.b d v
  | .own ds, v => ∃ l vs, v = .ref l ∧ W'.h l = some (.lst vs) ∧ W'.b l = none ∧ W.h l = none ∧ Reps W'.b ds vs
  | .dct kd, v => ∃ l kvs, v = .ref l ∧ W'.h l = some (.dK kvs) ∧ W'.b l = none ∧ W.h l = none ∧ RepK W'.b kd kvs
theorem RepV.adr {W W' : Wd} {e : En} {v : V} (r : RepV W W' e v) (h : e.adr = true) : ∃ l, v = .ref l ∧ W'.h l ≠ none ∧ W'.b l = none ∧ W.h l = none := by
  cases e with
  | un => cases h
  | dat d => cases h
  | own ds =>
    obtain ⟨l, vs, e, h1, h2, h3, _⟩ := r
    exact ⟨l, e, (by rw [h1]; exact fun z => (nomatch z)), h2, h3⟩
  | dct ds =>
    obtain ⟨l, vs, e, h1, h2, h3, _⟩ := r
    exact ⟨l, e, (by rw [h1]; exact fun z => (nomatch z)), h2, h3⟩
theorem RepV.mono {W W1 W2 : Wd} {e : En} {v : V} (r : RepV W W1 e v) (g : Grow W1 W2) : RepV W W2 e v := by
  cases e with
  | un => exact r
  | dat d => exact Rep.mono g.b r
  | own ds =>
    obtain ⟨l, vs, e, h1, h2, h3, h4⟩ := r
    exact ⟨l, vs, e, g.h _ _ h1, g.nw l h2 (by rw [h1]; exact fun z => nomatch z), h3, h4.mono g.b⟩
  | dct ds =>
    obtain ⟨l, vs, e, h1, h2, h3, h4⟩ := r
    exact ⟨l, vs, e, g.h _ _ h1, g.nw l h2 (by rw [h1]; exact fun z => nomatch z), h3, h4.mono g.b⟩
theorem RepV.back {W0 W W1 : Wd} {e : En} {v : V} (r : RepV W W1 e v) (g : Ex W0.h W.h) : RepV W0 W1 e v := by
  cases e with
  | un => exact r
  | dat d => exact r
  | own ds =>
    obtain ⟨l, vs, e, h1, h2, h3, h4⟩ := r
    exact ⟨l, vs, e, h1, h2, g.none' h3, h4⟩
  | dct ds =>
    obtain ⟨l, vs, e, h1, h2, h3, h4⟩ := r
    exact ⟨l, vs, e, h1, h2, g.none' h3, h4⟩
/-- data that come of it -/
def En.frz : En → Option D
  | .un => none
  | .dat d => some d
  | .own ds => some (.lst ds)
  | .dct kd => some (.dic kd)
theorem RepV.frz {W W1 : Wd} {e : En} {v : V} {d : D} (g : Grow W W1) (r : RepV W W1 e v) (h : e.frz = some d) : ∃ W2 : Wd, W2.h = W1.h ∧ Grow W W2 ∧ Ex W1.b W2.b ∧ Rep W2.b d v := by
  cases e with
  | un => exact absurd h (by simp [En.frz])
  | dat d' => cases h; exact ⟨W1, rfl, g, Ex.rfl', r⟩
  | own ds =>
    cases h
    obtain ⟨l, vs, rfl, h1, h2, h3, h4⟩ := r
    refine ⟨⟨upd W1.b l (.lst vs), W1.h, fun a o e => ?_⟩, rfl, ⟨g.b.tr (Ex.nw h2), g.h, fun a q1 q2 => ?_⟩, Ex.nw h2, .lst upd_same (h4.mono (Ex.nw h2))⟩
    · by_cases q : a = l
      · subst q; rw [upd_same] at e; cases e; exact h1
      · rw [upd_ne q] at e; exact W1.le _ _ e
    · show upd W1.b l (.lst vs) a = none
      rw [upd_ne (fun e => q2 (by rw [e]; exact h3))]; exact g.nw a q1 q2
  | dct ds =>
    cases h
    obtain ⟨l, vs, rfl, h1, h2, h3, h4⟩ := r
    refine ⟨⟨upd W1.b l (.dK vs), W1.h, fun a o e => ?_⟩, rfl, ⟨g.b.tr (Ex.nw h2), g.h, fun a q1 q2 => ?_⟩, Ex.nw h2, .dic upd_same (h4.mono (Ex.nw h2))⟩
    · by_cases q : a = l
      · subst q; rw [upd_same] at e; cases e; exact h1
      · rw [upd_ne q] at e; exact W1.le _ _ e
    · show upd W1.b l (.dK vs) a = none
      rw [upd_ne (fun e => q2 (by rw [e]; exact h3))]; exact g.nw a q1 q2
structure Env (W0 W : Wd) (σ : L2.St) (ρ : List En) : Prop where
  g : Grow W0 W
  len : σ.length = ρ.length
  ent : ∀ (i : Nat) (e : En), ρ[i]? = some e → e ≠ .un → ∃ v, σ[i]? = some (some v) ∧ RepV W0 W e v
  apart : ∀ (i j : Nat) (e f : En) l, ρ[i]? = some e → ρ[j]? = some f → e.adr = true → f.adr = true → σ[i]? = some (some (.ref l)) → σ[j]? = some (some (.ref l)) → i = j
theorem Env.grow {W0 W W' : Wd} {σ : L2.St} {ρ : List En} (E : Env W0 W σ ρ) (g : Grow W W') : Env W0 W' σ ρ :=
  ⟨E.g.trans g, E.len, fun i e h n => let ⟨v, a, r⟩ := E.ent i e h n; ⟨v, a, r.mono g⟩, E.apart⟩
theorem set_get {α : Type} {l : List α} {i j : Nat} {x y : α} (h : (l.set i x)[j]? = some y) : (j = i ∧ y = x ∧ i < l.length) ∨ (j ≠ i ∧ l[j]? = some y) := by
  by_cases q : j = i
  · subst q
    have hl : j < l.length := by
      have := (List.getElem?_eq_some_iff.mp h).1
      simpa using this
    rw [List.getElem?_set_self hl] at h
    exact .inl ⟨rfl, (Option.some.inj h).symm, hl⟩
  · rw [List.getElem?_set_ne (fun e => q e.symm)] at h
    exact .inr ⟨q, h⟩
/-- a slot is given a value that has come -/
theorem Env.set {W0 W W' : Wd} {σ : L2.St} {ρ : List En} (E : Env W0 W σ ρ) (g : Grow W W') {e : En} {v : V} (r : RepV W W' e v) (i : Nat) : Env W0 W' (σ.set i (some v)) (ρ.set i e) := by
  have E' := E.grow g
  refine ⟨E'.g, by rw [List.length_set, List.length_set, E.len], fun j e' h n => ?_, fun j k e1 e2 l h1 h2 t1 t2 h3 h4 => ?_⟩
  · rcases set_get h with ⟨rfl, rfl, hl⟩ | ⟨hne, h⟩
    · exact ⟨v, by rw [List.getElem?_set_self (by rw [E.len]; exact hl)], r.back E.g.h⟩
    · obtain ⟨v', a, b⟩ := E'.ent j e' h n
      exact ⟨v', by rw [List.getElem?_set_ne (fun q => hne q.symm)]; exact a, b⟩
  · have key : ∀ (m : Nat) (f : En), m ≠ i → ρ[m]? = some f → f.adr = true → σ[m]? = some (some (.ref l)) → v = .ref l → e.adr = true → False := by
      intro m f hm a t b c he
      obtain ⟨l1, e1, _, _, z⟩ := r.adr he
      rw [c] at e1
      have : l = l1 := V.ref.inj e1
      subst this
      obtain ⟨v', q1, q2⟩ := E.ent m _ a (fun z => by rw [z] at t; cases t)
      rw [b] at q1
      cases q1
      obtain ⟨l2, e2, w1, _⟩ := q2.adr t
      have : l = l2 := V.ref.inj e2
      subst this
      exact w1 z
    rcases set_get h1 with ⟨q1, q, hl⟩ | ⟨n1, m1⟩
    · rcases set_get h2 with ⟨q2, _, _⟩ | ⟨n2, m2⟩
      · rw [q1, q2]
      · rw [q1, List.getElem?_set_self (by rw [E.len]; exact hl)] at h3
        rw [List.getElem?_set_ne (fun q => n2 q.symm)] at h4
        exact (key k e2 n2 m2 t2 h4 (Option.some.inj (Option.some.inj h3)) (by rw [← q]; exact t1)).elim
    · rcases set_get h2 with ⟨q2, q, hl⟩ | ⟨n2, m2⟩
      · rw [q2, List.getElem?_set_self (by rw [E.len]; exact hl)] at h4
        rw [List.getElem?_set_ne (fun q => n1 q.symm)] at h3
        exact (key j e1 n1 m1 t1 h3 (Option.some.inj (Option.some.inj h4)) (by rw [← q]; exact t2)).elim
      · rw [List.getElem?_set_ne (fun q => n1 q.symm)] at h3
        rw [List.getElem?_set_ne (fun q => n2 q.symm)] at h4
        exact E.apart j k e1 e2 l m1 m2 t1 t2 h3 h4
/-- a slot is forgotten -/
theorem Env.drop {W0 W : Wd} {σ : L2.St} {ρ : List En} (E : Env W0 W σ ρ) (i : Nat) (o : Option V) : Env W0 W (σ.set i o) (ρ.set i .un) := by
  refine ⟨E.g, by rw [List.length_set, List.length_set, E.len], fun j e' h n => ?_, fun j k e1 e2 l h1 h2 t1 t2 h3 h4 => ?_⟩
  · rcases set_get h with ⟨rfl, rfl, hl⟩ | ⟨hne, h⟩
    · exact absurd rfl n
    · obtain ⟨v', a, b⟩ := E.ent j e' h n
      exact ⟨v', by rw [List.getElem?_set_ne (fun q => hne q.symm)]; exact a, b⟩
  · rcases set_get h1 with ⟨rfl, q, hl⟩ | ⟨n1, h1⟩
    · rw [q] at t1; cases t1
    · rcases set_get h2 with ⟨rfl, q, hl⟩ | ⟨n2, h2⟩
      · rw [q] at t2; cases t2
      · rw [List.getElem?_set_ne (fun q => n1 q.symm)] at h3
        rw [List.getElem?_set_ne (fun q => n2 q.symm)] at h4
        exact E.apart j k e1 e2 l h1 h2 t1 t2 h3 h4
/-- an own list is data from now on -/
theorem Env.freeze {W0 W : Wd} {σ : L2.St} {ρ : List En} (E : Env W0 W σ ρ) {i : Nat} {ds : List D} (h : ρ[i]? = some (.own ds)) : ∃ W' : Wd, W'.h = W.h ∧ Ex W.b W'.b ∧ Env W0 W' σ (ρ.set i (.dat (.lst ds))) := by
  obtain ⟨v, hv, l, vs, rfl, h1, h2, h3, h4⟩ := E.ent i _ h (fun z => nomatch z)
  have hi := (List.getElem?_eq_some_iff.mp h).1
  refine ⟨⟨upd W.b l (.lst vs), W.h, fun a o e => ?_⟩, rfl, Ex.nw h2, ⟨⟨E.g.b.tr (Ex.nw h2), E.g.h, fun a q1 q2 => ?_⟩, by rw [List.length_set, E.len], fun j e' hj n => ?_, fun j k e1 e2 l' a1 a2 t1 t2 a3 a4 => ?_⟩⟩
  · by_cases q : a = l
    · subst q; rw [upd_same] at e; cases e; exact h1
    · rw [upd_ne q] at e; exact W.le _ _ e
  · show upd W.b l (.lst vs) a = none
    rw [upd_ne (fun e => q2 (by rw [e]; exact h3))]; exact E.g.nw a q1 q2
  · rcases set_get hj with ⟨rfl, rfl, _⟩ | ⟨hne, hj⟩
    · exact ⟨_, hv, .lst upd_same (h4.mono (Ex.nw h2))⟩
    · obtain ⟨v', a, b⟩ := E.ent j e' hj n
      refine ⟨v', a, ?_⟩
      cases e' with
      | un => exact absurd rfl n
      | dat d => exact Rep.mono (Ex.nw h2) b
      | own es =>
        obtain ⟨l2, ws, rfl, w1, w2, w3, w4⟩ := b
        refine ⟨l2, ws, rfl, w1, ?_, w3, w4.mono (Ex.nw h2)⟩
        show upd W.b l (.lst vs) l2 = none
        rw [upd_ne (fun z => hne (E.apart j i _ _ l hj h rfl rfl (by rw [← z]; exact a) hv))]
        exact w2
      | dct es =>
        obtain ⟨l2, ws, rfl, w1, w2, w3, w4⟩ := b
        refine ⟨l2, ws, rfl, w1, ?_, w3, w4.mono (Ex.nw h2)⟩
        show upd W.b l (.lst vs) l2 = none
        rw [upd_ne (fun z => hne (E.apart j i _ _ l hj h rfl rfl (by rw [← z]; exact a) hv))]
        exact w2
  · rcases set_get a1 with ⟨rfl, q, _⟩ | ⟨n1, a1⟩
    · rw [q] at t1; cases t1
    · rcases set_get a2 with ⟨rfl, q, _⟩ | ⟨n2, a2⟩
      · rw [q] at t2; cases t2
      · exact E.apart j k e1 e2 l' a1 a2 t1 t2 a3 a4
end Nt

namespace Nt
open PySem PySem.Spec PyProof.Rows L2
/-! ### what an expression comes to, from slots that are known -/
def EV (te : TE) (ρ : List En) (P : En → Prop) : Prop := ∀ W0 W σ, Env W0 W σ ρ → ∀ Q : VK, (∀ v e W', Grow W W' → RepV W W' e v → P e → Q v W'.h) → te σ W.h Q
def ED (te : TE) (ρ : List En) (P : D → Prop) : Prop := ∀ W0 W σ, Env W0 W σ ρ → ∀ Q : VK, (∀ v d W', Grow W W' → Rep W'.b d v → P d → Q v W'.h) → te σ W.h Q
def ET (tt : TT) (ρ : List En) (P : Bool → Prop) : Prop := ∀ W0 W σ, Env W0 W σ ρ → ∀ Q : Bool → Hp → Prop, (∀ b W', Grow W W' → P b → Q b W'.h) → tt σ W.h Q
def EA (ta : TA) (ρ : List En) (P : List D → Prop) : Prop := ∀ W0 W σ, Env W0 W σ ρ → ∀ Q : List V → Hp → Prop, (∀ vs ds W', Grow W W' → Reps W'.b ds vs → P ds → Q vs W'.h) → ta σ W.h Q
def EO (to : TO) (ρ : List En) (P : Option Int → Prop) : Prop := ∀ W0 W σ, Env W0 W σ ρ → ∀ Q : Option Int → Hp → Prop, (∀ o W', Grow W W' → P o → Q o W'.h) → to σ W.h Q
/-- what an operation, a call come to, by values -/
def OD (r : R2) (x y : D) (P : En → Prop) : Prop := ∀ (W : Wd) v w, Rep W.b x v → Rep W.b y w → ∀ Q : VK, (∀ u e W', Grow W W' → RepV W W' e u → P e → Q u W'.h) → r v w W.h Q
def UD (r : V → Hp → VK → Prop) (x : D) (P : En → Prop) : Prop := ∀ (W : Wd) v, Rep W.b x v → ∀ Q : VK, (∀ u e W', Grow W W' → RepV W W' e u → P e → Q u W'.h) → r v W.h Q
def CD (r : List V → Hp → VK → Prop) (ds : List D) (P : En → Prop) : Prop := ∀ (W : Wd) vs, Reps W.b ds vs → ∀ Q : VK, (∀ u e W', Grow W W' → RepV W W' e u → P e → Q u W'.h) → r vs W.h Q
def MD (r : V → List V → Hp → VK → Prop) (x : D) (ds : List D) (P : En → Prop) : Prop := ∀ (W : Wd) v vs, Rep W.b x v → Reps W.b ds vs → ∀ Q : VK, (∀ u e W', Grow W W' → RepV W W' e u → P e → Q u W'.h) → r v vs W.h Q
section
variable {K : PySem.W.Frag} {ta tb te : TE} {tt tu : TT} {ar : TA} {ρ : List En} {P P' PA PB : D → Prop} {R R' : En → Prop} {b : Bool}
theorem EV.imp (h : EV te ρ R) (k : ∀ e, R e → R' e) : EV te ρ R' := fun W0 W σ E Q q => h W0 W σ E Q fun v e W' g r p => q v e W' g r (k e p)
theorem ED.imp (h : ED te ρ P) (k : ∀ d, P d → P' d) : ED te ρ P' := fun W0 W σ E Q q => h W0 W σ E Q fun v e W' g r p => q v e W' g r (k e p)
theorem ED.is {x y : D} (h : ED te ρ (· = x)) (k : x = y) : ED te ρ (· = y) := k ▸ h
theorem ET.imp {T T' : Bool → Prop} (h : ET tt ρ T) (k : ∀ e, T e → T' e) : ET tt ρ T' := fun W0 W σ E Q q => h W0 W σ E Q fun e W' g p => q e W' g (k e p)
theorem ET.is {a c : Bool} (h : ET tt ρ (· = a)) (k : a = c) : ET tt ρ (· = c) := k ▸ h
theorem EA.imp {T T' : List D → Prop} (h : EA ar ρ T) (k : ∀ e, T e → T' e) : EA ar ρ T' := fun W0 W σ E Q q => h W0 W σ E Q fun v e W' g r p => q v e W' g r (k e p)
/-- data come to stay -/
theorem EV.ed (h : EV te ρ R) (k : ∀ e, R e → ∃ d, e.frz = some d ∧ P d) : ED te ρ P := fun W0 W σ E Q q => h W0 W σ E Q fun v e W' g r p => by
  obtain ⟨d, hd, pd⟩ := k e p
  obtain ⟨W2, h2, g2, _, r2⟩ := r.frz g hd
  rw [← h2]
  exact q v d W2 g2 r2 pd
theorem ED.ev (h : ED te ρ P) : EV te ρ (fun e => ∃ d, e = .dat d ∧ P d) := fun W0 W σ E Q q => h W0 W σ E Q fun v d W' g r p => q v (.dat d) W' g r ⟨d, rfl, p⟩
theorem EV.d1 {d : D} (h : EV te ρ (· = .dat d)) : ED te ρ (· = d) := h.ed fun e q => ⟨d, by rw [q]; rfl, rfl⟩
theorem EV.o1 {ds : List D} (h : EV te ρ (· = .own ds)) : ED te ρ (· = .lst ds) := h.ed fun e q => ⟨.lst ds, by rw [q]; rfl, rfl⟩
theorem e_var {i : Nat} {d : D} (h : ρ[i]? = some (.dat d)) : ED (tVar i) ρ (· = d) := fun W0 W σ E Q q => by
  obtain ⟨v, a, r⟩ := E.ent i _ h (fun z => nomatch z)
  exact ⟨v, a, q v d W (Grow.refl W) r rfl⟩
theorem e_c {v : V} {d : D} (h : ∀ H, Rep H d v) : ED (tC v) ρ (· = d) := fun W0 W σ E Q q => q v d W (Grow.refl W) (h _) rfl
theorem e_int {i : Int} : ED (tC (.int i)) ρ (· = .int i) := e_c fun _ => .int i
theorem e_bl {b : Bool} : ED (tC (.bl b)) ρ (· = .bl b) := e_c fun _ => .bl b
theorem e_non : ED (tC .non) ρ (· = .non) := e_c fun _ => .non
theorem tx_eq (z : Str) : V.str z = tx z.cps.toList := by
  unfold tx
  obtain ⟨c⟩ := z
  simp
theorem rep_str {H : Hp} (z : Str) : Rep H (.str z.cps.toList) (.str z) := by
  rw [tx_eq]
  exact .str _
theorem e_strz {z : Str} : ED (tC (.str z)) ρ (· = .str z.cps.toList) := e_c fun _ => rep_str z
theorem e_str {z : Str} {s : List Nat} (h : z.cps.toList = s) : ED (tC (.str z)) ρ (· = .str s) := h ▸ e_strz
theorem e_op {r : R2} (ha : ED ta ρ PA) (hb : ED tb ρ PB) (hr : ∀ x y, PA x → PB y → OD r x y R) : EV (tOp r ta tb) ρ R := fun W0 W σ E Q q =>
  ha W0 W σ E _ fun v x W1 g1 r1 p1 => hb W0 W1 σ (E.grow g1) _ fun w y W2 g2 r2 p2 => hr x y p1 p2 W2 v w (r1.mono g2.b) r2 Q fun u e W3 g3 r3 p3 => q u e W3 ((g1.trans g2).trans g3) (r3.back (g1.trans g2).h) p3
theorem e_op1 {r : R2} {x y : D} (ha : ED ta ρ (· = x)) (hb : ED tb ρ (· = y)) (hr : OD r x y R) : EV (tOp r ta tb) ρ R := e_op ha hb fun _ _ a b => by rw [a, b]; exact hr
theorem e_opd {r : R2} {x y z : D} (ha : ED ta ρ (· = x)) (hb : ED tb ρ (· = y)) (hr : OD r x y (· = .dat z)) : ED (tOp r ta tb) ρ (· = z) := (e_op1 ha hb hr).d1
theorem e_un {r : V → Hp → VK → Prop} {x : D} (ha : ED ta ρ (· = x)) (hr : UD r x R) : EV (tUn r ta) ρ R := fun W0 W σ E Q q =>
  ha W0 W σ E _ fun v x' W1 g1 r1 p1 => hr W1 v (by subst p1; exact r1) Q fun u e W3 g3 r3 p3 => q u e W3 (g1.trans g3) (r3.back g1.h) p3
/-! tests -/
theorem et_val {T : Bool → Prop} (h : ED te ρ (fun d => ∃ b, d = .bl b ∧ T b)) : ET (tB te) ρ T := fun W0 W σ E Q q => h W0 W σ E _ fun v d W' g r ⟨b, e, p⟩ => by
  subst e; cases r; exact ⟨b, rfl, q b W' g p⟩
theorem et_test {T : Bool → Prop} (h : ED te ρ (fun d => ∃ b, d = .bl b ∧ T b)) : ET (tTest te) ρ T := fun W0 W σ E Q q => h W0 W σ E _ fun v d W' g r ⟨b, e, p⟩ => by
  subst e; cases r; exact ⟨b, rfl, q b W' g p⟩
theorem et_v1 {a : Bool} (h : ED te ρ (· = .bl a)) : ET (tB te) ρ (· = a) := et_val (h.imp fun d e => ⟨a, e, rfl⟩)
theorem et_t1 {a : Bool} (h : ED te ρ (· = .bl a)) : ET (tTest te) ρ (· = a) := et_test (h.imp fun d e => ⟨a, e, rfl⟩)
theorem et_and {T1 T : Bool → Prop} (h : ET tt ρ T1) (h1 : T1 true → ET tu ρ T) (h2 : T1 false → T false) : ET (tAnd tt tu) ρ T := fun W0 W σ E Q q => h W0 W σ E _ fun b W' g p => by
  cases b with
  | true => exact iteT (h1 p W0 W' σ (E.grow g) Q fun b W2 g2 p2 => q b W2 (g.trans g2) p2)
  | false => exact iteF (q false W' g (h2 p))
theorem et_or {T1 T : Bool → Prop} (h : ET tt ρ T1) (h1 : T1 false → ET tu ρ T) (h2 : T1 true → T true) : ET (tOr tt tu) ρ T := fun W0 W σ E Q q => h W0 W σ E _ fun b W' g p => by
  cases b with
  | false => exact iteF (h1 p W0 W' σ (E.grow g) Q fun b W2 g2 p2 => q b W2 (g.trans g2) p2)
  | true => exact iteT (q true W' g (h2 p))
theorem et_and1 {a c : Bool} (h : ET tt ρ (· = a)) (h1 : a = true → ET tu ρ (· = c)) : ET (tAnd tt tu) ρ (· = (a && c)) :=
  et_and h (fun p => by subst p; exact h1 rfl) (fun p => by subst p; rfl)
theorem et_or1 {a c : Bool} (h : ET tt ρ (· = a)) (h1 : a = false → ET tu ρ (· = c)) : ET (tOr tt tu) ρ (· = (a || c)) :=
  et_or h (fun p => by subst p; exact h1 rfl) (fun p => by subst p; rfl)
theorem et_not {T : Bool → Prop} (h : ET tt ρ fun b => T (!b)) : ET (tNot tt) ρ T := fun W0 W σ E Q q => h W0 W σ E _ fun b W' g p => q (!b) W' g p
theorem et_not1 {a : Bool} (h : ET tt ρ (· = a)) : ET (tNot tt) ρ (· = !a) := et_not (h.imp fun e q => by rw [q])
theorem et_yes : ET tYes ρ (· = true) := fun W0 W σ E Q q => q true W (Grow.refl W) rfl
theorem e_and {a c : Bool} (h : ED ta ρ (· = .bl a)) (h1 : a = true → ED tb ρ (· = .bl c)) : ED (tAndV ta tb) ρ (· = .bl (a && c)) := fun W0 W σ E Q q => h W0 W σ E _ fun v d W' g r p => by
  subst p; cases r
  refine ⟨a, rfl, ?_⟩
  cases a with
  | true => exact iteT (h1 rfl W0 W' σ (E.grow g) Q fun v d W2 g2 r2 p2 => q v d W2 (g.trans g2) r2 p2)
  | false => exact iteF (q _ _ W' g (.bl false) rfl)
theorem e_or {a c : Bool} (h : ED ta ρ (· = .bl a)) (h1 : a = false → ED tb ρ (· = .bl c)) : ED (tOrV ta tb) ρ (· = .bl (a || c)) := fun W0 W σ E Q q => h W0 W σ E _ fun v d W' g r p => by
  subst p; cases r
  refine ⟨a, rfl, ?_⟩
  cases a with
  | false => exact iteF (h1 rfl W0 W' σ (E.grow g) Q fun v d W2 g2 r2 p2 => q v d W2 (g.trans g2) r2 p2)
  | true => exact iteT (q _ _ W' g (.bl true) rfl)
theorem e_not {a : Bool} (h : ED ta ρ (· = .bl a)) : ED (tNotV ta) ρ (· = .bl (!a)) := fun W0 W σ E Q q => h W0 W σ E _ fun v d W' g r p => by
  subst p; cases r
  exact ⟨a, rfl, q _ _ W' g (.bl _) rfl⟩
theorem e_if {T : Bool → Prop} (h : ET tt ρ T) (h1 : T true → EV ta ρ R) (h2 : T false → EV tb ρ R) : EV (tIf tt ta tb) ρ R := fun W0 W σ E Q q => h W0 W σ E _ fun b W' g p => by
  cases b with
  | true => exact iteT (h1 p W0 W' σ (E.grow g) Q fun v e W2 g2 r2 p2 => q v e W2 (g.trans g2) (r2.back g.h) p2)
  | false => exact iteF (h2 p W0 W' σ (E.grow g) Q fun v e W2 g2 r2 p2 => q v e W2 (g.trans g2) (r2.back g.h) p2)
theorem e_ifd {T : Bool → Prop} (h : ET tt ρ T) (h1 : T true → ED ta ρ P) (h2 : T false → ED tb ρ P) : ED (tIf tt ta tb) ρ P :=
  (e_if h (fun p => (h1 p).ev) (fun p => (h2 p).ev)).ed fun e ⟨d, q, p⟩ => ⟨d, by rw [q]; rfl, p⟩
/-! arguments -/
theorem ea_nil : EA tNil ρ (· = []) := fun W0 W σ E Q q => q [] [] W (Grow.refl W) .nil rfl
theorem ea_cons {T T' : List D → Prop} (h : ED ta ρ P) (h1 : ∀ x, P x → EA ar ρ (fun ds => T (x :: ds))) : EA (tCons ta ar) ρ T := fun W0 W σ E Q q =>
  h W0 W σ E _ fun v d W1 g1 r1 p1 => h1 d p1 W0 W1 σ (E.grow g1) _ fun vs ds W2 g2 r2 p2 => q (v :: vs) (d :: ds) W2 (g1.trans g2) (.cons (r1.mono g2.b) r2) p2
theorem ea_c {x : D} {ds : List D} (h : ED ta ρ (· = x)) (h1 : EA ar ρ (· = ds)) : EA (tCons ta ar) ρ (· = x :: ds) :=
  ea_cons (T' := fun _ => True) h fun y e => h1.imp fun z q => by rw [e, q]
theorem ea_1 (h : ED ta ρ P) : EA (tCons ta tNil) ρ (fun ds => ∃ x, ds = [x] ∧ P x) := ea_cons (T' := fun _ => True) h fun y e => ea_nil.imp fun z q => by rw [q]; exact ⟨y, rfl, e⟩
theorem e_cb {r : List V → Hp → VK → Prop} {T : List D → Prop} (h : EA ar ρ T) (hr : ∀ ds, T ds → CD r ds R) : EV (tCB r ar) ρ R := fun W0 W σ E Q q =>
  h W0 W σ E _ fun vs ds W1 g1 r1 p1 => hr ds p1 W1 vs r1 Q fun u e W3 g3 r3 p3 => q u e W3 (g1.trans g3) (r3.back g1.h) p3
theorem e_cb1 {r : List V → Hp → VK → Prop} {ds : List D} (h : EA ar ρ (· = ds)) (hr : CD r ds R) : EV (tCB r ar) ρ R := e_cb h fun _ e => by rw [e]; exact hr
theorem e_tup {T : List D → Prop} (h : EA ar ρ T) (hl : ∀ ds, T ds → ds.length ≤ 100000) : ED (tTup ar) ρ (fun d => ∃ ds, d = .tup ds ∧ T ds) := fun W0 W σ E Q q =>
  h W0 W σ E _ fun vs ds W1 g1 r1 p1 => ⟨Evl.sz_of (by rw [r1.len]; exact hl ds p1), fun p hp => q (.ref p) (.tup ds) (W1.put p (.tup vs)) (g1.trans (Grow.put hp)) (.tup upd_same (r1.mono (Grow.put hp).b)) ⟨ds, rfl, p1⟩⟩
theorem e_tup1 {ds : List D} (h : EA ar ρ (· = ds)) (hl : ds.length ≤ 100000) : ED (tTup ar) ρ (· = .tup ds) := (e_tup h fun _ e => by rw [e]; exact hl).imp fun d ⟨_, e, p⟩ => by rw [e, p]
/-- a new list that has come at p -/
theorem new_own {W W1 : Wd} (g1 : Grow W W1) {p : Addr} {ds : List D} {vs : List V} (hp : W1.h p = none) (r : Reps W1.b ds vs) : Grow W (W1.add p (.lst vs) hp) ∧ RepV W (W1.add p (.lst vs) hp) (.own ds) (.ref p) :=
  ⟨g1.trans (Grow.add hp), p, vs, rfl, upd_same, W1.le.none' hp, g1.h.none' hp, r⟩
theorem e_lst {T : List D → Prop} (h : EA ar ρ T) (hl : ∀ ds, T ds → ds.length ≤ 100000) : EV (tLst ar) ρ (fun e => ∃ ds, e = .own ds ∧ T ds) := fun W0 W σ E Q q =>
  h W0 W σ E _ fun vs ds W1 g1 r1 p1 => ⟨Evl.sz_of (by rw [r1.len]; exact hl ds p1), fun p hp => by
    obtain ⟨a, c⟩ := new_own g1 hp r1
    exact q (.ref p) (.own ds) _ a c ⟨ds, rfl, p1⟩⟩
theorem e_lst1 {ds : List D} (h : EA ar ρ (· = ds)) (hl : ds.length ≤ 100000) : EV (tLst ar) ρ (· = .own ds) := (e_lst h fun _ e => by rw [e]; exact hl).imp fun d ⟨_, e, p⟩ => by rw [e, p]
/-! calls of own defs -/
/-- a promise about data: for what arguments, what comes -/
def SpE (Rg : List D → (En → Prop) → Prop) : Sp := fun vs H Q _ => ∃ (W : Wd) (ds : List D) (P : En → Prop), W.h = H ∧ Reps W.b ds vs ∧ Rg ds P ∧ ∀ v e W', Grow W W' → RepV W W' e v → P e → Q v W'.h
theorem e_call {Rg : List D → (En → Prop) → Prop} {dvs : List V} {cs : List D} {X : XK} {T : List D → Prop} (h : EA ar ρ T) (hc : Reps (fun _ => none) cs dvs) (hr : ∀ ds, T ds → Rg (ds ++ cs) R) : EV (tCall (SpE Rg) dvs X ar) ρ R := fun W0 W σ E Q q =>
  h W0 W σ E _ fun vs ds W1 g1 r1 p1 => ⟨W1, ds ++ cs, R, rfl, r1.app (hc.mono fun _ _ z => by
      have z' : (none : Option HO) = some _ := z
      cases z'), hr ds p1, fun v e W3 g3 r3 p3 => q v e W3 (g1.trans g3) (r3.back g1.h) p3⟩
theorem e_call0 {Rg : List D → (En → Prop) → Prop} {X : XK} {ds : List D} (h : EA ar ρ (· = ds)) (hr : Rg ds R) : EV (tCall (SpE Rg) [] X ar) ρ R := e_call h .nil fun x e => by rw [e, List.append_nil]; exact hr
theorem e_callP {Rg : List D → (En → Prop) → Prop} {X : XK} {T : List D → Prop} (h : EA ar ρ T) (hr : ∀ ds, T ds → Rg ds R) : EV (tCall (SpE Rg) [] X ar) ρ R := e_call h .nil fun x e => by rw [List.append_nil]; exact hr x e
/-! methods -/
theorem e_bm {r : V → List V → Hp → VK → Prop} {Ty : String} {x : D} {T : List D → Prop} (h : ED te ρ (· = x)) (ht : ∀ (W : Wd) v, Rep W.b x v → tyV K Ty v W.h) (ha : EA ar ρ T) (hr : ∀ ds, T ds → MD r x ds R) : EV (tBM K Ty r te ar) ρ R := fun W0 W σ E Q q =>
  h W0 W σ E _ fun v d W1 g1 r1 p1 => by
    subst p1
    exact ⟨ht W1 v r1, ha W0 W1 σ (E.grow g1) _ fun vs ds W2 g2 r2 p2 => hr ds p2 W2 v vs (r1.mono g2.b) r2 Q fun u e W3 g3 r3 p3 => q u e W3 ((g1.trans g2).trans g3) (r3.back (g1.trans g2).h) p3⟩
theorem e_m1 {r : V → List V → Hp → VK → Prop} {s : List Nat} (h : ED te ρ (· = .str s)) (ha : ED ta ρ P) (hr : ∀ y, P y → MD r (.str s) [y] R) : EV (tM1 r te ta) ρ R := fun W0 W σ E Q q =>
  h W0 W σ E _ fun v d W1 g1 r1 p1 => by
    subst p1
    refine ⟨by cases r1; exact ⟨_, rfl⟩, ha W0 W1 σ (E.grow g1) _ fun w y W2 g2 r2 p2 => hr y p2 W2 v [w] (r1.mono g2.b) (.cons r2 .nil) Q fun u e W3 g3 r3 p3 => q u e W3 ((g1.trans g2).trans g3) (r3.back (g1.trans g2).h) p3⟩
/-! slices -/
theorem eo_none : EO tNoPart ρ (· = none) := fun W0 W σ E Q q => q none W (Grow.refl W) rfl
end
end Nt

namespace Nt
open PySem PySem.Spec PyProof.Rows L2
/-! ### what is walked: single things, pairs -/
structure It1 (J : It) (ds : List D) (W : Wd) : Prop where
  go : ∀ W' : Wd, Ex W.b W'.b → ∀ i, i < ds.length → J.go i W'.h
  stop : ∀ W' : Wd, Ex W.b W'.b → J.stop ds.length W'.h
  yld : ∀ W' : Wd, Ex W.b W'.b → ∀ i x H', i < ds.length → J.yld i W'.h x H' → H' = W'.h ∧ ∃ d, ds[i]? = some d ∧ Rep W'.b d x
structure It2 (J : It) (ps : List (D × D)) (W : Wd) : Prop where
  go : ∀ W' : Wd, Ex W.b W'.b → ∀ i, i < ps.length → J.go i W'.h
  stop : ∀ W' : Wd, Ex W.b W'.b → J.stop ps.length W'.h
  yld : ∀ W' : Wd, Ex W.b W'.b → ∀ i v H', i < ps.length → J.yld i W'.h v H' → ∃ T x y p, v = .ref T ∧ W'.h T = none ∧ H' = upd W'.h T (.tup [x, y]) ∧ ps[i]? = some p ∧ Rep W'.b p.1 x ∧ Rep W'.b p.2 y
theorem It1.mono {J : It} {ds : List D} {W W1 : Wd} (j : It1 J ds W) (e : Ex W.b W1.b) : It1 J ds W1 := ⟨fun W' a => j.go W' (e.tr a), fun W' a => j.stop W' (e.tr a), fun W' a => j.yld W' (e.tr a)⟩
theorem It2.mono {J : It} {ds : List (D × D)} {W W1 : Wd} (j : It2 J ds W) (e : Ex W.b W1.b) : It2 J ds W1 := ⟨fun W' a => j.go W' (e.tr a), fun W' a => j.stop W' (e.tr a), fun W' a => j.yld W' (e.tr a)⟩
def IV1 (wi : TI) (ρ : List En) (P : List D → Prop) : Prop := ∀ W0 W σ, Env W0 W σ ρ → ∀ R : It → Hp → Prop, (∀ J ds W', Grow W W' → It1 J ds W' → P ds → R J W'.h) → wi σ W.h R
def IV2 (wi : TI) (ρ : List En) (P : List (D × D) → Prop) : Prop := ∀ W0 W σ, Env W0 W σ ρ → ∀ R : It → Hp → Prop, (∀ J ps W', Grow W W' → It2 J ps W' → P ps → R J W'.h) → wi σ W.h R
section
variable {K : PySem.W.Frag} {ta tb te : TE} {tt : TT} {ar : TA} {ρ : List En} {P PA PB : D → Prop} {R : En → Prop}
theorem sq_l {H : Hp} {a : Addr} {xs : List V} (h : H a = some (.lst xs)) : SqL K H a xs := .inl (.inl h)
theorem sq_t {H : Hp} {a : Addr} {xs : List V} (h : H a = some (.tup xs)) : SqT K H a xs := .inl (.inl h)
theorem iv_list (h : ED te ρ (fun d => ∃ ds, d = .lst ds ∧ P (.lst ds))) : IV1 (iList K te) ρ (fun ds => P (.lst ds)) := fun W0 W σ E R q => h W0 W σ E _ fun v d W' g r ⟨ds, e, p⟩ => by
  subst e
  cases r with
  | lst ha hr =>
    rename_i a ws
    have hl := hr.len
    refine ⟨a, rfl, ⟨ws, sq_l (W'.le _ _ ha)⟩, q _ ds W' g ⟨fun W2 e2 i hi => ⟨ws, ws[i]'(by omega), sq_l (W2.le _ _ (e2 _ _ ha)), List.getElem?_eq_getElem (by omega)⟩, fun W2 e2 => ⟨ws, sq_l (W2.le _ _ (e2 _ _ ha)), by omega⟩, fun W2 e2 i x H' hi y => ?_⟩ p⟩
    have hx := y.2 ws (sq_l (W2.le _ _ (e2 _ _ ha)))
    obtain ⟨d, e, r⟩ := (hr.mono e2).at hx
    exact ⟨y.1, d, e, r⟩
theorem iv_listL {ds : List D} (h : ED te ρ (· = .lst ds)) : IV1 (iList K te) ρ (· = ds) := fun W0 W σ E R q =>
  iv_list (P := fun d => d = .lst ds) (h.imp fun d e => ⟨ds, e, e.symm ▸ rfl⟩) W0 W σ E R fun J es W' g i p => q J es W' g i (D.lst.inj p)
theorem iv_tupT {ds : List D} (h : ED te ρ (· = .tup ds)) : IV1 (iTup K te) ρ (· = ds) := fun W0 W σ E R q => h W0 W σ E _ fun v d W' g r e => by
  subst e
  cases r with
  | tup ha hr =>
    rename_i a ws
    have hl := hr.len
    refine ⟨a, rfl, ⟨ws, sq_t (W'.le _ _ ha)⟩, q _ ds W' g ⟨fun W2 e2 i hi => ⟨ws, ws[i]'(by omega), sq_t (W2.le _ _ (e2 _ _ ha)), List.getElem?_eq_getElem (by omega)⟩, fun W2 e2 => ⟨ws, sq_t (W2.le _ _ (e2 _ _ ha)), by omega⟩, fun W2 e2 i x H' hi y => ?_⟩ rfl⟩
    have hx := y.2 ws (sq_t (W2.le _ _ (e2 _ _ ha)))
    obtain ⟨d, e, r⟩ := (hr.mono e2).at hx
    exact ⟨y.1, d, e, r⟩
/-- a walk over a list or a tuple -/
def iSeq (K : PySem.W.Frag) (tl : TE) : TI := fun σ H R => iList K tl σ H R ∨ iTup K tl σ H R
theorem iv_list1 {ds : List D} (h : ED te ρ (· = .lst ds)) : IV1 (iSeq K te) ρ (· = ds) := fun W0 W σ E R q => .inl (iv_listL h W0 W σ E R q)
theorem iv_tup1 {ds : List D} (h : ED te ρ (· = .tup ds)) : IV1 (iSeq K te) ρ (· = ds) := fun W0 W σ E R q => .inr (iv_tupT h W0 W σ E R q)
inductive Sq : D → List D → Prop where
  | lst (ds : List D) : Sq (.lst ds) ds
  | tup (ds : List D) : Sq (.tup ds) ds
theorem iv_sq {x : D} {ds : List D} (s : Sq x ds) (h : ED te ρ (· = x)) : IV1 (iSeq K te) ρ (· = ds) := by
  cases s with
  | lst => exact iv_list1 h
  | tup => exact iv_tup1 h
def chs (s : List Nat) : List D := s.map fun c => .str [c]
theorem iv_str1 {s : List Nat} (h : ED te ρ (· = .str s)) : IV1 (iStr te) ρ (· = chs s) := fun W0 W σ E R q => h W0 W σ E _ fun v d W' g r e => by
  subst e
  cases r
  refine ⟨⟨s.toArray⟩, rfl, q _ (chs s) W' g ⟨fun W2 e2 i hi => ?_, fun W2 e2 => ?_, fun W2 e2 i x H' hi y => ?_⟩ rfl⟩
  · have : i < s.length := by simpa [chs] using hi
    simpa [Its] using this
  · simp [Its, chs]
  · obtain ⟨c, h1, h2⟩ := y.2
    have h1' : s[i]? = some c := by simpa using h1
    exact ⟨y.1, .str [c], by simp [chs, h1'], by rw [h2]; exact .str [c]⟩
def ixs (n : Nat) : List D := (List.range n).map fun (i : Nat) => D.int (i : Int)
theorem ixs_get {n i : Nat} (h : i < n) : (ixs n)[i]? = some (.int i) := by simp [ixs, h]
theorem iv_rngP {T : Int → Prop} (h : EA ar ρ (fun ds => ∃ n, ds = [.int n] ∧ n ≤ 100000 ∧ -100000 ≤ n ∧ T n)) : IV1 (iRng1 ar) ρ (fun ds => ∃ n : Int, ds = ixs n.toNat ∧ T n) := fun W0 W σ E R q => h W0 W σ E _ fun vs ds W' g r ⟨n, e, h1, h2, t⟩ => by
  subst e
  cases r with
  | cons r rr =>
    cases rr
    cases r
    refine ⟨n, rfl, by omega, by omega, q _ (ixs n.toNat) W' g ⟨fun W2 e2 i hi => ?_, fun W2 e2 => ?_, fun W2 e2 i x H' hi y => ?_⟩ ⟨n, rfl, t⟩⟩
    · have : i < n.toNat := by simpa [ixs] using hi
      exact this
    · show n.toNat ≤ (ixs n.toNat).length
      simp [ixs]
    · have hi' : i < n.toNat := by simpa [ixs] using hi
      refine ⟨y.1, .int i, ixs_get hi', ?_⟩
      have e3 : x = .int (0 + (i : Int)) := y.2
      rw [e3, Int.zero_add]
      exact .int _
theorem iv_rng1 {n : Int} (h : EA ar ρ (· = [.int n])) (h1 : n ≤ 100000) (h2 : -100000 ≤ n) : IV1 (iRng1 ar) ρ (· = ixs n.toNat) := fun W0 W σ E R q =>
  iv_rngP (T := fun m => m = n) (h.imp fun ds e => ⟨n, e, h1, h2, rfl⟩) W0 W σ E R fun J ds W' g i ⟨m, e, e2⟩ => q J ds W' g i (by rw [e, e2])
/-- what zip goes over -/
inductive Its1 : D → List D → Prop where
  | lst (ds : List D) : Its1 (.lst ds) ds
  | tup (ds : List D) : Its1 (.tup ds) ds
  | str (s : List Nat) : Its1 (.str s) (chs s)
theorem Sq.its {x : D} {ds : List D} (s : Sq x ds) : Its1 x ds := by
  cases s with
  | lst => exact .lst _
  | tup => exact .tup _
theorem src {H : Hp} {d : D} {ds : List D} {v : V} (i : Its1 d ds) (r : Rep H d v) : ∃ (k : Sk) (xs : List V), v = k.val ∧ Reps H ds xs ∧ ∀ H', Ex H H' → k.has K H' xs := by
  cases i with
  | lst =>
    cases r with
    | lst ha hr => exact ⟨.lst _, _, rfl, hr, fun H' e => sq_l (e _ _ ha)⟩
  | tup =>
    cases r with
    | tup ha hr => exact ⟨.tup _, _, rfl, hr, fun H' e => sq_t (e _ _ ha)⟩
  | str s =>
    cases r
    refine ⟨.txt ⟨s.toArray⟩, s.map fun c => .str ⟨#[c]⟩, rfl, ?_, fun H' e => by simp [Sk.has]⟩
    induction s with
    | nil => exact .nil
    | cons c s ih => exact .cons (.str [c]) ih
theorem iv_zip {x y : D} {xs ys : List D} (hx : Its1 x xs) (hy : Its1 y ys) (h : EA ar ρ (· = [x, y])) : IV2 (iZipG K ar) ρ (· = xs.zip ys) := fun W0 W σ E R q => h W0 W σ E _ fun vs ds W' g r e => by
  subst e
  cases r with
  | cons r1 rr =>
    cases rr with
    | cons r2 rr =>
      cases rr
      obtain ⟨k1, us, rfl, ru, hu⟩ := src (K := K) hx r1
      obtain ⟨k2, ws, rfl, rw', hw⟩ := src (K := K) hy r2
      have l1 := ru.len
      have l2 := rw'.len
      refine ⟨k1, k2, us, ws, rfl, hu _ W'.le, hw _ W'.le, q _ (xs.zip ys) W' g ⟨fun W2 e2 i hi => ?_, fun W2 e2 => ?_, fun W2 e2 i v H' hi y => ?_⟩ rfl⟩
      · have : i < min xs.length ys.length := by simpa using hi
        exact ⟨us, ws, hu _ (e2.tr W2.le), hw _ (e2.tr W2.le), by omega, by omega⟩
      · refine ⟨us, ws, hu _ (e2.tr W2.le), hw _ (e2.tr W2.le), ?_⟩
        rw [List.length_zip]; omega
      · obtain ⟨T, a, c, h1, h2, h3, h4, h5⟩ := y
        obtain ⟨d1, e3, q1⟩ := (ru.mono e2).at (h4 us (hu _ (e2.tr W2.le)))
        obtain ⟨d2, e4, q2⟩ := (rw'.mono e2).at (h5 ws (hw _ (e2.tr W2.le)))
        exact ⟨T, a, c, (d1, d2), h1, h2, h3, by rw [List.getElem?_zip_eq_some]; exact ⟨e3, e4⟩, q1, q2⟩
theorem iv_enum {s : List Nat} (h : EA ar ρ (· = [.str s])) : IV2 (iEnumS ar) ρ (· = (ixs s.length).zip (chs s)) := fun W0 W σ E R q => h W0 W σ E _ fun vs ds W' g r e => by
  subst e
  cases r with
  | cons r rr =>
    cases rr
    cases r
    have hl : ((ixs s.length).zip (chs s)).length = s.length := by simp [ixs, chs]
    refine ⟨⟨s.toArray⟩, rfl, q _ _ W' g ⟨fun W2 e2 i hi => ?_, fun W2 e2 => ?_, fun W2 e2 i v H' hi y => ?_⟩ rfl⟩
    · rw [hl] at hi
      show i < s.toArray.size
      simpa using hi
    · rw [hl]
      show s.length = s.toArray.size
      simp
    · rw [hl] at hi
      obtain ⟨T, c, h1, h2, h3, h4⟩ := y
      have h4' : s[i]? = some c := by simpa using h4
      refine ⟨T, _, _, (.int i, .str [c]), h1, h2, h3, ?_, .int _, .str [c]⟩
      rw [List.getElem?_zip_eq_some]
      exact ⟨ixs_get hi, by simp [chs, h4']⟩
end
/-! ### comprehensions -/
section
variable {ρ : List En} {te : TE} {tt : TT} {wi : TI}
/-- what stands within a comprehension -/
structure Lc (W : Wd) (Dd : Addr) (Inv : Nat → List D → Prop) (i : Nat) (H : Hp) : Prop where
  ex : ∃ (W' : Wd) (acc : List D) (ws : List V), W'.h = H ∧ Grow W W' ∧ W'.h Dd = some (.lst ws) ∧ W'.b Dd = none ∧ Reps W'.b acc ws ∧ acc.length ≤ i ∧ Inv i acc
theorem lc_step {W0 W W' : Wd} {σ : L2.St} {ρ' : List En} {Dd : Addr} {Inv : Nat → List D → Prop} {i : Nat} {acc : List D} {ws : List V} (hD : W.h Dd = none) (E : Env W0 W' σ ρ') (g : Grow W W') (h1 : W'.h Dd = some (.lst ws)) (h2 : W'.b Dd = none) (r : Reps W'.b acc ws) (hl : acc.length ≤ i) (hi : i < 100000)
    (t : ET tt ρ' fun b => if b = true then ED te ρ' fun y => Inv (i + 1) (acc ++ [y]) else Inv (i + 1) acc) :
    tt σ W'.h fun b H3 => if b = true then te σ H3 fun y H4 => ∃ acc, H4 Dd = some (.lst acc) ∧ acc.length < sizeLine ∧ Lc W Dd Inv (i + 1) (upd H4 Dd (.lst (acc ++ [y]))) else Lc W Dd Inv (i + 1) H3 := by
  refine t W0 W' σ E _ fun b W2 g2 p => ?_
  cases b with
  | false => exact iteF ⟨W2, acc, ws, rfl, g.trans g2, g2.h _ _ h1, g2.nw Dd h2 (by rw [h1]; exact fun z => nomatch z), r.mono g2.b, by omega, p⟩
  | true =>
    refine iteT (p W0 W2 σ (E.grow g2) _ fun y d W3 g3 r3 p3 => ?_)
    have k1 : W3.h Dd = some (.lst ws) := g3.h _ _ (g2.h _ _ h1)
    have k2 : W3.b Dd = none := g3.nw Dd (g2.nw Dd h2 (by rw [h1]; exact fun z => nomatch z)) (by rw [g2.h _ _ h1]; exact fun z => nomatch z)
    have hlen := r.len
    refine ⟨ws, k1, Evl.sz_lt (by omega), ⟨⟨W3.b, upd W3.h Dd (.lst (ws ++ [y])), fun a o e => ?_⟩, acc ++ [d], ws ++ [y], rfl, ⟨((g.trans g2).trans g3).b, fun a o e => ?_, ((g.trans g2).trans g3).nw⟩, upd_same, k2, (r.mono (g2.trans g3).b).app (.cons r3 .nil), by rw [List.length_append]; simp; omega, p3⟩⟩
    · show upd W3.h Dd _ a = some o
      rw [upd_ne (fun z => by rw [z, k2] at e; cases e)]; exact W3.le _ _ e
    · show upd W3.h Dd _ a = some o
      rw [upd_ne (ne_of_none e hD)]; exact ((g.trans g2).trans g3).h _ _ e
theorem set_wipe {σ : L2.St} {j : Nat} {x : Option V} : (((σ.set j none).set j x).set j none) = σ.set j none := by rw [List.set_set, List.set_set]
theorem e_lc1 {j : Nat} {T : List D → Prop} {Inv : List D → Nat → List D → Prop} (h : IV1 wi ρ T) (hn : ∀ ds, T ds → ds.length ≤ 100000) (h0 : ∀ ds, T ds → Inv ds 0 [])
    (hs : ∀ ds i d acc, T ds → ds[i]? = some d → Inv ds i acc → ET tt (ρ.set j (.dat d)) fun b => if b = true then ED te (ρ.set j (.dat d)) fun y => Inv ds (i + 1) (acc ++ [y]) else Inv ds (i + 1) acc) :
    EV (tLc wi (gName j) tt te [j]) ρ (fun e => ∃ ds acc, e = .own acc ∧ T ds ∧ Inv ds ds.length acc) := fun W0 W σ E Q q => h W0 W σ E _ fun J ds W1 g1 it t Dd hD => by
  have E1 := E.grow g1
  refine ⟨fun i m H => i ≤ ds.length ∧ m = ds.length - i ∧ Lc W1 Dd (Inv ds) i H, ⟨ds.length, Nat.zero_le _, rfl, ⟨W1.add Dd (.lst []) hD, [], [], rfl, Grow.add hD, upd_same, W1.le.none' hD, .nil, Nat.le_refl _, h0 ds t⟩⟩, ?_⟩
  rintro i m H ⟨hi, hm, ⟨W', acc, ws, rfl, g, k1, k2, r, hl, inv⟩⟩
  by_cases hlt : i < ds.length
  · refine .inr ⟨it.go W' g.b i hlt, fun H' => Lc W1 Dd (Inv ds) (i + 1) H', fun H' l => ⟨ds.length - (i + 1), by omega, hlt, rfl, l⟩, fun x H' y => ?_⟩
    obtain ⟨e, d, hd, rd⟩ := it.yld W' g.b i x H' hlt y
    subst e
    have E2 : Env W0 W' ((σ.set j none).set j (some x)) ((ρ.set j .un).set j (.dat d)) := Env.set ((E1.grow g).drop j none) (Grow.refl W') (e := .dat d) rd j
    have er : (ρ.set j .un).set j (.dat d) = ρ.set j (.dat d) := List.set_set ..
    rw [er] at E2
    exact ⟨set_wipe, lc_step hD E2 g k1 k2 r hl (by have := hn ds t; omega) (hs ds i d acc t hd inv)⟩
  · have e : i = ds.length := by omega
    subst e
    exact .inl ⟨it.stop W' g.b, q _ (.own acc) W' (g1.trans g) ⟨Dd, ws, rfl, k1, k2, g1.h.none' hD, r⟩ ⟨ds, acc, rfl, t, inv⟩⟩
theorem set_wipe2 {σ : L2.St} {j k : Nat} {x y : Option V} (hjk : j ≠ k) : ((((((σ.set k none).set j none).set j x).set k y).set k none).set j none) = (σ.set k none).set j none := by
  have a : ((σ.set k none).set j none).set j x = (σ.set k none).set j x := List.set_set ..
  have b : (((σ.set k none).set j x).set k y).set k none = ((σ.set k none).set j x).set k none := List.set_set ..
  have c : ((σ.set k none).set j x).set k none = ((σ.set k none).set k none).set j x := List.set_comm _ _ hjk
  have d : (σ.set k none).set k none = σ.set k none := List.set_set ..
  rw [a, b, c, d]
  exact List.set_set ..
theorem e_lc2 {j k : Nat} {T : List (D × D) → Prop} {Inv : List (D × D) → Nat → List D → Prop} (h : IV2 wi ρ T) (hjk : j ≠ k) (hn : ∀ ds, T ds → ds.length ≤ 100000) (h0 : ∀ ds, T ds → Inv ds 0 [])
    (hs : ∀ ds i d acc, T ds → ds[i]? = some d → Inv ds i acc → ET tt ((ρ.set j (.dat d.1)).set k (.dat d.2)) fun b => if b = true then ED te ((ρ.set j (.dat d.1)).set k (.dat d.2)) fun y => Inv ds (i + 1) (acc ++ [y]) else Inv ds (i + 1) acc) {K : PySem.W.Frag} :
    EV (tLc wi (gTup K 2 (gCons (gName j) (gCons (gName k) gNil))) tt te [j, k]) ρ (fun e => ∃ ds acc, e = .own acc ∧ T ds ∧ Inv ds ds.length acc) := fun W0 W σ E Q q => h W0 W σ E _ fun J ds W1 g1 it t Dd hD => by
  have E1 := E.grow g1
  refine ⟨fun i m H => i ≤ ds.length ∧ m = ds.length - i ∧ Lc W1 Dd (Inv ds) i H, ⟨ds.length, Nat.zero_le _, rfl, ⟨W1.add Dd (.lst []) hD, [], [], rfl, Grow.add hD, upd_same, W1.le.none' hD, .nil, Nat.le_refl _, h0 ds t⟩⟩, ?_⟩
  rintro i m H ⟨hi, hm, ⟨W', acc, ws, rfl, g, k1, k2, r, hl, inv⟩⟩
  by_cases hlt : i < ds.length
  · refine .inr ⟨it.go W' g.b i hlt, fun H' => Lc W1 Dd (Inv ds) (i + 1) H', fun H' l => ⟨ds.length - (i + 1), by omega, hlt, rfl, l⟩, fun v H' yy => ?_⟩
    obtain ⟨Tt, x, y, d, rfl, hT, rfl, hd, rx, ry⟩ := it.yld W' g.b i v H' hlt yy
    have gT := Grow.add (W := W') (o := .tup [x, y]) hT
    have neD : Dd ≠ Tt := fun z => by rw [z, hT] at k1; cases k1
    have E2 : Env W0 (W'.add Tt (.tup [x, y]) hT) (((σ.set k none).set j none).set j (some x)) (((ρ.set k .un).set j .un).set j (.dat d.1)) := Env.set ((((E1.grow g).grow gT).drop k none).drop j none) (Grow.refl _) (e := .dat d.1) rx j
    have E3 := Env.set E2 (Grow.refl _) (e := .dat d.2) ry k
    have er : ((((ρ.set k .un).set j .un).set j (.dat d.1)).set k (.dat d.2)) = ((ρ.set j (.dat d.1)).set k (.dat d.2)) := by
      rw [List.set_set, List.set_comm _ _ (show k ≠ j from hjk.symm), List.set_set]
    rw [er] at E3
    refine ⟨Tt, [x, y], rfl, sq_t upd_same, rfl, x, [y], rfl, y, [], rfl, rfl, set_wipe2 hjk, ?_⟩
    exact lc_step (W' := W'.add Tt (.tup [x, y]) hT) hD E3 (g.trans gT) (by show upd W'.h Tt _ Dd = _; rw [upd_ne neD]; exact k1) k2 r hl (by have := hn ds t; omega) (hs ds i d acc t hd inv)
  · have e : i = ds.length := by omega
    subst e
    exact .inl ⟨it.stop W' g.b, q _ (.own acc) W' (g1.trans g) ⟨Dd, ws, rfl, k1, k2, g1.h.none' hD, r⟩ ⟨ds, acc, rfl, t, inv⟩⟩
end
end Nt

namespace Nt
open PySem PySem.Spec PyProof.Rows L2
/-! ### own lists that change -/
theorem Env.mut {W0 W : Wd} {σ : L2.St} {ρ : List En} (E : Env W0 W σ ρ) {i : Nat} {ds ds' : List D} (h : ρ[i]? = some (.own ds)) :
    ∃ l vs, σ[i]? = some (some (.ref l)) ∧ W.h l = some (.lst vs) ∧ W0.h l = none ∧ Reps W.b ds vs ∧ ∀ vs', Reps W.b ds' vs' → ∃ W' : Wd, W'.b = W.b ∧ W'.h = upd W.h l (.lst vs') ∧ Env W0 W' σ (ρ.set i (.own ds')) := by
  obtain ⟨v, hv, l, vs, rfl, h1, h2, h3, h4⟩ := E.ent i _ h (fun z => nomatch z)
  refine ⟨l, vs, hv, h1, h3, h4, fun vs' r => ⟨⟨W.b, upd W.h l (.lst vs'), fun a o e => ?_⟩, rfl, rfl, ⟨⟨E.g.b, fun a o e => ?_, E.g.nw⟩, by rw [List.length_set, E.len], fun j e' hj n => ?_, fun j k e1 e2 l' a1 a2 t1 t2 a3 a4 => ?_⟩⟩⟩
  · show upd W.h l _ a = some o
    rw [upd_ne (fun z => by rw [z, h2] at e; cases e)]; exact W.le _ _ e
  · show upd W.h l _ a = some o
    rw [upd_ne (ne_of_none e h3)]; exact E.g.h _ _ e
  · rcases set_get hj with ⟨rfl, rfl, _⟩ | ⟨hne, hj⟩
    · exact ⟨_, hv, l, vs', rfl, upd_same, h2, h3, r⟩
    · obtain ⟨v', a, b⟩ := E.ent j e' hj n
      refine ⟨v', a, ?_⟩
      cases e' with
      | un => exact absurd rfl n
      | dat d => exact b
      | own es =>
        obtain ⟨l2, ws, rfl, w1, w2, w3, w4⟩ := b
        refine ⟨l2, ws, rfl, ?_, w2, w3, w4⟩
        show upd W.h l _ l2 = _
        rw [upd_ne (fun z => hne (E.apart j i _ _ l hj h rfl rfl (by rw [← z]; exact a) hv))]
        exact w1
      | dct es =>
        obtain ⟨l2, ws, rfl, w1, w2, w3, w4⟩ := b
        refine ⟨l2, ws, rfl, ?_, w2, w3, w4⟩
        show upd W.h l _ l2 = _
        rw [upd_ne (fun z => hne (E.apart j i _ _ l hj h rfl rfl (by rw [← z]; exact a) hv))]
        exact w1
  · rcases set_get a1 with ⟨q1, q, _⟩ | ⟨n1, m1⟩
    · rcases set_get a2 with ⟨q2, q', _⟩ | ⟨n2, m2⟩
      · rw [q1, q2]
      · rw [q1] at a3 ⊢
        exact E.apart i k _ _ l' h m2 rfl t2 a3 a4
    · rcases set_get a2 with ⟨q2, q', _⟩ | ⟨n2, m2⟩
      · rw [q2] at a4 ⊢
        exact E.apart j i _ _ l' m1 h t1 rfl a3 a4
      · exact E.apart j k _ _ l' m1 m2 t1 t2 a3 a4
/-- an own dict that changes -/
theorem Env.mutK {W0 W : Wd} {σ : L2.St} {ρ : List En} (E : Env W0 W σ ρ) {i : Nat} {kd kd' : List (Key × D)} (h : ρ[i]? = some (.dct kd)) :
    ∃ l kvs, σ[i]? = some (some (.ref l)) ∧ W.h l = some (.dK kvs) ∧ W0.h l = none ∧ RepK W.b kd kvs ∧ ∀ kvs', RepK W.b kd' kvs' → ∃ W' : Wd, W'.b = W.b ∧ W'.h = upd W.h l (.dK kvs') ∧ Env W0 W' σ (ρ.set i (.dct kd')) := by
  obtain ⟨v, hv, l, vs, rfl, h1, h2, h3, h4⟩ := E.ent i _ h (fun z => nomatch z)
  refine ⟨l, vs, hv, h1, h3, h4, fun vs' r => ⟨⟨W.b, upd W.h l (.dK vs'), fun a o e => ?_⟩, rfl, rfl, ⟨⟨E.g.b, fun a o e => ?_, E.g.nw⟩, by rw [List.length_set, E.len], fun j e' hj n => ?_, fun j k e1 e2 l' a1 a2 t1 t2 a3 a4 => ?_⟩⟩⟩
  · show upd W.h l _ a = some o
    rw [upd_ne (fun z => by rw [z, h2] at e; cases e)]; exact W.le _ _ e
  · show upd W.h l _ a = some o
    rw [upd_ne (ne_of_none e h3)]; exact E.g.h _ _ e
  · rcases set_get hj with ⟨rfl, rfl, _⟩ | ⟨hne, hj⟩
    · exact ⟨_, hv, l, vs', rfl, upd_same, h2, h3, r⟩
    · obtain ⟨v', a, b⟩ := E.ent j e' hj n
      refine ⟨v', a, ?_⟩
      cases e' with
      | un => exact absurd rfl n
      | dat d => exact b
      | own es =>
        obtain ⟨l2, ws, rfl, w1, w2, w3, w4⟩ := b
        refine ⟨l2, ws, rfl, ?_, w2, w3, w4⟩
        show upd W.h l _ l2 = _
        rw [upd_ne (fun z => hne (E.apart j i _ _ l hj h rfl rfl (by rw [← z]; exact a) hv))]
        exact w1
      | dct es =>
        obtain ⟨l2, ws, rfl, w1, w2, w3, w4⟩ := b
        refine ⟨l2, ws, rfl, ?_, w2, w3, w4⟩
        show upd W.h l _ l2 = _
        rw [upd_ne (fun z => hne (E.apart j i _ _ l hj h rfl rfl (by rw [← z]; exact a) hv))]
        exact w1
  · rcases set_get a1 with ⟨q1, q, _⟩ | ⟨n1, m1⟩
    · rcases set_get a2 with ⟨q2, q', _⟩ | ⟨n2, m2⟩
      · rw [q1, q2]
      · rw [q1] at a3 ⊢
        exact E.apart i k _ _ l' h m2 rfl t2 a3 a4
    · rcases set_get a2 with ⟨q2, q', _⟩ | ⟨n2, m2⟩
      · rw [q2] at a4 ⊢
        exact E.apart j i _ _ l' m1 h t1 rfl a3 a4
      · exact E.apart j k _ _ l' m1 m2 t1 t2 a3 a4
/-- an own list is asked, what comes is flat -/
theorem Env.lend {W0 W : Wd} {σ : L2.St} {ρ : List En} (E : Env W0 W σ ρ) {i : Nat} {ds : List D} (h : ρ[i]? = some (.own ds)) :
    ∃ W1 : Wd, W1.h = W.h ∧ Env W0 W1 σ (ρ.set i (.dat (.lst ds))) ∧ ∀ W2 : Wd, Grow W1 W2 → ∃ W3 : Wd, W3.h = W2.h ∧ Grow W W3 := by
  obtain ⟨W1, e1, e2, E1⟩ := E.freeze h
  have gh : ∀ W2 : Wd, Grow W1 W2 → Ex W.h W2.h := fun W2 g => by rw [← e1]; exact g.h
  exact ⟨W1, e1, E1, fun W2 g => ⟨⟨W.b, W2.h, W.le.tr (gh W2 g)⟩, rfl, ⟨Ex.rfl', gh W2 g, fun _ z _ => z⟩⟩⟩
/-! ### statements -/
structure Ps where
  N : List En → Prop
  R : En → Prop
  B : List En → Prop := fun _ => False
  C : List En → Prop := fun _ => False
def TT' (ts : TS) (ρ : List En) (p : Ps) : Prop := ∀ W0 W σ, Env W0 W σ ρ → ∀ Dd : Ends, (∀ σ' W' ρ', Env W0 W' σ' ρ' → Ex W.b W'.b → p.N ρ' → Dd.nx σ' W'.h) → (∀ v e W', Grow W0 W' → RepV W0 W' e v → p.R e → Dd.rt v W'.h) →
  (∀ σ' W' ρ', Env W0 W' σ' ρ' → Ex W.b W'.b → p.B ρ' → Dd.bk σ' W'.h) → (∀ σ' W' ρ', Env W0 W' σ' ρ' → Ex W.b W'.b → p.C ρ' → Dd.ct σ' W'.h) → ts Dd σ W.h
section
variable {K : PySem.W.Frag} {ta tb te : TE} {tt : TT} {ar : TA} {ρ : List En} {p : Ps} {t u : TS} {wi : TI} {P : En → Prop} {PD : D → Prop} {T : Bool → Prop}
theorem t_seq {M : List En → Prop} (h : TT' t ρ { p with N := M }) (k : ∀ ρ', M ρ' → TT' u ρ' p) : TT' (tSeq t u) ρ p := fun W0 W σ E Dd nx rt bk ct =>
  h W0 W σ E { Dd with nx := u Dd } (fun σ' W' ρ' E' e m => k ρ' m W0 W' σ' E' Dd (fun σ2 W2 ρ2 E2 e2 n => nx σ2 W2 ρ2 E2 (e.tr e2) n) rt (fun σ2 W2 ρ2 E2 e2 n => bk σ2 W2 ρ2 E2 (e.tr e2) n) (fun σ2 W2 ρ2 E2 e2 n => ct σ2 W2 ρ2 E2 (e.tr e2) n)) rt bk ct
theorem t_next (h : p.N ρ) : TT' tNext ρ p := fun W0 W σ E Dd nx _ _ _ => nx σ W ρ E Ex.rfl' h
theorem t_break (h : p.B ρ) : TT' tBreak ρ p := fun W0 W σ E Dd _ _ bk _ => bk σ W ρ E Ex.rfl' h
theorem t_cont (h : p.C ρ) : TT' tCont ρ p := fun W0 W σ E Dd _ _ _ ct => ct σ W ρ E Ex.rfl' h
theorem t_asg {i : Nat} (h : EV te ρ P) (k : ∀ e, P e → p.N (ρ.set i e)) : TT' (tAsg te (gName i)) ρ p := fun W0 W σ E Dd nx _ _ _ => h W0 W σ E _ fun v e W' g r q => nx _ W' _ (E.set g r i) g.b (k e q)
theorem t_asgd {i : Nat} (h : ED te ρ PD) (k : ∀ d, PD d → p.N (ρ.set i (.dat d))) : TT' (tAsg te (gName i)) ρ p := t_asg h.ev fun e ⟨d, q, r⟩ => by rw [q]; exact k d r
theorem q_asg {i : Nat} (h : EV te ρ P) (k : ∀ e, P e → TT' u (ρ.set i e) p) : TT' (tSeq (tAsg te (gName i)) u) ρ p := t_seq (M := fun ρ' => TT' u ρ' p) (t_asg h k) fun _ q => q
theorem q_asgd {i : Nat} (h : ED te ρ PD) (k : ∀ d, PD d → TT' u (ρ.set i (.dat d)) p) : TT' (tSeq (tAsg te (gName i)) u) ρ p := t_seq (M := fun ρ' => TT' u ρ' p) (t_asgd h k) fun _ q => q
theorem q_asg1 {i : Nat} {d : D} (h : ED te ρ (· = d)) (k : TT' u (ρ.set i (.dat d)) p) : TT' (tSeq (tAsg te (gName i)) u) ρ p := q_asgd h fun x e => by rw [e]; exact k
theorem q_asgo {i : Nat} {ds : List D} (h : EV te ρ (· = .own ds)) (k : TT' u (ρ.set i (.own ds)) p) : TT' (tSeq (tAsg te (gName i)) u) ρ p := q_asg h fun x e => by rw [e]; exact k
theorem t_ret (h : EV te ρ P) (k : ∀ e, P e → p.R e) : TT' (tRet te) ρ p := fun W0 W σ E Dd _ rt _ _ => h W0 W σ E _ fun v e W' g r q => rt v e W' (E.g.trans g) (r.back E.g.h) (k e q)
theorem t_retd (h : ED te ρ PD) (k : ∀ d, PD d → p.R (.dat d)) : TT' (tRet te) ρ p := t_ret h.ev fun e ⟨d, q, r⟩ => by rw [q]; exact k d r
theorem t_ret1 {d : D} (h : ED te ρ (· = d)) (k : p.R (.dat d)) : TT' (tRet te) ρ p := t_retd h fun _ e => by rw [e]; exact k
/-- an own list is handed back -/
theorem t_retO {i : Nat} {ds : List D} (h : ρ[i]? = some (.own ds)) (k : p.R (.own ds)) : TT' (tRet (tVar i)) ρ p := fun W0 W σ E Dd _ rt _ _ => by
  obtain ⟨v, a, r⟩ := E.ent i _ h (fun z => nomatch z)
  exact ⟨v, a, rt v _ W E.g r k⟩
theorem t_if (h : ET tt ρ T) (h1 : T true → TT' t ρ p) (h2 : T false → TT' u ρ p) : TT' (tIfS tt t u) ρ p := fun W0 W σ E Dd nx rt bk ct => h W0 W σ E _ fun b W' g q => by
  have f : ∀ {X : List En → Prop} {Y : L2.St → Hp → Prop}, (∀ σ' W' ρ', Env W0 W' σ' ρ' → Ex W.b W'.b → X ρ' → Y σ' W'.h) → (∀ σ' W2 ρ', Env W0 W2 σ' ρ' → Ex W'.b W2.b → X ρ' → Y σ' W2.h) := fun z σ' W2 ρ' E2 e2 x => z σ' W2 ρ' E2 (g.b.tr e2) x
  cases b with
  | true => exact iteT (h1 q W0 W' σ (E.grow g) Dd (f nx) rt (f bk) (f ct))
  | false => exact iteF (h2 q W0 W' σ (E.grow g) Dd (f nx) rt (f bk) (f ct))
theorem q_if (h : ET tt ρ T) (h1 : T true → TT' t ρ { p with N := fun ρ' => TT' u ρ' p }) (h2 : T false → TT' u ρ p) : TT' (tSeq (tIfS tt t tNext) u) ρ p :=
  t_seq (M := fun ρ' => TT' u ρ' p) (t_if h h1 fun q => t_next (h2 q)) fun _ q => q
theorem q_if1 {b : Bool} (h : ET tt ρ (· = b)) (h1 : b = true → TT' t ρ { p with N := fun ρ' => TT' u ρ' p }) (h2 : b = false → TT' u ρ p) : TT' (tSeq (tIfS tt t tNext) u) ρ p := q_if h (fun e => h1 e.symm) fun e => h2 e.symm
theorem q_ife {v : TS} (h : ET tt ρ T) (h1 : T true → TT' t ρ { p with N := fun ρ' => TT' u ρ' p }) (h2 : T false → TT' v ρ { p with N := fun ρ' => TT' u ρ' p }) : TT' (tSeq (tIfS tt t v) u) ρ p :=
  t_seq (M := fun ρ' => TT' u ρ' p) (t_if h h1 h2) fun _ q => q
theorem t_imp {p' : Ps} (h : TT' t ρ p') (n : ∀ r, p'.N r → p.N r) (r : ∀ r, p'.R r → p.R r) (b : ∀ r, p'.B r → p.B r) (c : ∀ r, p'.C r → p.C r) : TT' t ρ p := fun W0 W σ E Dd nx rt bk ct =>
  h W0 W σ E Dd (fun a b c d e f => nx a b c d e (n _ f)) (fun v e W' g q z => rt v e W' g q (r _ z)) (fun a x c d e f => bk a x c d e (b _ f)) (fun a b x d e f => ct a b x d e (c _ f))
/-- an own list is data from here on -/
theorem t_freeze {i : Nat} {ds : List D} (h : ρ[i]? = some (.own ds)) (k : TT' t (ρ.set i (.dat (.lst ds))) p) : TT' t ρ p := fun W0 W σ E Dd nx rt bk ct => by
  obtain ⟨W1, e1, e2, E1⟩ := E.freeze h
  rw [← e1]
  exact k W0 W1 σ E1 Dd (fun σ' W' ρ' E' e n => nx σ' W' ρ' E' (e2.tr e) n) rt (fun σ' W' ρ' E' e n => bk σ' W' ρ' E' (e2.tr e) n) (fun σ' W' ρ' E' e n => ct σ' W' ρ' E' (e2.tr e) n)
theorem e_lend {i : Nat} {ds : List D} (h : ρ[i]? = some (.own ds)) (k : ED te (ρ.set i (.dat (.lst ds))) PD) (f : ∀ d, PD d → d.flat = true) : ED te ρ PD := fun W0 W σ E Q q => by
  obtain ⟨W1, e1, E1, z⟩ := E.lend h
  rw [← e1]
  refine k W0 W1 σ E1 Q fun v d W2 g r pd => ?_
  obtain ⟨W3, e3, g3⟩ := z W2 g
  rw [← e3]
  exact q v d W3 g3 (r.flat (f d pd)) pd
theorem et_lend {i : Nat} {ds : List D} (h : ρ[i]? = some (.own ds)) (k : ET tt (ρ.set i (.dat (.lst ds))) T) : ET tt ρ T := fun W0 W σ E Q q => by
  obtain ⟨W1, e1, E1, z⟩ := E.lend h
  rw [← e1]
  refine k W0 W1 σ E1 Q fun b W2 g pd => ?_
  obtain ⟨W3, e3, g3⟩ := z W2 g
  rw [← e3]
  exact q b W3 g3 pd
/-! loops -/
theorem t_for1 {j : Nat} {Ti : List D → Prop} (h : IV1 wi ρ Ti) (Inv : List D → Nat → List En → Prop) (h0 : ∀ ds, Ti ds → Inv ds 0 ρ)
    (hs : ∀ ds i d ρ', Ti ds → ds[i]? = some d → Inv ds i ρ' → TT' t (ρ'.set j (.dat d)) { N := Inv ds (i + 1), R := p.R, B := p.N, C := Inv ds (i + 1) }) (hd : ∀ ds ρ', Ti ds → Inv ds ds.length ρ' → p.N ρ') : TT' (tFor wi (gName j) t) ρ p := fun W0 W σ E Dd nx rt bk ct =>
  h W0 W σ E _ fun J ds W1 g1 it ti => by
    refine ⟨fun i m σ' H => i ≤ ds.length ∧ m = ds.length - i ∧ ∃ W' ρ', W'.h = H ∧ Env W0 W' σ' ρ' ∧ Ex W1.b W'.b ∧ Inv ds i ρ', ⟨ds.length, Nat.zero_le _, rfl, W1, ρ, rfl, E.grow g1, Ex.rfl', h0 ds ti⟩, ?_⟩
    rintro i m σ' H ⟨hi, hm, W', ρ', rfl, E', e', inv⟩
    by_cases hlt : i < ds.length
    · refine .inr ⟨it.go W' e' i hlt, fun σ2 H2 => ∃ W' ρ', W'.h = H2 ∧ Env W0 W' σ2 ρ' ∧ Ex W1.b W'.b ∧ Inv ds (i + 1) ρ', fun σ2 H2 l => ⟨ds.length - (i + 1), by omega, hlt, rfl, l⟩, fun x H' y => ?_⟩
      obtain ⟨e, d, hd', rd⟩ := it.yld W' e' i x H' hlt y
      subst e
      exact hs ds i d ρ' ti hd' inv W0 W' _ (E'.set (Grow.refl W') (e := .dat d) rd j) _ (fun σ2 W2 ρ2 E2 e2 n => ⟨W2, ρ2, rfl, E2, e'.tr e2, n⟩) rt (fun σ2 W2 ρ2 E2 e2 n => nx σ2 W2 ρ2 E2 ((g1.b.tr e').tr e2) n) (fun σ2 W2 ρ2 E2 e2 n => ⟨W2, ρ2, rfl, E2, e'.tr e2, n⟩)
    · have e : i = ds.length := by omega
      subst e
      exact .inl ⟨it.stop W' e', nx σ' W' ρ' E' (g1.b.tr e') (hd ds ρ' ti inv)⟩
theorem t_while (Inv : Nat → List En → Prop) (m0 : Nat) (h0 : Inv m0 ρ)
    (hs : ∀ m ρ', Inv m ρ' → ∃ T : Bool → Prop, ET tt ρ' T ∧ (T true → TT' t ρ' { N := fun r => ∃ m', m' < m ∧ Inv m' r, R := p.R, B := p.N, C := fun r => ∃ m', m' < m ∧ Inv m' r }) ∧ (T false → p.N ρ')) : TT' (tWhile tt t) ρ p := fun W0 W σ E Dd nx rt bk ct => by
  refine ⟨fun m σ' H => ∃ W' ρ', W'.h = H ∧ Env W0 W' σ' ρ' ∧ Ex W.b W'.b ∧ Inv m ρ', ⟨m0, W, ρ, rfl, E, Ex.rfl', h0⟩, ?_⟩
  rintro m σ' H ⟨W', ρ', rfl, E', e', inv⟩
  obtain ⟨T, h, h1, h2⟩ := hs m ρ' inv
  refine h W0 W' σ' E' _ fun b W2 g2 q => ?_
  cases b with
  | true =>
    refine iteT ⟨fun σ2 H2 => ∃ m', m' < m ∧ ∃ W' ρ', W'.h = H2 ∧ Env W0 W' σ2 ρ' ∧ Ex W.b W'.b ∧ Inv m' ρ', fun σ2 H2 l => l, ?_⟩
    exact h1 q W0 W2 σ' (E'.grow g2) _ (fun σ2 W3 ρ2 E2 e2 ⟨m', a, b⟩ => ⟨m', a, W3, ρ2, rfl, E2, (e'.tr g2.b).tr e2, b⟩) rt (fun σ2 W3 ρ2 E2 e2 n => nx σ2 W3 ρ2 E2 ((e'.tr g2.b).tr e2) n) (fun σ2 W3 ρ2 E2 e2 ⟨m', a, b⟩ => ⟨m', a, W3, ρ2, rfl, E2, (e'.tr g2.b).tr e2, b⟩)
  | false => exact iteF (nx σ' W2 ρ' (E'.grow g2) (e'.tr g2.b) (h2 q))
theorem q_of {M : List En → Prop} (h : TT' t ρ { p with N := M }) (k : ∀ ρ', M ρ' → TT' u ρ' p) : TT' (tSeq t u) ρ p := t_seq h k
/-! own lists by their methods -/
theorem t_app {i : Nat} {ds : List D} (h : ρ[i]? = some (.own ds)) (he : ED te ρ PD) (hl : ds.length < 100000) (k : ∀ d, PD d → p.N (ρ.set i (.own (ds ++ [d])))) : TT' (tDrop (tBM K "list" rAppend (tVar i) (tCons te tNil))) ρ p := fun W0 W σ E Dd nx rt bk ct => by
  obtain ⟨l, vs, hv, h1, _⟩ := E.mut (ds' := []) h
  refine ⟨.ref l, hv, .inl ⟨rfl, _, sq_l h1⟩, ?_⟩
  refine he W0 W σ E _ fun v d W1 g1 r1 pd => ?_
  obtain ⟨l', vs', hv', h1', _, r', z⟩ := (E.grow g1).mut (ds' := ds ++ [d]) h
  rw [hv] at hv'
  cases hv'
  obtain ⟨W2, e1, e2, E2⟩ := z (vs' ++ [v]) (r'.app (.cons r1 .nil))
  have hlen := r'.len
  refine ⟨l, vs', v, rfl, rfl, h1', Evl.sz_lt (by omega), ?_⟩
  rw [← e2]
  exact nx σ W2 _ E2 (by rw [e1]; exact g1.b) (k d pd)
theorem t_pop {i j : Nat} {ds : List D} {d : D} (h : ρ[i]? = some (.own ds)) (hd : ds[ds.length - 1]? = some d) (k : p.N ((ρ.set i (.own ds.dropLast)).set j (.dat d))) : TT' (tAsg (tBM0 K "list" rPop (tVar i)) (gName j)) ρ p := fun W0 W σ E Dd nx rt bk ct => by
  obtain ⟨l, vs, hv, h1, _, r, z⟩ := E.mut (ds' := ds.dropLast) h
  obtain ⟨v, q1, q2⟩ := r.get hd
  obtain ⟨W2, e1, e2, E2⟩ := z vs.dropLast (by rw [List.dropLast_eq_take, List.dropLast_eq_take, r.len]; exact r.take _)
  refine ⟨.ref l, hv, .inl ⟨rfl, _, sq_l h1⟩, l, vs, v, rfl, rfl, h1, by rw [r.len]; exact q1, ?_⟩
  rw [← e2]
  exact nx _ W2 _ (E2.set (Grow.refl W2) (e := .dat d) (by show Rep W2.b d v; rw [e1]; exact q2) j) (by rw [e1]; exact Ex.rfl') k
theorem reps_erase {H : Hp} : ∀ {ds : List D} {vs : List V} (k : Nat), Reps H ds vs → Reps H (ds.eraseIdx k) (vs.eraseIdx k)
  | _, _, 0, .nil => .nil
  | _, _, k + 1, .nil => .nil
  | _, _, 0, .cons _ r => r
  | _, _, k + 1, .cons h r => .cons h (reps_erase k r)
/-- found.append(rest.pop(k)) -/
theorem t_apop {i j : Nat} {xs ys : List D} (hij : i ≠ j) (hi : ρ[i]? = some (.own xs)) (hj : ρ[j]? = some (.own ys)) (ha : EA ar ρ (fun ds => ∃ k : Nat, ds = [.int k] ∧ k < ys.length)) (hl : xs.length < 100000) (hl2 : ys.length ≤ 100000)
    (k : ∀ (k : Nat) y, ys[k]? = some y → p.N ((ρ.set j (.own (ys.eraseIdx k))).set i (.own (xs ++ [y])))) : TT' (tDrop (tBM K "list" rAppend (tVar i) (tCons (tBM K "list" rPopAt (tVar j) ar) tNil))) ρ p := fun W0 W σ E Dd nx rt bk ct => by
  obtain ⟨l, vs, hv, h1, _⟩ := E.mut (ds' := []) hi
  obtain ⟨l2, vs2, hv2, h2, _⟩ := E.mut (ds' := []) hj
  refine ⟨.ref l, hv, .inl ⟨rfl, _, sq_l h1⟩, .ref l2, hv2, .inl ⟨rfl, _, sq_l h2⟩, ?_⟩
  refine ha W0 W σ E _ fun ws ds W1 g1 r1 ⟨n, e, hn⟩ => ?_
  subst e
  cases r1 with
  | cons ra rr =>
    cases rr
    cases ra
    have hy : ys[n]? = some ys[n] := List.getElem?_eq_getElem hn
    obtain ⟨l', us, hu, q1, _, rj, z⟩ := (E.grow g1).mut (ds' := ys.eraseIdx n) hj
    rw [hv2] at hu
    cases hu
    obtain ⟨y, e3, ry⟩ := rj.get hy
    obtain ⟨W2, a1, a2, E2⟩ := z _ (reps_erase n rj)
    have hlen := rj.len
    refine ⟨l2, us, n, n, y, rfl, rfl, q1, by omega, by omega, ?_, e3, ?_⟩
    · rw [seqIndex_of (by omega) (by omega)]
      simp
    · have hi' : (ρ.set j (.own (ys.eraseIdx n)))[i]? = some (.own xs) := by rw [List.getElem?_set_ne hij.symm]; exact hi
      obtain ⟨l4, us4, hu4, q4, _, r4, z4⟩ := E2.mut (ds' := xs ++ [ys[n]]) hi'
      rw [hv] at hu4
      cases hu4
      have hlen4 := r4.len
      rw [a2] at q4
      obtain ⟨W3, b1, b2, E3⟩ := z4 (us4 ++ [y]) (r4.app (.cons (by rw [a1]; exact ry) .nil))
      refine ⟨l, us4, y, rfl, rfl, q4, Evl.sz_lt (by omega), ?_⟩
      rw [← a2, ← b2]
      exact nx σ W3 _ E3 (by rw [b1, a1]; exact g1.b) (k n _ hy)
/-! two at once -/
theorem t_par {i j : Nat} {P1 P2 : En → Prop} (h1 : EV ta ρ P1) (h2 : EV tb ρ P2) (k : ∀ a b, P1 a → P2 b → p.N ((ρ.set i a).set j b)) : TT' (tPar i j (tCons ta (tCons tb tNil))) ρ p := fun W0 W σ E Dd nx rt bk ct =>
  h1 W0 W σ E _ fun v a W1 g1 r1 p1 => h2 W0 W1 σ (E.grow g1) _ fun w b W2 g2 r2 p2 => ⟨v, w, rfl, nx _ W2 _ ((E.set g1 r1 i).set g2 r2 j) (g1.b.tr g2.b) (k a b p1 p2)⟩
theorem t_unp {i j : Nat} {Q2 : D → D → Prop} (h : ED te ρ (fun d => ∃ x y, d = .tup [x, y] ∧ Q2 x y)) (k : ∀ x y, Q2 x y → p.N ((ρ.set i (.dat x)).set j (.dat y))) : TT' (tAsg te (gTup K 2 (gCons (gName i) (gCons (gName j) gNil)))) ρ p := fun W0 W σ E Dd nx rt bk ct =>
  h W0 W σ E _ fun v d W1 g1 r1 ⟨x, y, e, q⟩ => by
    subst e
    cases r1 with
    | tup ha hr =>
      rename_i a ws
      cases hr with
      | cons rx rr =>
        cases rr with
        | cons ry rr =>
          cases rr
          refine ⟨a, _, rfl, sq_t (W1.le _ _ ha), rfl, _, _, rfl, _, _, rfl, rfl, ?_⟩
          exact nx _ W1 _ ((E.set g1 (e := .dat x) rx i).set (Grow.refl W1) (e := .dat y) ry j) g1.b (k x y q)
theorem t_drop (h : EV te ρ P) (k : p.N ρ) : TT' (tDrop te) ρ p := fun W0 W σ E Dd nx _ _ _ => h W0 W σ E _ fun v e W' g r q => nx σ W' ρ (E.grow g) g.b k
end
/-! ### a def by its body -/
theorem fn_body {Rg : List D → (En → Prop) → Prop} {N : List Str} {vs : List V} {H : Hp} {Q : VK} {X : XK} {t : TS} (h : SpE Rg vs H Q X) (hn : vs.length ≤ N.length)
    (k : ∀ ds P, Rg ds P → ds.length = vs.length → TT' t (ds.map En.dat ++ List.replicate (N.length - ds.length) .un) { N := fun _ => P (.dat .non), R := P }) : t { nx := fun _ H' => Q .non H', rt := Q } (start N vs) H := by
  obtain ⟨W, ds, P, rfl, r, hr, q⟩ := h
  have hl := r.len
  refine k ds P hr hl.symm W W (start N vs) ⟨Grow.refl W, ?_, fun i e hi hne => ?_, fun i j e1 e2 l h1 _ t1 _ _ _ => ?_⟩ _ (fun σ' W' ρ' E' _ n => q .non (.dat .non) W' E'.g (show Rep W'.b .non .non from .non) n) (fun v e W' g r n => q v e W' g r n) (fun _ _ _ _ _ z => z.elim) (fun _ _ _ _ _ z => z.elim)
  · simp [L2.start]; omega
  · rcases Nat.lt_or_ge i ds.length with hlt | hge
    · rw [List.getElem?_append_left (by simpa using hlt), List.getElem?_map] at hi
      have hd : ds[i]? = some ds[i] := List.getElem?_eq_getElem hlt
      rw [hd] at hi
      cases hi
      obtain ⟨v, hv, rv⟩ := r.get hd
      refine ⟨v, ?_, rv⟩
      unfold L2.start
      rw [List.getElem?_append_left (by simp; omega), List.getElem?_map, hv]
      rfl
    · rw [List.getElem?_append_right (by simpa using hge), List.getElem?_replicate] at hi
      split at hi
      · cases hi; exact absurd rfl hne
      · cases hi
  · rcases Nat.lt_or_ge i ds.length with hlt | hge
    · rw [List.getElem?_append_left (by simpa using hlt), List.getElem?_map] at h1
      have hd : ds[i]? = some ds[i] := List.getElem?_eq_getElem hlt
      rw [hd] at h1
      cases h1
      cases t1
    · rw [List.getElem?_append_right (by simpa using hge), List.getElem?_replicate] at h1
      split at h1 <;> cases h1
      cases t1
end Nt

namespace Nt
open PySem PySem.Spec PyProof.Rows L2
/-! ### operations that serve several kinds -/
theorem OpR.or {X : Cx} {f : Value → Value → Sem Value} {r r' : R2} (h : OpR X f r) (h' : OpR X f r') : OpR X f (fun x y H Q => r x y H Q ∨ r' x y H Q) := fun pins s σ H x y v u Q I a b q => q.elim (h pins s σ H x y v u Q I a b) (h' pins s σ H x y v u Q I a b)
theorem CallR.or {X : Cx} {f : Value} {r r' : List V → Hp → VK → Prop} (h : CallR X f r) (h' : CallR X f r') : CallR X f (fun x H Q => r x H Q ∨ r' x H Q) := fun pins s σ H xs us Q I a q => q.elim (h pins s σ H xs us Q I a) (h' pins s σ H xs us Q I a)
def rAddI : R2 := rI0 fun i j => .int (i + j)
def rAddS : R2 := fun x y H Q => ∃ i j : Str, x = .str i ∧ y = .str j ∧ i.length + j.length ≤ sizeLine ∧ Q (.str (i ++ j)) H
def rPlus : R2 := fun x y H Q => rAddI x y H Q ∨ rAddS x y H Q ∨ rCat x y H Q
theorem op_plus {X : Cx} : OpR X (binaryOp .Add) rPlus := OpR.or op_add (OpR.or op_add_str op_cat)
def rMulS : R2 := fun x y H Q => ∃ (z : Str) (n : Int), x = .str z ∧ y = .int n ∧ 0 ≤ n ∧ n ≤ 100000 ∧ z.length ≤ 100 ∧ Q (.str ⟨((List.replicate n.toNat z.cps.toList).flatten).toArray⟩) H
theorem foldl_cat (z : Array Nat) : ∀ (n : Nat) (acc : Array Nat), ((List.replicate n z).foldl (· ++ ·) acc).toList = acc.toList ++ (List.replicate n z.toList).flatten
  | 0, acc => by simp
  | n + 1, acc => by
    rw [List.replicate_succ, List.foldl_cons, foldl_cat z n, List.replicate_succ, List.flatten_cons]
    simp
theorem txt_mul (z : Str) (n : Int) (h : 0 ≤ n) : Txt.mul z n = ⟨((List.replicate n.toNat z.cps.toList).flatten).toArray⟩ := by
  unfold Txt.mul
  by_cases h1 : n < 1
  · have e : n = 0 := by omega
    subst e
    rw [if_pos (by omega)]
    rfl
  · rw [if_neg h1]
    by_cases h2 : (n == 1 || z.length == 0) = true
    · rw [if_pos h2]
      rw [Bool.or_eq_true, beq_iff_eq, beq_iff_eq] at h2
      rcases h2 with e | e
      · subst e
        obtain ⟨c⟩ := z
        simp [List.replicate]
      · obtain ⟨c⟩ := z
        have e' : c = #[] := Array.eq_empty_of_size_eq_zero e
        subst e'
        have : ∀ m : Nat, (List.replicate m ([] : List Nat)).flatten = [] := fun m => by simp
        simp [this]
    · rw [if_neg h2]
      congr 1
      apply Array.ext'
      rw [foldl_cat]
      simp
theorem op_mulS {X : Cx} : OpR X (binaryOp .Mult) rMulS := by
  intro pins s σ H x y v u Q I rx ry ⟨z, n, e1, e2, h0, h1, h2, q⟩
  subst e1 e2
  obtain ⟨t, rfl⟩ := rx
  obtain ⟨t', rfl⟩ := ry
  have hz : ∀ m : Nat, m ≤ 100000 → Builtin.Str.tooLong (z.length * m) = false := fun m hm => by
    have : z.length * m ≤ 100 * 100000 := Nat.mul_le_mul h2 hm
    unfold Builtin.Str.tooLong
    simp only [decide_eq_false_iff_not, sizeLine_eq]
    omega
  refine PySem.SB.mul ⟨?_, fun a b => ?_, fun a b => hz _ (by omega)⟩ fun t2 k => ⟨.str (Txt.mul z n), H, I.tok _, ⟨t2, rfl⟩, by rw [txt_mul z n h0]; exact q⟩
  · simp only [Bool.or_eq_false_iff, decide_eq_false_iff_not]; constructor <;> omega
  · have h3 : (100 : Int) ≤ (2 ^ 63 - 1) / n := (Int.le_ediv_iff_mul_le (by omega)).mpr (by omega)
    omega
def rTimes : R2 := fun x y H Q => rI CMulW (fun i j => .int (i * j)) x y H Q ∨ rMulS x y H Q ∨ rI CMul (fun i j => .int (i * j)) x y H Q
theorem op_times {X : Cx} : OpR X (binaryOp .Mult) rTimes := OpR.or op_mulW (OpR.or op_mulS op_mul)
def rEqU (K : PySem.W.Frag) : R2 := fun x y H Q => rEq x y H Q ∨ rEqD K x y H Q
def rNeU (K : PySem.W.Frag) : R2 := fun x y H Q => rNe x y H Q ∨ rNeD K x y H Q
theorem op_eqU {X : Cx} (hu : X.A.units + 64 < cLine) : OpR X (compareOp .Eq) (rEqU X.K) := OpR.or op_eq (op_eqD hu)
theorem op_neU {X : Cx} (hu : X.A.units + 64 < cLine) : OpR X (compareOp .NotEq) (rNeU X.K) := OpR.or op_ne (op_neD hu)
def rSgn (neg : Bool) : R2 := fun x y H Q => ∃ (c : Nat) (z : Str), x = .str ⟨#[c]⟩ ∧ y = .str z ∧ Q (.bl (if neg then !decide (c ∈ z.cps.toList) else decide (c ∈ z.cps.toList))) H
def rInU (K : PySem.W.Frag) (neg : Bool) : R2 := fun x y H Q => rSgn neg x y H Q ∨ rIn K neg x y H Q
theorem op_inU {X : Cx} : OpR X (compareOp .In) (rInU X.K false) := OpR.or op_in_sign op_in_seq
theorem op_notInU {X : Cx} : OpR X (compareOp .NotIn) (rInU X.K true) := OpR.or op_notIn_sign op_notIn_seq
def rLenQ (K : PySem.W.Frag) : List V → Hp → VK → Prop := fun xs H Q => ∃ (p : Addr) (ys : List V), xs = [.ref p] ∧ (SqL K H p ys ∨ SqT K H p ys) ∧ Q (.int ys.length) H
def rLenT : List V → Hp → VK → Prop := fun xs H Q => ∃ z : Str, xs = [.str z] ∧ z.length ≤ sizeLine ∧ Q (.int z.length) H
def rLenU (K : PySem.W.Frag) : List V → Hp → VK → Prop := fun xs H Q => rLenQ K xs H Q ∨ rLenT xs H Q
theorem call_lenU {X : Cx} : CallR X (.builtin "len") (rLenU X.K) := CallR.or call_len_seq call_len_str
def rSlU (K : PySem.W.Frag) : V → Option Int → Option Int → Hp → VK → Prop := fun x lo hi H Q => rSlL K x lo hi H Q ∨ rSlS x lo hi H Q ∨ L2.rSlT K x lo hi H Q
theorem sl_U {X : Cx} : L2.SlR X (rSlU X.K) := L2.SlR.or sl_list (L2.SlR.or sl_str L2.sl_tup)
/-! ### .. told over data -/
section
variable {K : PySem.W.Frag} {P : En → Prop}
theorem dat1 {W : Wd} {d : D} {v : V} {Q : VK} (r : Rep W.b d v) (q : ∀ u e W', Grow W W' → RepV W W' e u → e = .dat d → Q u W'.h) : Q v W.h := q v (.dat d) W (Grow.refl W) r rfl
theorem own1 {W : Wd} {ds : List D} {vs : List V} {Q : VK} (r : Reps W.b ds vs) (q : ∀ u e W', Grow W W' → RepV W W' e u → e = .own ds → Q u W'.h) : ∀ p, W.h p = none → Q (.ref p) (upd W.h p (.lst vs)) := fun p hp => by
  obtain ⟨a, b⟩ := new_own (Grow.refl W) hp r
  exact q (.ref p) (.own ds) _ a b rfl
theorem od_addI {i j : Int} : OD rPlus (.int i) (.int j) (· = .dat (.int (i + j))) := fun W v w a b Q q => by
  cases a; cases b
  exact .inl ⟨i, j, rfl, rfl, dat1 (.int (i + j)) q⟩
theorem tx_len (s : List Nat) : (⟨s.toArray⟩ : Str).length = s.length := by simp [Str.length]
theorem od_addS {i j : List Nat} (h : i.length + j.length ≤ 100000) : OD rPlus (.str i) (.str j) (· = .dat (.str (i ++ j))) := fun W v w a b Q q => by
  cases a; cases b
  refine .inr (.inl ⟨_, _, rfl, rfl, Evl.sz_of (by rw [tx_len, tx_len]; exact h), ?_⟩)
  have e : (⟨i.toArray⟩ : Str) ++ (⟨j.toArray⟩ : Str) = ⟨(i ++ j).toArray⟩ := by
    show (⟨i.toArray ++ j.toArray⟩ : Str) = _
    simp
  rw [e]
  exact dat1 (.str (i ++ j)) q
theorem od_addL {i j : List D} (h : i.length + j.length ≤ 100000) : OD rPlus (.lst i) (.lst j) (· = .own (i ++ j)) := fun W v w a b Q q => by
  cases a with
  | lst ha ra =>
    cases b with
    | lst hb rb => exact .inr (.inr ⟨_, _, _, _, rfl, rfl, W.le _ _ ha, W.le _ _ hb, Evl.sz_of (by rw [ra.len, rb.len]; exact h), own1 (ra.app rb) q⟩)
theorem od_subI {i j : Int} : OD (rI0 fun i j => .int (i - j)) (.int i) (.int j) (· = .dat (.int (i - j))) := fun W v w a b Q q => by
  cases a; cases b
  exact ⟨i, j, rfl, rfl, dat1 (.int (i - j)) q⟩
theorem od_mulI {i j : Int} (h : CMulW i j) : OD rTimes (.int i) (.int j) (· = .dat (.int (i * j))) := fun W v w a b Q q => by
  cases a; cases b
  exact .inl ⟨i, j, rfl, rfl, h, dat1 (.int (i * j)) q⟩
theorem od_mulS {s : List Nat} {n : Int} (h0 : 0 ≤ n) (h1 : n ≤ 100000) (h2 : s.length ≤ 100) : OD rTimes (.str s) (.int n) (· = .dat (.str (List.replicate n.toNat s).flatten)) := fun W v w a b Q q => by
  cases a; cases b
  exact .inr (.inl ⟨_, n, rfl, rfl, h0, h1, by rw [tx_len]; exact h2, dat1 (.str (List.replicate n.toNat s).flatten) q⟩)
theorem od_modI {i j : Int} (h : j ≠ 0) : OD (rI (fun _ j => j ≠ 0) fun i j => .int (i.fmod j)) (.int i) (.int j) (· = .dat (.int (i.fmod j))) := fun W v w a b Q q => by
  cases a; cases b
  exact ⟨i, j, rfl, rfl, h, dat1 (.int (i.fmod j)) q⟩
theorem od_divI {i j : Int} (h : CDivW i j) : OD (rI CDivW fun i j => .int (i / j)) (.int i) (.int j) (· = .dat (.int (i / j))) := fun W v w a b Q q => by
  cases a; cases b
  exact ⟨i, j, rfl, rfl, h, dat1 (.int (i / j)) q⟩
theorem od_lt {i j : Int} : OD (rI0 fun i j => .bl (decide (i < j))) (.int i) (.int j) (· = .dat (.bl (decide (i < j)))) := fun W v w a b Q q => by
  cases a; cases b
  exact ⟨i, j, rfl, rfl, dat1 (.bl _) q⟩
theorem od_gt {i j : Int} : OD (rI0 fun i j => .bl (decide (j < i))) (.int i) (.int j) (· = .dat (.bl (decide (j < i)))) := fun W v w a b Q q => by
  cases a; cases b
  exact ⟨i, j, rfl, rfl, dat1 (.bl _) q⟩
theorem od_le {i j : Int} : OD (rI0 fun i j => .bl (decide (i ≤ j))) (.int i) (.int j) (· = .dat (.bl (decide (i ≤ j)))) := fun W v w a b Q q => by
  cases a; cases b
  exact ⟨i, j, rfl, rfl, dat1 (.bl _) q⟩
theorem od_ge {i j : Int} : OD (rI0 fun i j => .bl (decide (j ≤ i))) (.int i) (.int j) (· = .dat (.bl (decide (j ≤ i)))) := fun W v w a b Q q => by
  cases a; cases b
  exact ⟨i, j, rfl, rfl, dat1 (.bl _) q⟩
theorem tx_inj {a b : List Nat} : (tx a = tx b) ↔ a = b := by
  constructor
  · intro h
    have h' := V.str.inj h
    have := congrArg (fun z : Str => z.cps.toList) h'
    simpa using this
  · intro h; rw [h]
theorem od_eqS {a b : List Nat} : OD (rEqU K) (.str a) (.str b) (· = .dat (.bl (decide (a = b)))) := fun W v w r r' Q q => by
  cases r; cases r'
  refine .inl ⟨rfl, ?_⟩
  have e : decide (tx a = tx b) = decide (a = b) := decide_eq_decide.mpr tx_inj
  rw [e]
  exact dat1 (.bl _) q
theorem od_neS {a b : List Nat} : OD (rNeU K) (.str a) (.str b) (· = .dat (.bl (!decide (a = b)))) := fun W v w r r' Q q => by
  cases r; cases r'
  refine .inl ⟨rfl, ?_⟩
  have e : decide (tx a = tx b) = decide (a = b) := decide_eq_decide.mpr tx_inj
  rw [e]
  exact dat1 (.bl _) q
theorem od_eqI {a b : Int} : OD (rEqU K) (.int a) (.int b) (· = .dat (.bl (decide (a = b)))) := fun W v w r r' Q q => by
  cases r; cases r'
  refine .inl ⟨rfl, ?_⟩
  have e : decide (V.int a = V.int b) = decide (a = b) := decide_eq_decide.mpr ⟨V.int.inj, congrArg _⟩
  rw [e]
  exact dat1 (.bl _) q
theorem od_neI {a b : Int} : OD (rNeU K) (.int a) (.int b) (· = .dat (.bl (!decide (a = b)))) := fun W v w r r' Q q => by
  cases r; cases r'
  refine .inl ⟨rfl, ?_⟩
  have e : decide (V.int a = V.int b) = decide (a = b) := decide_eq_decide.mpr ⟨V.int.inj, congrArg _⟩
  rw [e]
  exact dat1 (.bl _) q
theorem od_eqB {a b : Bool} : OD (rEqU K) (.bl a) (.bl b) (· = .dat (.bl (decide (a = b)))) := fun W v w r r' Q q => by
  cases r; cases r'
  refine .inl ⟨rfl, ?_⟩
  have e : decide (V.bl a = V.bl b) = decide (a = b) := decide_eq_decide.mpr ⟨V.bl.inj, congrArg _⟩
  rw [e]
  exact dat1 (.bl _) q
theorem od_neB {a b : Bool} : OD (rNeU K) (.bl a) (.bl b) (· = .dat (.bl (!decide (a = b)))) := fun W v w r r' Q q => by
  cases r; cases r'
  refine .inl ⟨rfl, ?_⟩
  have e : decide (V.bl a = V.bl b) = decide (a = b) := decide_eq_decide.mpr ⟨V.bl.inj, congrArg _⟩
  rw [e]
  exact dat1 (.bl _) q
/-- flat data read as the library's data -/
def D.py : D → PyData
  | .bl b => .bool b
  | .int i => .int i
  | .str s => .str ⟨s.toArray⟩
  | _ => .none
theorem py_dp {H H' : Hp} {d : D} {v : V} (f : d.flat = true) (r : Rep H d v) : Dp K H' v d.py := by
  cases r with
  | non => exact .non
  | bl b => exact .bl b
  | int i => exact .int i
  | str s => exact .str _
  | tup _ _ => cases f
  | lst _ _ => cases f
  | bag _ _ _ => cases f
  | scr _ => cases f
  | dic _ _ => cases f
  | obj _ _ => cases f
theorem py_dpall {H H' : Hp} : ∀ {ds : List D} {vs : List V}, (∀ d ∈ ds, d.flat = true) → Reps H ds vs → DpAll K H' vs (ds.map D.py)
  | _, _, _, .nil => .nil
  | _, _, f, .cons h r => .cons (py_dp (f _ List.mem_cons_self) h) (py_dpall (fun d hd => f d (List.mem_cons_of_mem _ hd)) r)
/-- flat, its signs signs -/
def D.ok : D → Bool
  | .non | .bl _ | .int _ => true
  | .str s => s.all (· < 0x110000)
  | _ => false
theorem D.ok.fl {d : D} (h : d.ok = true) : d.flat = true := by
  cases d with
  | tup _ => cases h
  | lst _ => cases h
  | bag => cases h
  | scr _ _ => cases h
  | dic _ => cases h
  | obj _ => cases h
  | _ => rfl
theorem py_lay {d : D} (h : d.ok = true) : d.py.canLay0 = true := by
  cases d with
  | str s =>
    show PyData.strOk _ = true
    unfold PyData.strOk
    simpa [D.ok] using h
  | _ => rfl
theorem py_layAll : ∀ ds : List D, (∀ d ∈ ds, d.ok = true) → PyData.canLayAll0 (ds.map D.py) = true
  | [], _ => rfl
  | d :: ds, h => by
    show (d.py.canLay0 && PyData.canLayAll0 (ds.map D.py)) = true
    rw [py_lay (h d List.mem_cons_self), py_layAll ds fun x hx => h x (List.mem_cons_of_mem _ hx)]; rfl
theorem py_depth (d : D) : d.py.depth = 0 := by cases d <;> rfl
theorem py_depthAll : ∀ ds : List D, PyData.depthAll (ds.map D.py) = 0
  | [] => rfl
  | d :: ds => by
    show max d.py.depth (PyData.depthAll (ds.map D.py)) = 0
    rw [py_depth, py_depthAll ds]; rfl
theorem py_shaped (ds : List D) (h : ∀ d ∈ ds, d.ok = true) : SeqAt.shaped (.list (ds.map D.py)) = true := by
  unfold SeqAt.shaped
  have h1 : PyData.canLay0 (.list (ds.map D.py)) = true := py_layAll ds h
  have h2 : PyData.depth (.list (ds.map D.py)) = PyData.depthAll (ds.map D.py) + 1 := rfl
  rw [h1, h2, py_depthAll]; rfl
theorem eqv_nil (ds : List D) : PyData.eqv (.list (ds.map D.py)) (.list []) = ds.isEmpty := by
  cases ds with
  | nil => rfl
  | cons d ds => rfl
/-- a list of flat data against the empty one -/
theorem od_eqN {ds : List D} (f : ∀ d ∈ ds, d.ok = true) : OD (rEqU K) (.lst ds) (.lst []) (· = .dat (.bl ds.isEmpty)) := fun W v w r r' Q q => by
  cases r with
  | lst ha ra =>
    cases r' with
    | lst hb rb =>
      cases rb
      refine .inr ⟨.list (ds.map D.py), .list [], .lst (sq_l (W.le _ _ ha)) (py_dpall (fun d hd => D.ok.fl (f d hd)) ra), .lst (sq_l (W.le _ _ hb)) .nil, py_shaped ds f, rfl, ?_⟩
      rw [eqv_nil]
      exact dat1 (.bl _) q
theorem od_neN {ds : List D} (f : ∀ d ∈ ds, d.ok = true) : OD (rNeU K) (.lst ds) (.lst []) (· = .dat (.bl (!ds.isEmpty))) := fun W v w r r' Q q => by
  cases r with
  | lst ha ra =>
    cases r' with
    | lst hb rb =>
      cases rb
      refine .inr ⟨.list (ds.map D.py), .list [], .lst (sq_l (W.le _ _ ha)) (py_dpall (fun d hd => D.ok.fl (f d hd)) ra), .lst (sq_l (W.le _ _ hb)) .nil, py_shaped ds f, rfl, ?_⟩
      rw [eqv_nil]
      exact dat1 (.bl _) q
theorem od_sgn {neg : Bool} {c : Nat} {s : List Nat} : OD (rInU K neg) (.str [c]) (.str s) (· = .dat (.bl (if neg then !decide (c ∈ s) else decide (c ∈ s)))) := fun W v w r r' Q q => by
  cases r; cases r'
  refine .inl ⟨c, _, rfl, rfl, ?_⟩
  show Q (V.bl (if neg then !decide (c ∈ s) else decide (c ∈ s))) W.h
  exact dat1 (.bl _) q
theorem eqV_tx (a b : List Nat) : eqV (tx a) (tx b) = decide (a = b) := by
  show ((⟨a.toArray⟩ : Str) == (⟨b.toArray⟩ : Str)) = decide (a = b)
  have : (⟨a.toArray⟩ : Str) = (⟨b.toArray⟩ : Str) ↔ a = b := by
    constructor
    · intro h; have := congrArg (fun z : Str => z.cps.toList) h; simpa using this
    · intro h; rw [h]
  by_cases h : a = b
  · subst h; simp
  · have h' : ¬ (⟨a.toArray⟩ : Str) = (⟨b.toArray⟩ : Str) := fun z => h (this.mp z)
    simp [h]
theorem in_txs {H : Hp} {s : List Nat} : ∀ {xs : List (List Nat)} {vs : List V}, Reps H (xs.map D.str) vs → inV (tx s) vs = decide (s ∈ xs) ∧ vs.all flatV = true
  | [], _, .nil => ⟨by simp [inV], rfl⟩
  | x :: xs, _, .cons h r => by
    obtain ⟨a, b⟩ := in_txs r
    cases h
    constructor
    · show (eqV (tx x) (tx s) || inV (tx s) _) = _
      rw [a, eqV_tx]
      by_cases e : x = s
      · subst e; simp
      · have e' : ¬ s = x := fun z => e z.symm
        simp [e, e']
    · show (true && _) = true
      rw [b]; rfl
/-- a text in a list of texts -/
theorem od_inL {neg : Bool} {s : List Nat} {xs : List (List Nat)} : OD (rInU K neg) (.str s) (.lst (xs.map D.str)) (· = .dat (.bl (if neg then !decide (s ∈ xs) else decide (s ∈ xs)))) := fun W v w r r' Q q => by
  cases r
  cases r' with
  | lst hb rb =>
    obtain ⟨a, b⟩ := in_txs (s := s) rb
    refine .inr ⟨_, _, rfl, .inl (sq_l (W.le _ _ hb)), rfl, b, ?_⟩
    rw [a]
    exact dat1 (.bl _) q
theorem atI_of {α : Type} {xs : List α} {i : Int} {j : Nat} {v : α} (e : i = (j : Int)) (h : xs[j]? = some v) : atI xs i = some v := by subst e; exact atI_nat h
theorem od_ixL {ds : List D} {i : Int} {j : Nat} {d : D} (e : i = (j : Int)) (h : ds[j]? = some d) : OD (rIx K) (.lst ds) (.int i) (· = .dat d) := fun W v w r r' Q q => by
  cases r'
  cases r with
  | lst ha ra =>
    obtain ⟨u, h1, h2⟩ := ra.get h
    exact .inl ⟨_, _, i, u, rfl, rfl, sq_l (W.le _ _ ha), atI_of e h1, dat1 h2 q⟩
theorem od_ixT {ds : List D} {i : Int} {j : Nat} {d : D} (e : i = (j : Int)) (h : ds[j]? = some d) : OD (rIx K) (.tup ds) (.int i) (· = .dat d) := fun W v w r r' Q q => by
  cases r'
  cases r with
  | tup ha ra =>
    obtain ⟨u, h1, h2⟩ := ra.get h
    exact .inr (.inl ⟨_, _, i, u, rfl, rfl, sq_t (W.le _ _ ha), atI_of e h1, dat1 h2 q⟩)
theorem od_ixS {s : List Nat} {i : Int} {j : Nat} {c : Nat} (e : i = (j : Int)) (h : s[j]? = some c) (hl : s.length ≤ 100000) : OD (rIx K) (.str s) (.int i) (· = .dat (.str [c])) := fun W v w r r' Q q => by
  cases r'
  cases r
  exact .inr (.inr ⟨_, i, c, rfl, rfl, Evl.sz_of (by rw [tx_len]; exact hl), atI_of e h, dat1 (.str [c]) q⟩)
theorem od_ixLlast {ds : List D} {d : D} (h : ds[ds.length - 1]? = some d) : OD (rIx K) (.lst ds) (.int (-1)) (· = .dat d) := fun W v w r r' Q q => by
  cases r'
  cases r with
  | lst ha ra =>
    rename_i a ws
    obtain ⟨u, h1, h2⟩ := ra.get h
    rw [← ra.len] at h1
    refine .inl ⟨a, ws, -1, u, rfl, rfl, sq_l (W.le _ _ ha), ?_, dat1 h2 q⟩
    have hl := (List.getElem?_eq_some_iff.mp h1).1
    have e : ws = ws.dropLast ++ [u] := by
      have hne : ws ≠ [] := fun z => by rw [z] at hl; simp at hl
      have h3 := List.dropLast_concat_getLast hne
      have h4 : ws.getLast hne = u := by
        rw [List.getLast_eq_getElem]
        have := List.getElem?_eq_some_iff.mp h1
        exact this.2
      rw [h4] at h3
      exact h3.symm
    rw [e]
    exact atI_last _ _
theorem cd_lenL {ds : List D} : CD (rLenU K) [.lst ds] (· = .dat (.int ds.length)) := fun W vs r Q q => by
  cases r with
  | cons r rr =>
    cases rr
    cases r with
    | lst ha ra => exact .inl ⟨_, _, rfl, .inl (sq_l (W.le _ _ ha)), by rw [ra.len]; exact dat1 (.int _) q⟩
theorem cd_lenT {ds : List D} : CD (rLenU K) [.tup ds] (· = .dat (.int ds.length)) := fun W vs r Q q => by
  cases r with
  | cons r rr =>
    cases rr
    cases r with
    | tup ha ra => exact .inl ⟨_, _, rfl, .inr (sq_t (W.le _ _ ha)), by rw [ra.len]; exact dat1 (.int _) q⟩
theorem cd_lenSq {x : D} {ds : List D} (s : Sq x ds) : CD (rLenU K) [x] (· = .dat (.int ds.length)) := by
  cases s with
  | lst => exact cd_lenL
  | tup => exact cd_lenT
theorem od_ixSq {x : D} {ds : List D} {i : Int} {j : Nat} {d : D} (s : Sq x ds) (e : i = (j : Int)) (h : ds[j]? = some d) : OD (rIx K) x (.int i) (· = .dat d) := by
  cases s with
  | lst => exact od_ixL e h
  | tup => exact od_ixT e h
theorem od_inT {neg : Bool} {s : List Nat} {xs : List (List Nat)} : OD (rInU K neg) (.str s) (.tup (xs.map D.str)) (· = .dat (.bl (if neg then !decide (s ∈ xs) else decide (s ∈ xs)))) := fun W v w r r' Q q => by
  cases r
  cases r' with
  | tup hb rb =>
    obtain ⟨a, b⟩ := in_txs (s := s) rb
    refine .inr ⟨_, _, rfl, .inr (sq_t (W.le _ _ hb)), rfl, b, ?_⟩
    rw [a]
    exact dat1 (.bl _) q
theorem od_inSq {neg : Bool} {s : List Nat} {xs : List (List Nat)} {x : D} (h : Sq x (xs.map D.str)) : OD (rInU K neg) (.str s) x (· = .dat (.bl (if neg then !decide (s ∈ xs) else decide (s ∈ xs)))) := by
  generalize hy : xs.map D.str = ys at h
  cases h with
  | lst => subst hy; exact od_inL
  | tup => subst hy; exact od_inT
theorem cd_lenS {s : List Nat} (h : s.length ≤ 100000) : CD (rLenU K) [.str s] (· = .dat (.int s.length)) := fun W vs r Q q => by
  cases r with
  | cons r rr =>
    cases rr
    cases r
    refine .inr ⟨_, rfl, Evl.sz_of (by rw [tx_len]; exact h), ?_⟩
    rw [tx_len]
    exact dat1 (.int _) q
def rListC (K : PySem.W.Frag) : List V → Hp → VK → Prop := fun xs H Q => ∃ (p : Addr) (ys : List V), xs = [.ref p] ∧ (SqL K H p ys ∨ SqT K H p ys) ∧ ∀ l, H l = none → Q (.ref l) (upd H l (.lst ys))
theorem call_listC {X : Cx} : CallR X (.type "list") (rListC X.K) := call_list_of
theorem cd_list {ds : List D} : CD (rListC K) [.lst ds] (· = .own ds) := fun W vs r Q q => by
  cases r with
  | cons r rr =>
    cases rr
    cases r with
    | lst ha ra => exact ⟨_, _, rfl, .inl (sq_l (W.le _ _ ha)), own1 ra q⟩
theorem bls_of {H : Hp} : ∀ {bs : List Bool} {vs : List V}, Reps H (bs.map D.bl) vs → vs = bs.map V.bl
  | [], _, .nil => rfl
  | b :: bs, _, .cons h r => by cases h; rw [bls_of r]; rfl
theorem cd_all {bs : List Bool} : CD (rAll K) [.lst (bs.map D.bl)] (· = .dat (.bl (bs.all id))) := fun W vs r Q q => by
  cases r with
  | cons r rr =>
    cases rr
    cases r with
    | lst ha ra => exact ⟨_, bs, rfl, sq_l (by rw [← bls_of ra]; exact W.le _ _ ha), dat1 (.bl _) q⟩
theorem txs_of {H : Hp} : ∀ {xs : List (List Nat)} {vs : List V}, Reps H (xs.map D.str) vs → vs = (xs.map fun s => (⟨s.toArray⟩ : Str)).map V.str
  | [], _, .nil => rfl
  | b :: bs, _, .cons h r => by cases h; rw [txs_of r]; rfl
def rJoin (K : PySem.W.Frag) : V → List V → Hp → VK → Prop := fun x xs H Q => ∃ a p, ∃ ys : List Str, x = .str a ∧ xs = [.ref p] ∧ (SqL K H p (ys.map V.str) ∨ SqT K H p (ys.map V.str)) ∧ (ys.map (·.length)).sum + ys.length * a.length ≤ 16777216 ∧ Q (.str (Txt.join a ys)) H
theorem join0 : ∀ xs : List (List Nat), Txt.join ⟨#[]⟩ (xs.map fun s => (⟨s.toArray⟩ : Str)) = ⟨xs.flatten.toArray⟩ := fun xs => by
  show PySem.Builtin.Str.glued _ _ = _
  rw [PySem.StrLaws.glued_eq_join]
  induction xs with
  | nil => rfl
  | cons x xs ih =>
    rw [List.map_cons]
    have h := PyProof.Rows.join_nil_cons (⟨x.toArray⟩ : Str) (xs.map fun s => (⟨s.toArray⟩ : Str))
    rw [h, ih]
    show (⟨x.toArray ++ xs.flatten.toArray⟩ : Str) = _
    simp
theorem md_join {xs : List (List Nat)} (h : xs.flatten.length ≤ 100000) : MD (rJoin K) (.str []) [.lst (xs.map D.str)] (· = .dat (.str xs.flatten)) := fun W v vs r rs Q q => by
  cases r
  cases rs with
  | cons r rr =>
    cases rr
    cases r with
    | lst ha ra =>
      refine ⟨⟨#[]⟩, _, xs.map fun s => (⟨s.toArray⟩ : Str), rfl, rfl, .inl (sq_l (by rw [← txs_of ra]; exact W.le _ _ ha)), ?_, ?_⟩
      · have e : ((xs.map fun s => (⟨s.toArray⟩ : Str)).map (·.length)).sum = xs.flatten.length := by
          rw [List.map_map, List.length_flatten]
          have e2 : (fun x : Str => x.length) ∘ (fun s : List Nat => (⟨s.toArray⟩ : Str)) = List.length := funext fun s => tx_len s
          rw [e2]
        rw [e]
        have z : (⟨#[]⟩ : Str).length = 0 := rfl
        rw [z, Nat.mul_zero]
        omega
      · rw [join0]
        exact dat1 (.str xs.flatten) q
theorem ud_neg {i : Int} : UD (rU fun i => .int (-i)) (.int i) (· = .dat (.int (-i))) := fun W v r Q q => by
  cases r
  exact ⟨i, rfl, dat1 (.int _) q⟩
end
end Nt

namespace Nt
open PySem PySem.Spec PyProof.Rows L2
section
variable {K : PySem.W.Frag} {ta tb te : TE} {tt tu : TT} {tl th : TO} {ar : TA} {ρ : List En} {PA : D → Prop} {R : En → Prop}
/-! ### slices -/
def SD (r : V → Option Int → Option Int → Hp → VK → Prop) (x : D) (lo hi : Option Int) (P : En → Prop) : Prop := ∀ (W : Wd) v, Rep W.b x v → ∀ Q : VK, (∀ u e W', Grow W W' → RepV W W' e u → P e → Q u W'.h) → r v lo hi W.h Q
theorem eo_part {i : Int} (h : ED te ρ (· = .int i)) : EO (tPart te) ρ (· = some i) := fun W0 W σ E Q q => h W0 W σ E _ fun v d W' g r p => by subst p; cases r; exact ⟨i, rfl, q _ W' g rfl⟩
theorem e_sl {r : V → Option Int → Option Int → Hp → VK → Prop} {x : D} {lo hi : Option Int} (h : ED te ρ (· = x)) (hl : EO tl ρ (· = lo)) (hh : EO th ρ (· = hi)) (hr : SD r x lo hi R) : EV (tSl r te tl th) ρ R := fun W0 W σ E Q q =>
  h W0 W σ E _ fun v d W1 g1 r1 p1 => by
    subst p1
    refine hl W0 W1 σ (E.grow g1) _ fun o W2 g2 e2 => ?_
    subst e2
    refine hh W0 W2 σ ((E.grow g1).grow g2) _ fun o W3 g3 e3 => ?_
    subst e3
    exact hr W3 v ((r1.mono g2.b).mono g3.b) Q fun u e W4 g4 r4 p4 => q u e W4 (((g1.trans g2).trans g3).trans g4) (r4.back ((g1.trans g2).trans g3).h) p4
def cutN {α : Type} (xs : List α) (lo hi : Option Int) : List α := (xs.drop (HT.sIx xs.length 0 lo)).take (HT.sIx xs.length xs.length hi - HT.sIx xs.length 0 lo)
theorem sd_str {s : List Nat} {lo hi : Option Int} (h : s.length ≤ 100000) : SD (rSlU K) (.str s) lo hi (· = .dat (.str (cutN s lo hi))) := fun W v r Q q => by
  cases r
  refine .inr (.inl ⟨_, rfl, Evl.sz_of (by rw [tx_len]; exact h), ?_⟩)
  have e : V.str (cutS ⟨s.toArray⟩ lo hi) = tx (cutN s lo hi) := by
    unfold cutS cutN tx
    rw [tx_len]
  rw [e]
  exact dat1 (.str (cutN s lo hi)) q
theorem sd_lst {ds : List D} {lo hi : Option Int} : SD (rSlU K) (.lst ds) lo hi (· = .own (cutN ds lo hi)) := fun W v r Q q => by
  cases r with
  | lst ha ra =>
    rename_i a ws
    refine .inl ⟨a, ws, rfl, sq_l (W.le _ _ ha), ?_⟩
    unfold cutV
    rw [ra.len]
    exact own1 ((ra.drop _).take _) q
theorem sd_tup {ds : List D} {lo hi : Option Int} (hne : ¬ (HT.sIx ds.length 0 lo = 0 ∧ HT.sIx ds.length ds.length hi = ds.length)) : SD (rSlU K) (.tup ds) lo hi (· = .dat (.tup (cutN ds lo hi))) := fun W v r Q q => by
  cases r with
  | tup ha ra =>
    rename_i a ws
    refine .inr (.inr ⟨a, ws, rfl, sq_t (W.le _ _ ha), by rw [ra.len]; exact hne, fun p hp => ?_⟩)
    have e : Reps W.b (cutN ds lo hi) (cutV ws lo hi) := by
      unfold cutV cutN
      rw [ra.len]
      exact (ra.drop _).take _
    exact q (.ref p) (.dat (.tup (cutN ds lo hi))) (W.put p _) (Grow.put hp) (.tup upd_same (e.mono (Ex.nw (W.le.none' hp)))) rfl
theorem reps_int {H : Hp} : ∀ ns : List Int, Reps H (ns.map D.int) (ns.map V.int)
  | [] => .nil
  | n :: ns => .cons (.int n) (reps_int ns)
theorem cutV_int (ns : List Int) (lo hi : Option Int) : cutV (ns.map V.int) lo hi = (cutN ns lo hi).map V.int := by
  unfold cutV cutN
  rw [List.length_map, List.map_take, List.map_drop]
theorem sd_scr {ns : List Int} {lo hi : Option Int} : SD (rSlU K) (.scr K ns) lo hi (· = .own ((cutN ns lo hi).map D.int)) := fun W v r Q q => by
  cases r with
  | scr h =>
    refine .inl ⟨_, _, rfl, Evl.ex_l W.le h, ?_⟩
    rw [cutV_int]
    exact own1 (reps_int _) q
theorem cut_to {α : Type} {xs : List α} {i : Int} {k : Nat} (e : i = k) (h : k ≤ xs.length) : cutN xs none (some i) = xs.take k := by
  subst e
  unfold cutN
  rw [HT.sIx_none, HT.sIx_nat, List.drop_zero, Nat.min_eq_left h, Nat.sub_zero]
theorem cut_from {α : Type} {xs : List α} {i : Int} {k : Nat} (e : i = k) (h : k ≤ xs.length) : cutN xs (some i) none = xs.drop k := by
  subst e
  unfold cutN
  rw [HT.sIx_none, HT.sIx_nat, Nat.min_eq_left h]
  exact List.take_of_length_le (by simp)
theorem e_rev {ds : List D} (h : ED te ρ (· = .lst ds)) : EV (tRevL K te) ρ (· = .own ds.reverse) := fun W0 W σ E Q q => h W0 W σ E _ fun v d W1 g1 r1 p1 => by
  subst p1
  cases r1 with
  | lst ha ra =>
    refine ⟨_, _, rfl, sq_l (W1.le _ _ ha), fun p hp => ?_⟩
    obtain ⟨a, b⟩ := new_own g1 hp ra.rev
    exact q (.ref p) (.own ds.reverse) _ a b rfl
/-! ### isinstance -/
def D.ty : D → String
  | .non => "NoneType"
  | .bl _ => "bool"
  | .int _ => "int"
  | .str _ => "str"
  | .tup _ => "tuple"
  | .lst _ => "list"
  | .bag => "list"
  | .scr _ _ => "list"
  | .dic _ => "dict"
  | .obj _ => "object"
/-- no list that is not of the program's own -/
def D.pl : D → Bool
  | .bag | .scr _ _ | .obj _ => false
  | _ => true
theorem ty_of {H H' : Hp} {d : D} {v : V} (nb : d.pl = true) (e : Ex H H') (r : Rep H d v) : TyX K H' v (.type d.ty) := by
  cases r with
  | non => exact .base .non
  | bl b => exact .base (.bl b)
  | int i => exact .base (.int i)
  | str s => exact .base (.str _)
  | tup h _ => exact .base (.tup (e _ _ h))
  | lst h _ => exact .base (.lst (e _ _ h))
  | bag _ _ _ => cases nb
  | scr _ => cases nb
  | dic h _ => exact .base (.dK (e _ _ h))
  | obj _ _ => cases nb
theorem e_isi {d : D} {T : String} {b : Bool} (h : ED te ρ (· = d)) (nb : d.pl = true) (hk : kitB d.ty T = some b) : ED (tCB (rIsi K) (tCons te (tCons (tC (.ty T)) tNil))) ρ (· = .bl b) := fun W0 W σ E Q q => h W0 W σ E _ fun v x W1 g1 r1 p1 => by
  subst p1
  exact ⟨v, .ty T, .type x.ty, .type T, b, rfl, .ty T, ty_of nb W1.le r1, kit_ty hk, q _ _ W1 g1 (.bl b) rfl⟩
theorem kit_any2 {a b c : String} {x y : Bool} (h1 : kitB a b = some x) (h2 : kitB a c = some y) : PySem.W.kitAny K (.type a) [.type b, .type c] = some (x || y) := by
  refine kitAny_cons (kit_ty h1) (fun e => ?_) (fun e => by rw [e]; rfl)
  subst e
  exact kitAny_cons (kit_ty h2) (fun e => by subst e; exact kitAny_nil) (fun e => by subst e; rfl)
theorem e_isi2 {d : D} {T U : String} {x y : Bool} (h : ED te ρ (· = d)) (nb : d.pl = true) (h1 : kitB d.ty T = some x) (h2 : kitB d.ty U = some y) :
    ED (tCB (rIsiT K) (tCons te (tCons (tTup (tCons (tC (.ty T)) (tCons (tC (.ty U)) tNil))) tNil))) ρ (· = .bl (x || y)) := fun W0 W σ E Q q => h W0 W σ E _ fun v d' W1 g1 r1 p1 => by
  subst p1
  refine ⟨by show 2 ≤ sizeLine; decide, fun p hp => ?_⟩
  have g2 := Grow.add (W := W1) (o := .tup [.ty T, .ty U]) hp
  exact ⟨v, p, [.ty T, .ty U], .type d'.ty, [.type T, .type U], _, rfl, upd_same, .cons (.ty T) (.cons (.ty U) .nil), ty_of nb (W1.add p (.tup [.ty T, .ty U]) hp).le r1, kit_any2 h1 h2, q _ _ (W1.add p (.tup [.ty T, .ty U]) hp) (g1.trans g2) (.bl _) rfl⟩
/-! ### None -/
def D.isN : D → Bool
  | .non => true
  | _ => false
theorem isN_of {H : Hp} {d : D} {v : V} (r : Rep H d v) : decide (v = .non) = d.isN := by
  cases r <;> simp [D.isN, tx]
def rIsNU : R2 := fun x y H Q => y = .non ∧ Q (.bl (decide (x = .non))) H
def rNotNU : R2 := fun x y H Q => y = .non ∧ Q (.bl (!decide (x = .non))) H
theorem op_isNU {X : Cx} : OpR X (compareOp .Is) rIsNU := op_isN
theorem op_notNU {X : Cx} : OpR X (compareOp .IsNot) rNotNU := op_notN
theorem od_isN {d : D} : OD rIsNU d .non (· = .dat (.bl d.isN)) := fun W v w r r' Q q => by
  cases r'
  refine ⟨rfl, ?_⟩
  rw [isN_of r]
  exact dat1 (.bl _) q
theorem od_notN {d : D} : OD rNotNU d .non (· = .dat (.bl (!d.isN))) := fun W v w r r' Q q => by
  cases r'
  refine ⟨rfl, ?_⟩
  rw [isN_of r]
  exact dat1 (.bl _) q
/-! ### truth -/
def tTru (K : PySem.W.Frag) (ta : TE) : TT := fun σ H Q => ta σ H fun x H' => ∃ k, TruV K x H' k ∧ Q k H'
theorem et_tru {ds : List D} (h : ED te ρ (· = .lst ds)) : ET (tTru K te) ρ (· = !ds.isEmpty) := fun W0 W σ E Q q => h W0 W σ E _ fun v d W1 g1 r1 p1 => by
  subst p1
  cases r1 with
  | lst ha ra =>
    refine ⟨_, .inl ⟨_, sq_l (W1.le _ _ ha), rfl⟩, q _ W1 g1 ?_⟩
    cases ra <;> rfl
theorem pe_joinU {X : Cx} {o e : Expr} {to te : TE} {apos pos : Pos} (ho : PE X o to) (he : PE X e te) (hs : starEach [e] X.env = [(false, eval e X.env)] := by rfl) (hbase : attributeBase o "join" X.env (eval o X.env) = eval o X.env := by rfl) (hline : (apos.endLine == pos.line) = true := by rfl) :
    PE X (.Call (.Attribute o "join" apos) [e] [] pos) (tM1 (rJoin X.K) to te) := pe_join ho he hs hbase hline
theorem pt_tru {X : Cx} {a : Expr} {ta : TE} (ha : PE X a ta) (he : ∀ whole, isTrue a X.env whole = (do let v ← whole; standAt a.pos; holding [v] (truthy v)) := by intro _; rfl) : PT X a (tTru X.K ta) := pt_truth ha he
/-! ### str(n), int(n), abs(n) -/
def rStrI : List V → Hp → VK → Prop := fun xs H Q => ∃ i : Int, xs = [.int i] ∧ i.natAbs.log2 < 1920 ∧ Q (.str (toString i)) H
theorem call_strI {X : Cx} : CallR X (.type "str") rStrI := call_str_int
theorem digit_str : ∀ n : Nat, n < 10 → ((toString (n : Int) : Str)).cps.toList = [48 + n] := by
  intro n hn
  have : n = 0 ∨ n = 1 ∨ n = 2 ∨ n = 3 ∨ n = 4 ∨ n = 5 ∨ n = 6 ∨ n = 7 ∨ n = 8 ∨ n = 9 := by omega
  rcases this with e | e | e | e | e | e | e | e | e | e <;> (subst e; decide +kernel)
theorem cd_digit {n : Nat} (h : n < 10) : CD rStrI [.int n] (· = .dat (.str [48 + n])) := fun W vs r Q q => by
  cases r with
  | cons r rr =>
    cases rr
    cases r
    refine ⟨n, rfl, ?_, ?_⟩
    · have h2 : (n : Int).natAbs.log2 ≤ n := by
        rw [Int.natAbs_natCast]
        exact Nat.log2_le_self n
      omega
    · rw [tx_eq, digit_str n h]
      exact dat1 (.str [48 + n]) q
def rIntI : List V → Hp → VK → Prop := fun xs H Q => (∃ i : Int, xs = [.int i] ∧ Q (.int i) H) ∨ ∃ k : Bool, xs = [.bl k] ∧ Q (.int (if k then 1 else 0)) H
theorem call_intI {X : Cx} : CallR X (.type "int") rIntI := call_int1
theorem cd_int {i : Int} : CD rIntI [.int i] (· = .dat (.int i)) := fun W vs r Q q => by
  cases r with
  | cons r rr =>
    cases rr
    cases r
    exact .inl ⟨i, rfl, dat1 (.int i) q⟩
def rAbsI : List V → Hp → VK → Prop := fun xs H Q => ∃ i : Int, xs = [.int i] ∧ Q (.int (if i < 0 then -i else i)) H
theorem call_absI {X : Cx} : CallR X (.builtin "abs") rAbsI := call_abs
theorem cd_abs {i : Int} : CD rAbsI [.int i] (· = .dat (.int (if i < 0 then -i else i))) := fun W vs r Q q => by
  cases r with
  | cons r rr =>
    cases rr
    cases r
    exact ⟨i, rfl, dat1 (.int _) q⟩
end
/-! ### the same heap, read otherwise -/
structure Rty (H H' : Hp) : Prop where
  non : ∀ b, H b = none → H' b = none
  tup : ∀ b xs, H b = some (.tup xs) → H' b = some (.tup xs)
  frz : ∀ b o u, H b = some (.frz o u) → H' b = some (.frz o u)
  tbl : ∀ b ps, H b = some (.tbl ps) → H' b = some (.tbl ps)
theorem fn_rty {P : Program} {w : World} {K : PySem.W.Frag} {mg : Str → Option Value} {base : Heap} {k : Nat} {f : Addr} {fd : FuncData} {ps : List Str} {sp sp' : Sp} (F : FnOk P w K mg base CX0 k f fd ps sp) (len : ∀ vs H Q E, sp' vs H Q E → vs.length = ps.length)
    (h : ∀ vs H Q E hp, sp' vs H Q E → HOk P w H hp → ∃ H1, Rty H H1 ∧ HOk P w H1 hp ∧ sp vs H1 (fun v H' => ∀ hp', HOk P w H' hp' → ∃ H'', Rty H' H'' ∧ HOk P w H'' hp' ∧ Q v H'') E) : FnOk P w K mg base CX0 k f fd ps sp' := by
  refine ⟨len, fun A outer s H args us vs Q E hr he hb hv hsp => ?_⟩
  obtain ⟨H1, t, ok, q⟩ := h vs H Q E s.heap hsp he.hok
  refine codeAny_mono (F.run A outer s H1 args us vs _ E hr ⟨he.frames, he.mod, fun b o e => ⟨(he.bs b o e).1, t.non b (he.bs b o e).2⟩, he.bsz, he.funs, fun b hb => t.non b (he.frf b hb), ok, he.bare⟩ hb hv q) fun r s' hq => ?_
  cases r with
  | error e => exact hq
  | ok fl =>
    cases fl with
    | ret u =>
      obtain ⟨v, H', a1, a2, un, ok', r1, z⟩ := hq
      obtain ⟨H'', t2, ok2, q2⟩ := z s'.heap ok'
      exact ⟨v, H'', a1, a2, ⟨fun b o x y => un.keep b o x (t.non b y), fun b o x y => un.slot b o x (t.non b y), fun b o x y n => t2.non b (un.free b o x (t.non b y) n), un.there, fun b xs x => t2.tup b xs (un.tups b xs (t.tup b xs x)), fun b o u x => t2.frz b o u (un.frzs b o u (t.frz b o u x)), fun b ps x => by
        obtain ⟨m, y⟩ := un.tbls b ps (t.tbl b ps x)
        exact ⟨m, t2.tbl b _ y⟩⟩, ok2, r1, q2⟩
    | next => exact hq.elim
    | brk => exact hq.elim
    | cont => exact hq.elim
theorem bag_ne {b c : Addr} {u : HO} (h : ∀ φ, u ≠ .ext φ) : bagO b c ≠ u := fun e => h _ e.symm
theorem rty_upd {H : Hp} {b : Addr} {o u : HO} (h : H b = some o) (n1 : ∀ xs, o ≠ .tup xs) (n2 : ∀ a v, o ≠ .frz a v) (n3 : ∀ ps, o ≠ .tbl ps) : Rty H (upd H b u) :=
  ⟨fun a e => by rw [upd_ne (fun z => by rw [z, h] at e; cases e)]; exact e, fun a xs e => by rw [upd_ne (fun z => by rw [z, h] at e; exact n1 xs (Option.some.inj e))]; exact e,
    fun a o' v e => by rw [upd_ne (fun z => by rw [z, h] at e; exact n2 o' v (Option.some.inj e))]; exact e, fun a ps e => by rw [upd_ne (fun z => by rw [z, h] at e; exact n3 ps (Option.some.inj e))]; exact e⟩
theorem hok_upd {P : Program} {w : World} {H : Hp} {hp : Heap} {b : Addr} {o u : HO} (ok : HOk P w H hp) (h : H b = some o) (n1 : ∀ xs, o ≠ .tup xs) (n2 : ∀ a, o ≠ .own a) (new : ObjOk P w (upd H b u) hp b u) : HOk P w (upd H b u) hp := fun a q e => by
  by_cases z : a = b
  · subst z; rw [upd_same] at e; cases e; exact new
  · rw [upd_ne z] at e
    exact (ok a q e).stay (fun _ _ _ y => y) (fun c y => by rw [upd_ne (fun z => by rw [z, h] at y; exact n2 a (Option.some.inj y))]; exact y) (fun c xs y => by rw [upd_ne (fun z => by rw [z, h] at y; exact n1 xs (Option.some.inj y))]; exact y)
/-- the bag's list -/
def bagL (c : Addr) (i r m n : Int) : HO := .lst [.ref c, .int i, .int r, .int m, .int n]
theorem bag_out {P : Program} {w : World} {H : Hp} {hp : Heap} {b c : Addr} (ok : HOk P w H hp) (h : H b = some (bagO b c)) :
    ∃ i r m n, 0 ≤ i ∧ 0 ≤ r ∧ 0 ≤ m ∧ m < 2147483648 ∧ Rty H (upd H b (bagL c i r m n)) ∧ HOk P w (upd H b (bagL c i r m n)) hp := by
  have q : ObjOk P w H hp b (.ext _) := ok b _ h
  obtain ⟨⟨i, r, m, n, its, nn, v, e, h1, h2, h3, h4⟩, _, _⟩ := q
  have ne : ∀ {u : HO}, (∀ φ, u ≠ .ext φ) → bagO b c ≠ u := fun h => bag_ne h
  exact ⟨i, r, m, n, h1, h2, h3, h4, rty_upd h (fun xs => ne fun _ z => nomatch z) (fun a v => ne fun _ z => nomatch z) (fun ps => ne fun _ z => nomatch z), hok_upd ok h (fun xs => ne fun _ z => nomatch z) (fun a => ne fun _ z => nomatch z) ⟨by show 5 ≤ sizeLine; decide, its, nn, v, e⟩⟩
theorem bag_in {P : Program} {w : World} {H : Hp} {hp : Heap} {b c : Addr} {i r m n : Int} (ok : HOk P w H hp) (h : H b = some (bagL c i r m n)) (h1 : 0 ≤ i) (h2 : 0 ≤ r) (h3 : 0 ≤ m) (h4 : m < 2147483648) :
    Rty H (upd H b (bagO b c)) ∧ HOk P w (upd H b (bagO b c)) hp := by
  have q : ObjOk P w H hp b (.lst [.ref c, .int i, .int r, .int m, .int n]) := ok b _ h
  obtain ⟨_, its, nn, v, e⟩ := q
  refine ⟨rty_upd h (fun xs z => nomatch z) (fun a v z => nomatch z) (fun ps z => nomatch z), hok_upd ok h (fun xs z => nomatch z) (fun a z => nomatch z) ⟨⟨i, r, m, n, its, nn, v, e, h1, h2, h3, h4⟩, ⟨_, e⟩, fun hp1 hp2 ⟨i, r, m, n, its, nn, v, e, y⟩ k => ⟨i, r, m, n, its, nn, v, k _ e, y⟩⟩⟩
end Nt

namespace Nt
open PySem PySem.Spec PyProof.Rows L2
theorem take_step {α : Type} {l : List α} {i : Nat} {x : α} (h : l[i]? = some x) : l.take (i + 1) = l.take i ++ [x] := by rw [List.take_add_one, h]; rfl
theorem take_all {α : Type} (l : List α) : l.take l.length = l := List.take_length
theorem map_get' {α β : Type} {f : α → β} {s : List α} {i : Nat} {d : β} (h : (s.map f)[i]? = some d) : ∃ c, s[i]? = some c ∧ d = f c := by
  rw [List.getElem?_map] at h
  cases hc : s[i]? with
  | none => rw [hc] at h; cases h
  | some c => rw [hc] at h; exact ⟨c, rfl, (Option.some.inj h).symm⟩
section
variable {K : PySem.W.Frag} {ρ : List En} {te : TE} {tt : TT} {wi : TI} {j k : Nat}
theorem lc1_filt {α : Type} {ds : List α} {emb : α → D} {t : α → Bool} {f : α → D} (h : IV1 wi ρ (· = ds.map emb)) (hn : ds.length ≤ 100000) (ht : ∀ (i : Nat) d, ds[i]? = some d → ET tt (ρ.set j (.dat (emb d))) (· = t d)) (he : ∀ (i : Nat) d, ds[i]? = some d → t d = true → ED te (ρ.set j (.dat (emb d))) (· = f d)) :
    EV (tLc wi (gName j) tt te [j]) ρ (· = .own ((ds.filter t).map f)) :=
  (e_lc1 (T := fun x => x = ds.map emb) (Inv := fun _ i acc => acc = ((ds.take i).filter t).map f) h (fun x e => by rw [e, List.length_map]; exact hn) (fun x e => rfl) (fun x i d acc e hd ha => by
    subst e
    obtain ⟨c, hc, rfl⟩ := map_get' hd
    refine (ht i c hc).imp fun b hb => ?_
    cases b with
    | true =>
      refine iteT ((he i c hc hb.symm).imp fun y hy => ?_)
      rw [take_step hc, List.filter_append, List.map_append, ha, hy]
      simp [← hb]
    | false =>
      refine iteF ?_
      rw [take_step hc, List.filter_append, List.map_append, ha]
      simp [← hb])).imp fun e ⟨x, acc, e1, e2, e3⟩ => by rw [e1, e3, e2, List.length_map, take_all]
theorem lc1_map {α : Type} {ds : List α} {emb : α → D} {f : α → D} (h : IV1 wi ρ (· = ds.map emb)) (hn : ds.length ≤ 100000) (he : ∀ (i : Nat) d, ds[i]? = some d → ED te (ρ.set j (.dat (emb d))) (· = f d)) : EV (tLc wi (gName j) tYes te [j]) ρ (· = .own (ds.map f)) :=
  (lc1_filt (t := fun _ => true) h hn (fun i d hd => et_yes) (fun i d hd _ => he i d hd)).imp fun e q => by rw [q, List.filter_eq_self.mpr fun _ _ => rfl]
theorem lc2_filt {α : Type} {ds : List α} {emb : α → D × D} {t : α → Bool} {f : α → D} (hjk : j ≠ k) (h : IV2 wi ρ (· = ds.map emb)) (hn : ds.length ≤ 100000) (ht : ∀ (i : Nat) d, ds[i]? = some d → ET tt ((ρ.set j (.dat (emb d).1)).set k (.dat (emb d).2)) (· = t d)) (he : ∀ (i : Nat) d, ds[i]? = some d → t d = true → ED te ((ρ.set j (.dat (emb d).1)).set k (.dat (emb d).2)) (· = f d)) :
    EV (tLc wi (gTup K 2 (gCons (gName j) (gCons (gName k) gNil))) tt te [j, k]) ρ (· = .own ((ds.filter t).map f)) :=
  (e_lc2 (T := fun x => x = ds.map emb) (Inv := fun _ i acc => acc = ((ds.take i).filter t).map f) h hjk (fun x e => by rw [e, List.length_map]; exact hn) (fun x e => rfl) (fun x i d acc e hd ha => by
    subst e
    obtain ⟨c, hc, rfl⟩ := map_get' hd
    refine (ht i c hc).imp fun b hb => ?_
    cases b with
    | true =>
      refine iteT ((he i c hc hb.symm).imp fun y hy => ?_)
      rw [take_step hc, List.filter_append, List.map_append, ha, hy]
      simp [← hb]
    | false =>
      refine iteF ?_
      rw [take_step hc, List.filter_append, List.map_append, ha]
      simp [← hb])).imp fun e ⟨x, acc, e1, e2, e3⟩ => by rw [e1, e3, e2, List.length_map, take_all]
theorem lc2_map {α : Type} {ds : List α} {emb : α → D × D} {f : α → D} (hjk : j ≠ k) (h : IV2 wi ρ (· = ds.map emb)) (hn : ds.length ≤ 100000) (he : ∀ (i : Nat) d, ds[i]? = some d → ED te ((ρ.set j (.dat (emb d).1)).set k (.dat (emb d).2)) (· = f d)) :
    EV (tLc wi (gTup K 2 (gCons (gName j) (gCons (gName k) gNil))) tYes te [j, k]) ρ (· = .own (ds.map f)) :=
  (lc2_filt (t := fun _ => true) hjk h hn (fun i d hd => et_yes) (fun i d hd _ => he i d hd)).imp fun e q => by rw [q, List.filter_eq_self.mpr fun _ _ => rfl]
/-- pairs of signs -/
def pr (p : Nat × Nat) : D × D := (.str [p.1], .str [p.2])
theorem iv_zipS {K' : PySem.W.Frag} {ar : TA} {x y : List Nat} (h : EA ar ρ (· = [.str x, .str y])) : IV2 (iZipG K' ar) ρ (· = (x.zip y).map pr) := by
  have e : (chs x).zip (chs y) = (x.zip y).map pr := by
    unfold chs pr
    rw [List.zip_map]
    rfl
  have h' := iv_zip (K := K') (.str x) (.str y) h
  rw [e] at h'
  exact h'
/-- a number and a sign -/
def ipr (p : Nat × Nat) : D × D := (.int p.1, .str [p.2])
theorem iv_enumZ {ar : TA} {s : List Nat} (h : EA ar ρ (· = [.str s])) : IV2 (iEnumS ar) ρ (· = ((List.range s.length).zip s).map ipr) := by
  have e : (ixs s.length).zip (chs s) = ((List.range s.length).zip s).map ipr := by
    unfold ixs chs ipr
    rw [List.zip_map]
    rfl
  have h' := iv_enum h
  rw [e] at h'
  exact h'
theorem iv_strS {s : List Nat} (h : ED te ρ (· = .str s)) : IV1 (iStr te) ρ (· = s.map fun c => .str [c]) := iv_str1 h
theorem iv_rngN {ar : TA} {n : Nat} (h : EA ar ρ (· = [.int n])) (hn : n ≤ 100000) : IV1 (iRng1 ar) ρ (· = (List.range n).map fun (i : Nat) => .int i) := by
  have h' := iv_rng1 h (by omega) (by omega)
  rw [Int.toNat_natCast] at h'
  exact h'
end
theorem hu64 {A : Around} {k : Nat} (hr : Room k A) : A.units + 64 < cLine := by have := hr.un; omega
theorem spE_len {Rg : List D → (En → Prop) → Prop} {vs : List V} {H : Hp} {Q : VK} {X : XK} {n : Nat} (h : SpE Rg vs H Q X) (hl : ∀ ds P, Rg ds P → ds.length = n) : vs.length = n := by
  obtain ⟨W, ds, P, _, r, hr, _⟩ := h
  rw [r.len]; exact hl ds P hr
/-- list index of a zip -/
theorem zip_get {α β : Type} {xs : List α} {ys : List β} {i : Nat} {p : α × β} (h : (xs.zip ys)[i]? = some p) : xs[i]? = some p.1 ∧ ys[i]? = some p.2 := by
  rw [List.getElem?_zip_eq_some] at h; exact h
theorem chs_get {s : List Nat} {i : Nat} {d : D} (h : (chs s)[i]? = some d) : ∃ c, s[i]? = some c ∧ d = .str [c] := by
  unfold chs at h
  rw [List.getElem?_map] at h
  cases hc : s[i]? with
  | none => rw [hc] at h; cases h
  | some c => rw [hc] at h; exact ⟨c, rfl, (Option.some.inj h).symm⟩
theorem map_get {α : Type} {f : α → D} {s : List α} {i : Nat} {d : D} (h : (s.map f)[i]? = some d) : ∃ c, s[i]? = some c ∧ d = f c := by
  rw [List.getElem?_map] at h
  cases hc : s[i]? with
  | none => rw [hc] at h; cases h
  | some c => rw [hc] at h; exact ⟨c, rfl, (Option.some.inj h).symm⟩
theorem ixs_get' {n i : Nat} {d : D} (h : (ixs n)[i]? = some d) : i < n ∧ d = .int i := by
  have hl := (List.getElem?_eq_some_iff.mp h).1
  have hl' : i < n := by simpa [ixs] using hl
  rw [ixs_get hl'] at h
  exact ⟨hl', (Option.some.inj h).symm⟩
end Nt
namespace Nt
open PySem PySem.Spec PyProof.Rows L2
/-! ### the rules with the written part named -/
section
variable {X : Cx} {K : PySem.W.Frag}
theorem op_eqK (hK : X.K = K) (hu : X.A.units + 64 < cLine) : OpR X (compareOp .Eq) (rEqU K) := hK ▸ op_eqU hu
theorem op_neK (hK : X.K = K) (hu : X.A.units + 64 < cLine) : OpR X (compareOp .NotEq) (rNeU K) := hK ▸ op_neU hu
theorem op_inK (hK : X.K = K) : OpR X (compareOp .In) (rInU K false) := hK ▸ op_inU
theorem op_notInK (hK : X.K = K) : OpR X (compareOp .NotIn) (rInU K true) := hK ▸ op_notInU
theorem ix_K (hK : X.K = K) : IxR X (rIx K) := hK ▸ ix_seq
theorem sl_K (hK : X.K = K) : L2.SlR X (rSlU K) := hK ▸ sl_U
theorem call_lenK (hK : X.K = K) : CallR X (.builtin "len") (rLenU K) := hK ▸ call_lenU
theorem call_listK (hK : X.K = K) : CallR X (.type "list") (rListC K) := hK ▸ call_listC
theorem call_allK (hK : X.K = K) (hc : X.calm = true) : CallR X (.builtin "all") (rAll K) := hK ▸ cr_all hc
theorem call_isiK1 (hK : X.K = K) : CallR X (.builtin "isinstance") (rIsi K) := hK ▸ call_isi
theorem call_isiK2 (hK : X.K = K) : CallR X (.builtin "isinstance") (rIsiT K) := hK ▸ call_isiT
theorem pe_joinK {o e : Expr} {to te : TE} {apos pos : Pos} (hK : X.K = K) (ho : PE X o to) (he : PE X e te) (hs : starEach [e] X.env = [(false, eval e X.env)] := by rfl) (hbase : attributeBase o "join" X.env (eval o X.env) = eval o X.env := by rfl) (hline : (apos.endLine == pos.line) = true := by rfl) :
    PE X (.Call (.Attribute o "join" apos) [e] [] pos) (tM1 (rJoin K) to te) := hK ▸ pe_joinU ho he hs hbase hline
theorem pt_truK {a : Expr} {ta : TE} (hK : X.K = K) (ha : PE X a ta) (he : ∀ whole, isTrue a X.env whole = (do let v ← whole; standAt a.pos; holding [v] (truthy v)) := by intro _; rfl) : PT X a (tTru K ta) := hK ▸ pt_tru ha he
theorem pe_revK {e : Expr} {te : TE} {k : Nat} {p1 p2 p3 pos : Pos} (hK : X.K = K) (he : PE X e te) : PE X (.Subscript e (.Slice none none (some (.UnaryOp .USub (.Constant (.int 1) k p1) p2)) p3) pos) (tRevL K te) := hK ▸ pe_revL he
theorem pi_listK {tg l : Expr} {tl : TE} (hK : X.K = K) (hl : PE X l tl) : PI X tg l (iSeq K tl) := ⟨fun pins s σ H R I h => by
  subst hK
  rcases h with h | h
  · exact (pi_list hl).run pins s σ H R I h
  · exact (pi_tup hl).run pins s σ H R I h⟩
theorem pi_zipK {e e2 : Expr} {ta : TA} {p pos tpos : Pos} {elts : List Expr} {kk : Nat} (hK : X.K = K) (hg : Gl X "zip") (hm : X.mg "zip" = none) (ha : PA X [e, e2] ta)
    (hs : starEach [e, e2] X.env = (false, eval e X.env) :: starEach [e2] X.env := by rfl) (hpl : (backTo pos (starEach [e2] X.env)).any (·.1) = false := by rfl) :
    PI X (.Tuple elts kk tpos) (.Call (.Name "zip" p) [e, e2] [] pos) (iZipG K ta) := hK ▸ pi_zipG hg hm ha hs hpl
end
end Nt

namespace Nt
open PySem PySem.Spec PyProof.Rows L2
/-! ### own dicts: keys texts (and ints), values data -/
theorem RepK.app {H : Hp} : ∀ {kd ke : List (Key × D)} {kvs kws : List (Key × V)}, RepK H kd kvs → RepK H ke kws → RepK H (kd ++ ke) (kvs ++ kws)
  | _, _, _, _, .nil, r => r
  | _, _, _, _, .cons h q, r => .cons h (q.app r)
theorem RepK.keys {H : Hp} : ∀ {kd : List (Key × D)} {kvs : List (Key × V)}, RepK H kd kvs → kvs.map Prod.fst = kd.map Prod.fst
  | _, _, .nil => rfl
  | _, _, .cons _ r => by rw [List.map_cons, List.map_cons, r.keys]
theorem RepK.len {H : Hp} {kd : List (Key × D)} {kvs : List (Key × V)} (r : RepK H kd kvs) : kvs.length = kd.length := by
  have e := congrArg List.length r.keys
  rw [List.length_map, List.length_map] at e
  exact e
instance decK (k : Key) (l : List Key) : Decidable (k ∈ l) := decidable_of_iff (l.any (fun z => decide (z = k)) = true) (by
  rw [List.any_eq_true]
  exact ⟨fun ⟨z, h, e⟩ => by rw [← of_decide_eq_true e]; exact h, fun h => ⟨k, h, decide_eq_true rfl⟩⟩)
theorem any_key (k : Key) : ∀ kvs : List (Key × V), (kvs.any fun kv => decide (kv.1 = k)) = decide (k ∈ kvs.map Prod.fst)
  | [] => rfl
  | p :: r => by
    rw [List.any_cons, any_key k r, List.map_cons]
    by_cases h : p.1 = k
    · rw [decide_eq_true h, Bool.true_or, decide_eq_true (by rw [h]; exact List.mem_cons_self)]
    · rw [decide_eq_false h, Bool.false_or]
      refine decide_eq_decide.mpr ⟨fun z => List.mem_cons_of_mem _ z, fun z => ?_⟩
      rcases List.mem_cons.mp z with e | e
      · exact absurd e.symm h
      · exact e
/-- a text as a key -/
def tk (s : List Nat) : Key := .inr ⟨s.toArray⟩
theorem tk_inj {a b : List Nat} (h : tk a = tk b) : a = b := by
  have h' := congrArg (fun z : Str => z.cps.toList) (Sum.inr.inj h)
  simpa using h'
theorem mem_tk {α : Type} {s : List Nat} {F : List (List Nat)} {f : List Nat → α} : tk s ∈ (F.map fun z => (tk z, f z)).map Prod.fst ↔ s ∈ F := by
  rw [List.map_map, List.mem_map]
  constructor
  · rintro ⟨z, hz, e⟩
    rw [← tk_inj e]; exact hz
  · exact fun h => ⟨s, h, rfl⟩
section
variable {K : PySem.W.Frag} {ta tb te ty tv : TE} {ρ : List En} {p : Ps} {d : D} {s : List Nat} {kd : List (Key × D)} {i : Nat}
/-- {e: f}, e a text -/
theorem e_disp1 (hk : ED ta ρ (· = .str s)) (hv : ED tb ρ (· = d)) : EV (tDisp [(ta, tb)]) ρ (· = .dct [(tk s, d)]) := fun W0 W σ E Q q pp hp => by
  have gp := Grow.add (W := W) (o := .dK []) hp
  refine hk W0 _ σ (E.grow gp) _ fun v1 d1 W1 g1 r1 e1 => ?_
  refine hv W0 _ σ ((E.grow gp).grow g1) _ fun v2 d2 W2 g2 r2 e2 => ?_
  subst e1 e2
  cases r1
  have h1 : (W.add pp (.dK []) hp).h pp = some (.dK []) := upd_same
  have h2 : W1.h pp = some (.dK []) := g1.h _ _ h1
  have h3 : W2.h pp = some (.dK []) := g2.h _ _ h2
  have b1 : W1.b pp = none := g1.nw pp (W.le.none' hp) (by rw [h1]; exact fun z => (nomatch z))
  have b2 : W2.b pp = none := g2.nw pp b1 (by rw [h2]; exact fun z => (nomatch z))
  refine ⟨h3, [(tk s, v2)], rfl, by simp, ?_⟩
  refine q (.ref pp) (.dct [(tk s, d2)]) ⟨W2.b, upd W2.h pp (.dK [(tk s, v2)]), fun a o e => ?_⟩ ⟨((gp.trans g1).trans g2).b, fun a o e => ?_, ((gp.trans g1).trans g2).nw⟩ ⟨pp, _, rfl, upd_same, b2, hp, .cons r2 .nil⟩ rfl
  · show upd W2.h pp _ a = some o
    rw [upd_ne (fun z => by rw [z, b2] at e; cases e)]; exact W2.le _ _ e
  · show upd W2.h pp _ a = some o
    rw [upd_ne (ne_of_none e hp)]; exact ((gp.trans g1).trans g2).h _ _ e
/-- e not in d -/
theorem et_dnotin (h : ρ[i]? = some (.dct kd)) (hy : ED ty ρ (· = .str s)) : ET (tB (tDNotIn ty (tVar i))) ρ (· = !decide (tk s ∈ kd.map Prod.fst)) := fun W0 W σ E Q q =>
  hy W0 W σ E _ fun v1 d1 W1 g1 r1 e1 => by
    subst e1
    cases r1
    obtain ⟨l, kvs, hv, h1, _, r, _⟩ := (E.grow g1).mutK (kd' := []) h
    refine ⟨.ref l, hv, l, _, rfl, DGet.k (k := tk s) h1, _, rfl, q _ W1 g1 ?_⟩
    rw [← valV_any, any_key, r.keys]
theorem et_din (h : ρ[i]? = some (.dct kd)) (hy : ED ty ρ (· = .str s)) : ET (tB (tDIn ty (tVar i))) ρ (· = decide (tk s ∈ kd.map Prod.fst)) := fun W0 W σ E Q q =>
  hy W0 W σ E _ fun v1 d1 W1 g1 r1 e1 => by
    subst e1
    cases r1
    obtain ⟨l, kvs, hv, h1, _, r, _⟩ := (E.grow g1).mutK (kd' := []) h
    refine ⟨.ref l, hv, l, _, rfl, DGet.k (k := tk s) h1, _, rfl, q _ W1 g1 ?_⟩
    rw [← valV_any, any_key, r.keys]
/-- d[e] = f, the key new -/
theorem t_dput (h : ρ[i]? = some (.dct kd)) (hv : ED tv ρ (· = d)) (hk : ED ty ρ (· = .str s)) (hn : ¬ tk s ∈ kd.map Prod.fst) (hl : kd.length < 100000) (k : p.N (ρ.set i (.dct (kd ++ [(tk s, d)])))) : TT' (sDPut (tVar i) ty tv) ρ p := fun W0 W σ E Dd nx rt bk ct =>
  hv W0 W σ E _ fun v d1 W1 g1 r1 e1 => by
    subst e1
    obtain ⟨l, _, hvl, _⟩ := E.mutK (kd' := []) h
    refine ⟨.ref l, hvl, hk W0 W1 σ (E.grow g1) _ fun y d2 W2 g2 r2 e2 => ?_⟩
    subst e2
    cases r2
    obtain ⟨l', kvs, hv', h1, _, r, z⟩ := ((E.grow g1).grow g2).mutK (kd' := kd ++ [(tk s, d1)]) h
    rw [hvl] at hv'
    cases hv'
    obtain ⟨W3, a1, a2, E3⟩ := z (kvs ++ [(tk s, v)]) (r.app (.cons (r1.mono g2.b) .nil))
    refine ⟨l, _, rfl, DPut.k (k := tk s) (v := v) h1 (Evl.sz_lt (by rw [r.len]; exact hl)), ?_⟩
    have e : putK kvs (tk s) v = kvs ++ [(tk s, v)] := by
      unfold putK
      rw [any_key, r.keys, decide_eq_false hn]
      rfl
    rw [e, ← a2]
    exact nx σ W3 _ E3 (by rw [a1]; exact (g1.trans g2).b) k
end
/-! ### sorted(list of texts) -/
theorem strs_back {H : Hp} : ∀ {xs : List (List Nat)} {ys : List Str}, ys.Perm (xs.map fun s => (⟨s.toArray⟩ : Str)) → (ys.map fun y => y.cps.toList).Perm xs := fun {xs ys} h => by
  have := h.map fun y : Str => y.cps.toList
  rw [List.map_map] at this
  have e : xs.map ((fun y : Str => y.cps.toList) ∘ fun s => (⟨s.toArray⟩ : Str)) = xs := by
    conv => rhs; rw [← List.map_id xs]
    rfl
  rw [e] at this
  exact this
theorem rep_strs {H : Hp} : ∀ ys : List Str, Reps H (ys.map fun y => D.str y.cps.toList) (ys.map V.str)
  | [] => .nil
  | y :: ys => .cons (rep_str y) (rep_strs ys)
theorem lst_tr2 {a b c : List Nat} (h1 : ¬ b < a) (h2 : ¬ c < b) : ¬ c < a := fun h => by
  rcases Decidable.em (a < b) with h3 | h3
  · exact h2 (List.lt_trans h h3)
  · have e := List.le_antisymm (List.not_lt.mp h1) (List.not_lt.mp h3)
    rw [e] at h
    exact h2 h
theorem rising2 : ∀ (r : List Str) (p : Str), risingS p r = true → (∀ x ∈ r, ¬ x.cps.toList < p.cps.toList) ∧ r.Pairwise fun a b => ¬ b.cps.toList < a.cps.toList
  | [], _, _ => ⟨fun _ h => (nomatch h), List.Pairwise.nil⟩
  | x :: r, p, h => by
    unfold risingS at h
    rw [Bool.and_eq_true, Bool.not_eq_true'] at h
    have h1 : ¬ x.cps.toList < p.cps.toList := by
      have := h.1
      rw [ltCps_eq] at this
      exact of_decide_eq_false this
    obtain ⟨a, b⟩ := rising2 r x h.2
    refine ⟨fun y hy => ?_, List.pairwise_cons.mpr ⟨a, b⟩⟩
    rcases List.mem_cons.mp hy with e | hy
    · rw [e]; exact h1
    · exact lst_tr2 h1 (a y hy)
theorem sorted2 {l : List Str} (h : sortedS l = true) (nd : (l.map fun y => y.cps.toList).Nodup) : (l.map fun y => y.cps.toList).Pairwise (· < ·) := by
  have h1 : l.Pairwise fun a b => ¬ b.cps.toList < a.cps.toList := by
    cases l with
    | nil => exact List.Pairwise.nil
    | cons x r =>
      obtain ⟨a, b⟩ := rising2 r x h
      exact List.pairwise_cons.mpr ⟨a, b⟩
  refine ((List.pairwise_map (R := fun a b : List Nat => ¬ b < a) (f := fun y : Str => y.cps.toList)).mpr h1 |>.and nd).imp fun {a b} hab => ?_
  by_cases q : a < b
  · exact q
  · exact absurd (List.le_antisymm (List.not_lt.mp hab.1) (List.not_lt.mp q)) hab.2
theorem cd_sortS {K : PySem.W.Frag} {F : List (List Nat)} (hl : F.length < 64) (nd : F.Nodup) : CD (rSortedS K) [.lst (F.map D.str)] (fun e => ∃ M : List (List Nat), e = .own (M.map D.str) ∧ M.Perm F ∧ M.Pairwise (· < ·)) := fun W vs r Q q => by
  cases r with
  | cons r rr =>
    cases rr
    cases r with
    | lst ha ra =>
      rename_i a ws
      have ew := txs_of ra
      refine ⟨a, _, rfl, sq_l (by rw [← ew]; exact W.le _ _ ha), by rw [List.length_map]; exact hl, fun ys pp hp hs hn => ?_⟩
      have pm := strs_back (H := W.b) hp
      obtain ⟨g, c⟩ := new_own (Grow.refl W) hn (rep_strs (H := W.b) ys)
      refine q (.ref pp) _ _ g c ⟨ys.map fun y => y.cps.toList, by rw [List.map_map]; rfl, pm, sorted2 hs (pm.nodup_iff.mpr nd)⟩
end Nt

namespace Nt
open PySem PySem.Spec PyProof.Rows L2
/-! ### enumerate(v, start=1) -/
def ItN (K : PySem.W.Frag) (k : Sk) : It :=
  ⟨fun i H => ∃ xs, k.has K H xs ∧ i < xs.length, fun i H v H' => ∃ (T : Addr) (x : V), v = .ref T ∧ H T = none ∧ H' = upd H T (.tup [.int (1 + (i : Int)), x]) ∧ ∀ xs, k.has K H xs → xs[i]? = some x, fun i H => ∃ xs, k.has K H xs ∧ i = xs.length⟩
theorem turn_enumN {P : Program} {w : World} {K : PySem.W.Frag} {elts : List Expr} {kk : Nat} {tpos : Pos} {k : Sk} {e it : Addr} (hne : e ≠ it) (hef : e ∉ k.fp) (hif : it ∉ k.fp) :
    Turn P w K (.Tuple elts kk tpos) (ItN K k) [e, it] e (fun i h => (∃ old, IsEnum h e it (1 + (i : Int)) old) ∧ k.it it i h) where
  mem := by simp
  obj := fun i h st c hc => by
    obtain ⟨⟨old, he⟩, h1⟩ := st
    rcases (show c = e ∨ c = it by simpa using hc) with q | q <;> rw [q]
    · exact ⟨_, he, fun v q => nomatch q⟩
    · exact Sk.it_obj h1
  keep := fun i h h' st kp => by
    obtain ⟨⟨old, he⟩, h1⟩ := st
    exact ⟨⟨old, kp e (by simp) _ he⟩, Sk.it_at h1 fun o q => kp it (by simp) o q⟩
  item := by
    intro X hP hw hK hc i pins s σ H E I hf st hg
    subst hP hw hK
    obtain ⟨⟨old, he⟩, h1⟩ := st
    obtain ⟨xs, hx, hi⟩ := hg
    obtain ⟨P1, St1, D1, p1, a1, b1⟩ := Sk.draws (w := X.w) (A := X.A.in1) I (I.ok.hd hc) hx it hif i h1
    have W := GoesN.enumFrom (elts := elts) (x1 := kk) (pos := tpos) 1 D1 e hne (by rw [List.mem_cons]; exact fun z => z.elim hne hef) List.mem_cons_self
    have hlt : ∀ c ∈ [e, it], c < s.heap.objs.size := fun c hcm => by
      rcases (show c = e ∨ c = it by simpa using hcm) with q | q <;> rw [q]
      · exact Heap.lt_size he
      · obtain ⟨_, e1, _⟩ := Sk.it_obj h1; exact Heap.lt_size e1
    refine thn (W.goes i s (fun v s2 => ∃ x H', L2.Inv X pins σ H' s2 ∧ RelV x v ∧ (ItN X.K k).yld i H x H' ∧ ((∃ old, IsEnum s2.heap e it (1 + ((i + 1 : Nat) : Int)) old) ∧ k.it it (i + 1) s2.heap) ∧ ∀ b ∈ [e, it], H' b = none) E hi ⟨⟨old, he⟩, b1⟩ ?_) fun r s1 q => q
    rintro v h' tk ⟨T, t, u, rfl, hT, q1, hTT⟩ ⟨g1, g2⟩ kk' _
    obtain ⟨x, ex, rx⟩ := p1 i u q1
    have new : ObjOk X.prog X.w (upd H T (.tup [.int (1 + (i : Int)), x])) h' T (.tup [.int (1 + (i : Int)), x]) :=
      ⟨by show 2 ≤ sizeLine; decide, [.int (1 + (i : Int)) t, u], .cons ⟨t, rfl⟩ (.cons rx .nil), hTT⟩
    have I1 : L2.Inv X pins σ (upd H T (.tup [.int (1 + (i : Int)), x])) { s with heap := h', toks := tk } :=
      I.turnedNew (t' := tk) (ch := [e, it]) (fun c o hb q => kk' c o hb q) hf hT new
    refine ⟨.ref T, _, I1, rfl, ⟨T, x, rfl, I.hok.fresh hT, rfl, fun l hl => by rw [Sk.has_inj I hl hx]; exact ex⟩, ⟨g1, a1 _ _ g2⟩, fun c hcm => ?_⟩
    rw [upd_ne (Nat.ne_of_lt (Nat.lt_of_lt_of_le (hlt c hcm) hT))]; exact (hf c hcm).1
  done := by
    intro X hP hw hK hc i pins s σ H E I hf st hg
    subst hP hw hK
    obtain ⟨⟨old, he⟩, h1⟩ := st
    obtain ⟨xs, hx, hi⟩ := hg
    obtain ⟨P1, St1, D1, p1, a1, b1⟩ := Sk.draws (w := X.w) (A := X.A.in1) I (I.ok.hd hc) hx it hif i h1
    have W := GoesN.enumFrom (elts := elts) (x1 := kk) (pos := tpos) 1 D1 e hne (by rw [List.mem_cons]; exact fun z => z.elim hne hef) List.mem_cons_self
    rw [← hi] at W
    exact W.stops s (fun s1 => L2.Inv X pins σ H s1) E ⟨⟨old, he⟩, b1⟩ fun h' tk k _ => I.turnedL (t' := tk) (ch := [e, it]) (fun c o hb q => k c o hb q) hf
  self := fun A i s Q E st h => by
    obtain ⟨⟨_, he⟩, _⟩ := st
    exact wpAny_pyIter_enum he h
section
variable {M : Model} {A : Around} {E : Value → Shared → Prop} {s : Shared}
theorem cw_typeKw {pos : Pos} {T : String} {args : List (Bool × Sem Value)} {keywords : List (Option Str × Sem Value)} {Q : Value → Shared → Prop} (hpl : args.any (·.1) = false) (hkw : keywords.any (·.1.isNone) = false)
    (h : wpAny M A (evalArgs (.type T) true args keywords) (fun a s₁ => wpAny M A (call (.type T) ([] ++ a.pos) a.kw) Q E s₁) E s) : wpAny M A (callWith pos (.type T) [] args keywords) Q E s := by
  unfold callWith; refine wpAny_bind (wpAny_holding (wpAny_mono h (fun a s₁ h₁ => wpAny_bind (wpAny_standAt ?_)) fun _ _ x => x))
  simp only [hpl, hkw, Bool.or_false]; refine wpAny_bind (wpAny_pure ?_)
  exact wpAny_bind (wpAny_mono h₁ (fun r s₂ hr => wpAny_bind (wpAny_holding (wpAny_point (wpAny_pure hr)))) fun _ _ x => x)
end
def iEnum1 (K : PySem.W.Frag) (ta : TA) : TI := fun σ H R => ta σ H fun vs H1 => ∃ (k : Sk) (xs : List V), vs = [k.val] ∧ k.has K H1 xs ∧ R (ItN K k) H1
theorem pi_enum1 {X : Cx} {e : Expr} {ta : TA} {p pos tpos cp kp : Pos} {elts : List Expr} {kk ck : Nat} (hg : Gl X "enumerate") (hm : X.mg "enumerate" = none) (ha : PA X [e] ta)
    (he : backTo pos (starEach [e] X.env) = (false, eval e X.env) :: backTo pos (starEach [] X.env) := by rfl) (hpl : (backTo pos (starEach [e] X.env)).any (·.1) = false := by rfl) :
    PI X (.Tuple elts kk tpos) (.Call (.Name "enumerate" p) [e] [⟨some "start", .Constant (.int 1) ck cp, kp⟩] pos) (iEnum1 X.K ta) := by
  refine ⟨fun pins s σ H R I h => ?_⟩
  refine wpAny_Call_Name_kw (ld_blt I hg hm boot_enumerate ?_)
  have hk : PK X [⟨some "start", .Constant (.int 1) ck cp, kp⟩] (tCons (tC (.int 1)) tNil) := pk_cons pe_int pk_nil
  refine cw_typeKw hpl rfl ?_
  rw [he]
  refine PyProof.Rows.evalArgs_kwB rfl ?_
  rw [← he]
  refine thn (ha.run pos pins s σ H _ I h) fun us s1 ⟨vs, H1, I1, r1, q1⟩ => thn (hk.run pos pins s1 σ H1 (fun ws H2 => ws = [.int 1] ∧ H2 = H1) I1 ⟨rfl, rfl⟩) fun ws s2 ⟨zs, H2, I2, r2, e2, e3⟩ => ?_
  subst e2 e3
  obtain ⟨k, xs, ex, hx, q⟩ := q1
  subst ex
  obtain ⟨u, rfl, ru⟩ := vals1 r1
  obtain ⟨w1, rfl, t, rfl⟩ := vals1 r2
  obtain ⟨o, Hc, B, hB, hit, hfp⟩ := Sk.begins I2 hx ru
  refine enum_begins_start B hB (by decide) (by decide) fun h' he' hio hsz hk' => wpAny_pyIter_enum he' ?_
  have I3 : L2.Inv X pins σ H2 { s2 with heap := h' } := I2.kept (t' := s2.toks) hk'
  refine ⟨s2.heap.objs.size + 1, [s2.heap.objs.size + 1, s2.heap.objs.size], _, _, H2, rfl, I3, turn_enumN (Nat.succ_ne_self _) (fun z => absurd (hfp _ z) (Nat.not_lt_of_le (Nat.le_succ _))) (fun z => Nat.lt_irrefl _ (hfp _ z)), ⟨⟨.none, he'⟩, hit _ _ hio⟩, fun b hb => ?_, q⟩
  have hle : s2.heap.objs.size ≤ b := by
    rcases (show b = s2.heap.objs.size + 1 ∨ b = s2.heap.objs.size by simpa using hb) with z | z <;> rw [z]
    · exact Nat.le_add_right _ _
    · exact Nat.le_refl _
  exact I2.fpOk hle (I2.hok.fresh hle)
section
variable {K : PySem.W.Frag} {ar : TA} {ρ : List En}
/-- 1, 2, .. beside the items -/
def num1 (n : Nat) : List D := (List.range n).map fun (i : Nat) => D.int (1 + (i : Int))
theorem iv_enum1 {x : D} {ds : List D} (hx : Its1 x ds) (h : EA ar ρ (· = [x])) : IV2 (iEnum1 K ar) ρ (· = (num1 ds.length).zip ds) := fun W0 W σ E R q => h W0 W σ E _ fun vs es W' g r e => by
  subst e
  cases r with
  | cons r1 rr =>
    cases rr
    obtain ⟨k, us, rfl, ru, hu⟩ := src (K := K) hx r1
    have l1 := ru.len
    have hl : ((num1 ds.length).zip ds).length = ds.length := by simp [num1]
    refine ⟨k, us, rfl, hu _ W'.le, q _ _ W' g ⟨fun W2 e2 i hi => ⟨us, hu _ (e2.tr W2.le), by omega⟩, fun W2 e2 => ⟨us, hu _ (e2.tr W2.le), by omega⟩, fun W2 e2 i v H' hi y => ?_⟩ rfl⟩
    obtain ⟨T, a, h1, h2, h3, h4⟩ := y
    obtain ⟨d1, e3, q1⟩ := (ru.mono e2).at (h4 us (hu _ (e2.tr W2.le)))
    rw [hl] at hi
    exact ⟨T, _, a, (.int (1 + (i : Int)), d1), h1, h2, h3, by rw [List.getElem?_zip_eq_some]; exact ⟨by simp [num1, hi], e3⟩, .int _, q1⟩
end
/-! ### a dict of the module's own, text keys: d.get(e), the key there -/
def tKG (K : PySem.W.Frag) (d : Addr) (te : TE) : TE := fun σ H Q => te σ H fun y H2 => ∃ (z : Str) (u : Value) (v : V), y = .str z ∧ PySem.W.nsIn K d z = some (some u) ∧ RelV v u ∧ Q v H2
section
variable {X : Cx} {o e : Expr} {apos cpos : Pos} {d : Addr} {es : Array DictEntry} {n : Nat} {te : TE}
theorem kd_at {pins : List (Addr × Obj)} {σ : L2.St} {H : Hp} {s : Shared} (I : L2.Inv X pins σ H s) (D : KDict X.K X.w d es n) : s.TypeIs (.ref d) "dict" ∧ ∀ b, Value.ref d = .ref b → ∃ ob, s.heap.get? b = some ob ∧ ob.dict = none := by
  have hm := PySem.W.mapOf_K (prog := X.prog) (w := X.w) I.kIn D.at_ D.lit
  exact ⟨hm.typeIs, fun b q => by cases q; exact ⟨_, I.kIn _ _ D.at_, rfl⟩⟩
theorem pe_kget {x : Str} {p : Pos} (D : KDict X.K X.w d es n) (hg : Gl X x) (hm : X.mg x = some (.ref d)) (he : PE X e te) (m : M1 X (.Name x p) "get" apos e cpos) (hdb : (x == ("__debug__" : Str)) = false := by decide) :
    PE X (.Call (.Attribute (.Name x p) "get" apos) [e] [] cpos) (tKG X.K d te) := by
  refine ⟨fun pins s σ H Q I h => ?_⟩
  refine wpAny_Call_method m.base m.few m.line PySem.F.plainAttrs_dict PySem.F.slot_dict_get PySem.F.type_dict_get (ld_glob I hg hm ?_ hdb)
  obtain ⟨t1, t2⟩ := kd_at I D
  refine ⟨t1, t2, ?_⟩
  rw [m.trees]
  refine Calls.callWith_builtin rfl (Calls.evalArgs_plain (Calls.spliced_cons (thn (he.run pins s σ H _ I h) fun iv s2 ⟨y, H2, I2, ry, z, u, v, ey, hu, ru, q2⟩ => Calls.spliced_nil ?_)))
  subst ey
  obtain ⟨t, rfl⟩ := ry
  have hmp := PySem.W.mapOf_K (prog := X.prog) (w := X.w) I2.kIn D.at_ D.lit
  refine call_meetsIn PySem.F.slot_dict_get hmp.typeIs PySem.F.entry_dict_get (PySem.F.args_dict_get_2 _ _) (meets_dict_get (PySem.strKind X.prog X.w) d (PySem.strKind_is X.prog X.w z t) D.low) ⟨_, hmp, ?_⟩
  rw [PySem.W.find_K D.at_ hu]
  exact ⟨v, H2, I2.tok _, ru, q2⟩
end
end Nt

namespace Nt
open PySem PySem.Spec PyProof.Rows L2
section
variable {K : PySem.W.Frag} {ta tb te tv ti : TE} {ρ : List En} {p : Ps} {t u : TS} {wi : TI} {P : En → Prop} {PD : D → Prop}
/-- a loop with two names over pairs that are made as it goes -/
theorem t_for2 {j k : Nat} {Ti : List (D × D) → Prop} (h : IV2 wi ρ Ti) (Inv : List (D × D) → Nat → List En → Prop) (h0 : ∀ ds, Ti ds → Inv ds 0 ρ)
    (hs : ∀ ds i d ρ', Ti ds → ds[i]? = some d → Inv ds i ρ' → TT' t ((ρ'.set j (.dat d.1)).set k (.dat d.2)) { N := Inv ds (i + 1), R := p.R, B := p.N, C := Inv ds (i + 1) }) (hd : ∀ ds ρ', Ti ds → Inv ds ds.length ρ' → p.N ρ') :
    TT' (tFor wi (gTup K 2 (gCons (gName j) (gCons (gName k) gNil))) t) ρ p := fun W0 W σ E Dd nx rt bk ct =>
  h W0 W σ E _ fun J ds W1 g1 it tt => by
    refine ⟨fun i m σ' H => i ≤ ds.length ∧ m = ds.length - i ∧ ∃ W' ρ', W'.h = H ∧ Env W0 W' σ' ρ' ∧ Ex W1.b W'.b ∧ Inv ds i ρ', ⟨ds.length, Nat.zero_le _, rfl, W1, ρ, rfl, E.grow g1, Ex.rfl', h0 ds tt⟩, ?_⟩
    rintro i m σ' H ⟨hi, hm, W', ρ', rfl, E', e', inv⟩
    by_cases hlt : i < ds.length
    · refine .inr ⟨it.go W' e' i hlt, fun σ2 H2 => ∃ W' ρ', W'.h = H2 ∧ Env W0 W' σ2 ρ' ∧ Ex W1.b W'.b ∧ Inv ds (i + 1) ρ', fun σ2 H2 l => ⟨ds.length - (i + 1), by omega, hlt, rfl, l⟩, fun v H' y => ?_⟩
      obtain ⟨Tt, x, y', d, rfl, hT, rfl, hd', rx, ry⟩ := it.yld W' e' i v H' hlt y
      have gT := Grow.add (W := W') (o := .tup [x, y']) hT
      have E2 := ((E'.set gT (e := .dat d.1) (v := x) rx j).set (Grow.refl _) (e := .dat d.2) (v := y') ry k)
      refine ⟨Tt, _, rfl, sq_t upd_same, rfl, _, _, rfl, _, _, rfl, rfl, ?_⟩
      exact hs ds i d ρ' tt hd' inv W0 (W'.add Tt (.tup [x, y']) hT) _ E2 _ (fun σ2 W2 ρ2 E3 e2 n => ⟨W2, ρ2, rfl, E3, e'.tr e2, n⟩) rt (fun σ2 W2 ρ2 E3 e2 n => nx σ2 W2 ρ2 E3 ((g1.b.tr e').tr e2) n) (fun σ2 W2 ρ2 E3 e2 n => ⟨W2, ρ2, rfl, E3, e'.tr e2, n⟩)
    · have e : i = ds.length := by omega
      subst e
      exact .inl ⟨it.stop W' e', nx σ' W' ρ' E' (g1.b.tr e') (hd ds ρ' tt inv)⟩
/-- a loop with three names over tuples that stand -/
theorem t_for3t {j k l : Nat} {Ti : List D → Prop} (h : IV1 wi ρ Ti) (h3 : ∀ ds, Ti ds → ∀ d ∈ ds, ∃ x y z, d = .tup [x, y, z]) (Inv : List D → Nat → List En → Prop) (h0 : ∀ ds, Ti ds → Inv ds 0 ρ)
    (hs : ∀ ds i x y z ρ', Ti ds → ds[i]? = some (.tup [x, y, z]) → Inv ds i ρ' → TT' t (((ρ'.set j (.dat x)).set k (.dat y)).set l (.dat z)) { N := Inv ds (i + 1), R := p.R, B := p.N, C := Inv ds (i + 1) }) (hd : ∀ ds ρ', Ti ds → Inv ds ds.length ρ' → p.N ρ') :
    TT' (tFor wi (gTup K 3 (gCons (gName j) (gCons (gName k) (gCons (gName l) gNil)))) t) ρ p := fun W0 W σ E Dd nx rt bk ct =>
  h W0 W σ E _ fun J ds W1 g1 it tt => by
    refine ⟨fun i m σ' H => i ≤ ds.length ∧ m = ds.length - i ∧ ∃ W' ρ', W'.h = H ∧ Env W0 W' σ' ρ' ∧ Ex W1.b W'.b ∧ Inv ds i ρ', ⟨ds.length, Nat.zero_le _, rfl, W1, ρ, rfl, E.grow g1, Ex.rfl', h0 ds tt⟩, ?_⟩
    rintro i m σ' H ⟨hi, hm, W', ρ', rfl, E', e', inv⟩
    by_cases hlt : i < ds.length
    · refine .inr ⟨it.go W' e' i hlt, fun σ2 H2 => ∃ W' ρ', W'.h = H2 ∧ Env W0 W' σ2 ρ' ∧ Ex W1.b W'.b ∧ Inv ds (i + 1) ρ', fun σ2 H2 q => ⟨ds.length - (i + 1), by omega, hlt, rfl, q⟩, fun v H' y => ?_⟩
      obtain ⟨e, d, hd', rd⟩ := it.yld W' e' i v H' hlt y
      subst e
      obtain ⟨a, b, c, rfl⟩ := h3 ds tt d (List.mem_of_getElem? hd')
      cases rd with
      | tup ha hr =>
        cases hr with
        | cons ra rr =>
          cases rr with
          | cons rb rr =>
            cases rr with
            | cons rc rr =>
              cases rr
              refine ⟨_, _, rfl, sq_t (W'.le _ _ ha), rfl, _, _, rfl, _, _, rfl, _, _, rfl, rfl, ?_⟩
              exact hs ds i a b c ρ' tt hd' inv W0 W' _ (((E'.set (Grow.refl W') (e := .dat a) ra j).set (Grow.refl W') (e := .dat b) rb k).set (Grow.refl W') (e := .dat c) rc l) _ (fun σ2 W2 ρ2 E3 e2 n => ⟨W2, ρ2, rfl, E3, e'.tr e2, n⟩) rt (fun σ2 W2 ρ2 E3 e2 n => nx σ2 W2 ρ2 E3 ((g1.b.tr e').tr e2) n) (fun σ2 W2 ρ2 E3 e2 n => ⟨W2, ρ2, rfl, E3, e'.tr e2, n⟩)
    · have e : i = ds.length := by omega
      subst e
      exact .inl ⟨it.stop W' e', nx σ' W' ρ' E' (g1.b.tr e') (hd ds ρ' tt inv)⟩
theorem reps_set {H : Hp} {x : D} {v : V} (r : Rep H x v) : ∀ {ds : List D} {vs : List V} (k : Nat), Reps H ds vs → Reps H (ds.set k x) (vs.set k v)
  | _, _, 0, .nil => .nil
  | _, _, k + 1, .nil => .nil
  | _, _, 0, .cons _ q => .cons r q
  | _, _, k + 1, .cons h q => .cons h (reps_set r k q)
/-- own[n] = e -/
theorem t_ixset {i : Nat} {ds : List D} {n : Int} {m : Nat} (h : ρ[i]? = some (.own ds)) (hv : ED tv ρ PD) (hi : ED ti ρ (· = .int n)) (hm : ixN ds.length n = some m) (k : ∀ d, PD d → p.N (ρ.set i (.own (ds.set m d)))) :
    TT' (tAsg tv (gSub (tVar i) ti rSetL)) ρ p := fun W0 W σ E Dd nx rt bk ct => by
  obtain ⟨l, _, hvl, _⟩ := E.mut (ds' := []) h
  refine hv W0 W σ E _ fun v d W1 g1 r1 pd => ⟨.ref l, hvl, hi W0 W1 σ (E.grow g1) _ fun w x W2 g2 r2 e2 => ?_⟩
  subst e2
  cases r2
  obtain ⟨l', vs, hv', h1, _, r, z⟩ := ((E.grow g1).grow g2).mut (ds' := ds.set m d) h
  rw [hvl] at hv'
  cases hv'
  obtain ⟨W3, a1, a2, E3⟩ := z _ (reps_set (r1.mono g2.b) m r)
  refine ⟨l, vs, n, m, rfl, rfl, h1, by rw [r.len]; exact hm, ?_⟩
  rw [← a2]
  exact nx σ W3 _ E3 (by rw [a1]; exact (g1.trans g2).b) (k d pd)
end
section
variable {K : PySem.W.Frag} {P : En → Prop}
theorem od_isB {a b : Bool} : OD rIsB (.bl a) (.bl b) (· = .dat (.bl (decide (a = b)))) := fun W v w r r' Q q => by
  cases r; cases r'
  exact ⟨a, b, rfl, rfl, dat1 (.bl _) q⟩
theorem eqv_strs : ∀ M N : List (List Nat), PyData.eqv (.list ((M.map D.str).map D.py)) (.list ((N.map D.str).map D.py)) = decide (M = N)
  | [], [] => rfl
  | [], n :: N => rfl
  | m :: M, [] => rfl
  | m :: M, n :: N => by
    have ih := eqv_strs M N
    show ((⟨m.toArray⟩ : Str) == (⟨n.toArray⟩ : Str) && PyData.eqvAll ((M.map D.str).map D.py) ((N.map D.str).map D.py)) = _
    have e : PyData.eqvAll ((M.map D.str).map D.py) ((N.map D.str).map D.py) = decide (M = N) := ih
    rw [e]
    have e2 : ((⟨m.toArray⟩ : Str) == (⟨n.toArray⟩ : Str)) = decide (m = n) := eqV_tx m n
    rw [e2]
    by_cases h1 : m = n
    · subst h1; simp
    · rw [decide_eq_false h1, Bool.false_and, decide_eq_false (fun z => h1 (List.cons.inj z).1)]
/-- two lists of texts -/
theorem od_eqLS {M N : List (List Nat)} (hM : ∀ d ∈ M.map D.str, d.ok = true) (hN : ∀ d ∈ N.map D.str, d.ok = true) : OD (rEqU K) (.lst (M.map D.str)) (.lst (N.map D.str)) (· = .dat (.bl (decide (M = N)))) := fun W v w r r' Q q => by
  cases r with
  | lst ha ra =>
    cases r' with
    | lst hb rb =>
      refine .inr ⟨.list ((M.map D.str).map D.py), .list ((N.map D.str).map D.py), .lst (sq_l (W.le _ _ ha)) (py_dpall (fun d hd => D.ok.fl (hM d hd)) ra), .lst (sq_l (W.le _ _ hb)) (py_dpall (fun d hd => D.ok.fl (hN d hd)) rb), py_shaped _ hM, py_shaped _ hN, ?_⟩
      rw [eqv_strs]
      exact dat1 (.bl _) q
theorem e_kget {K : PySem.W.Frag} {a : Addr} {te : TE} {ρ : List En} {s : List Nat} {n : Int} (h : ED te ρ (· = .str s)) (hn : ∃ u, PySem.W.nsIn K a ⟨s.toArray⟩ = some (some u) ∧ RelV (.int n) u) : ED (tKG K a te) ρ (· = .int n) := fun W0 W σ E Q q => h W0 W σ E _ fun v d W1 g1 r1 e1 => by
  subst e1
  cases r1
  obtain ⟨u, h1, h2⟩ := hn
  exact ⟨_, u, .int n, rfl, h1, h2, q _ _ W1 g1 (.int n) rfl⟩
/-- x, y = e, f; both kept as they come -/
theorem t_pair {K : PySem.W.Frag} {ta tb : TE} {ρ : List En} {p : Ps} {i j : Nat} {P1 P2 : En → Prop} (h1 : EV ta ρ P1) (h2 : EV tb ρ P2) (k : ∀ a b, P1 a → P2 b → p.N ((ρ.set i a).set j b)) : TT' (tAsg (tTup (tCons ta (tCons tb tNil))) (gTup K 2 (gCons (gName i) (gCons (gName j) gNil)))) ρ p := fun W0 W σ E Dd nx rt bk ct =>
  h1 W0 W σ E _ fun v a W1 g1 r1 p1 => h2 W0 W1 σ (E.grow g1) _ fun w b W2 g2 r2 p2 => ⟨Evl.sz_of (by show 2 ≤ 100000; decide), fun pp hp => by
    have gp := Grow.add (W := W2) (o := .tup [v, w]) hp
    have E2 := (E.set g1 r1 i).set g2 r2 j
    refine ⟨pp, _, rfl, sq_t upd_same, rfl, _, _, rfl, _, _, rfl, rfl, ?_⟩
    exact nx _ (W2.add pp (.tup [v, w]) hp) _ (E2.grow gp) (g1.trans g2).b (k a b p1 p2)⟩
theorem hu1 {n : Nat} (h : n + 64 < cLine) : n + 1 < cLine := by omega
theorem op_sortK {X : Cx} (hK : X.K = K) : CallR X (.builtin "sorted") (rSortedS K) := hK ▸ cr_sortedS
theorem pi_enum1K {X : Cx} {e : Expr} {ta : TA} {p pos tpos cp kp : Pos} {elts : List Expr} {kk ck : Nat} (hK : X.K = K) (hg : Gl X "enumerate") (hm : X.mg "enumerate" = none) (ha : PA X [e] ta)
    (he : backTo pos (starEach [e] X.env) = (false, eval e X.env) :: backTo pos (starEach [] X.env) := by rfl) (hpl : (backTo pos (starEach [e] X.env)).any (·.1) = false := by rfl) :
    PI X (.Tuple elts kk tpos) (.Call (.Name "enumerate" p) [e] [⟨some "start", .Constant (.int 1) ck cp, kp⟩] pos) (iEnum1 K ta) := hK ▸ pi_enum1 hg hm ha he hpl
end
end Nt

namespace Nt
open PySem PySem.Spec PyProof.Rows L2
/-! ### == and in over values of mixed kinds: a line's elements against texts -/
/-- x in (..) | [..], data of any depth -/
def rInA (K : PySem.W.Frag) (neg : Bool) : R2 := fun x y H Q => ∃ d ds, Dp K H x d ∧ (Dp K H y (.list ds) ∨ Dp K H y (.tuple ds)) ∧ SeqAt.shaped d = true ∧ SeqAt.shaped (.list ds) = true ∧ Q (.bl (if neg then !ds.any fun z => PyData.eqv z d else ds.any fun z => PyData.eqv z d)) H
theorem hu65 {A : Around} {k : Nat} (hr : Room k A) : A.units + 65 < cLine := by have := hr.un; omega
section
variable {X : Cx}
theorem lay_lt {ds : List PyData} (h : SeqAt.shaped (.list ds) = true) : PyData.canLayAll0 ds = true := SeqAt.canLay_of_shaped h
theorem op_inA (hu : X.A.units + 65 < cLine) : OpR X (compareOp .In) (rInA X.K false) := fun pins s σ H x y v u Q I rx ry ⟨d, ds, hd, he, sd, se, q⟩ => by
  obtain ⟨as, r1⟩ := Dp.reads I d x v hd rx
  rcases he with he | he
  · obtain ⟨bs, r2⟩ := Dp.reads I _ y u he ry
    exact SeqAt.in_list_reads r2 r1 (lay_lt se) (SeqAt.canLay_of_shaped sd) (room_in_shaped sd hu) ⟨.bl _, H, I, rfl, q⟩
  · obtain ⟨bs, r2⟩ := Dp.reads I _ y u he ry
    exact SeqAt.in_tuple_reads r2 r1 (lay_lt se) (SeqAt.canLay_of_shaped sd) (room_in_shaped sd hu) ⟨.bl _, H, I, rfl, q⟩
theorem op_notInA (hu : X.A.units + 65 < cLine) : OpR X (compareOp .NotIn) (rInA X.K true) := fun pins s σ H x y v u Q I rx ry ⟨d, ds, hd, he, sd, se, q⟩ => by
  obtain ⟨as, r1⟩ := Dp.reads I d x v hd rx
  rcases he with he | he
  · obtain ⟨bs, r2⟩ := Dp.reads I _ y u he ry
    exact SeqAt.notIn_list_reads r2 r1 (lay_lt se) (SeqAt.canLay_of_shaped sd) (room_in_shaped sd hu) ⟨.bl _, H, I, rfl, q⟩
  · obtain ⟨bs, r2⟩ := Dp.reads I _ y u he ry
    exact SeqAt.notIn_tuple_reads r2 r1 (lay_lt se) (SeqAt.canLay_of_shaped sd) (room_in_shaped sd hu) ⟨.bl _, H, I, rfl, q⟩
end
def rInW (K : PySem.W.Frag) (neg : Bool) : R2 := fun x y H Q => rInU K neg x y H Q ∨ rInA K neg x y H Q
theorem op_inW {X : Cx} {K : PySem.W.Frag} (hK : X.K = K) (hu : X.A.units + 65 < cLine) : OpR X (compareOp .In) (rInW K false) := hK ▸ OpR.or op_inU (op_inA hu)
theorem op_notInW {X : Cx} {K : PySem.W.Frag} (hK : X.K = K) (hu : X.A.units + 65 < cLine) : OpR X (compareOp .NotIn) (rInW K true) := hK ▸ OpR.or op_notInU (op_notInA hu)
/-- isinstance(d, T) of data -/
def D.isU : D → String → Bool
  | .bl _, T => T == "bool" || T == "int"
  | .int _, T => T == "int"
  | .str _, T => T == "str"
  | .tup _, T => T == "tuple"
  | .lst _, T => T == "list"
  | .dic _, T => T == "dict"
  | _, _ => false
theorem kitU {d : D} {T : String} (nb : d.pl = true) (hT : T ∈ (["str", "int", "bool", "tuple", "list", "dict"] : List String)) : kitB d.ty T = some (d.isU T) := by
  simp only [List.mem_cons, List.not_mem_nil, or_false] at hT
  rcases hT with rfl | rfl | rfl | rfl | rfl | rfl <;> cases d <;> first | (simp only [D.ty, D.isU]; decide +kernel) | cases nb
/-- an element of a line -/
def elOk : D → Bool
  | .lst ds => ds.all D.ok
  | d => d.ok
def elPy : D → PyData
  | .lst ds => .list (ds.map D.py)
  | d => d.py
def isS (x : D) (s : List Nat) : Bool := match x with
  | .str t => decide (t = s)
  | _ => false
def inS (x : D) (S : List (List Nat)) : Bool := match x with
  | .str t => decide (t ∈ S)
  | _ => false
theorem el_dp {K : PySem.W.Frag} {H H' : Hp} {x : D} {v : V} (e : Ex H H') (h : elOk x = true) (r : Rep H x v) : Dp K H' v (elPy x) := by
  cases r with
  | lst ha ra => exact .lst (sq_l (e _ _ ha)) (py_dpall (fun d hd => D.ok.fl (List.all_eq_true.mp (show (_ : List D).all D.ok = true from h) d hd)) ra)
  | non => exact .non
  | bl b => exact .bl b
  | int i => exact .int i
  | str s => exact .str _
  | _ => exact absurd h (by simp [elOk, D.ok])
theorem el_dpall {K : PySem.W.Frag} {H H' : Hp} (e : Ex H H') : ∀ {ds : List D} {vs : List V}, (∀ d ∈ ds, elOk d = true) → Reps H ds vs → DpAll K H' vs (ds.map elPy)
  | _, _, _, .nil => .nil
  | _, _, f, .cons h r => .cons (el_dp e (f _ List.mem_cons_self) h) (el_dpall e (fun d hd => f d (List.mem_cons_of_mem _ hd)) r)
theorem el_lay {x : D} (h : elOk x = true) : (elPy x).canLay0 = true := by
  cases x with
  | lst ds => exact py_layAll ds (fun d hd => List.all_eq_true.mp (show ds.all D.ok = true from h) d hd)
  | non => exact py_lay (d := .non) h
  | bl b => exact py_lay (d := .bl b) h
  | int i => exact py_lay (d := .int i) h
  | str t => exact py_lay (d := .str t) h
  | _ => exact absurd h (by simp [elOk, D.ok])
theorem el_depth (x : D) : (elPy x).depth ≤ 1 := by
  cases x with
  | lst ds =>
    show PyData.depth (.list (ds.map D.py)) ≤ 1
    have := py_depthAll ds
    simp only [PyData.depth]
    omega
  | _ => simp [elPy, D.py, PyData.depth]
theorem el_shaped {x : D} (h : elOk x = true) : SeqAt.shaped (elPy x) = true := by
  show ((elPy x).canLay0 && decide ((elPy x).depth ≤ 64)) = true
  have := el_depth x
  rw [el_lay h, decide_eq_true (by omega)]; rfl
theorem els_layAll : ∀ ds : List D, (∀ d ∈ ds, elOk d = true) → PyData.canLayAll0 (ds.map elPy) = true
  | [], _ => by simp [PyData.canLayAll0]
  | d :: ds, h => by
    rw [List.map_cons]
    simp only [PyData.canLayAll0, Bool.and_eq_true]
    exact ⟨el_lay (h d List.mem_cons_self), els_layAll ds fun z hz => h z (List.mem_cons_of_mem _ hz)⟩
theorem els_depthAll : ∀ ds : List D, PyData.depthAll (ds.map elPy) ≤ 1
  | [] => by simp [PyData.depthAll]
  | d :: ds => by
    have h1 := els_depthAll ds
    have h2 := el_depth d
    simp only [List.map_cons, PyData.depthAll]
    omega
theorem line_shaped {ds : List D} (h : ∀ d ∈ ds, elOk d = true) : SeqAt.shaped (.tuple (ds.map elPy)) = true := by
  have h1 := els_depthAll ds
  have h2 : PyData.depth (.tuple (ds.map elPy)) ≤ 64 := by simp only [PyData.depth]; omega
  show (PyData.canLay0 (.tuple (ds.map elPy)) && decide (PyData.depth (.tuple (ds.map elPy)) ≤ 64)) = true
  rw [Bool.and_eq_true]
  exact ⟨by simp only [PyData.canLay0]; exact els_layAll ds h, decide_eq_true h2⟩
theorem eqv_isS {x : D} {s : List Nat} (h : elOk x = true) : PyData.eqv (elPy x) (.str ⟨s.toArray⟩) = isS x s := by
  cases x with
  | str t =>
    show ((⟨t.toArray⟩ : Str) == (⟨s.toArray⟩ : Str)) = decide (t = s)
    exact eqV_tx t s
  | non => rfl
  | bl b => rfl
  | int i => rfl
  | lst ds => rfl
  | _ => exact absurd h (by simp [elOk, D.ok])
theorem eqv_isS' {x : D} {s : List Nat} (h : elOk x = true) : PyData.eqv (.str ⟨s.toArray⟩) (elPy x) = isS x s := by
  cases x with
  | str t =>
    show ((⟨s.toArray⟩ : Str) == (⟨t.toArray⟩ : Str)) = decide (t = s)
    rw [show ((⟨s.toArray⟩ : Str) == (⟨t.toArray⟩ : Str)) = decide (s = t) from eqV_tx s t]
    exact decide_eq_decide.mpr ⟨fun e => e.symm, fun e => e.symm⟩
  | non => rfl
  | bl b => rfl
  | int i => rfl
  | lst ds => rfl
  | _ => exact absurd h (by simp [elOk, D.ok])
theorem strs_ok {s : List Nat} (h : ∀ c ∈ s, c < 0x110000) : D.ok (.str s) = true := by
  show s.all _ = true
  exact List.all_eq_true.mpr fun c hc => decide_eq_true (h c hc)
section
variable {K : PySem.W.Frag}
theorem od_eqE {x : D} {s : List Nat} (h : elOk x = true) (hs : D.ok (.str s) = true) : OD (rEqU K) x (.str s) (· = .dat (.bl (isS x s))) := fun W v w r1 r2 Q q => by
  refine .inr ⟨elPy x, .str ⟨s.toArray⟩, el_dp W.le h r1, el_dp (x := .str s) W.le hs r2, el_shaped h, el_shaped (x := .str s) hs, ?_⟩
  rw [eqv_isS h]
  exact dat1 (.bl _) q
theorem od_neE {x : D} {s : List Nat} (h : elOk x = true) (hs : D.ok (.str s) = true) : OD (rNeU K) x (.str s) (· = .dat (.bl (!isS x s))) := fun W v w r1 r2 Q q => by
  refine .inr ⟨elPy x, .str ⟨s.toArray⟩, el_dp W.le h r1, el_dp (x := .str s) W.le hs r2, el_shaped h, el_shaped (x := .str s) hs, ?_⟩
  rw [eqv_isS h]
  exact dat1 (.bl _) q
theorem any_inS {x : D} (h : elOk x = true) : ∀ S : List (List Nat), ((S.map D.str).map D.py).any (fun z => PyData.eqv z (elPy x)) = inS x S
  | [] => by cases x <;> rfl
  | s :: S => by
    rw [List.map_cons, List.map_cons, List.any_cons, any_inS h S]
    show (PyData.eqv (.str ⟨s.toArray⟩) (elPy x) || inS x S) = inS x (s :: S)
    rw [eqv_isS' h]
    cases x with
    | str t =>
      show (decide (t = s) || decide (t ∈ S)) = decide (t ∈ s :: S)
      rw [Bool.eq_iff_iff, Bool.or_eq_true, decide_eq_true_eq, decide_eq_true_eq, decide_eq_true_eq, List.mem_cons]
    | _ => rfl
theorem od_inE {neg : Bool} {x y : D} {S : List (List Nat)} (h : elOk x = true) (hy : Sq y (S.map D.str)) (hS : ∀ s ∈ S, D.ok (.str s) = true) : OD (rInW K neg) x y (· = .dat (.bl (if neg then !inS x S else inS x S))) := fun W v w r1 r2 Q q => by
  have hS' : ∀ d ∈ S.map D.str, d.ok = true := fun d hd => by
    obtain ⟨s, hs, rfl⟩ := List.mem_map.mp hd
    exact hS s hs
  refine .inr ⟨elPy x, (S.map D.str).map D.py, el_dp W.le h r1, ?_, el_shaped h, py_shaped _ hS', ?_⟩
  · generalize hy2 : S.map D.str = L at hy hS'
    cases hy with
    | lst =>
      cases r2 with
      | lst ha ra => exact .inl (.lst (sq_l (W.le _ _ ha)) (py_dpall (fun d hd => D.ok.fl (hS' d hd)) ra))
    | tup =>
      cases r2 with
      | tup ha ra => exact .inr (.tup (sq_t (W.le _ _ ha)) (py_dpall (fun d hd => D.ok.fl (hS' d hd)) ra))
  · rw [any_inS h]
    exact dat1 (.bl _) q
/-- a line of one text, told -/
def isT1 (ds : List D) (s : List Nat) : Bool := match ds with
  | [x] => isS x s
  | _ => false
theorem eqv_T1 {s : List Nat} : ∀ {ds : List D}, (∀ d ∈ ds, elOk d = true) → PyData.eqv (.tuple (ds.map elPy)) (.tuple [.str ⟨s.toArray⟩]) = isT1 ds s
  | [], _ => rfl
  | [x], h => by
    show (PyData.eqv (elPy x) (.str ⟨s.toArray⟩) && true) = isS x s
    rw [eqv_isS (h x List.mem_cons_self), Bool.and_true]
  | x :: y :: r, h => by
    show (PyData.eqv (elPy x) (.str ⟨s.toArray⟩) && false) = false
    rw [Bool.and_false]
theorem eqv_T1' {s : List Nat} : ∀ {ds : List D}, (∀ d ∈ ds, elOk d = true) → PyData.eqv (.tuple [.str ⟨s.toArray⟩]) (.tuple (ds.map elPy)) = isT1 ds s
  | [], _ => rfl
  | [x], h => by
    show (PyData.eqv (.str ⟨s.toArray⟩) (elPy x) && true) = isS x s
    rw [eqv_isS' (h x List.mem_cons_self), Bool.and_true]
  | x :: y :: r, h => by
    show (PyData.eqv (.str ⟨s.toArray⟩) (elPy x) && false) = false
    rw [Bool.and_false]
theorem tup_dp {H H' : Hp} {ds : List D} {v : V} (e : Ex H H') (h : ∀ d ∈ ds, elOk d = true) (r : Rep H (.tup ds) v) : Dp K H' v (.tuple (ds.map elPy)) := by
  cases r with
  | tup ha ra => exact .tup (sq_t (e _ _ ha)) (el_dpall e h ra)
theorem od_eqT1 {ds : List D} {s : List Nat} (h : ∀ d ∈ ds, elOk d = true) (hs : D.ok (.str s) = true) : OD (rEqU K) (.tup ds) (.tup [.str s]) (· = .dat (.bl (isT1 ds s))) := fun W v w r1 r2 Q q => by
  have h2 : ∀ d ∈ [D.str s], elOk d = true := fun d hd => by rw [List.mem_singleton.mp hd]; exact hs
  refine .inr ⟨_, _, tup_dp W.le h r1, tup_dp W.le h2 r2, line_shaped h, line_shaped h2, ?_⟩
  rw [show PyData.eqv (.tuple (ds.map elPy)) (.tuple ([D.str s].map elPy)) = isT1 ds s from eqv_T1 h]
  exact dat1 (.bl _) q
theorem od_inT1 {neg : Bool} {ds : List D} {s t : List Nat} (h : ∀ d ∈ ds, elOk d = true) (hs : D.ok (.str s) = true) (ht : D.ok (.str t) = true) : OD (rInW K neg) (.tup ds) (.lst [.tup [.str s], .tup [.str t]]) (· = .dat (.bl (if neg then !(isT1 ds s || isT1 ds t) else (isT1 ds s || isT1 ds t)))) := fun W v w r1 r2 Q q => by
  have hz : ∀ z, D.ok (.str z) = true → ∀ d ∈ [D.str z], elOk d = true := fun z hz d hd => by rw [List.mem_singleton.mp hd]; exact hz
  refine .inr ⟨.tuple (ds.map elPy), [.tuple [.str ⟨s.toArray⟩], .tuple [.str ⟨t.toArray⟩]], tup_dp W.le h r1, .inl ?_, line_shaped h, ?_, ?_⟩
  · cases r2 with
    | lst ha ra =>
      cases ra with
      | cons x1 ra =>
        cases ra with
        | cons x2 ra =>
          cases ra
          exact .lst (sq_l (W.le _ _ ha)) (.cons (tup_dp (ds := [.str s]) W.le (hz s hs) x1) (.cons (tup_dp (ds := [.str t]) W.le (hz t ht) x2) .nil))
  · have e1 : PyData.canLayAll0 ([D.str s].map elPy) = true := els_layAll _ (hz s hs)
    have e2 : PyData.canLayAll0 ([D.str t].map elPy) = true := els_layAll _ (hz t ht)
    have e1' : PyData.canLayAll0 [.str ⟨s.toArray⟩] = true := e1
    have e2' : PyData.canLayAll0 [.str ⟨t.toArray⟩] = true := e2
    show (PyData.canLay0 (.list [.tuple [.str ⟨s.toArray⟩], .tuple [.str ⟨t.toArray⟩]]) && decide (PyData.depth (.list [.tuple [.str ⟨s.toArray⟩], .tuple [.str ⟨t.toArray⟩]]) ≤ 64)) = true
    rw [Bool.and_eq_true]
    refine ⟨?_, decide_eq_true ?_⟩
    · simp only [PyData.canLay0, PyData.canLayAll0, Bool.and_eq_true, Bool.and_true] at e1' e2' ⊢
      exact ⟨e1', e2'⟩
    · simp [PyData.depth, PyData.depthAll]
  · have e3 : ([PyData.tuple [.str ⟨s.toArray⟩], PyData.tuple [.str ⟨t.toArray⟩]].any fun z => PyData.eqv z (.tuple (ds.map elPy))) = (isT1 ds s || isT1 ds t) := by
      rw [List.any_cons, List.any_cons, List.any_nil, Bool.or_false, eqv_T1' h, eqv_T1' h]
    rw [e3]
    exact dat1 (.bl _) q
end
end Nt

namespace Nt
open PySem PySem.Spec PyProof.Rows L2
/-! ### d.get(e) of a module's dict, the key there or not -/
def tKG2 (K : PySem.W.Frag) (d : Addr) (te : TE) : TE := fun σ H Q => te σ H fun y H2 => ∃ z : Str, y = .str z ∧ ((∃ (u : Value) (v : V), PySem.W.nsIn K d z = some (some u) ∧ RelV v u ∧ Q v H2) ∨ (PySem.W.nsIn K d z = some none ∧ Q .non H2))
section
variable {X : Cx} {o e : Expr} {apos cpos : Pos} {d : Addr} {es : Array DictEntry} {n : Nat} {te : TE}
theorem pe_kget2 {x : Str} {p : Pos} (D : KDict X.K X.w d es n) (hg : Gl X x) (hm : X.mg x = some (.ref d)) (he : PE X e te) (m : M1 X (.Name x p) "get" apos e cpos) (hdb : (x == ("__debug__" : Str)) = false := by decide) :
    PE X (.Call (.Attribute (.Name x p) "get" apos) [e] [] cpos) (tKG2 X.K d te) := by
  refine ⟨fun pins s σ H Q I h => ?_⟩
  refine wpAny_Call_method m.base m.few m.line PySem.F.plainAttrs_dict PySem.F.slot_dict_get PySem.F.type_dict_get (ld_glob I hg hm ?_ hdb)
  obtain ⟨t1, t2⟩ := kd_at I D
  refine ⟨t1, t2, ?_⟩
  rw [m.trees]
  refine Calls.callWith_builtin rfl (Calls.evalArgs_plain (Calls.spliced_cons (thn (he.run pins s σ H _ I h) fun iv s2 ⟨y, H2, I2, ry, z, ey, q2⟩ => Calls.spliced_nil ?_)))
  subst ey
  obtain ⟨t, rfl⟩ := ry
  have hmp := PySem.W.mapOf_K (prog := X.prog) (w := X.w) I2.kIn D.at_ D.lit
  refine call_meetsIn PySem.F.slot_dict_get hmp.typeIs PySem.F.entry_dict_get (PySem.F.args_dict_get_2 _ _) (meets_dict_get (PySem.strKind X.prog X.w) d (PySem.strKind_is X.prog X.w z t) D.low) ⟨_, hmp, ?_⟩
  rcases q2 with ⟨u, v, hu, ru, q2⟩ | ⟨hu, q2⟩
  · rw [PySem.W.find_K D.at_ hu]
    exact ⟨v, H2, I2.tok _, ru, q2⟩
  · rw [PySem.W.find_K D.at_ hu]
    exact ⟨.non, H2, I2.tok _, rfl, q2⟩
end
theorem e_kget2 {K : PySem.W.Frag} {a : Addr} {te : TE} {ρ : List En} {s : List Nat} {d : D} (h : ED te ρ (· = .str s)) (hn : (∃ n : Int, d = .int n ∧ ∃ u, PySem.W.nsIn K a ⟨s.toArray⟩ = some (some u) ∧ RelV (.int n) u) ∨ (d = .non ∧ PySem.W.nsIn K a ⟨s.toArray⟩ = some none)) : ED (tKG2 K a te) ρ (· = d) := fun W0 W σ E Q q => h W0 W σ E _ fun v d' W1 g1 r1 e1 => by
  subst e1
  cases r1
  refine ⟨_, rfl, ?_⟩
  rcases hn with ⟨n, rfl, u, h1, h2⟩ | ⟨rfl, h1⟩
  · exact .inl ⟨u, .int n, h1, h2, q _ _ W1 g1 (.int n) rfl⟩
  · exact .inr ⟨h1, q _ _ W1 g1 .non rfl⟩
/-- a key that the table has not -/
theorem tab_none {fa : List He.Fa} {fn : List He.DefD} {ts : List He.Tab} {w : World} {K : PySem.W.Frag} (c : He.SaysT fa fn ts w K) (i : Nat) {t : He.Tab} (h : ts[i]? = some t) : ∀ z : Str, z ∉ t.2 → PySem.W.nsIn K (t.1 K) z = some none := by
  intro z hz
  have e : ts.map (fun t => He.dicW K (t.1 K)) = ts.map fun t => some (He.keysIn w.params t.2) := congrArg (fun z : He.AlT => z.2) c
  have e2 : (ts.map fun t => He.dicW K (t.1 K))[i]? = (ts.map fun t => some (He.keysIn w.params t.2))[i]? := by rw [e]
  rw [List.getElem?_map, List.getElem?_map, h] at e2
  have e3 : He.dicW K (t.1 K) = some (He.keysIn w.params t.2) := Option.some.inj e2
  unfold He.dicW at e3
  unfold PySem.W.nsIn
  split at e3
  · rename_i cn es nn sl hlk
    rw [hlk]
    dsimp only
    have e4 : es.toList.map He.keyOf = He.keysIn w.params t.2 := by
      split at e3
      · exact Option.some.inj e3
      · cases e3
    have key : ∀ e ∈ es.toList, ∃ x tk, e.key = .str x tk ∧ x ∈ t.2 := fun e he => by
      have h1 : He.keyOf e ∈ He.keysIn w.params t.2 := by rw [← e4]; exact List.mem_map_of_mem he
      obtain ⟨k, hk, e5⟩ := List.mem_map.mp h1
      unfold He.keyOf at e5
      split at e5
      · rename_i x tk hx
        have : k = x := (Prod.mk.inj (Option.some.inj e5)).1
        exact ⟨x, tk, hx, this ▸ hk⟩
      · cases e5
    have h1 : es.toList.find? (·.key.isStr z) = none := by
      rw [List.find?_eq_none]
      intro e he hs
      obtain ⟨x, tk, hx, hm⟩ := key e he
      rw [hx] at hs
      have : x = z := by simpa [Value.isStr] using hs
      exact hz (this ▸ hm)
    have h2 : es.toList.any (·.refKey) = false := by
      rw [List.any_eq_false]
      intro e he hs
      obtain ⟨x, tk, hx, hm⟩ := key e he
      simp [DictEntry.refKey, hx] at hs
    rw [h1]
    dsimp only
    rw [h2]
    rfl
  · cases e3
end Nt

namespace Nt
open PySem PySem.Spec PyProof.Rows L2
section
variable {K : PySem.W.Frag} {ta tb te : TE} {ar : TA} {ρ : List En} {p : Ps}
theorem iv_rng2 {a b : Nat} (h : EA ar ρ (· = [.int (a : Int), .int (b : Int)])) (h1 : a ≤ 100000) (h2 : b ≤ 100000) : IV1 (iRng2 ar) ρ (· = (List.range (b - a)).map fun (i : Nat) => D.int ((a + i : Nat) : Int)) := fun W0 W σ E R q => h W0 W σ E _ fun vs ds W' g r e => by
  subst e
  cases r with
  | cons r rr =>
    cases rr with
    | cons r2 rr =>
    cases rr
    cases r
    cases r2
    have et : ((b : Int) - (a : Int)).toNat = b - a := by omega
    refine ⟨a, b, rfl, ⟨by omega, by omega, by omega, by omega⟩, q _ ((List.range (b - a)).map fun (i : Nat) => D.int ((a + i : Nat) : Int)) W' g ⟨fun W2 e2 i hi => ?_, fun W2 e2 => ?_, fun W2 e2 i x H' hi y => ?_⟩ rfl⟩
    · have : i < b - a := by simpa using hi
      show i < ((b : Int) - (a : Int)).toNat
      omega
    · show ((b : Int) - (a : Int)).toNat ≤ _
      rw [List.length_map, List.length_range]; omega
    · have hi' : i < b - a := by simpa using hi
      refine ⟨y.1, .int ((a + i : Nat) : Int), by rw [List.getElem?_map, List.getElem?_range hi']; rfl, ?_⟩
      have e3 : x = .int ((a : Int) + (i : Int)) := y.2
      rw [e3, show (a : Int) + (i : Int) = ((a + i : Nat) : Int) by omega]
      exact .int _
def rMaxI : List V → Hp → VK → Prop := fun xs H Q => ∃ i j : Int, xs = [.int i, .int j] ∧ Q (.int (if j > i then j else i)) H
theorem e_maxI {i j : Int} (ha : ED ta ρ (· = .int i)) (hb : ED tb ρ (· = .int j)) : ED (tCB rMaxI (tCons ta (tCons tb tNil))) ρ (· = .int (if j > i then j else i)) := fun W0 W σ E Q q =>
  ha W0 W σ E _ fun v x W1 g1 r1 p1 => hb W0 W1 σ (E.grow g1) _ fun w y W2 g2 r2 p2 => by
    subst p1 p2
    cases r1; cases r2
    exact ⟨i, j, rfl, q _ _ W2 (g1.trans g2) (.int _) rfl⟩
theorem t_quad {i j k l : Nat} {a b c d : D} (h : ED te ρ (· = .tup [a, b, c, d])) (n : p.N ((((ρ.set i (.dat a)).set j (.dat b)).set k (.dat c)).set l (.dat d))) : TT' (tAsg te (gTup K 4 (gCons (gName i) (gCons (gName j) (gCons (gName k) (gCons (gName l) gNil)))))) ρ p := fun W0 W σ E Dd nx rt bk ct =>
  h W0 W σ E _ fun v d' W1 g1 r1 e => by
    subst e
    cases r1 with
    | tup ha hr =>
      rename_i adr ws
      cases hr with
      | cons r1 rr =>
        cases rr with
        | cons r2 rr =>
          cases rr with
          | cons r3 rr =>
            cases rr with
            | cons r4 rr =>
              cases rr
              refine ⟨adr, _, rfl, sq_t (W1.le _ _ ha), rfl, _, _, rfl, _, _, rfl, _, _, rfl, _, _, rfl, rfl, ?_⟩
              exact nx _ W1 _ ((((E.set g1 (e := .dat a) r1 i).set (Grow.refl W1) (e := .dat b) r2 j).set (Grow.refl W1) (e := .dat c) r3 k).set (Grow.refl W1) (e := .dat d) r4 l) g1.b n
/-- a number in [a, b], told -/
theorem od_inI2 {neg : Bool} {i a b : Int} : OD (rInW K neg) (.int i) (.lst [.int a, .int b]) (· = .dat (.bl (if neg then !(decide (a = i) || decide (b = i)) else (decide (a = i) || decide (b = i))))) := fun W v w r1 r2 Q q => by
  refine .inr ⟨.int i, [.int a, .int b], el_dp (x := .int i) W.le rfl r1, .inl ?_, rfl, rfl, ?_⟩
  · cases r2 with
    | lst ha ra => exact .lst (sq_l (W.le _ _ ha)) (el_dpall (ds := [.int a, .int b]) W.le (fun d hd => by
        simp only [List.mem_cons, List.not_mem_nil, or_false] at hd
        rcases hd with rfl | rfl <;> rfl) ra)
  · have e : ([PyData.int a, .int b].any fun z => PyData.eqv z (.int i)) = (decide (a = i) || decide (b = i)) := by
      show (PyData.eqv (.int a) (.int i) || (PyData.eqv (.int b) (.int i) || false)) = _
      rw [Bool.or_false]
      have h1 : ∀ x : Int, PyData.eqv (.int x) (.int i) = decide (x = i) := fun x => rfl
      rw [h1, h1]
    rw [e]
    exact dat1 (.bl _) q
end
section
variable {X : Cx}
theorem call_maxIK (hc : X.calm = true) : CallR X (.builtin "max") rMaxI := call_max2 hc
end
end Nt

namespace Nt
open PySem PySem.Spec PyProof.Rows L2

def top (i : Nat) : Stmt := PySem.Challenge.pw_newesttells_k07_whole_papers_looked_at.main.body.getD i (.Pass ⟨0, 0, 0, 0⟩)
abbrev s_is_row : Stmt := top 7
abbrev N_is_row : List Str := ["cells", "value", "sign", "cell"]
abbrev s_over : Stmt := top 8
abbrev N_over : List Str := ["newer", "older", "sign", "under"]
abbrev s_lot_of : Stmt := top 9
abbrev N_lot_of : List Str := ["row", "sign"]
abbrev s_blank : Stmt := top 10
abbrev N_blank : List Str := ["many"]
abbrev s_union : Stmt := top 11
abbrev N_union : List Str := ["one", "other"]
abbrev s_outside : Stmt := top 14
abbrev N_outside : List Str := ["seed", "told", "at", "sign"]
abbrev s_barring : Stmt := top 15
abbrev N_barring : List Str := ["seed", "told", "row", "at"]
abbrev s_can_be_taken : Stmt := top 16
abbrev N_can_be_taken : List Str := ["seed", "told", "row"]
abbrev s_next_taken : Stmt := top 17
abbrev N_next_taken : List Str := ["seeds", "told", "row", "seed"]
abbrev s_taking : Stmt := top 18
abbrev N_taking : List Str := ["seeds", "row", "taken", "told", "seed"]
abbrev s_tellers_outside : Stmt := top 19
abbrev N_tellers_outside : List Str := ["seeds", "told", "seed"]
abbrev s_come : Stmt := top 20
abbrev N_come : List Str := ["cells", "seeds", "row", "taken", "told", "paper", "seed", "place"]
abbrev s_word_of : Stmt := top 21
abbrev N_word_of : List Str := ["line"]
abbrev s_follow_takes : Stmt := top 22
abbrev N_follow_takes : List Str := ["seeds", "row", "paper", "told", "at", "line"]
abbrev s_bar_holds : Stmt := top 23
abbrev N_bar_holds : List Str := ["cells", "seed", "told", "row", "line", "place"]
abbrev s_count_bars : Stmt := top 24
abbrev N_count_bars : List Str := ["cells", "waiting", "told", "row", "lines", "bars", "seed", "line"]
abbrev s_look : Stmt := top 25
abbrev N_look : List Str := ["cells", "seeds", "paper", "row", "at", "told", "waiting", "bars", "ends"]
abbrev s_law_bag : Stmt := top 27
abbrev N_law_bag : List Str := ["_law_script", "_law_mixed_here", "_law_piece"]
abbrev s_law_draw : Stmt := top 28
abbrev N_law_draw : List Str := ["_law_bag_here", "_law_sides", "_law_piece", "_law_digit", "_law_state"]
abbrev s_law_of : Stmt := top 29
abbrev N_law_of : List Str := ["_law_bag_here", "_law_things"]
abbrev s_law_mixed : Stmt := top 30
abbrev N_law_mixed : List Str := ["_law_bag_here", "_law_things", "_law_rest", "_law_found", "_law_k"]
abbrev s_law_same : Stmt := top 31
abbrev N_law_same : List Str := ["_law_found", "_law_due", "_law_mark", "_law_x", "_law_y"]
abbrev s_law_title : Stmt := top 32
abbrev N_law_title : List Str := ["_law_bag_here", "_law_taken", "_law_title_here", "_law_k", "_law_sign"]
abbrev s_law_frame : Stmt := top 33
abbrev N_law_frame : List Str := ["_law_bag_here", "_law_size_here", "_law_widest", "_law_frame_here", "_law_taken", "_law_k"]
abbrev s_law_row : Stmt := top 34
abbrev N_law_row : List Str := ["_law_bag_here", "_law_frame_here", "_law_thin", "_law_pair"]
abbrev s_law_size : Stmt := top 35
abbrev N_law_size : List Str := ["_law_bag_here"]
abbrev s_law_lay : Stmt := top 36
abbrev N_law_lay : List Str := ["_law_newer_row", "_law_older_row", "_law_x", "_law_y"]
abbrev s_law_lot : Stmt := top 37
abbrev N_law_lot : List Str := ["_law_r", "_law_sign"]
abbrev s_law_join : Stmt := top 38
abbrev N_law_join : List Str := ["_law_x", "_law_y", "_law_a", "_law_b"]
abbrev s_law_blank : Stmt := top 39
abbrev N_law_blank : List Str := ["_law_frame_here"]
abbrev s_law_is_row : Stmt := top 40
abbrev N_law_is_row : List Str := ["_law_frame_here", "_law_thing", "_law_sign", "_law_pair"]
abbrev s_law_fresh : Stmt := top 41
abbrev N_law_fresh : List Str := ["_law_s", "_law_told", "_law_k"]
abbrev s_law_fits : Stmt := top 42
abbrev N_law_fits : List Str := ["_law_s", "_law_r", "_law_told", "_law_fresh_here", "_law_k"]
abbrev s_law_odd : Stmt := top 43
abbrev N_law_odd : List Str := ["_law_bag_here", "_law_more"]
abbrev s_law_loose : Stmt := top 44
abbrev N_law_loose : List Str := ["_law_bag_here", "_law_frame_here", "_law_found", "_law_k"]
abbrev s_law_wanted : Stmt := top 45
abbrev N_law_wanted : List Str := ["_law_bag_here", "_law_frame_here", "_law_stack", "_law_r", "_law_k", "_law_spot"]
abbrev s_law_free_lines : Stmt := top 46
abbrev N_law_free_lines : List Str := ["_law_bag_here", "_law_frame_here", "_law_stack", "_law_r", "_law_found", "_law_told", "_law_k", "_law_s", "_law_ready", "_law_bad"]
abbrev s_law_line : Stmt := top 47
abbrev N_law_line : List Str := ["_law_bag_here", "_law_frame_here", "_law_stack", "_law_r", "_law_s", "_law_title_here"]
abbrev s_law_spoilt : Stmt := top 48
abbrev N_law_spoilt : List Str := ["_law_bag_here", "_law_frame_here", "_law_stack", "_law_r", "_law_listed", "_law_spot", "_law_shape"]
abbrev s_law_bar_next : Stmt := top 49
abbrev N_law_bar_next : List Str := ["_law_stack", "_law_told", "_law_spot", "_law_found", "_law_k"]
abbrev s_law_bar_good : Stmt := top 50
abbrev N_law_bar_good : List Str := ["_law_frame_here", "_law_s", "_law_r", "_law_told", "_law_title_here", "_law_k"]
abbrev s_law_judge : Stmt := top 51
abbrev N_law_judge : List Str := ["_law_frame_here", "_law_stack", "_law_thing", "_law_head", "_law_r", "_law_told", "_law_spot", "_law_closed", "_law_k", "_law_part", "_law_ahead"]
abbrev s_law : Stmt := top 52
abbrev N_law : List Str := ["_law_script", "_law_bag_here", "_law_frame_here", "_law_stack", "_law_turn", "_law_r", "_law_listed", "_law_k", "_law_kept", "_law_due", "_law_thing"]

/-- what the top has written -/
structure Txt (K : PySem.W.Frag) (mg : Str → Option Value) where
  a_is_row : Addr
  d_is_row : FuncData
  a_over : Addr
  d_over : FuncData
  a_lot_of : Addr
  d_lot_of : FuncData
  a_blank : Addr
  d_blank : FuncData
  a_union : Addr
  d_union : FuncData
  a_outside : Addr
  d_outside : FuncData
  a_barring : Addr
  d_barring : FuncData
  a_can_be_taken : Addr
  d_can_be_taken : FuncData
  a_next_taken : Addr
  d_next_taken : FuncData
  a_taking : Addr
  d_taking : FuncData
  a_tellers_outside : Addr
  d_tellers_outside : FuncData
  a_come : Addr
  d_come : FuncData
  a_word_of : Addr
  d_word_of : FuncData
  a_follow_takes : Addr
  d_follow_takes : FuncData
  a_bar_holds : Addr
  d_bar_holds : FuncData
  a_count_bars : Addr
  d_count_bars : FuncData
  a_look : Addr
  d_look : FuncData
  a_law_bag : Addr
  d_law_bag : FuncData
  a_law_draw : Addr
  d_law_draw : FuncData
  a_law_of : Addr
  d_law_of : FuncData
  a_law_mixed : Addr
  d_law_mixed : FuncData
  a_law_same : Addr
  d_law_same : FuncData
  a_law_title : Addr
  d_law_title : FuncData
  a_law_frame : Addr
  d_law_frame : FuncData
  a_law_row : Addr
  d_law_row : FuncData
  a_law_size : Addr
  d_law_size : FuncData
  a_law_lay : Addr
  d_law_lay : FuncData
  a_law_lot : Addr
  d_law_lot : FuncData
  a_law_join : Addr
  d_law_join : FuncData
  a_law_blank : Addr
  d_law_blank : FuncData
  a_law_is_row : Addr
  d_law_is_row : FuncData
  a_law_fresh : Addr
  d_law_fresh : FuncData
  a_law_fits : Addr
  d_law_fits : FuncData
  a_law_odd : Addr
  d_law_odd : FuncData
  a_law_loose : Addr
  d_law_loose : FuncData
  a_law_wanted : Addr
  d_law_wanted : FuncData
  a_law_free_lines : Addr
  d_law_free_lines : FuncData
  a_law_line : Addr
  d_law_line : FuncData
  a_law_spoilt : Addr
  d_law_spoilt : FuncData
  a_law_bar_next : Addr
  d_law_bar_next : FuncData
  a_law_bar_good : Addr
  d_law_bar_good : FuncData
  a_law_judge : Addr
  d_law_judge : FuncData
  a_law : Addr
  d_law : FuncData
  F_is_row : Fun K "is_row" "is_row" s_is_row a_is_row d_is_row
  g_is_row : mg "is_row" = some (.ref a_is_row)
  F_over : Fun K "over" "over" s_over a_over d_over
  g_over : mg "over" = some (.ref a_over)
  F_lot_of : Fun K "lot_of" "lot_of" s_lot_of a_lot_of d_lot_of
  g_lot_of : mg "lot_of" = some (.ref a_lot_of)
  F_blank : Fun K "blank" "blank" s_blank a_blank d_blank
  g_blank : mg "blank" = some (.ref a_blank)
  F_union : Fun K "union" "union" s_union a_union d_union
  g_union : mg "union" = some (.ref a_union)
  F_outside : Fun K "outside" "outside" s_outside a_outside d_outside
  g_outside : mg "outside" = some (.ref a_outside)
  F_barring : Fun K "barring" "barring" s_barring a_barring d_barring
  g_barring : mg "barring" = some (.ref a_barring)
  F_can_be_taken : Fun K "can_be_taken" "can_be_taken" s_can_be_taken a_can_be_taken d_can_be_taken
  g_can_be_taken : mg "can_be_taken" = some (.ref a_can_be_taken)
  F_next_taken : Fun K "next_taken" "next_taken" s_next_taken a_next_taken d_next_taken
  g_next_taken : mg "next_taken" = some (.ref a_next_taken)
  F_taking : Fun K "taking" "taking" s_taking a_taking d_taking
  g_taking : mg "taking" = some (.ref a_taking)
  F_tellers_outside : Fun K "tellers_outside" "tellers_outside" s_tellers_outside a_tellers_outside d_tellers_outside
  g_tellers_outside : mg "tellers_outside" = some (.ref a_tellers_outside)
  F_come : Fun K "come" "come" s_come a_come d_come
  g_come : mg "come" = some (.ref a_come)
  F_word_of : Fun K "word_of" "word_of" s_word_of a_word_of d_word_of
  g_word_of : mg "word_of" = some (.ref a_word_of)
  F_follow_takes : Fun K "follow_takes" "follow_takes" s_follow_takes a_follow_takes d_follow_takes
  g_follow_takes : mg "follow_takes" = some (.ref a_follow_takes)
  F_bar_holds : Fun K "bar_holds" "bar_holds" s_bar_holds a_bar_holds d_bar_holds
  g_bar_holds : mg "bar_holds" = some (.ref a_bar_holds)
  F_count_bars : Fun K "count_bars" "count_bars" s_count_bars a_count_bars d_count_bars
  g_count_bars : mg "count_bars" = some (.ref a_count_bars)
  F_look : Fun K "look" "look" s_look a_look d_look
  g_look : mg "look" = some (.ref a_look)
  F_law_bag : Fun K "_law_bag" "_law_bag" s_law_bag a_law_bag d_law_bag
  g_law_bag : mg "_law_bag" = some (.ref a_law_bag)
  F_law_draw : Fun K "_law_draw" "_law_draw" s_law_draw a_law_draw d_law_draw
  g_law_draw : mg "_law_draw" = some (.ref a_law_draw)
  F_law_of : Fun K "_law_of" "_law_of" s_law_of a_law_of d_law_of
  g_law_of : mg "_law_of" = some (.ref a_law_of)
  F_law_mixed : Fun K "_law_mixed" "_law_mixed" s_law_mixed a_law_mixed d_law_mixed
  g_law_mixed : mg "_law_mixed" = some (.ref a_law_mixed)
  F_law_same : Fun K "_law_same" "_law_same" s_law_same a_law_same d_law_same
  g_law_same : mg "_law_same" = some (.ref a_law_same)
  F_law_title : Fun K "_law_title" "_law_title" s_law_title a_law_title d_law_title
  g_law_title : mg "_law_title" = some (.ref a_law_title)
  F_law_frame : Fun K "_law_frame" "_law_frame" s_law_frame a_law_frame d_law_frame
  g_law_frame : mg "_law_frame" = some (.ref a_law_frame)
  F_law_row : FunD K "_law_row" "_law_row" (defArgs s_law_row) (defBody s_law_row) (defScope s_law_row) [.int 2] [] a_law_row d_law_row
  g_law_row : mg "_law_row" = some (.ref a_law_row)
  F_law_size : Fun K "_law_size" "_law_size" s_law_size a_law_size d_law_size
  g_law_size : mg "_law_size" = some (.ref a_law_size)
  F_law_lay : Fun K "_law_lay" "_law_lay" s_law_lay a_law_lay d_law_lay
  g_law_lay : mg "_law_lay" = some (.ref a_law_lay)
  F_law_lot : Fun K "_law_lot" "_law_lot" s_law_lot a_law_lot d_law_lot
  g_law_lot : mg "_law_lot" = some (.ref a_law_lot)
  F_law_join : Fun K "_law_join" "_law_join" s_law_join a_law_join d_law_join
  g_law_join : mg "_law_join" = some (.ref a_law_join)
  F_law_blank : Fun K "_law_blank" "_law_blank" s_law_blank a_law_blank d_law_blank
  g_law_blank : mg "_law_blank" = some (.ref a_law_blank)
  F_law_is_row : Fun K "_law_is_row" "_law_is_row" s_law_is_row a_law_is_row d_law_is_row
  g_law_is_row : mg "_law_is_row" = some (.ref a_law_is_row)
  F_law_fresh : Fun K "_law_fresh" "_law_fresh" s_law_fresh a_law_fresh d_law_fresh
  g_law_fresh : mg "_law_fresh" = some (.ref a_law_fresh)
  F_law_fits : Fun K "_law_fits" "_law_fits" s_law_fits a_law_fits d_law_fits
  g_law_fits : mg "_law_fits" = some (.ref a_law_fits)
  F_law_odd : Fun K "_law_odd" "_law_odd" s_law_odd a_law_odd d_law_odd
  g_law_odd : mg "_law_odd" = some (.ref a_law_odd)
  F_law_loose : Fun K "_law_loose" "_law_loose" s_law_loose a_law_loose d_law_loose
  g_law_loose : mg "_law_loose" = some (.ref a_law_loose)
  F_law_wanted : Fun K "_law_wanted" "_law_wanted" s_law_wanted a_law_wanted d_law_wanted
  g_law_wanted : mg "_law_wanted" = some (.ref a_law_wanted)
  F_law_free_lines : Fun K "_law_free_lines" "_law_free_lines" s_law_free_lines a_law_free_lines d_law_free_lines
  g_law_free_lines : mg "_law_free_lines" = some (.ref a_law_free_lines)
  F_law_line : Fun K "_law_line" "_law_line" s_law_line a_law_line d_law_line
  g_law_line : mg "_law_line" = some (.ref a_law_line)
  F_law_spoilt : Fun K "_law_spoilt" "_law_spoilt" s_law_spoilt a_law_spoilt d_law_spoilt
  g_law_spoilt : mg "_law_spoilt" = some (.ref a_law_spoilt)
  F_law_bar_next : Fun K "_law_bar_next" "_law_bar_next" s_law_bar_next a_law_bar_next d_law_bar_next
  g_law_bar_next : mg "_law_bar_next" = some (.ref a_law_bar_next)
  F_law_bar_good : Fun K "_law_bar_good" "_law_bar_good" s_law_bar_good a_law_bar_good d_law_bar_good
  g_law_bar_good : mg "_law_bar_good" = some (.ref a_law_bar_good)
  F_law_judge : Fun K "_law_judge" "_law_judge" s_law_judge a_law_judge d_law_judge
  g_law_judge : mg "_law_judge" = some (.ref a_law_judge)
  F_law : Fun K "law" "law" s_law a_law d_law
  g_law : mg "law" = some (.ref a_law)
  a_LINE_SIZES : Addr
  g_LINE_SIZES : mg "LINE_SIZES" = some (.ref a_LINE_SIZES)
  v_LINE_SIZES : ∀ q ∈ ([("row", 2), ("take", 2), ("made", 1), ("bar", 3), ("barred", 1)] : List (Str × Int)), ∃ u, PySem.W.nsIn K a_LINE_SIZES q.1 = some (some u) ∧ RelV (.int q.2) u
  n_len : mg "len" = none
  n_all : mg "all" = none
  n_range : mg "range" = none
  n_zip : mg "zip" = none
  n_enumerate : mg "enumerate" = none
  n_isinstance : mg "isinstance" = none
  n_list : mg "list" = none
  n_tuple : mg "tuple" = none
  n_dict : mg "dict" = none
  n_str : mg "str" = none
  n_int : mg "int" = none
  n_bool : mg "bool" = none
  n_abs : mg "abs" = none
  n_max : mg "max" = none
  n_super : mg "super" = none
  t_DIGITS : Tok
  c_DIGITS : mg "DIGITS" = some (.str "0123" t_DIGITS)
  t_DOT : Tok
  c_DOT : mg "DOT" = some (.str "." t_DOT)
  t_PLUS : Tok
  c_PLUS : mg "PLUS" = some (.str "+" t_PLUS)
theorem sc_is_row : FnScope N_is_row ["cells", "value"] (defScope s_is_row) := ⟨rfl, rfl, rfl, by decide +kernel, rfl, by decide +kernel, by decide +kernel⟩
theorem sc_over : FnScope N_over ["newer", "older"] (defScope s_over) := ⟨rfl, rfl, rfl, by decide +kernel, rfl, by decide +kernel, by decide +kernel⟩
theorem sc_lot_of : FnScope N_lot_of ["row"] (defScope s_lot_of) := ⟨rfl, rfl, rfl, by decide +kernel, rfl, by decide +kernel, by decide +kernel⟩
theorem sc_blank : FnScope N_blank ["many"] (defScope s_blank) := ⟨rfl, rfl, rfl, by decide +kernel, rfl, by decide +kernel, by decide +kernel⟩
theorem sc_union : FnScope N_union ["one", "other"] (defScope s_union) := ⟨rfl, rfl, rfl, by decide +kernel, rfl, by decide +kernel, by decide +kernel⟩
theorem sc_outside : FnScope N_outside ["seed", "told"] (defScope s_outside) := ⟨rfl, rfl, rfl, by decide +kernel, rfl, by decide +kernel, by decide +kernel⟩
theorem sc_barring : FnScope N_barring ["seed", "told", "row"] (defScope s_barring) := ⟨rfl, rfl, rfl, by decide +kernel, rfl, by decide +kernel, by decide +kernel⟩
theorem sc_can_be_taken : FnScope N_can_be_taken ["seed", "told", "row"] (defScope s_can_be_taken) := ⟨rfl, rfl, rfl, by decide +kernel, rfl, by decide +kernel, by decide +kernel⟩
theorem sc_next_taken : FnScope N_next_taken ["seeds", "told", "row"] (defScope s_next_taken) := ⟨rfl, rfl, rfl, by decide +kernel, rfl, by decide +kernel, by decide +kernel⟩
theorem sc_taking : FnScope N_taking ["seeds", "row"] (defScope s_taking) := ⟨rfl, rfl, rfl, by decide +kernel, rfl, by decide +kernel, by decide +kernel⟩
theorem sc_tellers_outside : FnScope N_tellers_outside ["seeds", "told"] (defScope s_tellers_outside) := ⟨rfl, rfl, rfl, by decide +kernel, rfl, by decide +kernel, by decide +kernel⟩
theorem sc_come : FnScope N_come ["cells", "seeds", "row"] (defScope s_come) := ⟨rfl, rfl, rfl, by decide +kernel, rfl, by decide +kernel, by decide +kernel⟩
theorem sc_word_of : FnScope N_word_of ["line"] (defScope s_word_of) := ⟨rfl, rfl, rfl, by decide +kernel, rfl, by decide +kernel, by decide +kernel⟩
theorem sc_follow_takes : FnScope N_follow_takes ["seeds", "row", "paper"] (defScope s_follow_takes) := ⟨rfl, rfl, rfl, by decide +kernel, rfl, by decide +kernel, by decide +kernel⟩
theorem sc_bar_holds : FnScope N_bar_holds ["cells", "seed", "told", "row", "line"] (defScope s_bar_holds) := ⟨rfl, rfl, rfl, by decide +kernel, rfl, by decide +kernel, by decide +kernel⟩
theorem sc_count_bars : FnScope N_count_bars ["cells", "waiting", "told", "row", "lines"] (defScope s_count_bars) := ⟨rfl, rfl, rfl, by decide +kernel, rfl, by decide +kernel, by decide +kernel⟩
theorem sc_look : FnScope N_look ["cells", "seeds", "paper"] (defScope s_look) := ⟨rfl, rfl, rfl, by decide +kernel, rfl, by decide +kernel, by decide +kernel⟩
theorem sc_law_bag : FnScope N_law_bag ["_law_script"] (defScope s_law_bag) := ⟨rfl, rfl, rfl, by decide +kernel, rfl, by decide +kernel, by decide +kernel⟩
theorem sc_law_draw : FnScope N_law_draw ["_law_bag_here", "_law_sides"] (defScope s_law_draw) := ⟨rfl, rfl, rfl, by decide +kernel, rfl, by decide +kernel, by decide +kernel⟩
theorem sc_law_of : FnScope N_law_of ["_law_bag_here", "_law_things"] (defScope s_law_of) := ⟨rfl, rfl, rfl, by decide +kernel, rfl, by decide +kernel, by decide +kernel⟩
theorem sc_law_mixed : FnScope N_law_mixed ["_law_bag_here", "_law_things"] (defScope s_law_mixed) := ⟨rfl, rfl, rfl, by decide +kernel, rfl, by decide +kernel, by decide +kernel⟩
theorem sc_law_same : FnScope N_law_same ["_law_found", "_law_due"] (defScope s_law_same) := ⟨rfl, rfl, rfl, by decide +kernel, rfl, by decide +kernel, by decide +kernel⟩
theorem sc_law_title : FnScope N_law_title ["_law_bag_here", "_law_taken"] (defScope s_law_title) := ⟨rfl, rfl, rfl, by decide +kernel, rfl, by decide +kernel, by decide +kernel⟩
theorem sc_law_frame : FnScope N_law_frame ["_law_bag_here", "_law_size_here", "_law_widest"] (defScope s_law_frame) := ⟨rfl, rfl, rfl, by decide +kernel, rfl, by decide +kernel, by decide +kernel⟩
theorem sc_law_row : FnScope N_law_row ["_law_bag_here", "_law_frame_here", "_law_thin"] (defScope s_law_row) := ⟨rfl, rfl, rfl, by decide +kernel, rfl, by decide +kernel, by decide +kernel⟩
theorem sc_law_size : FnScope N_law_size ["_law_bag_here"] (defScope s_law_size) := ⟨rfl, rfl, rfl, by decide +kernel, rfl, by decide +kernel, by decide +kernel⟩
theorem sc_law_lay : FnScope N_law_lay ["_law_newer_row", "_law_older_row"] (defScope s_law_lay) := ⟨rfl, rfl, rfl, by decide +kernel, rfl, by decide +kernel, by decide +kernel⟩
theorem sc_law_lot : FnScope N_law_lot ["_law_r"] (defScope s_law_lot) := ⟨rfl, rfl, rfl, by decide +kernel, rfl, by decide +kernel, by decide +kernel⟩
theorem sc_law_join : FnScope N_law_join ["_law_x", "_law_y"] (defScope s_law_join) := ⟨rfl, rfl, rfl, by decide +kernel, rfl, by decide +kernel, by decide +kernel⟩
theorem sc_law_blank : FnScope N_law_blank ["_law_frame_here"] (defScope s_law_blank) := ⟨rfl, rfl, rfl, by decide +kernel, rfl, by decide +kernel, by decide +kernel⟩
theorem sc_law_is_row : FnScope N_law_is_row ["_law_frame_here", "_law_thing"] (defScope s_law_is_row) := ⟨rfl, rfl, rfl, by decide +kernel, rfl, by decide +kernel, by decide +kernel⟩
theorem sc_law_fresh : FnScope N_law_fresh ["_law_s", "_law_told"] (defScope s_law_fresh) := ⟨rfl, rfl, rfl, by decide +kernel, rfl, by decide +kernel, by decide +kernel⟩
theorem sc_law_fits : FnScope N_law_fits ["_law_s", "_law_r", "_law_told"] (defScope s_law_fits) := ⟨rfl, rfl, rfl, by decide +kernel, rfl, by decide +kernel, by decide +kernel⟩
theorem sc_law_odd : FnScope N_law_odd ["_law_bag_here", "_law_more"] (defScope s_law_odd) := ⟨rfl, rfl, rfl, by decide +kernel, rfl, by decide +kernel, by decide +kernel⟩
theorem sc_law_loose : FnScope N_law_loose ["_law_bag_here", "_law_frame_here"] (defScope s_law_loose) := ⟨rfl, rfl, rfl, by decide +kernel, rfl, by decide +kernel, by decide +kernel⟩
theorem sc_law_wanted : FnScope N_law_wanted ["_law_bag_here", "_law_frame_here", "_law_stack"] (defScope s_law_wanted) := ⟨rfl, rfl, rfl, by decide +kernel, rfl, by decide +kernel, by decide +kernel⟩
theorem sc_law_free_lines : FnScope N_law_free_lines ["_law_bag_here", "_law_frame_here", "_law_stack", "_law_r"] (defScope s_law_free_lines) := ⟨rfl, rfl, rfl, by decide +kernel, rfl, by decide +kernel, by decide +kernel⟩
theorem sc_law_line : FnScope N_law_line ["_law_bag_here", "_law_frame_here", "_law_stack", "_law_r"] (defScope s_law_line) := ⟨rfl, rfl, rfl, by decide +kernel, rfl, by decide +kernel, by decide +kernel⟩
theorem sc_law_spoilt : FnScope N_law_spoilt ["_law_bag_here", "_law_frame_here", "_law_stack", "_law_r", "_law_listed"] (defScope s_law_spoilt) := ⟨rfl, rfl, rfl, by decide +kernel, rfl, by decide +kernel, by decide +kernel⟩
theorem sc_law_bar_next : FnScope N_law_bar_next ["_law_stack", "_law_told", "_law_spot"] (defScope s_law_bar_next) := ⟨rfl, rfl, rfl, by decide +kernel, rfl, by decide +kernel, by decide +kernel⟩
theorem sc_law_bar_good : FnScope N_law_bar_good ["_law_frame_here", "_law_s", "_law_r", "_law_told", "_law_title_here"] (defScope s_law_bar_good) := ⟨rfl, rfl, rfl, by decide +kernel, rfl, by decide +kernel, by decide +kernel⟩
theorem sc_law_judge : FnScope N_law_judge ["_law_frame_here", "_law_stack", "_law_thing"] (defScope s_law_judge) := ⟨rfl, rfl, rfl, by decide +kernel, rfl, by decide +kernel, by decide +kernel⟩
theorem sc_law : FnScope N_law ["_law_script"] (defScope s_law) := ⟨rfl, rfl, rfl, by decide +kernel, rfl, by decide +kernel, by decide +kernel⟩
theorem b_is_row {K : PySem.W.Frag} {mg : Str → Option Value} (T : Txt K mg) : Binds K T.d_is_row ["cells", "value"] [] := T.F_is_row.binds (ps := ["cells", "value"]) fun _ _ _ _ _ _ us hl => match us, hl with | [_, _], _ => rfl
theorem b_over {K : PySem.W.Frag} {mg : Str → Option Value} (T : Txt K mg) : Binds K T.d_over ["newer", "older"] [] := T.F_over.binds (ps := ["newer", "older"]) fun _ _ _ _ _ _ us hl => match us, hl with | [_, _], _ => rfl
theorem b_lot_of {K : PySem.W.Frag} {mg : Str → Option Value} (T : Txt K mg) : Binds K T.d_lot_of ["row"] [] := T.F_lot_of.binds (ps := ["row"]) fun _ _ _ _ _ _ us hl => match us, hl with | [_], _ => rfl
theorem b_blank {K : PySem.W.Frag} {mg : Str → Option Value} (T : Txt K mg) : Binds K T.d_blank ["many"] [] := T.F_blank.binds (ps := ["many"]) fun _ _ _ _ _ _ us hl => match us, hl with | [_], _ => rfl
theorem b_union {K : PySem.W.Frag} {mg : Str → Option Value} (T : Txt K mg) : Binds K T.d_union ["one", "other"] [] := T.F_union.binds (ps := ["one", "other"]) fun _ _ _ _ _ _ us hl => match us, hl with | [_, _], _ => rfl
theorem b_outside {K : PySem.W.Frag} {mg : Str → Option Value} (T : Txt K mg) : Binds K T.d_outside ["seed", "told"] [] := T.F_outside.binds (ps := ["seed", "told"]) fun _ _ _ _ _ _ us hl => match us, hl with | [_, _], _ => rfl
theorem b_barring {K : PySem.W.Frag} {mg : Str → Option Value} (T : Txt K mg) : Binds K T.d_barring ["seed", "told", "row"] [] := T.F_barring.binds (ps := ["seed", "told", "row"]) fun _ _ _ _ _ _ us hl => match us, hl with | [_, _, _], _ => rfl
theorem b_can_be_taken {K : PySem.W.Frag} {mg : Str → Option Value} (T : Txt K mg) : Binds K T.d_can_be_taken ["seed", "told", "row"] [] := T.F_can_be_taken.binds (ps := ["seed", "told", "row"]) fun _ _ _ _ _ _ us hl => match us, hl with | [_, _, _], _ => rfl
theorem b_next_taken {K : PySem.W.Frag} {mg : Str → Option Value} (T : Txt K mg) : Binds K T.d_next_taken ["seeds", "told", "row"] [] := T.F_next_taken.binds (ps := ["seeds", "told", "row"]) fun _ _ _ _ _ _ us hl => match us, hl with | [_, _, _], _ => rfl
theorem b_taking {K : PySem.W.Frag} {mg : Str → Option Value} (T : Txt K mg) : Binds K T.d_taking ["seeds", "row"] [] := T.F_taking.binds (ps := ["seeds", "row"]) fun _ _ _ _ _ _ us hl => match us, hl with | [_, _], _ => rfl
theorem b_tellers_outside {K : PySem.W.Frag} {mg : Str → Option Value} (T : Txt K mg) : Binds K T.d_tellers_outside ["seeds", "told"] [] := T.F_tellers_outside.binds (ps := ["seeds", "told"]) fun _ _ _ _ _ _ us hl => match us, hl with | [_, _], _ => rfl
theorem b_come {K : PySem.W.Frag} {mg : Str → Option Value} (T : Txt K mg) : Binds K T.d_come ["cells", "seeds", "row"] [] := T.F_come.binds (ps := ["cells", "seeds", "row"]) fun _ _ _ _ _ _ us hl => match us, hl with | [_, _, _], _ => rfl
theorem b_word_of {K : PySem.W.Frag} {mg : Str → Option Value} (T : Txt K mg) : Binds K T.d_word_of ["line"] [] := T.F_word_of.binds (ps := ["line"]) fun _ _ _ _ _ _ us hl => match us, hl with | [_], _ => rfl
theorem b_follow_takes {K : PySem.W.Frag} {mg : Str → Option Value} (T : Txt K mg) : Binds K T.d_follow_takes ["seeds", "row", "paper"] [] := T.F_follow_takes.binds (ps := ["seeds", "row", "paper"]) fun _ _ _ _ _ _ us hl => match us, hl with | [_, _, _], _ => rfl
theorem b_bar_holds {K : PySem.W.Frag} {mg : Str → Option Value} (T : Txt K mg) : Binds K T.d_bar_holds ["cells", "seed", "told", "row", "line"] [] := T.F_bar_holds.binds (ps := ["cells", "seed", "told", "row", "line"]) fun _ _ _ _ _ _ us hl => match us, hl with | [_, _, _, _, _], _ => rfl
theorem b_count_bars {K : PySem.W.Frag} {mg : Str → Option Value} (T : Txt K mg) : Binds K T.d_count_bars ["cells", "waiting", "told", "row", "lines"] [] := T.F_count_bars.binds (ps := ["cells", "waiting", "told", "row", "lines"]) fun _ _ _ _ _ _ us hl => match us, hl with | [_, _, _, _, _], _ => rfl
theorem b_look {K : PySem.W.Frag} {mg : Str → Option Value} (T : Txt K mg) : Binds K T.d_look ["cells", "seeds", "paper"] [] := T.F_look.binds (ps := ["cells", "seeds", "paper"]) fun _ _ _ _ _ _ us hl => match us, hl with | [_, _, _], _ => rfl
theorem b_law_bag {K : PySem.W.Frag} {mg : Str → Option Value} (T : Txt K mg) : Binds K T.d_law_bag ["_law_script"] [] := T.F_law_bag.binds (ps := ["_law_script"]) fun _ _ _ _ _ _ us hl => match us, hl with | [_], _ => rfl
theorem b_law_draw {K : PySem.W.Frag} {mg : Str → Option Value} (T : Txt K mg) : Binds K T.d_law_draw ["_law_bag_here", "_law_sides"] [] := T.F_law_draw.binds (ps := ["_law_bag_here", "_law_sides"]) fun _ _ _ _ _ _ us hl => match us, hl with | [_, _], _ => rfl
theorem b_law_of {K : PySem.W.Frag} {mg : Str → Option Value} (T : Txt K mg) : Binds K T.d_law_of ["_law_bag_here", "_law_things"] [] := T.F_law_of.binds (ps := ["_law_bag_here", "_law_things"]) fun _ _ _ _ _ _ us hl => match us, hl with | [_, _], _ => rfl
theorem b_law_mixed {K : PySem.W.Frag} {mg : Str → Option Value} (T : Txt K mg) : Binds K T.d_law_mixed ["_law_bag_here", "_law_things"] [] := T.F_law_mixed.binds (ps := ["_law_bag_here", "_law_things"]) fun _ _ _ _ _ _ us hl => match us, hl with | [_, _], _ => rfl
theorem b_law_same {K : PySem.W.Frag} {mg : Str → Option Value} (T : Txt K mg) : Binds K T.d_law_same ["_law_found", "_law_due"] [] := T.F_law_same.binds (ps := ["_law_found", "_law_due"]) fun _ _ _ _ _ _ us hl => match us, hl with | [_, _], _ => rfl
theorem b_law_title {K : PySem.W.Frag} {mg : Str → Option Value} (T : Txt K mg) : Binds K T.d_law_title ["_law_bag_here", "_law_taken"] [] := T.F_law_title.binds (ps := ["_law_bag_here", "_law_taken"]) fun _ _ _ _ _ _ us hl => match us, hl with | [_, _], _ => rfl
theorem b_law_frame {K : PySem.W.Frag} {mg : Str → Option Value} (T : Txt K mg) : Binds K T.d_law_frame ["_law_bag_here", "_law_size_here", "_law_widest"] [] := T.F_law_frame.binds (ps := ["_law_bag_here", "_law_size_here", "_law_widest"]) fun _ _ _ _ _ _ us hl => match us, hl with | [_, _, _], _ => rfl
theorem b_law_size {K : PySem.W.Frag} {mg : Str → Option Value} (T : Txt K mg) : Binds K T.d_law_size ["_law_bag_here"] [] := T.F_law_size.binds (ps := ["_law_bag_here"]) fun _ _ _ _ _ _ us hl => match us, hl with | [_], _ => rfl
theorem b_law_lay {K : PySem.W.Frag} {mg : Str → Option Value} (T : Txt K mg) : Binds K T.d_law_lay ["_law_newer_row", "_law_older_row"] [] := T.F_law_lay.binds (ps := ["_law_newer_row", "_law_older_row"]) fun _ _ _ _ _ _ us hl => match us, hl with | [_, _], _ => rfl
theorem b_law_lot {K : PySem.W.Frag} {mg : Str → Option Value} (T : Txt K mg) : Binds K T.d_law_lot ["_law_r"] [] := T.F_law_lot.binds (ps := ["_law_r"]) fun _ _ _ _ _ _ us hl => match us, hl with | [_], _ => rfl
theorem b_law_join {K : PySem.W.Frag} {mg : Str → Option Value} (T : Txt K mg) : Binds K T.d_law_join ["_law_x", "_law_y"] [] := T.F_law_join.binds (ps := ["_law_x", "_law_y"]) fun _ _ _ _ _ _ us hl => match us, hl with | [_, _], _ => rfl
theorem b_law_blank {K : PySem.W.Frag} {mg : Str → Option Value} (T : Txt K mg) : Binds K T.d_law_blank ["_law_frame_here"] [] := T.F_law_blank.binds (ps := ["_law_frame_here"]) fun _ _ _ _ _ _ us hl => match us, hl with | [_], _ => rfl
theorem b_law_is_row {K : PySem.W.Frag} {mg : Str → Option Value} (T : Txt K mg) : Binds K T.d_law_is_row ["_law_frame_here", "_law_thing"] [] := T.F_law_is_row.binds (ps := ["_law_frame_here", "_law_thing"]) fun _ _ _ _ _ _ us hl => match us, hl with | [_, _], _ => rfl
theorem b_law_fresh {K : PySem.W.Frag} {mg : Str → Option Value} (T : Txt K mg) : Binds K T.d_law_fresh ["_law_s", "_law_told"] [] := T.F_law_fresh.binds (ps := ["_law_s", "_law_told"]) fun _ _ _ _ _ _ us hl => match us, hl with | [_, _], _ => rfl
theorem b_law_fits {K : PySem.W.Frag} {mg : Str → Option Value} (T : Txt K mg) : Binds K T.d_law_fits ["_law_s", "_law_r", "_law_told"] [] := T.F_law_fits.binds (ps := ["_law_s", "_law_r", "_law_told"]) fun _ _ _ _ _ _ us hl => match us, hl with | [_, _, _], _ => rfl
theorem b_law_odd {K : PySem.W.Frag} {mg : Str → Option Value} (T : Txt K mg) : Binds K T.d_law_odd ["_law_bag_here", "_law_more"] [] := T.F_law_odd.binds (ps := ["_law_bag_here", "_law_more"]) fun _ _ _ _ _ _ us hl => match us, hl with | [_, _], _ => rfl
theorem b_law_loose {K : PySem.W.Frag} {mg : Str → Option Value} (T : Txt K mg) : Binds K T.d_law_loose ["_law_bag_here", "_law_frame_here"] [] := T.F_law_loose.binds (ps := ["_law_bag_here", "_law_frame_here"]) fun _ _ _ _ _ _ us hl => match us, hl with | [_, _], _ => rfl
theorem b_law_wanted {K : PySem.W.Frag} {mg : Str → Option Value} (T : Txt K mg) : Binds K T.d_law_wanted ["_law_bag_here", "_law_frame_here", "_law_stack"] [] := T.F_law_wanted.binds (ps := ["_law_bag_here", "_law_frame_here", "_law_stack"]) fun _ _ _ _ _ _ us hl => match us, hl with | [_, _, _], _ => rfl
theorem b_law_free_lines {K : PySem.W.Frag} {mg : Str → Option Value} (T : Txt K mg) : Binds K T.d_law_free_lines ["_law_bag_here", "_law_frame_here", "_law_stack", "_law_r"] [] := T.F_law_free_lines.binds (ps := ["_law_bag_here", "_law_frame_here", "_law_stack", "_law_r"]) fun _ _ _ _ _ _ us hl => match us, hl with | [_, _, _, _], _ => rfl
theorem b_law_line {K : PySem.W.Frag} {mg : Str → Option Value} (T : Txt K mg) : Binds K T.d_law_line ["_law_bag_here", "_law_frame_here", "_law_stack", "_law_r"] [] := T.F_law_line.binds (ps := ["_law_bag_here", "_law_frame_here", "_law_stack", "_law_r"]) fun _ _ _ _ _ _ us hl => match us, hl with | [_, _, _, _], _ => rfl
theorem b_law_spoilt {K : PySem.W.Frag} {mg : Str → Option Value} (T : Txt K mg) : Binds K T.d_law_spoilt ["_law_bag_here", "_law_frame_here", "_law_stack", "_law_r", "_law_listed"] [] := T.F_law_spoilt.binds (ps := ["_law_bag_here", "_law_frame_here", "_law_stack", "_law_r", "_law_listed"]) fun _ _ _ _ _ _ us hl => match us, hl with | [_, _, _, _, _], _ => rfl
theorem b_law_bar_next {K : PySem.W.Frag} {mg : Str → Option Value} (T : Txt K mg) : Binds K T.d_law_bar_next ["_law_stack", "_law_told", "_law_spot"] [] := T.F_law_bar_next.binds (ps := ["_law_stack", "_law_told", "_law_spot"]) fun _ _ _ _ _ _ us hl => match us, hl with | [_, _, _], _ => rfl
theorem b_law_bar_good {K : PySem.W.Frag} {mg : Str → Option Value} (T : Txt K mg) : Binds K T.d_law_bar_good ["_law_frame_here", "_law_s", "_law_r", "_law_told", "_law_title_here"] [] := T.F_law_bar_good.binds (ps := ["_law_frame_here", "_law_s", "_law_r", "_law_told", "_law_title_here"]) fun _ _ _ _ _ _ us hl => match us, hl with | [_, _, _, _, _], _ => rfl
theorem b_law_judge {K : PySem.W.Frag} {mg : Str → Option Value} (T : Txt K mg) : Binds K T.d_law_judge ["_law_frame_here", "_law_stack", "_law_thing"] [] := T.F_law_judge.binds (ps := ["_law_frame_here", "_law_stack", "_law_thing"]) fun _ _ _ _ _ _ us hl => match us, hl with | [_, _, _], _ => rfl
theorem b_law {K : PySem.W.Frag} {mg : Str → Option Value} (T : Txt K mg) : Binds K T.d_law ["_law_script"] [] := T.F_law.binds (ps := ["_law_script"]) fun _ _ _ _ _ _ us hl => match us, hl with | [_], _ => rfl

end Nt

namespace Nt
open PySem PySem.Spec PyProof.Rows L2

theorem flat1 {α : Type} (l : List α) (f : α → Nat) : (l.map fun a => [f a]).flatten = l.map f := by
  induction l with
  | nil => rfl
  | cons a l ih => rw [List.map_cons, List.flatten_cons, ih]; rfl
section
variable {K : PySem.W.Frag} {ta tb te to : TE} {tt : TT} {ρ : List En}
theorem e_joinc {α : Type} {src : List α} {f : α → Nat} (h0 : ED to ρ (· = .str [])) (h : EV te ρ (· = .own (src.map fun a => .str [f a]))) (hl : src.length ≤ 100000) : ED (tM1 (rJoin K) to te) ρ (· = .str (src.map f)) := by
  have e : (src.map fun a => D.str [f a]) = (src.map fun a => [f a]).map D.str := by rw [List.map_map]; rfl
  refine EV.d1 (e_m1 h0 h.o1 fun y hy => ?_)
  subst hy
  rw [e, ← flat1]
  exact md_join (by rw [flat1, List.length_map]; exact hl)
theorem e_ifc {c : Prop} [Decidable c] {x y : D} (h : ET tt ρ (· = decide c)) (h1 : c → ED ta ρ (· = x)) (h2 : ¬ c → ED tb ρ (· = y)) : ED (tIf tt ta tb) ρ (· = if c then x else y) := by
  refine e_ifd h (fun e => ?_) (fun e => ?_)
  · have hc : c := of_decide_eq_true e.symm
    rw [if_pos hc]; exact h1 hc
  · have hc : ¬ c := of_decide_eq_false e.symm
    rw [if_neg hc]; exact h2 hc
theorem et_eqS {a b : List Nat} (ha : ED ta ρ (· = .str a)) (hb : ED tb ρ (· = .str b)) : ET (tTest (tOp (rEqU K) ta tb)) ρ (· = decide (a = b)) := et_t1 (e_opd ha hb od_eqS)
theorem et_neS {a b : List Nat} (ha : ED ta ρ (· = .str a)) (hb : ED tb ρ (· = .str b)) : ET (tTest (tOp (rNeU K) ta tb)) ρ (· = !decide (a = b)) := et_t1 (e_opd ha hb od_neS)
theorem str1 (a b : Nat) : decide ([a] = [b]) = decide (a = b) := decide_eq_decide.mpr ⟨fun h => List.cons.inj h |>.1, fun h => by rw [h]⟩
end
theorem rep46 (n : Nat) : (List.replicate n [46]).flatten = List.replicate n 46 := by
  induction n with
  | zero => rfl
  | succ n ih => rw [List.replicate_succ, List.flatten_cons, ih]; rfl
/-! ### rows as lists of codes -/
def ov (x y : List Nat) : List Nat := (x.zip y).map fun p => if p.1 = 46 then p.2 else p.1
def lotOf (x : List Nat) : List Nat := x.map fun c => if c = 46 then 46 else 43
def Rg_over (ds : List D) (P : En → Prop) : Prop := ∃ x y, ds = [.str x, .str y] ∧ x.length ≤ 1000 ∧ P (.dat (.str (ov x y)))
def Rg_lot_of (ds : List D) (P : En → Prop) : Prop := ∃ x, ds = [.str x] ∧ x.length ≤ 1000 ∧ P (.dat (.str (lotOf x)))
def Rg_blank (ds : List D) (P : En → Prop) : Prop := ∃ n : Nat, ds = [.int n] ∧ n ≤ 1000 ∧ P (.dat (.str (List.replicate n 46)))
abbrev Rg_union := Rg_over
theorem len_over (ds P) (h : Rg_over ds P) : ds.length = 2 := by obtain ⟨x, y, rfl, _⟩ := h; rfl
theorem len_union (ds P) (h : Rg_union ds P) : ds.length = 2 := by obtain ⟨x, y, rfl, _⟩ := h; rfl
theorem len_lot_of (ds P) (h : Rg_lot_of ds P) : ds.length = 1 := by obtain ⟨x, rfl, _⟩ := h; rfl
theorem len_blank (ds P) (h : Rg_blank ds P) : ds.length = 1 := by obtain ⟨x, rfl, _⟩ := h; rfl
section
variable {P : Program} {w : World} {K : PySem.W.Frag} {mg : Str → Option Value} {base : Heap}
theorem ok_over (T : Txt K mg)  : FnOk P w K mg base CX0 1 T.a_over T.d_over ["newer", "older"] (SpE Rg_over) := by
  refine T.F_over.ok sc_over (fun vs H Q E h => spE_len h len_over) (fun cdv A outer s H vs Q E hr h => ?_)
  have hu := hu64 hr
  have hvl : vs.length = 2 := spE_len h len_over
  refine ⟨_, (pss_one (ps_ret (pe_joinK (K := K) rfl pe_str (pe_lc (own := [("sign", 2), ("under", 3)]) (g := gTup K 2 (gCons (gName 2) (gCons (gName 3) gNil))) (tt := tYes) rfl sc_over.nd (pi_zipK (K := K) rfl (by rfl) T.n_zip (pa_cons (pv 0) (pa_cons (pv 1) pa_nil))) (blkOk_by (N := N_over) (sc := defScope s_over) (by decide +kernel)) (fun _ _ _ _ _ => (pg_tup rfl (pgs_cons (pg_name (i := 2) sc_over.nd rfl (Or.inl rfl)) (pgs_cons (pg_name (i := 3) sc_over.nd rfl (Or.inl rfl)) pgs_nil)))) (fun _ _ _ _ _ => pts_nil) (fun _ _ _ _ _ => (pe_ifExp (pt_cmpR (op_eqK (K := K) rfl hu) (pv 2) (pe_glob (v := .str ".") rfl T.c_DOT ⟨_, rfl⟩) (nomark _)) (pv 3) (pv 2))))))), fn_body h (by rw [hvl]; decide) (fun ds R hR hl => ?_)⟩
  obtain ⟨x, y, rfl, hx, q⟩ := hR
  refine t_ret1 (e_joinc (f := fun p : Nat × Nat => if p.1 = 46 then p.2 else p.1) (e_str rfl) (lc2_map (by decide) (iv_zipS (ea_c (e_var rfl) (ea_c (e_var rfl) ea_nil))) (by rw [List.length_zip]; omega) fun i p hp => ?_) (by rw [List.length_zip]; omega)) q
  refine (e_ifc (et_eqS (e_var rfl) (e_str (s := [46]) (by decide +kernel))) (fun _ => e_var rfl) (fun _ => e_var rfl)).is ?_
  by_cases h : p.1 = 46
  · rw [if_pos (by rw [h]), if_pos h]; rfl
  · rw [if_neg (fun z => h (List.cons.inj z).1), if_neg h]; rfl

theorem ok_lot_of (T : Txt K mg)  : FnOk P w K mg base CX0 1 T.a_lot_of T.d_lot_of ["row"] (SpE Rg_lot_of) := by
  refine T.F_lot_of.ok sc_lot_of (fun vs H Q E h => spE_len h len_lot_of) (fun cdv A outer s H vs Q E hr h => ?_)
  have hu := hu64 hr
  have hvl : vs.length = 1 := spE_len h len_lot_of
  refine ⟨_, (pss_one (ps_ret (pe_joinK (K := K) rfl pe_str (pe_lc (own := [("sign", 1)]) (g := gName 1) (tt := tYes) rfl sc_lot_of.nd (pi_str (pv 0)) (blkOk_by (N := N_lot_of) (sc := defScope s_lot_of) (by decide +kernel)) (fun _ _ _ _ _ => (pg_name (i := 1) sc_lot_of.nd rfl (Or.inl rfl))) (fun _ _ _ _ _ => pts_nil) (fun _ _ _ _ _ => (pe_ifExp (pt_cmpR (op_eqK (K := K) rfl hu) (pv 1) (pe_glob (v := .str ".") rfl T.c_DOT ⟨_, rfl⟩) (nomark _)) (pe_glob (v := .str ".") rfl T.c_DOT ⟨_, rfl⟩) (pe_glob (v := .str "+") rfl T.c_PLUS ⟨_, rfl⟩))))))), fn_body h (by rw [hvl]; decide) (fun ds R hR hl => ?_)⟩
  obtain ⟨x, rfl, hx, q⟩ := hR
  refine t_ret1 (e_joinc (f := fun c : Nat => if c = 46 then 46 else 43) (e_str rfl) (lc1_map (iv_strS (e_var rfl)) (by omega) fun i c hc => ?_) (by omega)) q
  refine (e_ifc (et_eqS (e_var rfl) (e_str (s := [46]) (by decide +kernel))) (fun _ => e_str (s := [46]) (by decide +kernel)) (fun _ => e_str (s := [43]) (by decide +kernel))).is ?_
  by_cases h : c = 46
  · rw [if_pos (by rw [h]), if_pos h]
  · rw [if_neg (fun z => h (List.cons.inj z).1), if_neg h]

theorem ok_blank (T : Txt K mg)  : FnOk P w K mg base CX0 1 T.a_blank T.d_blank ["many"] (SpE Rg_blank) := by
  refine T.F_blank.ok sc_blank (fun vs H Q E h => spE_len h len_blank) (fun cdv A outer s H vs Q E hr h => ?_)
  have hu := hu64 hr
  have hvl : vs.length = 1 := spE_len h len_blank
  refine ⟨_, (pss_one (ps_ret (pe_op op_times (pe_glob (v := .str ".") rfl T.c_DOT ⟨_, rfl⟩) (pv 0)))), fn_body h (by rw [hvl]; decide) (fun ds R hR hl => ?_)⟩
  obtain ⟨n, rfl, hn, q⟩ := hR
  refine t_ret1 ((e_opd (e_str (s := [46]) (by decide +kernel)) (e_var rfl) (od_mulS (by omega) (by omega) (by decide))).is ?_) q
  rw [Int.toNat_natCast]
  rw [rep46]

theorem ok_union (T : Txt K mg) (G_over : FnOk P w K mg base CX0 1 T.a_over T.d_over ["newer", "older"] (SpE Rg_over)) : FnOk P w K mg base CX0 2 T.a_union T.d_union ["one", "other"] (SpE Rg_union) := by
  refine T.F_union.ok sc_union (fun vs H Q E h => spE_len h len_union) (fun cdv A outer s H vs Q E hr h => ?_)
  have hu := hu64 hr
  have hvl : vs.length = 2 := spE_len h len_union
  refine ⟨_, (pss_one (ps_ret (pe_call G_over (hr.mono (by decide)) (by rfl) T.g_over T.F_over.kp (b_over T) .nil pass0 (pa_cons (pv 0) (pa_cons (pv 1) pa_nil))))), fn_body h (by rw [hvl]; decide) (fun ds R hR hl => ?_)⟩
  obtain ⟨x, y, rfl, hx, q⟩ := hR
  exact t_ret (e_call0 (R := fun e => e = .dat (.str (ov x y))) (ea_c (e_var rfl) (ea_c (e_var rfl) ea_nil)) ⟨x, y, rfl, hx, rfl⟩) fun e he => by rw [he]; exact q

end
end Nt

namespace Nt
open PySem PySem.Spec PyProof.Rows L2


/-! ### the told lot -/
def cellD (c : List Nat × Nat) : D := .tup [.str c.1, .int c.2]
def rowOk (cs : List (List Nat × Nat)) (r : List Nat) : Bool := ((r.zip cs).map fun p => decide (p.1 = 46) || decide (p.1 ∈ [48, 49, 50, 51].take p.2.2)).all id
def outP (told : List Nat) (p : Nat × Nat) : Bool := !decide (p.2 = 46) && decide (told.getD p.1 0 = 46)
def outs (s told : List Nat) : List Nat := (((List.range s.length).zip s).filter (outP told)).map Prod.fst
def bars (s told r : List Nat) : List Nat := (outs s told).filter fun i => !decide (r.getD i 0 = s.getD i 0)
def canT (s told r : List Nat) : Bool := decide ((0 : Int) < ((outs s told).length : Int)) && decide (((bars s told r).length : Int) = 0)
theorem rng_zip {s : List Nat} {i : Nat} {p : Nat × Nat} (h : ((List.range s.length).zip s)[i]? = some p) : p.1 = i ∧ s[i]? = some p.2 ∧ i < s.length := by
  obtain ⟨h1, h2⟩ := zip_get h
  have hl := (List.getElem?_eq_some_iff.mp h2).1
  rw [List.getElem?_range hl] at h1
  exact ⟨(Option.some.inj h1).symm, h2, hl⟩
theorem mem_zipr {s : List Nat} {p : Nat × Nat} : p ∈ (List.range s.length).zip s ↔ s[p.1]? = some p.2 := by
  constructor
  · intro h
    obtain ⟨i, hi⟩ := List.mem_iff_getElem?.mp h
    obtain ⟨a, b, _⟩ := rng_zip hi
    rw [a]; exact b
  · intro h
    have hl := (List.getElem?_eq_some_iff.mp h).1
    refine List.mem_iff_getElem?.mpr ⟨p.1, ?_⟩
    rw [List.getElem?_zip_eq_some]
    exact ⟨List.getElem?_range hl, h⟩
theorem mem_outs {s told : List Nat} {i : Nat} : i ∈ outs s told ↔ ∃ c, s[i]? = some c ∧ c ≠ 46 ∧ told.getD i 0 = 46 := by
  unfold outs
  rw [List.mem_map]
  constructor
  · rintro ⟨p, hp, rfl⟩
    obtain ⟨h1, h2⟩ := List.mem_filter.mp hp
    rw [mem_zipr] at h1
    unfold outP at h2
    simp only [Bool.and_eq_true, Bool.not_eq_true', decide_eq_false_iff_not, decide_eq_true_eq] at h2
    exact ⟨p.2, h1, h2.1, h2.2⟩
  · rintro ⟨c, h1, h2, h3⟩
    refine ⟨(i, c), List.mem_filter.mpr ⟨mem_zipr.mpr h1, ?_⟩, rfl⟩
    unfold outP
    simp only [Bool.and_eq_true, Bool.not_eq_true', decide_eq_false_iff_not, decide_eq_true_eq]
    exact ⟨h2, h3⟩
theorem outs_lt {s told : List Nat} {i : Nat} (h : i ∈ outs s told) : i < s.length := by
  obtain ⟨c, h, _⟩ := mem_outs.mp h
  exact (List.getElem?_eq_some_iff.mp h).1
theorem outs_len (s told : List Nat) : (outs s told).length ≤ s.length := by
  unfold outs
  rw [List.length_map]
  refine Nat.le_trans (List.length_filter_le _ _) ?_
  rw [List.length_zip, List.length_range]
  omega
inductive Run (S : List (List Nat)) (r : List Nat) : List (List Nat) → List Nat → Prop where
  | nil : Run S r [] (List.replicate r.length 46)
  | snoc {tk : List (List Nat)} {t s : List Nat} : Run S r tk t → s ∈ S → canT s t r = true → Run S r (tk ++ [s]) (ov t (lotOf s))
def Fin (S : List (List Nat)) (r t : List Nat) : Prop := ∀ s ∈ S, canT s t r = false
/-- rows of one length -/
def Len (n : Nat) (S : List (List Nat)) : Prop := ∀ s ∈ S, s.length = n
theorem ov_len (x y : List Nat) : (ov x y).length = min x.length y.length := by unfold ov; rw [List.length_map, List.length_zip]
theorem lotOf_len (x : List Nat) : (lotOf x).length = x.length := by unfold lotOf; rw [List.length_map]
theorem run_len {S : List (List Nat)} {r t : List Nat} {tk : List (List Nat)} (hS : Len r.length S) (h : Run S r tk t) : t.length = r.length := by
  induction h with
  | nil => rw [List.length_replicate]
  | snoc _ hs _ ih => rw [ov_len, lotOf_len, ih, hS _ hs, Nat.min_self]
theorem run_mem {S : List (List Nat)} {r t : List Nat} {tk : List (List Nat)} (h : Run S r tk t) : ∀ s ∈ tk, s ∈ S := by
  induction h with
  | nil => intro s h; cases h
  | snoc _ hs _ ih =>
    intro s h
    rcases List.mem_append.mp h with h | h
    · exact ih s h
    · rw [List.mem_singleton.mp h]; exact hs
/-- .. by the first seed that can be taken, each time -/
inductive FRun (S : List (List Nat)) (r : List Nat) : List (List Nat) → List Nat → Prop where
  | nil : FRun S r [] (List.replicate r.length 46)
  | snoc {tk : List (List Nat)} {t s : List Nat} : FRun S r tk t → S.find? (fun s => canT s t r) = some s → FRun S r (tk ++ [s]) (ov t (lotOf s))
theorem FRun.run {S : List (List Nat)} {r t : List Nat} {tk : List (List Nat)} (h : FRun S r tk t) : Run S r tk t := by
  induction h with
  | nil => exact .nil
  | snoc _ hf ih => exact .snoc ih (List.mem_of_find?_eq_some hf) (by simpa using List.find?_some hf)
theorem ov_get {x y : List Nat} {i a b : Nat} (h1 : x[i]? = some a) (h2 : y[i]? = some b) : (ov x y)[i]? = some (if a = 46 then b else a) := by
  unfold ov
  rw [List.getElem?_map]
  have : (x.zip y)[i]? = some (a, b) := by rw [List.getElem?_zip_eq_some]; exact ⟨h1, h2⟩
  rw [this]; rfl
theorem lot_get {x : List Nat} {i a : Nat} (h : x[i]? = some a) : (lotOf x)[i]? = some (if a = 46 then 46 else 43) := by
  unfold lotOf
  rw [List.getElem?_map, h]; rfl
theorem canT_outs {s t r : List Nat} (h : canT s t r = true) : ∃ i, i ∈ outs s t := by
  unfold canT at h
  rw [Bool.and_eq_true, decide_eq_true_eq] at h
  cases hq : outs s t with
  | nil => rw [hq] at h; simp at h
  | cons i l => exact ⟨i, List.mem_cons_self⟩
theorem bars_nil {s t r : List Nat} (h : canT s t r = true) : ∀ i ∈ outs s t, r.getD i 0 = s.getD i 0 := by
  unfold canT at h
  rw [Bool.and_eq_true, decide_eq_true_eq, decide_eq_true_eq] at h
  have hb : bars s t r = [] := by
    have : (bars s t r).length = 0 := by have := h.2; omega
    exact List.eq_nil_of_length_eq_zero this
  intro i hi
  have hn : i ∉ bars s t r := by rw [hb]; simp
  unfold bars at hn
  rw [List.mem_filter] at hn
  by_cases e : r.getD i 0 = s.getD i 0
  · exact e
  · exact absurd ⟨hi, by simpa using e⟩ hn
theorem canT_of {s t r : List Nat} (h0 : ∃ i, i ∈ outs s t) (h : ∀ i ∈ outs s t, r.getD i 0 = s.getD i 0) : canT s t r = true := by
  unfold canT
  rw [Bool.and_eq_true, decide_eq_true_eq, decide_eq_true_eq]
  obtain ⟨i, hi⟩ := h0
  have hl : 0 < (outs s t).length := List.length_pos_of_mem hi
  have hb : bars s t r = [] := by
    unfold bars
    rw [List.filter_eq_nil_iff]
    intro j hj
    rw [h j hj]
    simp
  rw [hb]
  exact ⟨by omega, rfl⟩
/-- dots of a told lot: fewer with each step -/
def dots (t : List Nat) : Nat := t.count 46
theorem count_le_of {x y : List Nat} (hl : x.length = y.length) (h : ∀ i : Nat, x[i]? = some 46 → y[i]? = some 46) : x.count 46 ≤ y.count 46 := by
  induction x generalizing y with
  | nil => simp
  | cons a x ih =>
    cases y with
    | nil => simp at hl
    | cons b y =>
      have ih' := ih (y := y) (by simpa using hl) fun i hi => by simpa using h (i + 1) (by simpa using hi)
      rw [List.count_cons, List.count_cons]
      by_cases ha : a = 46
      · have hb : b = 46 := by have := h 0 (by simp [ha]); simpa using this
        simp [ha, hb]; omega
      · have e : (a == 46) = false := by simpa using ha
        rw [e]; simp; omega
theorem count_lt_of {x y : List Nat} (hl : x.length = y.length) (h : ∀ i : Nat, x[i]? = some 46 → y[i]? = some 46) {j : Nat} (h1 : y[j]? = some 46) (h2 : x[j]? ≠ some 46) : x.count 46 < y.count 46 := by
  induction x generalizing y j with
  | nil =>
    cases y with
    | nil => simp at h1
    | cons b y => simp at hl
  | cons a x ih =>
    cases y with
    | nil => simp at hl
    | cons b y =>
      have hl' : x.length = y.length := by simpa using hl
      have h' : ∀ i : Nat, x[i]? = some 46 → y[i]? = some 46 := fun i hi => by simpa using h (i + 1) (by simpa using hi)
      have le := count_le_of hl' h'
      rw [List.count_cons, List.count_cons]
      cases j with
      | zero =>
        have hb : b = 46 := by simpa using h1
        have ha : (a == 46) = false := by simpa using h2
        rw [ha]; simp [hb]; omega
      | succ j =>
        have lt := ih (y := y) hl' h' (j := j) (by simpa using h1) (by simpa using h2)
        by_cases ha : a = 46
        · have hb : b = 46 := by have := h 0 (by simp [ha]); simpa using this
          simp [ha, hb]; omega
        · have e : (a == 46) = false := by simpa using ha
          rw [e]; simp; omega
theorem getD_of {l : List Nat} {i a : Nat} (h : l[i]? = some a) : l.getD i 0 = a := by rw [List.getD_eq_getElem?_getD, h]; rfl
theorem get_of_lt {l : List Nat} {i : Nat} (h : i < l.length) : l[i]? = some (l.getD i 0) := by rw [List.getD_eq_getElem?_getD, List.getElem?_eq_getElem h]; rfl
theorem ov_lot_dots {s t r : List Nat} (hl : s.length = t.length) (h : canT s t r = true) : dots (ov t (lotOf s)) < dots t := by
  obtain ⟨i, hi⟩ := canT_outs h
  obtain ⟨c, h1, h2, h3⟩ := mem_outs.mp hi
  have hlen : (ov t (lotOf s)).length = t.length := by rw [ov_len, lotOf_len, hl, Nat.min_self]
  have hs := (List.getElem?_eq_some_iff.mp h1).1
  have ht : t[i]? = some 46 := by rw [get_of_lt (by omega), h3]
  refine count_lt_of hlen (fun j hj => ?_) ht ?_
  · have hjl := (List.getElem?_eq_some_iff.mp hj).1
    have a1 := get_of_lt (l := t) (i := j) (by omega)
    have a2 := lot_get (get_of_lt (l := s) (i := j) (by omega))
    rw [ov_get a1 a2] at hj
    by_cases e : t.getD j 0 = 46
    · rw [a1, e]
    · rw [if_neg e] at hj
      exact absurd (Option.some.inj hj) e
  · have a2 := lot_get h1
    rw [ov_get ht a2, if_pos rfl, if_neg h2]
    simp


def Rg_is_row (ds : List D) (P : En → Prop) : Prop := ∃ (xc : D) (cs : List (List Nat × Nat)) (r : List Nat), ds = [xc, .str r] ∧ Sq xc (cs.map cellD) ∧ r.length = cs.length ∧ cs.length ≤ 20 ∧ (∀ c ∈ cs, c.2 ≤ 4) ∧ P (.dat (.bl (rowOk cs r)))
def Rg_outside (ds : List D) (P : En → Prop) : Prop := ∃ s t : List Nat, ds = [.str s, .str t] ∧ s.length = t.length ∧ s.length ≤ 1000 ∧ P (.own ((outs s t).map fun (i : Nat) => .int i))
def Rg_barring (ds : List D) (P : En → Prop) : Prop := ∃ s t r : List Nat, ds = [.str s, .str t, .str r] ∧ s.length = t.length ∧ s.length = r.length ∧ s.length ≤ 1000 ∧ P (.own ((bars s t r).map fun (i : Nat) => .int i))
def Rg_can_be_taken (ds : List D) (P : En → Prop) : Prop := ∃ s t r : List Nat, ds = [.str s, .str t, .str r] ∧ s.length = t.length ∧ s.length = r.length ∧ s.length ≤ 1000 ∧ P (.dat (.bl (canT s t r)))
def nextD (S : List (List Nat)) (t r : List Nat) : D := match S.find? (fun s => canT s t r) with | some s => .str s | none => .non
def Rg_next_taken (ds : List D) (P : En → Prop) : Prop := ∃ (xs : D) (S : List (List Nat)) (t r : List Nat), ds = [xs, .str t, .str r] ∧ Sq xs (S.map D.str) ∧ S.length ≤ 1000 ∧ Len r.length S ∧ t.length = r.length ∧ r.length ≤ 1000 ∧ P (.dat (nextD S t r))
def Rg_taking (ds : List D) (P : En → Prop) : Prop := ∃ (xs : D) (S : List (List Nat)) (r : List Nat), ds = [xs, .str r] ∧ Sq xs (S.map D.str) ∧ S.length ≤ 1000 ∧ Len r.length S ∧ r.length ≤ 1000 ∧ ∀ tk t, FRun S r tk t → Fin S r t → P (.dat (.tup [.lst (tk.map .str), .str t]))
def Rg_tellers_outside (ds : List D) (P : En → Prop) : Prop := ∃ (xs : D) (S : List (List Nat)) (t : List Nat), ds = [xs, .str t] ∧ Sq xs (S.map D.str) ∧ S.length ≤ 1000 ∧ Len t.length S ∧ t.length ≤ 1000 ∧ P (.own ((S.filter fun s => decide ((0 : Int) < ((outs s t).length : Int))).map .str))
def Rg_comes_to (ds : List D) (P : En → Prop) : Prop := ∃ (xs : D) (S : List (List Nat)) (r : List Nat), ds = [xs, .str r] ∧ Sq xs (S.map D.str) ∧ S.length ≤ 1000 ∧ Len r.length S ∧ r.length ≤ 1000 ∧ ∀ tk t, FRun S r tk t → Fin S r t → P (.dat (.bl (decide (t = lotOf r))))
/-- cells and a row of them -/
def CR (cs : List (List Nat × Nat)) (r : List Nat) : Prop := r.length = cs.length ∧ cs.length ≤ 20 ∧ (∀ c ∈ cs, c.2 ≤ 4) ∧ rowOk cs r = true
def Rg_told_lot (ds : List D) (P : En → Prop) : Prop := ∃ (xc xs : D) (cs : List (List Nat × Nat)) (S : List (List Nat)) (r : List Nat), ds = [xc, xs, .str r] ∧ Sq xc (cs.map cellD) ∧ Sq xs (S.map D.str) ∧ CR cs r ∧ S.length ≤ 1000 ∧ Len r.length S ∧ ∀ tk t, FRun S r tk t → Fin S r t → P (.dat (.str t))
def Rg_is_made (ds : List D) (P : En → Prop) : Prop := ∃ (xc xs : D) (cs : List (List Nat × Nat)) (S : List (List Nat)) (r : List Nat), ds = [xc, xs, .str r] ∧ Sq xc (cs.map cellD) ∧ Sq xs (S.map D.str) ∧ CR cs r ∧ S.length ≤ 1000 ∧ Len r.length S ∧ ∀ tk t, FRun S r tk t → Fin S r t → P (.dat (.bl (decide (t = lotOf r))))

theorem len_is_row (ds P) (h : Rg_is_row ds P) : ds.length = 2 := by unfold Rg_is_row at h; (first | (obtain ⟨_, _, rfl, _⟩ := h; rfl) | (obtain ⟨_, _, _, rfl, _⟩ := h; rfl) | (obtain ⟨_, _, _, _, rfl, _⟩ := h; rfl) | (obtain ⟨_, _, _, _, _, rfl, _⟩ := h; rfl))
theorem len_outside (ds P) (h : Rg_outside ds P) : ds.length = 2 := by unfold Rg_outside at h; (first | (obtain ⟨_, _, rfl, _⟩ := h; rfl) | (obtain ⟨_, _, _, rfl, _⟩ := h; rfl) | (obtain ⟨_, _, _, _, rfl, _⟩ := h; rfl) | (obtain ⟨_, _, _, _, _, rfl, _⟩ := h; rfl))
theorem len_barring (ds P) (h : Rg_barring ds P) : ds.length = 3 := by unfold Rg_barring at h; (first | (obtain ⟨_, _, rfl, _⟩ := h; rfl) | (obtain ⟨_, _, _, rfl, _⟩ := h; rfl) | (obtain ⟨_, _, _, _, rfl, _⟩ := h; rfl) | (obtain ⟨_, _, _, _, _, rfl, _⟩ := h; rfl))
theorem len_can_be_taken (ds P) (h : Rg_can_be_taken ds P) : ds.length = 3 := by unfold Rg_can_be_taken at h; (first | (obtain ⟨_, _, rfl, _⟩ := h; rfl) | (obtain ⟨_, _, _, rfl, _⟩ := h; rfl) | (obtain ⟨_, _, _, _, rfl, _⟩ := h; rfl) | (obtain ⟨_, _, _, _, _, rfl, _⟩ := h; rfl))
theorem len_next_taken (ds P) (h : Rg_next_taken ds P) : ds.length = 3 := by unfold Rg_next_taken at h; (first | (obtain ⟨_, _, rfl, _⟩ := h; rfl) | (obtain ⟨_, _, _, rfl, _⟩ := h; rfl) | (obtain ⟨_, _, _, _, rfl, _⟩ := h; rfl) | (obtain ⟨_, _, _, _, _, rfl, _⟩ := h; rfl))
theorem len_taking (ds P) (h : Rg_taking ds P) : ds.length = 2 := by unfold Rg_taking at h; (first | (obtain ⟨_, _, rfl, _⟩ := h; rfl) | (obtain ⟨_, _, _, rfl, _⟩ := h; rfl) | (obtain ⟨_, _, _, _, rfl, _⟩ := h; rfl) | (obtain ⟨_, _, _, _, _, rfl, _⟩ := h; rfl))
theorem len_tellers_outside (ds P) (h : Rg_tellers_outside ds P) : ds.length = 2 := by unfold Rg_tellers_outside at h; (first | (obtain ⟨_, _, rfl, _⟩ := h; rfl) | (obtain ⟨_, _, _, rfl, _⟩ := h; rfl) | (obtain ⟨_, _, _, _, rfl, _⟩ := h; rfl) | (obtain ⟨_, _, _, _, _, rfl, _⟩ := h; rfl))
theorem len_comes_to (ds P) (h : Rg_comes_to ds P) : ds.length = 2 := by unfold Rg_comes_to at h; (first | (obtain ⟨_, _, rfl, _⟩ := h; rfl) | (obtain ⟨_, _, _, rfl, _⟩ := h; rfl) | (obtain ⟨_, _, _, _, rfl, _⟩ := h; rfl) | (obtain ⟨_, _, _, _, _, rfl, _⟩ := h; rfl))
theorem len_told_lot (ds P) (h : Rg_told_lot ds P) : ds.length = 3 := by unfold Rg_told_lot at h; (first | (obtain ⟨_, _, rfl, _⟩ := h; rfl) | (obtain ⟨_, _, _, rfl, _⟩ := h; rfl) | (obtain ⟨_, _, _, _, rfl, _⟩ := h; rfl) | (obtain ⟨_, _, _, _, _, rfl, _⟩ := h; rfl))
theorem len_is_made (ds P) (h : Rg_is_made ds P) : ds.length = 3 := by unfold Rg_is_made at h; (first | (obtain ⟨_, _, rfl, _⟩ := h; rfl) | (obtain ⟨_, _, _, rfl, _⟩ := h; rfl) | (obtain ⟨_, _, _, _, rfl, _⟩ := h; rfl) | (obtain ⟨_, _, _, _, _, rfl, _⟩ := h; rfl))
section
variable {P : Program} {w : World} {K : PySem.W.Frag} {mg : Str → Option Value} {base : Heap}
theorem ok_is_row (T : Txt K mg)  : FnOk P w K mg base CX0 1 T.a_is_row T.d_is_row ["cells", "value"] (SpE Rg_is_row) := by
  refine T.F_is_row.ok sc_is_row (fun vs H Q E h => spE_len h len_is_row) (fun cdv A outer s H vs Q E hr h => ?_)
  have hu := hu64 hr
  have hvl : vs.length = 2 := spE_len h len_is_row
  refine ⟨_, (pss_cons (ps_if (PW.pt (pw_or (pt_not (pt_val (pe_callB (call_isiK1 (K := K) rfl) (by rfl) T.n_isinstance (by decide +kernel) (pa_cons (pv 1) (pa_cons (pe_bltn (v := .ty "str") (by rfl) T.n_str (by decide +kernel) rfl) pa_nil))))) (pw_or1 (pt_cmpR (op_neK (K := K) rfl hu) (pe_callB (call_lenK (K := K) rfl) (by rfl) T.n_len (by decide +kernel) (pa_cons (pv 1) pa_nil)) (pe_callB (call_lenK (K := K) rfl) (by rfl) T.n_len (by decide +kernel) (pa_cons (pv 0) pa_nil)) (nomark _))))) (pss_one (ps_ret pe_bl)) pss_nil) (pss_one (ps_ret (pe_callB (call_allK (K := K) rfl rfl) (by rfl) T.n_all (by decide +kernel) (pa_cons (pe_lc (own := [("sign", 2), ("cell", 3)]) (g := gTup K 2 (gCons (gName 2) (gCons (gName 3) gNil))) (tt := tYes) rfl sc_is_row.nd (pi_zipK (K := K) rfl (by rfl) T.n_zip (pa_cons (pv 1) (pa_cons (pv 0) pa_nil))) (blkOk_by (N := N_is_row) (sc := defScope s_is_row) (by decide +kernel)) (fun _ _ _ _ _ => (pg_tup rfl (pgs_cons (pg_name (i := 2) sc_is_row.nd rfl (Or.inl rfl)) (pgs_cons (pg_name (i := 3) sc_is_row.nd rfl (Or.inl rfl)) pgs_nil)))) (fun _ _ _ _ _ => pts_nil) (fun _ _ _ _ _ => (pe_or (pe_cmpR (op_eqK (K := K) rfl hu) (pv 2) (pe_glob (v := .str ".") rfl T.c_DOT ⟨_, rfl⟩) (nomark _)) (pe_one (pe_cmpR (op_inK (K := K) rfl) (pv 2) (pe_slice (sl_K (K := K) rfl) (pe_glob (v := .str "0123") rfl T.c_DIGITS ⟨_, rfl⟩) po_none (po_some (pe_ix (ix_K (K := K) rfl) (pv 3) pe_int (fun _ _ => rfl)))) (by rfl)))))) pa_nil))))), fn_body h (by rw [hvl]; decide) (fun ds R hR hl => ?_)⟩
  obtain ⟨xc, cs, r, rfl, qc, h1, h2, h3, q⟩ := hR
  refine q_if1 (b := false) ((et_or1 (et_not1 (et_v1 (e_isi (d := .str r) (T := "str") (b := true) (e_var rfl) rfl (show kitB "str" "str" = some true by decide +kernel)))) (fun _ => et_t1 (e_opd (EV.d1 (e_cb1 (ea_c (e_var rfl) ea_nil) (cd_lenS (by omega)))) (EV.d1 (e_cb1 (ea_c (e_var rfl) ea_nil) (cd_lenSq qc))) od_neI))).is (by simp [h1])) (fun e => by cases e) (fun _ => ?_)
  have e2 : (chs r).zip (cs.map cellD) = (r.zip cs).map fun p => (D.str [p.1], cellD p.2) := by
    unfold chs
    rw [List.zip_map]; rfl
  have iv := iv_zip (K := K) (ρ := [.dat xc, .dat (.str r), .un, .un]) (.str r) qc.its (ea_c (e_var (i := 1) rfl) (ea_c (e_var (i := 0) rfl) ea_nil))
  rw [e2] at iv
  refine t_ret1 (d := .bl (rowOk cs r)) (EV.d1 (e_cb1 (ea_c (EV.o1 ((lc2_map (f := fun (p : Nat × (List Nat × Nat)) => D.bl (decide (p.1 = 46) || decide (p.1 ∈ [48, 49, 50, 51].take p.2.2))) (by decide) iv (by rw [List.length_zip]; omega) fun i p hp => ?_).imp fun e he => ?_)) ea_nil) (cd_all (bs := (r.zip cs).map fun (p : Nat × (List Nat × Nat)) => decide (p.1 = 46) || decide (p.1 ∈ [48, 49, 50, 51].take p.2.2))))) q
  · have hm : p.2.2 ≤ 4 := h3 _ (List.mem_of_getElem? (zip_get hp).2)
    rw [← str1 p.1 46]
    refine e_or (e_opd (e_var rfl) (e_str (s := [46]) (by decide +kernel)) od_eqS) fun _ => ?_
    rw [← cut_to (xs := [48, 49, 50, 51]) (i := (p.2.2 : Int)) rfl hm]
    exact e_opd (e_var rfl) (EV.d1 (e_sl (e_str (s := [48, 49, 50, 51]) (by decide +kernel)) eo_none (eo_part (e_opd (e_var rfl) e_int (od_ixT (j := 1) rfl rfl))) (sd_str (by decide)))) od_sgn
  · rw [he, List.map_map]; rfl

theorem ok_outside (T : Txt K mg)  : FnOk P w K mg base CX0 1 T.a_outside T.d_outside ["seed", "told"] (SpE Rg_outside) := by
  refine T.F_outside.ok sc_outside (fun vs H Q E h => spE_len h len_outside) (fun cdv A outer s H vs Q E hr h => ?_)
  have hu := hu64 hr
  have hvl : vs.length = 2 := spE_len h len_outside
  refine ⟨_, (pss_one (ps_ret (pe_lc (own := [("at", 2), ("sign", 3)]) (g := gTup K 2 (gCons (gName 2) (gCons (gName 3) gNil))) (tt := _) rfl sc_outside.nd (pi_enumS (by rfl) T.n_enumerate (pa_cons (pv 0) pa_nil)) (blkOk_by (N := N_outside) (sc := defScope s_outside) (by decide +kernel)) (fun _ _ _ _ _ => (pg_tup rfl (pgs_cons (pg_name (i := 2) sc_outside.nd rfl (Or.inl rfl)) (pgs_cons (pg_name (i := 3) sc_outside.nd rfl (Or.inl rfl)) pgs_nil)))) (fun _ _ _ _ _ => (pts_one (PW.pt (pw_and (pt_cmpR (op_neK (K := K) rfl hu) (pv 3) pe_str (nomark _)) (pw_and1 (pt_cmpR (op_eqK (K := K) rfl hu) (pe_ix (ix_K (K := K) rfl) (pv 1) (pv 2) (fun _ _ => rfl)) pe_str (nomark _))))))) (fun _ _ _ _ _ => (pv 2))))), fn_body h (by rw [hvl]; decide) (fun ds R hR hl => ?_)⟩
  obtain ⟨s, t, rfl, h1, h2, q⟩ := hR
  refine t_ret (P := fun e => e = .own ((outs s t).map fun (i : Nat) => .int i)) ((lc2_filt (t := outP t) (f := fun p => .int p.1) (by decide) (iv_enumZ (ea_c (e_var rfl) ea_nil)) (by rw [List.length_zip]; omega) (fun i p hp => ?_) (fun i p hp _ => e_var rfl)).imp fun e he => ?_) fun e he => by rw [he]; exact q
  · obtain ⟨a, b, c⟩ := rng_zip hp
    have h3 : t[p.1]? = some (t.getD p.1 0) := get_of_lt (by omega)
    refine (et_and1 (et_neS (e_var rfl) (e_str (s := [46]) (by decide +kernel))) (fun _ => et_eqS (e_opd (e_var rfl) (e_var rfl) (od_ixS (j := p.1) rfl h3 (by omega))) (e_str (s := [46]) (by decide +kernel)))).is ?_
    rw [str1, str1]; rfl
  · rw [he]; unfold outs; rw [List.map_map]; rfl

theorem ok_barring (T : Txt K mg) (G_outside : FnOk P w K mg base CX0 1 T.a_outside T.d_outside ["seed", "told"] (SpE Rg_outside)) : FnOk P w K mg base CX0 2 T.a_barring T.d_barring ["seed", "told", "row"] (SpE Rg_barring) := by
  refine T.F_barring.ok sc_barring (fun vs H Q E h => spE_len h len_barring) (fun cdv A outer s H vs Q E hr h => ?_)
  have hu := hu64 hr
  have hvl : vs.length = 3 := spE_len h len_barring
  refine ⟨_, (pss_one (ps_ret (pe_lc (own := [("at", 3)]) (g := gName 3) (tt := _) rfl sc_barring.nd (pi_listK (K := K) rfl (pe_call G_outside (hr.mono (by decide)) (by rfl) T.g_outside T.F_outside.kp (b_outside T) .nil pass0 (pa_cons (pv 0) (pa_cons (pv 1) pa_nil)))) (blkOk_by (N := N_barring) (sc := defScope s_barring) (by decide +kernel)) (fun _ _ _ _ _ => (pg_name (i := 3) sc_barring.nd rfl (Or.inl rfl))) (fun _ _ _ _ _ => (pts_one (pt_cmpR (op_neK (K := K) rfl hu) (pe_ix (ix_K (K := K) rfl) (pv 2) (pv 3) (fun _ _ => rfl)) (pe_ix (ix_K (K := K) rfl) (pv 0) (pv 3) (fun _ _ => rfl)) (nomark _)))) (fun _ _ _ _ _ => (pv 3))))), fn_body h (by rw [hvl]; decide) (fun ds R hR hl => ?_)⟩
  obtain ⟨s, t, r, rfl, h1, h2, h3, q⟩ := hR
  refine t_ret (P := fun e => e = .own ((bars s t r).map fun (i : Nat) => .int i)) ((lc1_filt (t := fun i => !decide (r.getD i 0 = s.getD i 0)) (emb := fun (i : Nat) => D.int i) (f := fun i => .int i) (iv_list1 (EV.o1 (e_call0 (R := fun e => e = .own ((outs s t).map fun (i : Nat) => .int i)) (ea_c (e_var rfl) (ea_c (e_var rfl) ea_nil)) ⟨s, t, rfl, h1, h3, rfl⟩))) (by have := outs_len s t; omega) (fun i p hp => ?_) (fun i p hp _ => e_var rfl)).imp fun e he => he) fun e he => by rw [he]; exact q
  have hl := outs_lt (List.mem_of_getElem? hp)
  have h4 : r[p]? = some (r.getD p 0) := get_of_lt (by omega)
  have h5 : s[p]? = some (s.getD p 0) := get_of_lt (by omega)
  refine (et_neS (e_opd (e_var rfl) (e_var rfl) (od_ixS (j := p) rfl h4 (by omega))) (e_opd (e_var rfl) (e_var rfl) (od_ixS (j := p) rfl h5 (by omega)))).is ?_
  rw [str1]

theorem ok_can_be_taken (T : Txt K mg) (G_outside : FnOk P w K mg base CX0 1 T.a_outside T.d_outside ["seed", "told"] (SpE Rg_outside)) (G_barring : FnOk P w K mg base CX0 2 T.a_barring T.d_barring ["seed", "told", "row"] (SpE Rg_barring)) : FnOk P w K mg base CX0 3 T.a_can_be_taken T.d_can_be_taken ["seed", "told", "row"] (SpE Rg_can_be_taken) := by
  refine T.F_can_be_taken.ok sc_can_be_taken (fun vs H Q E h => spE_len h len_can_be_taken) (fun cdv A outer s H vs Q E hr h => ?_)
  have hu := hu64 hr
  have hvl : vs.length = 3 := spE_len h len_can_be_taken
  refine ⟨_, (pss_one (ps_ret (pe_and (pe_cmpR op_gt (pe_callB (call_lenK (K := K) rfl) (by rfl) T.n_len (by decide +kernel) (pa_cons (pe_call G_outside (hr.mono (by decide)) (by rfl) T.g_outside T.F_outside.kp (b_outside T) .nil pass0 (pa_cons (pv 0) (pa_cons (pv 1) pa_nil))) pa_nil)) pe_int (nomark _)) (pe_one (pe_cmpR (op_eqK (K := K) rfl hu) (pe_callB (call_lenK (K := K) rfl) (by rfl) T.n_len (by decide +kernel) (pa_cons (pe_call G_barring (hr.mono (by decide)) (by rfl) T.g_barring T.F_barring.kp (b_barring T) .nil pass0 (pa_cons (pv 0) (pa_cons (pv 1) (pa_cons (pv 2) pa_nil)))) pa_nil)) pe_int (nomark _)))))), fn_body h (by rw [hvl]; decide) (fun ds R hR hl => ?_)⟩
  obtain ⟨s, t, r, rfl, h1, h2, h3, q⟩ := hR
  refine t_ret1 (e_and (e_opd (EV.d1 (e_cb1 (ea_c (EV.o1 (e_call0 (R := fun e => e = .own ((outs s t).map fun (i : Nat) => .int i)) (ea_c (e_var rfl) (ea_c (e_var rfl) ea_nil)) ⟨s, t, rfl, h1, h3, rfl⟩)) ea_nil) cd_lenL)) e_int od_gt) fun _ => e_opd (EV.d1 (e_cb1 (ea_c (EV.o1 (e_call0 (R := fun e => e = .own ((bars s t r).map fun (i : Nat) => .int i)) (ea_c (e_var rfl) (ea_c (e_var rfl) (ea_c (e_var rfl) ea_nil))) ⟨s, t, r, rfl, h1, h2, h3, rfl⟩)) ea_nil) cd_lenL)) e_int od_eqI) ?_
  rw [List.length_map, List.length_map]
  exact q

theorem ok_next_taken (T : Txt K mg) (G_can_be_taken : FnOk P w K mg base CX0 3 T.a_can_be_taken T.d_can_be_taken ["seed", "told", "row"] (SpE Rg_can_be_taken)) : FnOk P w K mg base CX0 4 T.a_next_taken T.d_next_taken ["seeds", "told", "row"] (SpE Rg_next_taken) := by
  refine T.F_next_taken.ok sc_next_taken (fun vs H Q E h => spE_len h len_next_taken) (fun cdv A outer s H vs Q E hr h => ?_)
  have hu := hu64 hr
  have hvl : vs.length = 3 := spE_len h len_next_taken
  refine ⟨_, (pss_cons (ps_for PassesOwn.never rfl (pi_listK (K := K) rfl (pv 0)) (pg_name (i := 3) sc_next_taken.nd rfl (Or.inl rfl)) (pss_one (ps_if (pt_val (pe_call G_can_be_taken (hr.mono (by decide)) (by rfl) T.g_can_be_taken T.F_can_be_taken.kp (b_can_be_taken T) .nil pass0 (pa_cons (pv 3) (pa_cons (pv 1) (pa_cons (pv 2) pa_nil))))) (pss_one (ps_ret (pv 3))) pss_nil))) (pss_one (ps_ret pe_non))), fn_body h (by rw [hvl]; decide) (fun ds R hR hl => ?_)⟩
  obtain ⟨xs, S, t, r, rfl, qs, h1, h2, h3, h4, q⟩ := hR
  refine t_seq (M := fun ρ' => ∃ e, ρ' = [.dat (xs), .dat (.str t), .dat (.str r), e] ∧ ∀ s ∈ S, canT s t r = false) (t_for1 (iv_sq qs (e_var rfl)) (fun ds i ρ' => ∃ e, ρ' = [.dat (xs), .dat (.str t), .dat (.str r), e] ∧ ∀ s ∈ S.take i, canT s t r = false) (fun ds e => ⟨.un, rfl, by simp⟩) (fun ds i d ρ' e hd inv => ?_) (fun ds ρ' e ⟨x, a, b⟩ => ⟨x, a, by rw [e, List.length_map, List.take_length] at b; exact b⟩)) fun ρ' m => ?_
  · subst e
    obtain ⟨x, rfl, hn⟩ := inv
    obtain ⟨s, hs, rfl⟩ := map_get hd
    have hm := List.mem_of_getElem? hs
    refine t_if (T := fun b => b = canT s t r) (et_v1 (EV.d1 (e_call0 (R := fun e => e = .dat (.bl (canT s t r))) (ea_c (e_var rfl) (ea_c (e_var rfl) (ea_c (e_var rfl) ea_nil))) ⟨s, t, r, rfl, by rw [h2 s hm, h3], h2 s hm, by rw [h2 s hm]; exact h4, rfl⟩))) (fun e => ?_) (fun e => ?_)
    · refine t_ret1 (e_var rfl) ?_
      have hf : S.find? (fun s => canT s t r) = some s := by
        rw [List.find?_eq_some_iff_getElem]
        obtain ⟨hl, hg⟩ := List.getElem?_eq_some_iff.mp hs
        exact ⟨e.symm, i, hl, hg, fun j hj => by
          have : S[j] ∈ S.take i := by rw [List.mem_iff_getElem?]; exact ⟨j, by rw [List.getElem?_take_of_lt hj]; exact List.getElem?_eq_getElem _⟩
          simp [hn _ this]⟩
      have hq : nextD S t r = .str s := by unfold nextD; rw [hf]
      rw [hq] at q
      exact q
    · refine t_next ⟨.dat (.str s), rfl, fun x hx => ?_⟩
      rw [take_step hs, List.mem_append] at hx
      rcases hx with hx | hx
      · exact hn x hx
      · rw [List.mem_singleton.mp hx]; exact e.symm
  · obtain ⟨x, rfl, hn⟩ := m
    refine t_ret1 e_non ?_
    have hf : S.find? (fun s => canT s t r) = none := by
      rw [List.find?_eq_none]
      intro s hs
      simp [hn s hs]
    have hq : nextD S t r = .non := by unfold nextD; rw [hf]
    rw [hq] at q
    exact q

end
end Nt

namespace Nt
open PySem PySem.Spec PyProof.Rows L2


theorem nextD_cases (S : List (List Nat)) (t r : List Nat) : (∃ s, nextD S t r = .str s ∧ s ∈ S ∧ canT s t r = true) ∨ (nextD S t r = .non ∧ Fin S r t) := by
  cases h : S.find? (fun s => canT s t r) with
  | none =>
    refine .inr ⟨by unfold nextD; rw [h], fun s hs => ?_⟩
    rw [List.find?_eq_none] at h
    simpa using h s hs
  | some s => exact .inl ⟨s, by unfold nextD; rw [h], List.mem_of_find?_eq_some h, by simpa using List.find?_some h⟩
theorem nextD_find {S : List (List Nat)} {t r s : List Nat} (h : nextD S t r = .str s) : S.find? (fun s => canT s t r) = some s := by
  unfold nextD at h
  cases e : S.find? (fun s => canT s t r) with
  | none => rw [e] at h; cases h
  | some z => rw [e] at h; cases h; rfl
theorem dots_rep (n : Nat) : dots (List.replicate n 46) = n := by unfold dots; rw [List.count_replicate_self]
theorem run_dots {S : List (List Nat)} {r t : List Nat} {tk : List (List Nat)} (hS : Len r.length S) (h : Run S r tk t) : tk.length + dots t ≤ r.length := by
  induction h with
  | nil => rw [dots_rep]; simp
  | @snoc tk t s h1 hs hc ih =>
    have := ov_lot_dots (by rw [hS s hs, run_len hS h1]) hc
    rw [List.length_append]
    simp
    omega
/-- the lines of a paper -/
def lRow (r : List Nat) : D := .tup [.str [114, 111, 119], .str r]
def lTake (s : List Nat) : D := .tup [.str [116, 97, 107, 101], .str s]
def lMade : D := .tup [.str [109, 97, 100, 101]]
def lBarred : D := .tup [.str [98, 97, 114, 114, 101, 100]]
def isBar (d : D) : Prop := ∃ a b c, d = .tup [a, b, c]
/-- a bar line names the first cell that bars -/
def barOf (cs : List (List Nat × Nat)) (r t s : List Nat) : D := .tup [.str [98, 97, 114], .str s, .str (cs.getD ((bars s t r).headD 0) ([], 0)).1]
def waitS (S : List (List Nat)) (t : List Nat) : List (List Nat) := S.filter fun s => decide ((0 : Int) < ((outs s t).length : Int))
/-- the lines of the paper -/
def linesD (cs : List (List Nat × Nat)) (S : List (List Nat)) (r : List Nat) (tk : List (List Nat)) (t : List Nat) : List D :=
  if t = lotOf r then lRow r :: tk.map lTake ++ [lMade] else lRow r :: tk.map lTake ++ (waitS S t).map (barOf cs r t) ++ [lBarred]
def Rg_come (ds : List D) (P : En → Prop) : Prop := ∃ (xc xs : D) (cs : List (List Nat × Nat)) (S : List (List Nat)) (r : List Nat), ds = [xc, xs, .str r] ∧ Sq xc (cs.map cellD) ∧ Sq xs (S.map D.str) ∧ CR cs r ∧ S.length ≤ 1000 ∧ Len r.length S ∧
  ∀ tk t, FRun S r tk t → Fin S r t → P (.own (linesD cs S r tk t))
theorem len_come (ds P) (h : Rg_come ds P) : ds.length = 3 := by unfold Rg_come at h; obtain ⟨_, _, _, _, _, rfl, _⟩ := h; rfl
section
variable {P : Program} {w : World} {K : PySem.W.Frag} {mg : Str → Option Value} {base : Heap}
/-- a call of taking, unpacked -/
theorem t_taking {i j : Nat} {te : TE} {ρ : List En} {p : Ps} {S : List (List Nat)} {r : List Nat} (h : EV te ρ (fun e => ∃ tk t, e = .dat (.tup [.lst (tk.map .str), .str t]) ∧ FRun S r tk t ∧ Fin S r t))
    (k : ∀ tk t, FRun S r tk t → Fin S r t → p.N ((ρ.set i (.dat (.lst (tk.map .str)))).set j (.dat (.str t)))) : TT' (tAsg te (gTup K 2 (gCons (gName i) (gCons (gName j) gNil)))) ρ p :=
  t_unp (Q2 := fun x y => ∃ tk t, x = .lst (tk.map .str) ∧ y = .str t ∧ FRun S r tk t ∧ Fin S r t) (h.ed fun e ⟨tk, t, e1, h1, h2⟩ => ⟨.tup [.lst (tk.map .str), .str t], by rw [e1]; rfl, _, _, rfl, tk, t, rfl, rfl, h1, h2⟩) fun x y ⟨tk, t, e1, e2, h1, h2⟩ => by rw [e1, e2]; exact k tk t h1 h2
/-- paper.extend(xs) -/
theorem t_ext {i : Nat} {ds es : List D} {te : TE} {ρ : List En} {p : Ps} (h : ρ[i]? = some (.own ds)) (he : EV te ρ (· = .own es)) (hl : ds.length + es.length ≤ 100000) (k : p.N (ρ.set i (.own (ds ++ es)))) : TT' (tDrop (tBM K "list" rExtend (tVar i) (tCons te tNil))) ρ p := fun W0 W σ E Dd nx rt bk ct => by
  obtain ⟨l, vs, hv, h1, _⟩ := E.mut (ds' := []) h
  refine ⟨.ref l, hv, .inl ⟨rfl, _, sq_l h1⟩, ?_⟩
  refine he W0 W σ E _ fun v e W1 g1 r1 pe => ?_
  subst pe
  obtain ⟨l2, ws, rfl, h2, _, _, r2⟩ := r1
  obtain ⟨l', vs', hv', h1', _, r', z⟩ := (E.grow g1).mut (ds' := ds ++ es) h
  rw [hv] at hv'
  cases hv'
  obtain ⟨W2, e1, e2, E2⟩ := z (vs' ++ ws) (r'.app r2)
  refine ⟨l, l2, vs', ws, rfl, rfl, h1', h2, Evl.sz_of (by rw [r'.len, r2.len]; exact hl), ?_⟩
  rw [← e2]
  exact nx σ W2 _ E2 (by rw [e1]; exact g1.b) k
theorem ok_taking (T : Txt K mg) (G_lot_of : FnOk P w K mg base CX0 1 T.a_lot_of T.d_lot_of ["row"] (SpE Rg_lot_of)) (G_blank : FnOk P w K mg base CX0 1 T.a_blank T.d_blank ["many"] (SpE Rg_blank)) (G_union : FnOk P w K mg base CX0 2 T.a_union T.d_union ["one", "other"] (SpE Rg_union)) (G_next_taken : FnOk P w K mg base CX0 4 T.a_next_taken T.d_next_taken ["seeds", "told", "row"] (SpE Rg_next_taken)) : FnOk P w K mg base CX0 5 T.a_taking T.d_taking ["seeds", "row"] (SpE Rg_taking) := by
  refine T.F_taking.ok sc_taking (fun vs H Q E h => spE_len h len_taking) (fun cdv A outer s H vs Q E hr h => ?_)
  have hu := hu64 hr
  have hvl : vs.length = 2 := spE_len h len_taking
  refine ⟨_, (pss_cons (ps_set (i := 2) sc_taking.nd rfl (Or.inl rfl) (pe_lst pa_nil)) (pss_cons (ps_set (i := 3) sc_taking.nd rfl (Or.inl rfl) (pe_call G_blank (hr.mono (by decide)) (by rfl) T.g_blank T.F_blank.kp (b_blank T) .nil pass0 (pa_cons (pe_callB (call_lenK (K := K) rfl) (by rfl) T.n_len (by decide +kernel) (pa_cons (pv 1) pa_nil)) pa_nil))) (pss_cons (ps_set (i := 4) sc_taking.nd rfl (Or.inl rfl) (pe_call G_next_taken (hr.mono (by decide)) (by rfl) T.g_next_taken T.F_next_taken.kp (b_next_taken T) .nil pass0 (pa_cons (pv 0) (pa_cons (pv 3) (pa_cons (pv 1) pa_nil))))) (pss_cons (ps_while PassesOwn.never (pt_cmpR op_notNU (pv 4) pe_non (nomark _)) (pss_cons (ps_expr (pe_bm PySem.F.plainAttrs_list PySem.F.slot_list_append PySem.F.type_list_append mt_append (pv 2) (pa_cons (pv 4) pa_nil))) (pss_cons (ps_set (i := 3) sc_taking.nd rfl (Or.inl rfl) (pe_call G_union (hr.mono (by decide)) (by rfl) T.g_union T.F_union.kp (b_union T) .nil pass0 (pa_cons (pv 3) (pa_cons (pe_call G_lot_of (hr.mono (by decide)) (by rfl) T.g_lot_of T.F_lot_of.kp (b_lot_of T) .nil pass0 (pa_cons (pv 4) pa_nil)) pa_nil)))) (pss_one (ps_set (i := 4) sc_taking.nd rfl (Or.inl rfl) (pe_call G_next_taken (hr.mono (by decide)) (by rfl) T.g_next_taken T.F_next_taken.kp (b_next_taken T) .nil pass0 (pa_cons (pv 0) (pa_cons (pv 3) (pa_cons (pv 1) pa_nil))))))))) (pss_one (ps_ret (pe_tup (pa_cons (pv 2) (pa_cons (pv 3) pa_nil))))))))), fn_body h (by rw [hvl]; decide) (fun ds R hR hl => ?_)⟩
  obtain ⟨xs, S, r, rfl, qs, h1, h2, h3, q⟩ := hR
  refine q_asgo (e_lst1 ea_nil (by decide)) ?_
  refine q_asg1 (EV.d1 (e_call0 (R := fun e => e = .dat (.str (List.replicate r.length 46))) (ea_c (EV.d1 (e_cb1 (ea_c (e_var rfl) ea_nil) (cd_lenS (by omega)))) ea_nil) ⟨r.length, rfl, h3, rfl⟩)) ?_
  refine q_asg1 (EV.d1 (e_call0 (R := fun e => e = .dat (nextD S (List.replicate r.length 46) r)) (ea_c (e_var rfl) (ea_c (e_var rfl) (ea_c (e_var rfl) ea_nil))) ⟨xs, S, _, r, rfl, qs, h1, h2, by rw [List.length_replicate], h3, rfl⟩)) ?_
  refine t_seq (M := fun ρ' => ∃ tk t x, ρ' = [.dat (xs), .dat (.str r), .own (tk.map .str), .dat (.str t), x] ∧ FRun S r tk t ∧ Fin S r t)
    (t_while (fun m ρ' => ∃ tk t, ρ' = [.dat (xs), .dat (.str r), .own (tk.map .str), .dat (.str t), .dat (nextD S t r)] ∧ FRun S r tk t ∧ m = dots t) (dots (List.replicate r.length 46)) ⟨[], _, rfl, .nil, rfl⟩ fun m ρ' inv => ?_) fun ρ' m => ?_
  · obtain ⟨tk, t, rfl, hrun, rfl⟩ := inv
    have hlt := run_len h2 hrun.run
    have hd := run_dots h2 hrun.run
    refine ⟨_, et_t1 (e_opd (e_var rfl) e_non od_notN), fun e => ?_, fun e => ?_⟩
    · rcases nextD_cases S t r with ⟨s, e1, e2, e3⟩ | ⟨e1, _⟩
      · rw [e1]
        have hsl := h2 s e2
        refine t_seq (M := fun ρ' => ρ' = [.dat (xs), .dat (.str r), .own ((tk ++ [s]).map .str), .dat (.str t), .dat (.str s)]) (t_app (PD := fun d => d = .str s) (ds := tk.map .str) rfl (e_var rfl) (by rw [List.length_map]; omega) fun d hd => ?_) fun ρ' hρ => ?_
        · rw [hd, List.map_append]; rfl
        · subst hρ
          refine q_asg1 (EV.d1 (e_call0 (R := fun e => e = .dat (.str (ov t (lotOf s)))) (ea_c (e_var rfl) (ea_c (EV.d1 (e_call0 (R := fun e => e = .dat (.str (lotOf s))) (ea_c (e_var rfl) ea_nil) ⟨s, rfl, by omega, rfl⟩)) ea_nil)) ⟨t, lotOf s, rfl, by omega, rfl⟩)) ?_
          refine t_asgd (EV.d1 (e_call0 (R := fun e => e = .dat (nextD S (ov t (lotOf s)) r)) (ea_c (e_var rfl) (ea_c (e_var rfl) (ea_c (e_var rfl) ea_nil))) ⟨xs, S, _, r, rfl, qs, h1, h2, by rw [ov_len, lotOf_len]; omega, h3, rfl⟩)) fun d hd => ?_
          subst hd
          exact ⟨_, ov_lot_dots (by omega) e3, tk ++ [s], ov t (lotOf s), rfl, .snoc hrun (nextD_find e1), rfl⟩
      · rw [e1] at e; cases e
    · rcases nextD_cases S t r with ⟨s, e1, e2, e3⟩ | ⟨e1, e2⟩
      · rw [e1] at e; cases e
      · exact ⟨tk, t, _, rfl, hrun, e2⟩
  · obtain ⟨tk, t, x, rfl, hrun, hfin⟩ := m
    refine t_freeze (i := 2) (ds := tk.map .str) rfl ?_
    exact t_ret1 (e_tup1 (ea_c (e_var rfl) (ea_c (e_var rfl) ea_nil)) (by simp)) (q tk t hrun hfin)

theorem ok_tellers_outside (T : Txt K mg) (G_outside : FnOk P w K mg base CX0 1 T.a_outside T.d_outside ["seed", "told"] (SpE Rg_outside)) : FnOk P w K mg base CX0 2 T.a_tellers_outside T.d_tellers_outside ["seeds", "told"] (SpE Rg_tellers_outside) := by
  refine T.F_tellers_outside.ok sc_tellers_outside (fun vs H Q E h => spE_len h len_tellers_outside) (fun cdv A outer s H vs Q E hr h => ?_)
  have hu := hu64 hr
  have hvl : vs.length = 2 := spE_len h len_tellers_outside
  refine ⟨_, (pss_one (ps_ret (pe_lc (own := [("seed", 2)]) (g := gName 2) (tt := _) rfl sc_tellers_outside.nd (pi_listK (K := K) rfl (pv 0)) (blkOk_by (N := N_tellers_outside) (sc := defScope s_tellers_outside) (by decide +kernel)) (fun _ _ _ _ _ => (pg_name (i := 2) sc_tellers_outside.nd rfl (Or.inl rfl))) (fun _ _ _ _ _ => (pts_one (pt_cmpR op_gt (pe_callB (call_lenK (K := K) rfl) (by rfl) T.n_len (by decide +kernel) (pa_cons (pe_call G_outside (hr.mono (by decide)) (by rfl) T.g_outside T.F_outside.kp (b_outside T) .nil pass0 (pa_cons (pv 2) (pa_cons (pv 1) pa_nil))) pa_nil)) pe_int (nomark _)))) (fun _ _ _ _ _ => (pv 2))))), fn_body h (by rw [hvl]; decide) (fun ds R hR hl => ?_)⟩
  obtain ⟨xs, S, t, rfl, qs, h1, h2, h3, q⟩ := hR
  refine t_ret (P := fun e => e = .own ((S.filter fun s => decide ((0 : Int) < ((outs s t).length : Int))).map .str)) (lc1_filt (t := fun s => decide ((0 : Int) < ((outs s t).length : Int))) (emb := D.str) (f := D.str) (iv_sq qs (e_var rfl)) (by omega) (fun i s hs => ?_) (fun i s hs _ => e_var rfl)) fun e he => by rw [he]; exact q
  have hl := h2 s (List.mem_of_getElem? hs)
  refine (et_t1 (e_opd (EV.d1 (e_cb1 (ea_c (EV.o1 (e_call0 (R := fun e => e = .own ((outs s t).map fun (i : Nat) => .int i)) (ea_c (e_var rfl) (ea_c (e_var rfl) ea_nil)) ⟨s, t, rfl, hl, by omega, rfl⟩)) ea_nil) cd_lenL)) e_int od_gt)).is ?_
  rw [List.length_map]




theorem ok_come (T : Txt K mg) (G_is_row : FnOk P w K mg base CX0 1 T.a_is_row T.d_is_row ["cells", "value"] (SpE Rg_is_row)) (G_lot_of : FnOk P w K mg base CX0 1 T.a_lot_of T.d_lot_of ["row"] (SpE Rg_lot_of)) (G_barring : FnOk P w K mg base CX0 2 T.a_barring T.d_barring ["seed", "told", "row"] (SpE Rg_barring)) (G_taking : FnOk P w K mg base CX0 5 T.a_taking T.d_taking ["seeds", "row"] (SpE Rg_taking)) (G_tellers_outside : FnOk P w K mg base CX0 2 T.a_tellers_outside T.d_tellers_outside ["seeds", "told"] (SpE Rg_tellers_outside)) : FnOk P w K mg base CX0 6 T.a_come T.d_come ["cells", "seeds", "row"] (SpE Rg_come) := by
  refine T.F_come.ok sc_come (fun vs H Q E h => spE_len h len_come) (fun cdv A outer s H vs Q E hr h => ?_)
  have hu := hu64 hr
  have hvl : vs.length = 3 := spE_len h len_come
  refine ⟨_, (pss_cons (ps_if (pt_not (pt_val (pe_call G_is_row (hr.mono (by decide)) (by rfl) T.g_is_row T.F_is_row.kp (b_is_row T) .nil pass0 (pa_cons (pv 0) (pa_cons (pv 2) pa_nil))))) (pss_one ps_never) pss_nil) (pss_cons (ps_asg (pe_call G_taking (hr.mono (by decide)) (by rfl) T.g_taking T.F_taking.kp (b_taking T) .nil pass0 (pa_cons (pv 1) (pa_cons (pv 2) pa_nil))) (pg_tup rfl (pgs_cons (pg_name (i := 3) sc_come.nd rfl (Or.inl rfl)) (pgs_cons (pg_name (i := 4) sc_come.nd rfl (Or.inl rfl)) pgs_nil)))) (pss_cons (ps_set (i := 5) sc_come.nd rfl (Or.inl rfl) (pe_lst (pa_cons (pe_tup (pa_cons pe_str (pa_cons (pv 2) pa_nil))) pa_nil))) (pss_cons (ps_expr (pe_bm PySem.F.plainAttrs_list PySem.F.slot_list_extend PySem.F.type_list_extend mt_extend (pv 5) (pa_cons (pe_lc (own := [("seed", 6)]) (g := gName 6) (tt := tYes) rfl sc_come.nd (pi_listK (K := K) rfl (pv 3)) (blkOk_by (N := N_come) (sc := defScope s_come) (by decide +kernel)) (fun _ _ _ _ _ => (pg_name (i := 6) sc_come.nd rfl (Or.inl rfl))) (fun _ _ _ _ _ => pts_nil) (fun _ _ _ _ _ => (pe_tup (pa_cons pe_str (pa_cons (pv 6) pa_nil))))) pa_nil))) (pss_cons (ps_if (pt_cmpR (op_eqK (K := K) rfl hu) (pv 4) (pe_call G_lot_of (hr.mono (by decide)) (by rfl) T.g_lot_of T.F_lot_of.kp (b_lot_of T) .nil pass0 (pa_cons (pv 2) pa_nil)) (nomark _)) (pss_cons (ps_expr (pe_bm PySem.F.plainAttrs_list PySem.F.slot_list_append PySem.F.type_list_append mt_append (pv 5) (pa_cons (pe_tup (pa_cons pe_str pa_nil)) pa_nil))) (pss_one (ps_ret (pv 5)))) pss_nil) (pss_cons (ps_for PassesOwn.never rfl (pi_listK (K := K) rfl (pe_call G_tellers_outside (hr.mono (by decide)) (by rfl) T.g_tellers_outside T.F_tellers_outside.kp (b_tellers_outside T) .nil pass0 (pa_cons (pv 1) (pa_cons (pv 4) pa_nil)))) (pg_name (i := 6) sc_come.nd rfl (Or.inl rfl)) (pss_cons (ps_set (i := 7) sc_come.nd rfl (Or.inl rfl) (pe_ix (ix_K (K := K) rfl) (pe_call G_barring (hr.mono (by decide)) (by rfl) T.g_barring T.F_barring.kp (b_barring T) .nil pass0 (pa_cons (pv 6) (pa_cons (pv 4) (pa_cons (pv 2) pa_nil)))) pe_int (fun _ _ => rfl))) (pss_one (ps_expr (pe_bm PySem.F.plainAttrs_list PySem.F.slot_list_append PySem.F.type_list_append mt_append (pv 5) (pa_cons (pe_tup (pa_cons pe_str (pa_cons (pv 6) (pa_cons (pe_ix (ix_K (K := K) rfl) (pe_ix (ix_K (K := K) rfl) (pv 0) (pv 7) (fun _ _ => rfl)) pe_int (fun _ _ => rfl)) pa_nil)))) pa_nil)))))) (pss_cons (ps_expr (pe_bm PySem.F.plainAttrs_list PySem.F.slot_list_append PySem.F.type_list_append mt_append (pv 5) (pa_cons (pe_tup (pa_cons pe_str pa_nil)) pa_nil))) (pss_one (ps_ret (pv 5)))))))))), fn_body h (by rw [hvl]; decide) (fun ds R hR hl => ?_)⟩
  obtain ⟨xc, xs, cs, S, r, rfl, qc, qs, hc, h1, h2, q⟩ := hR
  have h3 : r.length ≤ 1000 := by have := hc.1; have := hc.2.1; omega
  refine q_if1 (b := false) (et_not1 (et_v1 (EV.d1 (e_call0 (R := fun e => e = .dat (.bl true)) (ea_c (e_var rfl) (ea_c (e_var rfl) ea_nil)) ⟨xc, cs, r, rfl, qc, hc.1, hc.2.1, hc.2.2.1, by rw [hc.2.2.2]⟩)))) (fun e => by cases e) fun _ => ?_
  refine t_seq (M := fun ρ' => ∃ tk t, ρ' = [.dat (xc), .dat (xs), .dat (.str r), .dat (.lst (tk.map .str)), .dat (.str t), .un, .un, .un] ∧ FRun S r tk t ∧ Fin S r t) (t_taking (S := S) (r := r) (e_call0 (ea_c (e_var rfl) (ea_c (e_var rfl) ea_nil)) ⟨xs, S, r, rfl, qs, h1, h2, h3, fun tk t a b => ⟨tk, t, rfl, a, b⟩⟩) fun tk t a b => ⟨tk, t, rfl, a, b⟩) fun ρ' m => ?_
  obtain ⟨tk, t, rfl, hrun, hfin⟩ := m
  have hlt := run_len h2 hrun.run
  have hd := run_dots h2 hrun.run
  refine q_asgo (e_lst1 (ds := [lRow r]) (ea_c (e_tup1 (ea_c (e_str (s := [114, 111, 119]) (by decide +kernel)) (ea_c (e_var rfl) ea_nil)) (by simp)) ea_nil) (by simp)) ?_
  refine t_seq (M := fun ρ' => ρ' = [.dat (xc), .dat (xs), .dat (.str r), .dat (.lst (tk.map .str)), .dat (.str t), .own (lRow r :: tk.map lTake), .un, .un]) (t_ext (ds := [lRow r]) (es := tk.map lTake) rfl (lc1_map (emb := D.str) (f := lTake) (iv_list1 (e_var rfl)) (by omega) fun i s hs => e_tup1 (ea_c (e_str (s := [116, 97, 107, 101]) (by decide +kernel)) (ea_c (e_var rfl) ea_nil)) (by simp)) (by rw [List.length_map]; simp; omega) rfl) fun ρ' m => ?_
  subst m
  refine q_if1 (b := decide (t = lotOf r)) (et_eqS (e_var rfl) (EV.d1 (e_call0 (R := fun e => e = .dat (.str (lotOf r))) (ea_c (e_var rfl) ea_nil) ⟨r, rfl, h3, rfl⟩))) (fun e => ?_) (fun e => ?_)
  · have e' := of_decide_eq_true e
    refine t_seq (M := fun ρ' => ρ' = [.dat (xc), .dat (xs), .dat (.str r), .dat (.lst (tk.map .str)), .dat (.str t), .own (lRow r :: tk.map lTake ++ [lMade]), .un, .un]) (t_app (PD := fun d => d = lMade) (ds := lRow r :: tk.map lTake) rfl (e_tup1 (ea_c (e_str (s := [109, 97, 100, 101]) (by decide +kernel)) ea_nil) (by simp)) (by simp; omega) fun d hd => by rw [hd]; rfl) fun ρ' m => ?_
    subst m
    refine t_retO (i := 5) rfl (by have := q tk t hrun hfin; unfold linesD at this; rw [if_pos e'] at this; exact this)
  · have e' := of_decide_eq_false e
    have hwl : (waitS S t).length ≤ S.length := List.length_filter_le _ _
    refine t_seq (M := fun ρ' => ∃ x y, ρ' = [.dat (xc), .dat (xs), .dat (.str r), .dat (.lst (tk.map .str)), .dat (.str t), .own (lRow r :: tk.map lTake ++ ((waitS S t).map (barOf cs r t))), x, y])
      (t_for1 (Ti := fun ds => ds = ((waitS S t).map D.str)) (iv_list1 (EV.o1 (e_call0 (R := fun e => e = .own ((waitS S t).map .str)) (ea_c (e_var rfl) (ea_c (e_var rfl) ea_nil)) ⟨xs, S, t, rfl, qs, h1, by rw [hlt]; exact h2, by omega, rfl⟩)))
        (fun ds i ρ' => ∃ x y, ρ' = [.dat (xc), .dat (xs), .dat (.str r), .dat (.lst (tk.map .str)), .dat (.str t), .own (lRow r :: tk.map lTake ++ (((waitS S t).take i).map (barOf cs r t))), x, y]) (fun ds e => ⟨.un, .un, by simp⟩) (fun ds i d ρ' e hd inv => ?_) (fun ds ρ' e ⟨x, y, a⟩ => ⟨x, y, by rw [a, e, List.length_map, List.take_length]⟩)) fun ρ' m => ?_
    · subst e
      obtain ⟨x, y, rfl⟩ := inv
      obtain ⟨s, hs, rfl⟩ := map_get hd
      have hm := List.mem_of_getElem? hs
      obtain ⟨hS, ho⟩ := List.mem_filter.mp hm
      have hil := (List.getElem?_eq_some_iff.mp hs).1
      have hfl := List.length_filter_le (fun s => decide ((0 : Int) < ((outs s t).length : Int))) S
      have hsl := h2 s hS
      have hb1 : ∃ i0 l, bars s t r = i0 :: l := by
        cases hq : bars s t r with
        | cons i0 l => exact ⟨i0, l, rfl⟩
        | nil =>
          have : canT s t r = true := by unfold canT; rw [ho, hq]; rfl
          rw [hfin s hS] at this; cases this
      obtain ⟨i0, l, hq⟩ := hb1
      have hi0 : i0 < s.length := by
        have : i0 ∈ bars s t r := by rw [hq]; exact List.mem_cons_self
        unfold bars at this
        exact outs_lt (List.mem_filter.mp this).1
      have hcl : cs[i0]? = some (cs[i0]'(by have := hc.1; omega)) := List.getElem?_eq_getElem _
      refine q_asg1 (d := .int (i0 : Nat)) (e_opd (EV.o1 (e_call0 (R := fun e => e = .own ((bars s t r).map fun (i : Nat) => .int i)) (ea_c (e_var rfl) (ea_c (e_var rfl) (ea_c (e_var rfl) ea_nil))) ⟨s, t, r, rfl, by omega, hsl, by omega, rfl⟩)) e_int (od_ixL (j := 0) rfl (by rw [hq]; rfl))) ?_
      have hbo : barOf cs r t s = .tup [.str [98, 97, 114], .str s, .str (cs[i0]'(by have := hc.1; omega)).1] := by
        unfold barOf
        rw [hq, List.headD_cons, List.getD_eq_getElem?_getD, hcl]; rfl
      refine t_app (PD := fun d => d = barOf cs r t s) (ds := lRow r :: tk.map lTake ++ (((waitS S t).take i).map (barOf cs r t))) rfl ((e_tup1 (ea_c (e_str (s := [98, 97, 114]) (by decide +kernel)) (ea_c (e_var rfl) (ea_c (e_opd (e_opd (e_var rfl) (e_var rfl) (od_ixSq (j := i0) qc rfl (by rw [List.getElem?_map, hcl]; rfl))) e_int (od_ixT (j := 0) rfl rfl)) ea_nil))) (by simp)).imp fun d hd => by rw [hd, hbo]) (by simp; omega) fun d hd => ⟨.dat (.str s), .dat (.int (i0 : Nat)), ?_⟩
      rw [hd, take_step hs, List.map_append, List.append_assoc]; rfl
    · obtain ⟨x, y, rfl⟩ := m
      refine t_seq (M := fun ρ' => ρ' = [.dat (xc), .dat (xs), .dat (.str r), .dat (.lst (tk.map .str)), .dat (.str t), .own (lRow r :: tk.map lTake ++ ((waitS S t).map (barOf cs r t)) ++ [lBarred]), x, y]) (t_app (PD := fun d => d = lBarred) (ds := lRow r :: tk.map lTake ++ (waitS S t).map (barOf cs r t)) rfl (e_tup1 (ea_c (e_str (s := [98, 97, 114, 114, 101, 100]) (by decide +kernel)) ea_nil) (by simp)) (by simp; omega) fun d hd => by rw [hd]; rfl) fun ρ' m => ?_
      subst m
      exact t_retO (i := 5) rfl (by have := q tk t hrun hfin; unfold linesD at this; rw [if_neg e'] at this; exact this)
end
end Nt

namespace Nt
open PySem PySem.Spec PyProof.Rows L2


/-! ### the draws -/
def Rg_law_bagL (K : PySem.W.Frag) (ds : List D) (P : En → Prop) : Prop := ∃ (ns : List Int), ds = [.scr K ns] ∧ ns.length ≤ 63 ∧ ∀ m : Int, 0 ≤ m → m < 2147483648 → P (.own [.lst (ns.map .int), .int 0, .int 0, .int m, .int 0])
def Rg_law_bag (K : PySem.W.Frag) (ds : List D) (P : En → Prop) : Prop := ∃ (ns : List Int), ds = [.scr K ns] ∧ ns.length ≤ 63 ∧ P (.dat .bag)
theorem len_law_bag {K} (ds P) (h : Rg_law_bagL K ds P) : ds.length = 1 := by unfold Rg_law_bagL at h; obtain ⟨_, rfl, _⟩ := h; rfl
theorem len_law_bag' {K} (ds P) (h : Rg_law_bag K ds P) : ds.length = 1 := by unfold Rg_law_bag at h; obtain ⟨_, rfl, _⟩ := h; rfl
theorem fmod_lt {i j : Int} (h : 0 < j) : 0 ≤ i.fmod j ∧ i.fmod j < j := ⟨Int.fmod_nonneg_of_pos i h, Int.fmod_lt_of_pos i h⟩
theorem cut63 {α : Type} {ns : List α} (h : ns.length ≤ 63) : cutN ns none (some 63) = ns := by
  have e : (63 : Int) = ((63 : Nat) : Int) := rfl
  unfold cutN
  rw [HT.sIx_none, e, HT.sIx_nat, List.drop_zero, Nat.sub_zero]
  exact List.take_of_length_le (by omega)
def spDrawL : Sp := fun vs H Q _ => ∃ (b c : Addr) (k i r m n : Int) (ns : List Int), vs = [.ref b, .int k] ∧ H b = some (bagL c i r m n) ∧ H c = some (.lst (ns.map .int)) ∧ 1 ≤ k ∧ k.natAbs.log2 < 9000 ∧ 0 ≤ i ∧ 0 ≤ r ∧ 0 ≤ m ∧ m < 2147483648 ∧
  ∀ j i' r' m' n', 0 ≤ j → j < k → 0 ≤ i' → 0 ≤ r' → 0 ≤ m' → m' < 2147483648 → Q (.int j) (upd H b (bagL c i' r' m' n'))
theorem len_law_drawL {vs : List V} {H : Hp} {Q : VK} {E : XK} (h : spDrawL vs H Q E) : vs.length = 2 := by obtain ⟨_, _, _, _, _, _, _, _, rfl, _⟩ := h; rfl
theorem upd_upd {H : Hp} {b : Addr} {x y : HO} : upd (upd H b x) b y = upd H b y := by
  funext a
  by_cases e : a = b
  · rw [e, upd_same, upd_same]
  · rw [upd_ne e, upd_ne e, upd_ne e]
/-! values that leave the heap as it is -/
def Vl (te : TE) (σ : L2.St) (H : Hp) (v : V) : Prop := ∀ Q : VK, Q v H → te σ H Q
def Vt (te : TT) (σ : L2.St) (H : Hp) (v : Bool) : Prop := ∀ Q : Bool → Hp → Prop, Q v H → te σ H Q
section
variable {K : PySem.W.Frag} {σ : L2.St} {H : Hp} {ta tb : TE} {tt tu : TT} {i j : Int} {v : V}
theorem vl_var {k : Nat} (h : σ[k]? = some (some v)) : Vl (tVar k) σ H v := fun Q q => ⟨v, h, q⟩
theorem vl_c : Vl (tC v) σ H v := fun Q q => q
theorem vl_add (ha : Vl ta σ H (.int i)) (hb : Vl tb σ H (.int j)) : Vl (tOp rPlus ta tb) σ H (.int (i + j)) := fun Q q => ha _ (hb _ (.inl ⟨i, j, rfl, rfl, q⟩))
theorem vl_mul (ha : Vl ta σ H (.int i)) (hb : Vl tb σ H (.int j)) (h : CMulW i j) : Vl (tOp rTimes ta tb) σ H (.int (i * j)) := fun Q q => ha _ (hb _ (.inl ⟨i, j, rfl, rfl, h, q⟩))
theorem vl_mulN (ha : Vl ta σ H (.int i)) (hb : Vl tb σ H (.int j)) (h : CMul i j) : Vl (tOp rTimes ta tb) σ H (.int (i * j)) := fun Q q => ha _ (hb _ (.inr (.inr ⟨i, j, rfl, rfl, h, q⟩)))
theorem vl_mod (ha : Vl ta σ H (.int i)) (hb : Vl tb σ H (.int j)) (h : j ≠ 0) : Vl (tOp (rI (fun _ j => j ≠ 0) fun i j => .int (i.fmod j)) ta tb) σ H (.int (i.fmod j)) := fun Q q => ha _ (hb _ ⟨i, j, rfl, rfl, h, q⟩)
theorem vl_div (ha : Vl ta σ H (.int i)) (hb : Vl tb σ H (.int j)) (h : CDivW i j) : Vl (tOp (rI CDivW fun i j => .int (i / j)) ta tb) σ H (.int (i / j)) := fun Q q => ha _ (hb _ ⟨i, j, rfl, rfl, h, q⟩)
theorem vl_pow (ha : Vl ta σ H (.int i)) (hb : Vl tb σ H (.int j)) (h : CPow i j) : Vl (tOp (rI CPow fun i j => .int (i ^ j.toNat)) ta tb) σ H (.int (i ^ j.toNat)) := fun Q q => ha _ (hb _ ⟨i, j, rfl, rfl, h, q⟩)
theorem vl_int (ha : Vl ta σ H (.int i)) : Vl (tCB rIntI (tCons ta tNil)) σ H (.int i) := fun Q q => ha _ (.inl ⟨i, rfl, q⟩)
theorem vl_abs (ha : Vl ta σ H (.int i)) : Vl (tCB rAbsI (tCons ta tNil)) σ H (.int (if i < 0 then -i else i)) := fun Q q => ha _ ⟨i, rfl, q⟩
theorem vl_ix {b : Addr} {xs : List V} {k : Nat} (ha : Vl ta σ H (.ref b)) (hb : Vl tb σ H (.int k)) (h : H b = some (.lst xs)) (hx : xs[k]? = some v) : Vl (tOp (rIx K) ta tb) σ H v := fun Q q => ha _ (hb _ (.inl ⟨b, xs, k, v, rfl, rfl, sq_l h, atI_nat hx, q⟩))
theorem vl_len {b : Addr} {xs : List V} (ha : Vl ta σ H (.ref b)) (h : H b = some (.lst xs)) : Vl (tCB (rLenU K) (tCons ta tNil)) σ H (.int xs.length) := fun Q q => ha _ (.inl ⟨b, xs, rfl, .inl (sq_l h), q⟩)
theorem vt_eq (ha : Vl ta σ H (.int i)) (hb : Vl tb σ H (.int j)) : Vt (tTest (tOp (rEqU K) ta tb)) σ H (decide (i = j)) := fun Q q => ha _ (hb _ (.inl ⟨rfl, _, rfl, by
  have e : decide (V.int i = V.int j) = decide (i = j) := decide_eq_decide.mpr ⟨V.int.inj, congrArg _⟩
  rw [e]; exact q⟩))
theorem vt_lt (ha : Vl ta σ H (.int i)) (hb : Vl tb σ H (.int j)) : Vt (tTest (tOp (rI0 fun i j => .bl (decide (i < j))) ta tb)) σ H (decide (i < j)) := fun Q q => ha _ (hb _ ⟨i, j, rfl, rfl, _, rfl, q⟩)
theorem vt_gt (ha : Vl ta σ H (.int i)) (hb : Vl tb σ H (.int j)) : Vt (tTest (tOp (rI0 fun i j => .bl (decide (j < i))) ta tb)) σ H (decide (j < i)) := fun Q q => ha _ (hb _ ⟨i, j, rfl, rfl, _, rfl, q⟩)
theorem vt_ge (ha : Vl ta σ H (.int i)) (hb : Vl tb σ H (.int j)) : Vt (tTest (tOp (rI0 fun i j => .bl (decide (j ≤ i))) ta tb)) σ H (decide (j ≤ i)) := fun Q q => ha _ (hb _ ⟨i, j, rfl, rfl, _, rfl, q⟩)
theorem vt_and {a b : Bool} (h1 : Vt tt σ H a) (h2 : Vt tu σ H b) : Vt (tAnd tt tu) σ H (a && b) := fun Q q => h1 _ (by
  cases a with
  | true => exact iteT (h2 _ q)
  | false => exact iteF q)
/-- b[k] = v -/
theorem st_set {te : TE} {b : Addr} {xs : List V} {k : Nat} {D : Ends} (ha : Vl te σ H v) (ho : Vl ta σ H (.ref b)) (hi : Vl tb σ H (.int k)) (h : H b = some (.lst xs)) (hk : k < xs.length) (q : D.nx σ (upd H b (.lst (xs.set k v)))) : tAsg te (gSub ta tb rSetL) D σ H := by
  refine ha _ (ho _ (hi _ ⟨b, xs, k, k, rfl, rfl, h, ?_, q⟩))
  unfold ixN
  rw [if_pos (by omega), if_pos (by omega)]
  simp
theorem st_name {te : TE} {k : Nat} {D : Ends} (ha : Vl te σ H v) (q : D.nx (σ.set k (some v)) H) : tAsg te (gName k) D σ H := ha _ q
theorem st_if {a : Bool} {t u : TS} {D : Ends} (h : Vt tt σ H a) (h1 : a = true → t D σ H) (h2 : a = false → u D σ H) : tIfS tt t u D σ H := h _ (by
  cases a with
  | true => exact iteT (h1 rfl)
  | false => exact iteF (h2 rfl))
end
theorem mulS {i j : Int} {a b : Nat} (h0 : 0 ≤ i) (h1 : i < 2 ^ a) (g0 : 0 ≤ j) (g1 : j < 2 ^ b) (ha : 0 < a) (hb : 0 < b) (h : a + b ≤ 1000000) : CMulW i j := by
  have e1 : ((2 ^ a : Nat) : Int) = 2 ^ a := by rw [Int.natCast_pow]; rfl
  have e2 : ((2 ^ b : Nat) : Int) = 2 ^ b := by rw [Int.natCast_pow]; rfl
  exact wide_mul (a := a) (b := b) (by omega) (by omega) ha hb h
section
variable {P : Program} {w : World} {K : PySem.W.Frag} {mg : Str → Option Value} {base : Heap}
theorem ok_law_bagL (T : Txt K mg)  : FnOk P w K mg base CX0 1 T.a_law_bag T.d_law_bag ["_law_script"] (SpE (Rg_law_bagL K)) := by
  refine T.F_law_bag.ok sc_law_bag (fun vs H Q E h => spE_len h len_law_bag) (fun cdv A outer s H vs Q E hr h => ?_)
  have hu := hu64 hr
  have hvl : vs.length = 1 := spE_len h len_law_bag
  refine ⟨_, (pss_cons (ps_set (i := 1) sc_law_bag.nd rfl (Or.inl rfl) pe_int) (pss_cons (ps_for PassesOwn.never rfl (pi_listK (K := K) rfl (pe_slice (sl_K (K := K) rfl) (pv 0) po_none (po_some pe_int))) (pg_name (i := 2) sc_law_bag.nd rfl (Or.inl rfl)) (pss_one (ps_set (i := 1) sc_law_bag.nd rfl (Or.inl rfl) (pe_op op_modN (pe_callTy call_intI (by rfl) T.n_int (by decide +kernel) (pa_cons (pe_op op_plus (pe_op op_plus (pe_op op_times (pv 1) pe_int) (pe_op op_times (pe_op op_modN (pe_callTy call_intI (by rfl) T.n_int (by decide +kernel) (pa_cons (pv 2) pa_nil)) pe_int) pe_int)) pe_int) pa_nil)) pe_int)))) (pss_one (ps_ret (pe_lst (pa_cons (pe_callTy (call_listK (K := K) rfl) (by rfl) T.n_list (by decide +kernel) (pa_cons (pe_slice (sl_K (K := K) rfl) (pv 0) po_none (po_some pe_int)) pa_nil)) (pa_cons pe_int (pa_cons pe_int (pa_cons (pv 1) (pa_cons pe_int pa_nil)))))))))), fn_body h (by rw [hvl]; decide) (fun ds R hR hl => ?_)⟩
  obtain ⟨ns, rfl, hn, q⟩ := hR
  refine q_asg1 e_int ?_
  refine t_seq (M := fun ρ' => ∃ m x, ρ' = [.dat (.scr K ns), .dat (.int m), x] ∧ 0 ≤ m ∧ m < 2147483648) (t_for1 (iv_list1 (EV.o1 (e_sl (e_var rfl) eo_none (eo_part e_int) sd_scr))) (fun ds i ρ' => ∃ m x, ρ' = [.dat (.scr K ns), .dat (.int m), x] ∧ 0 ≤ m ∧ m < 2147483648) (fun ds e => ⟨42012, .un, rfl, by decide, by decide⟩) (fun ds i d ρ' e hd inv => ?_) (fun ds ρ' e h => h)) fun ρ' hm => ?_
  · subst e
    obtain ⟨m, x, rfl, h0, h1⟩ := inv
    obtain ⟨z, hz, rfl⟩ := map_get hd
    refine t_asgd (e_opd (EV.d1 (e_cb1 (ea_c (e_opd (e_opd (e_opd (e_var rfl) e_int (od_mulI (mulS (a := 31) (b := 16) h0 (by omega) (by decide) (by decide) (by decide) (by decide) (by decide)))) (e_opd (e_opd (EV.d1 (e_cb1 (ea_c (e_var rfl) ea_nil) cd_int)) e_int (od_modI (by decide))) e_int (od_mulI (mulS (a := 20) (b := 10) (fmod_lt (by decide)).1 (by have := (fmod_lt (i := z) (j := 999983) (by decide)).2; omega) (by decide) (by decide) (by decide) (by decide) (by decide)))) od_addI) e_int od_addI) ea_nil) cd_int)) e_int (od_modI (by decide))) fun d hd => ?_
    subst hd
    exact ⟨_, _, rfl, (fmod_lt (by decide)).1, by have := (fmod_lt (i := m * 40692 + z.fmod 999983 * 617 + 71) (j := 2147483399) (by decide)).2; omega⟩
  · obtain ⟨m, x, rfl, h0, h1⟩ := hm
    refine t_ret (e_lst1 (ds := [.lst (ns.map .int), .int 0, .int 0, .int m, .int 0]) (ea_c (EV.o1 ((e_cb1 (ea_c (EV.o1 (e_sl (e_var rfl) eo_none (eo_part e_int) sd_scr)) ea_nil) cd_list).imp fun e he => ?_)) (ea_c e_int (ea_c e_int (ea_c (e_var rfl) (ea_c e_int ea_nil))))) (by simp)) fun e he => by rw [he]; exact q m h0 h1
    rw [he, cut63 hn]

theorem ok_law_drawL (T : Txt K mg) : FnOk P w K mg base CX0 1 T.a_law_draw T.d_law_draw ["_law_bag_here", "_law_sides"] spDrawL := by
  refine T.F_law_draw.ok sc_law_draw (fun vs H Q E h => len_law_drawL h) (fun cdv A outer s H vs Q E hr h => ?_)
  have hu := hu64 hr
  refine ⟨_, (pss_cons (ps_asg (pe_op op_plus (pe_ix (ix_K (K := K) rfl) (pv 0) pe_int (fun _ _ => rfl)) pe_int) (pg_sub (pv 0) pe_int set_list)) (Evl.pss_cut (ps_if (PW.pt (pw_and (pt_cmpR (op_eqK (K := K) rfl hu) (pe_ix (ix_K (K := K) rfl) (pv 0) pe_int (fun _ _ => rfl)) pe_int (nomark _)) (pw_and1 (pt_cmpR op_lt (pe_ix (ix_K (K := K) rfl) (pv 0) pe_int (fun _ _ => rfl)) (pe_callB (call_lenK (K := K) rfl) (by rfl) T.n_len (by decide +kernel) (pa_cons (pe_ix (ix_K (K := K) rfl) (pv 0) pe_int (fun _ _ => rfl)) pa_nil)) (nomark _))))) (pss_cons (ps_set (i := 2) sc_law_draw.nd rfl (Or.inl rfl) (pe_callB call_absI (by rfl) T.n_abs (by decide +kernel) (pa_cons (pe_callTy call_intI (by rfl) T.n_int (by decide +kernel) (pa_cons (pe_ix (ix_K (K := K) rfl) (pe_ix (ix_K (K := K) rfl) (pv 0) pe_int (fun _ _ => rfl)) (pe_ix (ix_K (K := K) rfl) (pv 0) pe_int (fun _ _ => rfl)) (fun _ _ => rfl)) pa_nil)) pa_nil))) (pss_cons (ps_asg (pe_op op_plus (pe_ix (ix_K (K := K) rfl) (pv 0) pe_int (fun _ _ => rfl)) pe_int) (pg_sub (pv 0) pe_int set_list)) (pss_one (ps_if (pt_cmpR op_ge (pv 2) (pe_op op_pow pe_int pe_int) (nomark _)) (pss_one (ps_asg (pv 2) (pg_sub (pv 0) pe_int set_list))) (pss_one (ps_asg (pe_op op_modN (pe_callTy call_intI (by rfl) T.n_int (by decide +kernel) (pa_cons (pe_op op_plus (pe_op op_plus (pe_op op_times (pe_ix (ix_K (K := K) rfl) (pv 0) pe_int (fun _ _ => rfl)) pe_int) (pe_op op_times (pe_op op_modN (pv 2) pe_int) pe_int)) pe_int) pa_nil)) pe_int) (pg_sub (pv 0) pe_int set_list))))))) pss_nil) (pss_cons (ps_if (pt_cmpR op_gt (pe_ix (ix_K (K := K) rfl) (pv 0) pe_int (fun _ _ => rfl)) pe_int (nomark _)) (pss_cons (ps_set (i := 3) sc_law_draw.nd rfl (Or.inl rfl) (pe_op op_modN (pe_callTy call_intI (by rfl) T.n_int (by decide +kernel) (pa_cons (pe_ix (ix_K (K := K) rfl) (pv 0) pe_int (fun _ _ => rfl)) pa_nil)) (pv 1))) (pss_cons (ps_asg (pe_op op_fdivW (pe_ix (ix_K (K := K) rfl) (pv 0) pe_int (fun _ _ => rfl)) (pv 1)) (pg_sub (pv 0) pe_int set_list)) (pss_one (ps_ret (pv 3))))) pss_nil) (pss_cons (ps_set (i := 4) sc_law_draw.nd rfl (Or.inl rfl) (pe_callTy call_intI (by rfl) T.n_int (by decide +kernel) (pa_cons (pe_ix (ix_K (K := K) rfl) (pv 0) pe_int (fun _ _ => rfl)) pa_nil))) (pss_cons (ps_asg (pe_op op_modN (pe_callTy call_intI (by rfl) T.n_int (by decide +kernel) (pa_cons (pe_op op_plus (pe_op op_plus (pe_op op_plus (pe_op op_times (pe_op op_times (pv 4) (pv 4)) pe_int) (pe_op op_times (pv 4) pe_int)) (pe_op op_times (pe_ix (ix_K (K := K) rfl) (pv 0) pe_int (fun _ _ => rfl)) pe_int)) pe_int) pa_nil)) pe_int) (pg_sub (pv 0) pe_int set_list)) (pss_one (ps_ret (pe_op op_modN (pe_callTy call_intI (by rfl) T.n_int (by decide +kernel) (pa_cons (pe_op op_plus (pe_op op_fdivW (pe_ix (ix_K (K := K) rfl) (pv 0) pe_int (fun _ _ => rfl)) pe_int) (pe_op op_times (pe_op op_modN (pe_callTy call_intI (by rfl) T.n_int (by decide +kernel) (pa_cons (pe_ix (ix_K (K := K) rfl) (pv 0) pe_int (fun _ _ => rfl)) pa_nil)) pe_int) pe_int)) pa_nil)) (pv 1))))))))), ?_⟩
  obtain ⟨b, c, k, i, r, m, n, ns, rfl, hb, hc, hk, hk2, h1, h2, h3, h4, q⟩ := h
  have hbc : c ≠ b := fun e => by
    rw [e, hb] at hc
    have h5 := HO.lst.inj (Option.some.inj hc)
    cases ns with
    | nil => cases h5
    | cons z ns => cases h5
  have hcu : ∀ {o : HO}, (upd H b o) c = some (.lst (ns.map .int)) := by intro o; rw [upd_ne hbc]; exact hc
  -- bag[4] = bag[4] + 1
  refine st_set (k := 4) (vl_add (vl_ix (k := 4) (vl_var rfl) vl_c hb rfl) vl_c) (vl_var rfl) vl_c hb (show 4 < 5 by decide) ?_
  -- the first if
  refine ⟨fun σ' H' => ∃ i' r' m' n' x2, σ' = [some (.ref b), some (.int k), x2, none, none] ∧ H' = upd H b (bagL c i' r' m' n') ∧ 0 ≤ i' ∧ 0 ≤ r' ∧ 0 ≤ m' ∧ m' < 2147483648, ?_, fun σ' H' hm => ?_⟩
  · refine st_if (vt_and (vt_eq (vl_ix (k := 2) (vl_var rfl) vl_c upd_same rfl) vl_c) (vt_lt (vl_ix (k := 1) (vl_var rfl) vl_c upd_same rfl) (vl_len (vl_ix (k := 0) (vl_var rfl) vl_c upd_same rfl) hcu))) (fun e => ?_) (fun e => ?_)
    · rw [Bool.and_eq_true, decide_eq_true_eq, decide_eq_true_eq, List.length_map] at e
      have hil : i.toNat < ns.length := by omega
      have hiN : ((i.toNat : Nat) : Int) = i := by omega
      have hz : (ns.map V.int)[i.toNat]? = some (.int ns[i.toNat]) := by rw [List.getElem?_map, List.getElem?_eq_getElem hil]; rfl
      refine st_name (vl_abs (vl_int (vl_ix (k := i.toNat) (vl_ix (k := 0) (vl_var rfl) vl_c upd_same rfl) (by rw [hiN]; exact vl_ix (k := 1) (vl_var rfl) vl_c upd_same rfl) hcu hz))) ?_
      generalize hp : (if ns[i.toNat] < 0 then -ns[i.toNat] else ns[i.toNat]) = p
      have hp0 : 0 ≤ p := by rw [← hp]; split <;> omega
      refine st_set (k := 1) (vl_add (vl_ix (k := 1) (vl_var rfl) vl_c upd_same rfl) vl_c) (vl_var rfl) vl_c upd_same (show 1 < 5 by decide) ?_
      rw [upd_upd]
      refine st_if (vt_ge (vl_var rfl) (vl_pow vl_c vl_c ⟨by decide, by decide, by decide⟩)) (fun e2 => ?_) (fun e2 => ?_)
      · refine st_set (k := 2) (vl_var rfl) (vl_var rfl) vl_c upd_same (show 2 < 5 by decide) ?_
        rw [upd_upd]
        exact ⟨i + 1, p, m, n + 1, _, rfl, rfl, by omega, hp0, h3, h4⟩
      · have f1 := fmod_lt (i := p) (j := 999983) (by decide)
        refine st_set (k := 3) (vl_mod (vl_int (vl_add (vl_add (vl_mul (vl_ix (k := 3) (vl_var rfl) vl_c upd_same rfl) vl_c (mulS (a := 31) (b := 16) h3 (by omega) (by decide) (by decide) (by decide) (by decide) (by decide))) (vl_mul (vl_mod (vl_var rfl) vl_c (by decide)) vl_c (mulS (a := 20) (b := 10) f1.1 (by omega) (by decide) (by decide) (by decide) (by decide) (by decide)))) vl_c)) vl_c (by decide)) (vl_var rfl) vl_c upd_same (show 3 < 5 by decide) ?_
        rw [upd_upd]
        have f2 := fmod_lt (i := m * 39373 + p.fmod 999983 * 823 + 37) (j := 2147483563) (by decide)
        exact ⟨i + 1, r, _, n + 1, _, rfl, rfl, by omega, h2, f2.1, by omega⟩
    · exact ⟨i, r, m, n + 1, none, rfl, rfl, h1, h2, h3, h4⟩
  · obtain ⟨i', r', m', n', x2, rfl, rfl, g1, g2, g3, g4⟩ := hm
    refine st_if (vt_gt (vl_ix (k := 2) (vl_var rfl) vl_c upd_same rfl) vl_c) (fun e => ?_) (fun e => ?_)
    · have f1 := fmod_lt (i := r') (j := k) (by omega)
      have hne : k ≠ 0 := by omega
      have hdv : 0 ≤ r' / k := Int.ediv_nonneg g2 (by omega)
      refine st_name (vl_mod (vl_int (vl_ix (k := 2) (vl_var rfl) vl_c upd_same rfl)) (vl_var rfl) hne) ?_
      refine st_set (k := 2) (vl_div (vl_ix (k := 2) (vl_var rfl) vl_c upd_same rfl) (vl_var rfl) ⟨by omega, hk2⟩) (vl_var rfl) vl_c upd_same (show 2 < 5 by decide) ?_
      rw [upd_upd]
      exact vl_var rfl _ (q _ i' (r' / k) m' n' f1.1 f1.2 g1 hdv g3 g4)
    · refine st_name (vl_int (vl_ix (k := 3) (vl_var rfl) vl_c upd_same rfl)) ?_
      have hm2 : 0 ≤ m' * m' := Int.mul_nonneg g3 g3
      have hm3 : m' * m' < 2 ^ 62 := by
        have : m' * m' ≤ 2147483647 * 2147483647 := Int.mul_le_mul (by omega) (by omega) g3 (by decide)
        omega
      refine st_set (k := 3) (vl_mod (vl_int (vl_add (vl_add (vl_add (vl_mul (vl_mul (vl_var rfl) (vl_var rfl) (mulS (a := 31) (b := 31) g3 (by omega) g3 (by omega) (by decide) (by decide) (by decide))) vl_c (mulS (a := 62) (b := 5) hm2 hm3 (by decide) (by decide) (by decide) (by decide) (by decide))) (vl_mul (vl_var rfl) vl_c (mulS (a := 31) (b := 16) g3 (by omega) (by decide) (by decide) (by decide) (by decide) (by decide)))) (vl_mulN (vl_ix (k := 4) (vl_var rfl) vl_c upd_same rfl) vl_c (.inr ⟨by decide, by decide⟩))) vl_c)) vl_c (by decide)) (vl_var rfl) vl_c upd_same (show 3 < 5 by decide) ?_
      rw [upd_upd]
      have f2 := fmod_lt (i := m' * m' * 23 + m' * 46021 + n' * 104729 + 60013) (j := 2147483543) (by decide)
      generalize (m' * m' * 23 + m' * 46021 + n' * 104729 + 60013).fmod 2147483543 = m2 at f2
      have f3 := fmod_lt (i := m2) (j := 8009) (by decide)
      have hkz : k ≠ 0 := by omega
      have f4 := fun x => fmod_lt (i := x) (j := k) (by omega)
      refine vl_mod (vl_int (vl_add (vl_div (vl_ix (k := 3) (vl_var rfl) vl_c upd_same rfl) vl_c ⟨by decide, by decide⟩) (vl_mul (vl_mod (vl_int (vl_ix (k := 3) (vl_var rfl) vl_c upd_same rfl)) vl_c (by decide)) vl_c (mulS (a := 13) (b := 6) f3.1 (by omega) (by decide) (by decide) (by decide) (by decide) (by decide))))) (vl_var rfl) hkz _ ?_
      exact q _ i' r' m2 n' (f4 _).1 (f4 _).2 g1 g2 f2.1 (by omega)


theorem ints_of {H : Hp} : ∀ {ns : List Int} {vs : List V}, Reps H (ns.map D.int) vs → vs = ns.map V.int
  | [], _, .nil => rfl
  | n :: ns, _, .cons h r => by cases h; rw [ints_of r]; rfl
theorem Rty.refl (H : Hp) : Rty H H := ⟨fun _ h => h, fun _ _ h => h, fun _ _ _ h => h, fun _ _ h => h⟩
theorem ok_law_bag (T : Txt K mg) : FnOk P w K mg base CX0 1 T.a_law_bag T.d_law_bag ["_law_script"] (SpE (Rg_law_bag K)) := by
  refine fn_rty (ok_law_bagL T) (fun vs H Q E h => spE_len h len_law_bag') fun vs H Q E hp h ok => ?_
  obtain ⟨W, ds, P1, rfl, r, ⟨ns, rfl, hn, q⟩, k⟩ := h
  refine ⟨W.h, Rty.refl _, ok, W, _, fun e => ∃ m : Int, 0 ≤ m ∧ m < 2147483648 ∧ e = .own [.lst (ns.map .int), .int 0, .int 0, .int m, .int 0], rfl, r, ⟨ns, rfl, hn, fun m h0 h1 => ⟨m, h0, h1, rfl⟩⟩, fun v e W' g rv pe hp' ok' => ?_⟩
  obtain ⟨m, h0, h1, rfl⟩ := pe
  obtain ⟨l, vs', rfl, e1, e2, e3, e4⟩ := rv
  cases e4 with
  | cons ra e4 => cases e4 with
    | cons rb e4 => cases e4 with
      | cons rc e4 => cases e4 with
        | cons rd e4 => cases e4 with
          | cons re e4 =>
            cases e4
            cases rb; cases rc; cases rd; cases re
            cases ra with
            | lst hc rc =>
              rename_i c ws
              have hw := ints_of rc
              subst hw
              obtain ⟨t, ok2⟩ := bag_in ok' e1 (Int.le_refl 0) (Int.le_refl 0) h0 h1
              refine ⟨_, t, ok2, ?_⟩
              have hcl : c ≠ l := fun z => by rw [z, e2] at hc; cases hc
              exact k (.ref l) (.dat .bag) ⟨upd W'.b l (bagO l c), upd W'.h l (bagO l c), W'.le.two⟩ ⟨g.b.tr (Ex.nw e2), fun a o e => by
                show upd W'.h l _ a = some o
                rw [upd_ne (ne_of_none e e3)]; exact g.h _ _ e, fun a q1 q2 => by
                show upd W'.b l _ a = none
                rw [upd_ne (fun z => q2 (by rw [z]; exact e3))]; exact g.nw a q1 q2⟩ (.bag upd_same (by
                show upd W'.b l _ c = _
                rw [upd_ne hcl]; exact hc) hn) q
def Rg_law_draw (ds : List D) (P : En → Prop) : Prop := ∃ k : Int, ds = [.bag, .int k] ∧ 1 ≤ k ∧ k.natAbs.log2 < 9000 ∧ ∀ j, 0 ≤ j → j < k → P (.dat (.int j))
theorem len_law_draw (ds P) (h : Rg_law_draw ds P) : ds.length = 2 := by unfold Rg_law_draw at h; obtain ⟨_, rfl, _⟩ := h; rfl
theorem ok_law_draw (T : Txt K mg) : FnOk P w K mg base CX0 1 T.a_law_draw T.d_law_draw ["_law_bag_here", "_law_sides"] (SpE Rg_law_draw) := by
  refine fn_rty (ok_law_drawL T) (fun vs H Q E h => spE_len h len_law_draw) fun vs H Q E hp h ok => ?_
  obtain ⟨W, ds, P1, rfl, r, ⟨k, rfl, hk, hk2, q⟩, kk⟩ := h
  cases r with
  | cons ra r => cases r with
    | cons rb r =>
      cases r
      cases rb
      cases ra with
      | bag hb hc hn =>
        rename_i b c ns
        obtain ⟨i, r, m, n, h1, h2, h3, h4, t, ok1⟩ := bag_out ok (W.le _ _ hb)
        have hcb : c ≠ b := fun z => by
          rw [z, hb] at hc
          exact bag_ne (u := .lst (ns.map V.int)) (fun _ z => nomatch z) (Option.some.inj hc)
        refine ⟨_, t, ok1, b, c, k, i, r, m, n, ns, rfl, upd_same, by rw [upd_ne hcb]; exact W.le _ _ hc, hk, hk2, h1, h2, h3, h4, fun j i' r' m' n' j0 j1 a1 a2 a3 a4 hp' ok' => ?_⟩
        obtain ⟨t2, ok2⟩ := bag_in ok' upd_same a1 a2 a3 a4
        refine ⟨_, t2, ok2, ?_⟩
        have e : upd (upd (upd W.h b (bagL c i r m n)) b (bagL c i' r' m' n')) b (bagO b c) = W.h := by
          rw [upd_upd, upd_upd]
          funext a
          by_cases z : a = b
          · rw [z, upd_same, W.le _ _ hb]
          · rw [upd_ne z]
        rw [e]
        exact kk (.int j) (.dat (.int j)) W (Grow.refl W) (.int j) (q j j0 j1)
/-- things that are drawn from -/
inductive Src : D → List D → Prop where
  | lst (ds : List D) : Src (.lst ds) ds
  | str (s : List Nat) : Src (.str s) (chs s)
def Rg_law_of (ds : List D) (P : En → Prop) : Prop := ∃ (x : D) (xs : List D), ds = [.bag, x] ∧ Src x xs ∧ 1 ≤ xs.length ∧ xs.length ≤ 1000 ∧ ∀ d ∈ xs, P (.dat d)
theorem len_law_of (ds P) (h : Rg_law_of ds P) : ds.length = 2 := by unfold Rg_law_of at h; obtain ⟨_, _, rfl, _⟩ := h; rfl
theorem log_small {n : Nat} (h : n ≤ 1000) : ((n : Int)).natAbs.log2 < 9000 := by
  rw [Int.natAbs_natCast]
  have := Nat.log2_le_self n
  omega

theorem ok_law_of (T : Txt K mg) (G_law_draw : FnOk P w K mg base CX0 1 T.a_law_draw T.d_law_draw ["_law_bag_here", "_law_sides"] (SpE Rg_law_draw)) : FnOk P w K mg base CX0 2 T.a_law_of T.d_law_of ["_law_bag_here", "_law_things"] (SpE Rg_law_of) := by
  refine T.F_law_of.ok sc_law_of (fun vs H Q E h => spE_len h len_law_of) (fun cdv A outer s H vs Q E hr h => ?_)
  have hu := hu64 hr
  have hvl : vs.length = 2 := spE_len h len_law_of
  refine ⟨_, (pss_one (ps_ret (pe_ix (ix_K (K := K) rfl) (pv 1) (pe_call G_law_draw (hr.mono (by decide)) (by rfl) T.g_law_draw T.F_law_draw.kp (b_law_draw T) .nil pass0 (pa_cons (pv 0) (pa_cons (pe_callB (call_lenK (K := K) rfl) (by rfl) T.n_len (by decide +kernel) (pa_cons (pv 1) pa_nil)) pa_nil))) (fun _ _ => rfl)))), fn_body h (by rw [hvl]; decide) (fun ds R hR hl => ?_)⟩
  obtain ⟨x, xs, rfl, hx, h1, h2, q⟩ := hR
  have hlen : CD (rLenU K) [x] (· = .dat (.int (xs.length : Nat))) := by
    cases hx with
    | lst => exact cd_lenL
    | str s =>
      have e : (chs s).length = s.length := by simp [chs]
      rw [e] at h2 ⊢
      exact cd_lenS (by omega)
  refine t_ret (P := fun e => ∃ d, d ∈ xs ∧ e = .dat d) (e_op (PA := fun d => d = x) (PB := fun d => ∃ j : Nat, j < xs.length ∧ d = .int j) (e_var rfl) (EV.ed (R := fun e => ∃ j : Nat, j < xs.length ∧ e = .dat (.int j)) (e_callP (ea_c (e_var rfl) (ea_c (EV.d1 (e_cb1 (ea_c (e_var rfl) ea_nil) hlen)) ea_nil)) fun ds e => by rw [e]; exact ⟨(xs.length : Nat), rfl, by omega, log_small h2, fun j j0 j1 => ⟨j.toNat, by omega, by rw [show ((j.toNat : Nat) : Int) = j by omega]⟩⟩) fun e ⟨j, hj, he⟩ => ⟨.int j, by rw [he]; rfl, j, hj, rfl⟩) fun a b ha hb => ?_) fun e ⟨d, hd, he⟩ => by rw [he]; exact q d hd
  obtain ⟨j, hj, rfl⟩ := hb
  subst ha
  cases hx with
  | lst =>
    intro W v w r1 r2 Q q2
    exact od_ixL (K := K) (j := j) rfl (List.getElem?_eq_getElem hj) W v w r1 r2 Q fun u e W' g r p => q2 u e W' g r ⟨_, List.getElem_mem hj, p⟩
  | str s =>
    have e : (chs s).length = s.length := by simp [chs]
    have hj' : j < s.length := by omega
    intro W v w r1 r2 Q q2
    refine od_ixS (K := K) (j := j) rfl (List.getElem?_eq_getElem hj') (by omega) W v w r1 r2 Q fun u e W' g r p => q2 u e W' g r ⟨_, ?_, p⟩
    exact List.mem_map.mpr ⟨_, List.getElem_mem hj', rfl⟩

end
end Nt

namespace Nt
open PySem PySem.Spec PyProof.Rows L2


def jn (x y : List Nat) : List Nat := (x.zip y).map fun p => if 43 ∈ [p.1, p.2] then 43 else 46
def frs (s t : List Nat) : List Nat := (List.range s.length).filter fun k => !decide (s.getD k 0 = 46) && decide (t.getD k 0 = 46)
def fitsB (s r t : List Nat) : Bool := (!(frs s t).isEmpty) && ((frs s t).filter fun k => !decide (r.getD k 0 = s.getD k 0)).isEmpty
theorem mem_frs {s t : List Nat} {i : Nat} : i ∈ frs s t ↔ i ∈ outs s t := by
  unfold frs
  rw [List.mem_filter, List.mem_range, mem_outs]
  simp only [Bool.and_eq_true, Bool.not_eq_true', decide_eq_false_iff_not, decide_eq_true_eq]
  constructor
  · rintro ⟨h1, h2, h3⟩
    exact ⟨_, get_of_lt h1, h2, h3⟩
  · rintro ⟨c, h1, h2, h3⟩
    refine ⟨(List.getElem?_eq_some_iff.mp h1).1, ?_, h3⟩
    rw [getD_of h1]; exact h2
theorem fits_canT (s r t : List Nat) : fitsB s r t = canT s t r := by
  have e1 : canT s t r = true ↔ fitsB s r t = true := by
    unfold fitsB
    rw [Bool.and_eq_true, Bool.not_eq_true', List.isEmpty_eq_false_iff, List.isEmpty_iff, List.filter_eq_nil_iff]
    constructor
    · intro h
      obtain ⟨i, hi⟩ := canT_outs h
      refine ⟨List.ne_nil_of_mem (mem_frs.mpr hi), fun j hj => ?_⟩
      rw [bars_nil h j (mem_frs.mp hj)]; simp
    · rintro ⟨h1, h2⟩
      obtain ⟨i, hi⟩ := List.exists_mem_of_ne_nil _ h1
      refine canT_of ⟨i, mem_frs.mp hi⟩ fun j hj => ?_
      have := h2 j (mem_frs.mpr hj)
      simpa using this
  cases h1 : fitsB s r t <;> cases h2 : canT s t r
  · rfl
  · rw [e1.mp h2] at h1; cases h1
  · rw [e1.mpr h1] at h2; cases h2
  · rfl
/-- lots alone -/
def Bin (t : List Nat) : Prop := ∀ c ∈ t, c = 46 ∨ c = 43
theorem bin_lot (s : List Nat) : Bin (lotOf s) := by
  intro c h
  unfold lotOf at h
  obtain ⟨a, _, rfl⟩ := List.mem_map.mp h
  by_cases e : a = 46
  · rw [if_pos e]; exact .inl rfl
  · rw [if_neg e]; exact .inr rfl
theorem bin_rep (n : Nat) : Bin (List.replicate n 46) := fun c h => .inl (List.eq_of_mem_replicate h)
theorem bin_ov {x y : List Nat} (hx : Bin x) (hy : Bin y) : Bin (ov x y) := by
  intro c h
  unfold ov at h
  obtain ⟨p, hp, rfl⟩ := List.mem_map.mp h
  obtain ⟨i, hi⟩ := List.mem_iff_getElem?.mp hp
  obtain ⟨a, b⟩ := zip_get hi
  by_cases e : p.1 = 46
  · rw [if_pos e]; exact hy _ (List.mem_of_getElem? b)
  · rw [if_neg e]; exact hx _ (List.mem_of_getElem? a)
theorem jn_ov {x y : List Nat} (hx : Bin x) (hy : Bin y) : jn x y = ov x y := by
  unfold jn ov
  apply List.map_congr_left
  intro p hp
  obtain ⟨i, hi⟩ := List.mem_iff_getElem?.mp hp
  obtain ⟨a, b⟩ := zip_get hi
  rcases hx _ (List.mem_of_getElem? a) with h1 | h1 <;> rcases hy _ (List.mem_of_getElem? b) with h2 | h2 <;> rw [h1, h2] <;> decide
theorem run_bin {S : List (List Nat)} {r t : List Nat} {tk : List (List Nat)} (h : Run S r tk t) : Bin t := by
  induction h with
  | nil => exact bin_rep _
  | snoc _ _ _ ih => exact bin_ov ih (bin_lot _)
theorem fin_of_dots {S : List (List Nat)} {r t : List Nat} (h : dots t = 0) (hl : ∀ s ∈ S, s.length = t.length) : Fin S r t := by
  intro s hs
  cases hc : canT s t r with
  | false => rfl
  | true =>
    have := ov_lot_dots (hl s hs) hc
    omega
abbrev Rg_law_lay := Rg_over
abbrev Rg_law_lot := Rg_lot_of
def Rg_law_join (ds : List D) (P : En → Prop) : Prop := ∃ x y, ds = [.str x, .str y] ∧ x.length ≤ 1000 ∧ P (.dat (.str (jn x y)))
def Rg_law_blank (ds : List D) (P : En → Prop) : Prop := ∃ xs : List D, ds = [.lst xs] ∧ xs.length ≤ 1000 ∧ P (.dat (.str (List.replicate xs.length 46)))
def Rg_law_fresh (ds : List D) (P : En → Prop) : Prop := ∃ s t : List Nat, ds = [.str s, .str t] ∧ s.length = t.length ∧ s.length ≤ 1000 ∧ P (.own ((frs s t).map fun (i : Nat) => .int i))
def Rg_law_fits (ds : List D) (P : En → Prop) : Prop := ∃ s r t : List Nat, ds = [.str s, .str r, .str t] ∧ s.length = t.length ∧ s.length = r.length ∧ s.length ≤ 1000 ∧ P (.dat (.bl (canT s t r)))
def Rg_law_last_first (ds : List D) (P : En → Prop) : Prop := ∃ (S : List (List Nat)) (r : List Nat), ds = [.lst (S.map .str), .str r] ∧ S.length ≤ 1000 ∧ Len r.length S ∧ r.length ≤ 1000 ∧ ∀ tk t, Run S r tk t → Fin S r t → P (.dat (.str t))
/-- what come gives -/
def paper (r : List Nat) (tk : List (List Nat)) (bs : List D) (e : D) : List D := lRow r :: tk.map lTake ++ bs ++ [e]
def Rg_law_takes (ds : List D) (P : En → Prop) : Prop := ∃ (r : List Nat) (tk : List (List Nat)) (bs : List D) (e : D), ds = [.lst (paper r tk bs e)] ∧ (∀ b ∈ bs, isBar b) ∧ (e = lMade ∨ e = lBarred) ∧ tk.length ≤ 1000 ∧ bs.length ≤ 1000 ∧ P (.own (tk.map .str))
def Rg_law_end (ds : List D) (P : En → Prop) : Prop := ∃ (r : List Nat) (tk : List (List Nat)) (bs : List D) (e : D), ds = [.lst (paper r tk bs e)] ∧ P (.dat e)
theorem len_law_lay (ds P) (h : Rg_law_lay ds P) : ds.length = 2 := len_over ds P h
theorem len_law_lot (ds P) (h : Rg_law_lot ds P) : ds.length = 1 := len_lot_of ds P h
theorem len_law_join (ds P) (h : Rg_law_join ds P) : ds.length = 2 := by obtain ⟨_, _, rfl, _⟩ := h; rfl
theorem len_law_blank (ds P) (h : Rg_law_blank ds P) : ds.length = 1 := by obtain ⟨_, rfl, _⟩ := h; rfl
theorem len_law_fresh (ds P) (h : Rg_law_fresh ds P) : ds.length = 2 := by obtain ⟨_, _, rfl, _⟩ := h; rfl
theorem len_law_fits (ds P) (h : Rg_law_fits ds P) : ds.length = 3 := by obtain ⟨_, _, _, rfl, _⟩ := h; rfl
theorem len_law_last_first (ds P) (h : Rg_law_last_first ds P) : ds.length = 2 := by obtain ⟨_, _, rfl, _⟩ := h; rfl
theorem len_law_takes (ds P) (h : Rg_law_takes ds P) : ds.length = 1 := by obtain ⟨_, _, _, _, rfl, _⟩ := h; rfl
theorem len_law_end (ds P) (h : Rg_law_end ds P) : ds.length = 1 := by obtain ⟨_, _, _, _, rfl, _⟩ := h; rfl
/-- the take lines -/
def isTk : D → Bool
  | .tup [.str w, _] => decide (w = [116, 97, 107, 101])
  | _ => false
def sec : D → D
  | .tup [_, y] => y
  | d => d
theorem takes_paper {r : List Nat} {tk : List (List Nat)} {bs : List D} {e : D} (hb : ∀ b ∈ bs, isBar b) (he : e = lMade ∨ e = lBarred) : ((paper r tk bs e).filter isTk).map sec = tk.map .str := by
  unfold paper
  have h1 : (tk.map lTake).filter isTk = tk.map lTake := List.filter_eq_self.mpr fun d hd => by
    obtain ⟨s, _, rfl⟩ := List.mem_map.mp hd
    rfl
  have h2 : bs.filter isTk = [] := List.filter_eq_nil_iff.mpr fun d hd => by
    obtain ⟨a, b, c, rfl⟩ := hb d hd
    simp [isTk]
  have h3 : [e].filter isTk = [] := by rcases he with h | h <;> subst h <;> rfl
  have h4 : isTk (lRow r) = false := by
    show decide ([114, 111, 119] = [116, 97, 107, 101]) = false
    decide
  rw [List.filter_append, List.filter_append, List.filter_cons, h4, if_neg (by decide), h1, h2, h3, List.append_nil, List.append_nil, List.map_map]
  rfl
/-- a line of a paper, told by its length -/
theorem paper_line {r : List Nat} {tk : List (List Nat)} {bs : List D} {e : D} (hb : ∀ b ∈ bs, isBar b) (he : e = lMade ∨ e = lBarred) {d : D} (hd : d ∈ paper r tk bs e) : ∃ xs, d = .tup xs ∧ ((xs.length = 2 ∧ ∃ w y, xs = [.str w, y] ∧ isTk d = decide (w = [116, 97, 107, 101])) ∨ (xs.length ≠ 2 ∧ isTk d = false)) := by
  unfold paper at hd
  rw [List.mem_append, List.mem_append, List.mem_cons] at hd
  rcases hd with ((h | h) | h) | h
  · subst h; exact ⟨_, rfl, .inl ⟨rfl, _, _, rfl, rfl⟩⟩
  · obtain ⟨s, _, rfl⟩ := List.mem_map.mp h
    exact ⟨_, rfl, .inl ⟨rfl, _, _, rfl, rfl⟩⟩
  · obtain ⟨a, b, c, rfl⟩ := hb d h
    exact ⟨_, rfl, .inr ⟨by simp, by simp [isTk]⟩⟩
  · rw [List.mem_singleton.mp h]
    rcases he with h | h <;> subst h <;> exact ⟨_, rfl, .inr ⟨by simp, rfl⟩⟩
section
variable {P : Program} {w : World} {K : PySem.W.Frag} {mg : Str → Option Value} {base : Heap}
theorem ok_law_lay (T : Txt K mg)  : FnOk P w K mg base CX0 1 T.a_law_lay T.d_law_lay ["_law_newer_row", "_law_older_row"] (SpE Rg_law_lay) := by
  refine T.F_law_lay.ok sc_law_lay (fun vs H Q E h => spE_len h len_law_lay) (fun cdv A outer s H vs Q E hr h => ?_)
  have hu := hu64 hr
  have hvl : vs.length = 2 := spE_len h len_law_lay
  refine ⟨_, (pss_one (ps_ret (pe_joinK (K := K) rfl pe_str (pe_lc (own := [("_law_x", 2), ("_law_y", 3)]) (g := gTup K 2 (gCons (gName 2) (gCons (gName 3) gNil))) (tt := tYes) rfl sc_law_lay.nd (pi_zipK (K := K) rfl (by rfl) T.n_zip (pa_cons (pv 0) (pa_cons (pv 1) pa_nil))) (blkOk_by (N := N_law_lay) (sc := defScope s_law_lay) (by decide +kernel)) (fun _ _ _ _ _ => (pg_tup rfl (pgs_cons (pg_name (i := 2) sc_law_lay.nd rfl (Or.inl rfl)) (pgs_cons (pg_name (i := 3) sc_law_lay.nd rfl (Or.inl rfl)) pgs_nil)))) (fun _ _ _ _ _ => pts_nil) (fun _ _ _ _ _ => (pe_ifExp (pt_cmpR (op_eqK (K := K) rfl hu) (pv 2) pe_str (nomark _)) (pv 3) (pv 2))))))), fn_body h (by rw [hvl]; decide) (fun ds R hR hl => ?_)⟩
  obtain ⟨x, y, rfl, hx, q⟩ := hR
  refine t_ret1 (e_joinc (f := fun p : Nat × Nat => if p.1 = 46 then p.2 else p.1) (e_str rfl) (lc2_map (by decide) (iv_zipS (ea_c (e_var rfl) (ea_c (e_var rfl) ea_nil))) (by rw [List.length_zip]; omega) fun i p hp => ?_) (by rw [List.length_zip]; omega)) q
  refine (e_ifc (et_eqS (e_var rfl) (e_str (s := [46]) (by decide +kernel))) (fun _ => e_var rfl) (fun _ => e_var rfl)).is ?_
  by_cases h : p.1 = 46
  · rw [if_pos (by rw [h]), if_pos h]; rfl
  · rw [if_neg (fun z => h (List.cons.inj z).1), if_neg h]; rfl

theorem ok_law_lot (T : Txt K mg)  : FnOk P w K mg base CX0 1 T.a_law_lot T.d_law_lot ["_law_r"] (SpE Rg_law_lot) := by
  refine T.F_law_lot.ok sc_law_lot (fun vs H Q E h => spE_len h len_law_lot) (fun cdv A outer s H vs Q E hr h => ?_)
  have hu := hu64 hr
  have hvl : vs.length = 1 := spE_len h len_law_lot
  refine ⟨_, (pss_one (ps_ret (pe_joinK (K := K) rfl pe_str (pe_lc (own := [("_law_sign", 1)]) (g := gName 1) (tt := tYes) rfl sc_law_lot.nd (pi_str (pv 0)) (blkOk_by (N := N_law_lot) (sc := defScope s_law_lot) (by decide +kernel)) (fun _ _ _ _ _ => (pg_name (i := 1) sc_law_lot.nd rfl (Or.inl rfl))) (fun _ _ _ _ _ => pts_nil) (fun _ _ _ _ _ => (pe_ifExp (pt_cmpR (op_eqK (K := K) rfl hu) (pv 1) pe_str (nomark _)) pe_str pe_str)))))), fn_body h (by rw [hvl]; decide) (fun ds R hR hl => ?_)⟩
  obtain ⟨x, rfl, hx, q⟩ := hR
  refine t_ret1 (e_joinc (f := fun c : Nat => if c = 46 then 46 else 43) (e_str rfl) (lc1_map (iv_strS (e_var rfl)) (by omega) fun i c hc => ?_) (by omega)) q
  refine (e_ifc (et_eqS (e_var rfl) (e_str (s := [46]) (by decide +kernel))) (fun _ => e_str (s := [46]) (by decide +kernel)) (fun _ => e_str (s := [43]) (by decide +kernel))).is ?_
  by_cases h : c = 46
  · rw [if_pos (by rw [h]), if_pos h]
  · rw [if_neg (fun z => h (List.cons.inj z).1), if_neg h]

theorem ok_law_join (T : Txt K mg)  : FnOk P w K mg base CX0 1 T.a_law_join T.d_law_join ["_law_x", "_law_y"] (SpE Rg_law_join) := by
  refine T.F_law_join.ok sc_law_join (fun vs H Q E h => spE_len h len_law_join) (fun cdv A outer s H vs Q E hr h => ?_)
  have hu := hu64 hr
  have hvl : vs.length = 2 := spE_len h len_law_join
  refine ⟨_, (pss_one (ps_ret (pe_joinK (K := K) rfl pe_str (pe_lc (own := [("_law_a", 2), ("_law_b", 3)]) (g := gTup K 2 (gCons (gName 2) (gCons (gName 3) gNil))) (tt := tYes) rfl sc_law_join.nd (pi_zipK (K := K) rfl (by rfl) T.n_zip (pa_cons (pv 0) (pa_cons (pv 1) pa_nil))) (blkOk_by (N := N_law_join) (sc := defScope s_law_join) (by decide +kernel)) (fun _ _ _ _ _ => (pg_tup rfl (pgs_cons (pg_name (i := 2) sc_law_join.nd rfl (Or.inl rfl)) (pgs_cons (pg_name (i := 3) sc_law_join.nd rfl (Or.inl rfl)) pgs_nil)))) (fun _ _ _ _ _ => pts_nil) (fun _ _ _ _ _ => (pe_ifExp (pt_cmpR (op_inK (K := K) rfl) pe_str (pe_op op_plus (pv 2) (pv 3)) (by rfl)) pe_str pe_str)))))), fn_body h (by rw [hvl]; decide) (fun ds R hR hl => ?_)⟩
  obtain ⟨x, y, rfl, hx, q⟩ := hR
  refine t_ret1 (e_joinc (f := fun p : Nat × Nat => if 43 ∈ [p.1, p.2] then 43 else 46) (e_str rfl) (lc2_map (by decide) (iv_zipS (ea_c (e_var rfl) (ea_c (e_var rfl) ea_nil))) (by rw [List.length_zip]; omega) fun i p hp => ?_) (by rw [List.length_zip]; omega)) q
  refine (e_ifc (c := 43 ∈ [p.1, p.2]) (et_t1 (e_opd (e_str (s := [43]) (by decide +kernel)) (e_opd (x := .str [p.1]) (y := .str [p.2]) (e_var rfl) (e_var rfl) (od_addS (by simp))) (od_sgn (neg := false)))) (fun _ => e_str (s := [43]) (by decide +kernel)) (fun _ => e_str (s := [46]) (by decide +kernel))).is ?_
  by_cases h : 43 ∈ [p.1, p.2]
  · rw [if_pos h, if_pos h]
  · rw [if_neg h, if_neg h]

theorem ok_law_blank (T : Txt K mg)  : FnOk P w K mg base CX0 1 T.a_law_blank T.d_law_blank ["_law_frame_here"] (SpE Rg_law_blank) := by
  refine T.F_law_blank.ok sc_law_blank (fun vs H Q E h => spE_len h len_law_blank) (fun cdv A outer s H vs Q E hr h => ?_)
  have hu := hu64 hr
  have hvl : vs.length = 1 := spE_len h len_law_blank
  refine ⟨_, (pss_one (ps_ret (pe_op op_times pe_str (pe_callB (call_lenK (K := K) rfl) (by rfl) T.n_len (by decide +kernel) (pa_cons (pv 0) pa_nil))))), fn_body h (by rw [hvl]; decide) (fun ds R hR hl => ?_)⟩
  obtain ⟨xs, rfl, hn, q⟩ := hR
  refine t_ret1 ((e_opd (e_str (s := [46]) (by decide +kernel)) (EV.d1 (e_cb1 (ea_c (e_var rfl) ea_nil) cd_lenL)) (od_mulS (by omega) (by omega) (by decide))).is ?_) q
  rw [Int.toNat_natCast, rep46]

theorem ok_law_fresh (T : Txt K mg)  : FnOk P w K mg base CX0 1 T.a_law_fresh T.d_law_fresh ["_law_s", "_law_told"] (SpE Rg_law_fresh) := by
  refine T.F_law_fresh.ok sc_law_fresh (fun vs H Q E h => spE_len h len_law_fresh) (fun cdv A outer s H vs Q E hr h => ?_)
  have hu := hu64 hr
  have hvl : vs.length = 2 := spE_len h len_law_fresh
  refine ⟨_, (pss_one (ps_ret (pe_lc (own := [("_law_k", 2)]) (g := gName 2) (tt := _) rfl sc_law_fresh.nd (pi_range1 (by rfl) T.n_range (pa_cons (pe_callB (call_lenK (K := K) rfl) (by rfl) T.n_len (by decide +kernel) (pa_cons (pv 0) pa_nil)) pa_nil)) (blkOk_by (N := N_law_fresh) (sc := defScope s_law_fresh) (by decide +kernel)) (fun _ _ _ _ _ => (pg_name (i := 2) sc_law_fresh.nd rfl (Or.inl rfl))) (fun _ _ _ _ _ => (pts_one (PW.pt (pw_and (pt_cmpR (op_neK (K := K) rfl hu) (pe_ix (ix_K (K := K) rfl) (pv 0) (pv 2) (fun _ _ => rfl)) pe_str (nomark _)) (pw_and1 (pt_cmpR (op_eqK (K := K) rfl hu) (pe_ix (ix_K (K := K) rfl) (pv 1) (pv 2) (fun _ _ => rfl)) pe_str (nomark _))))))) (fun _ _ _ _ _ => (pv 2))))), fn_body h (by rw [hvl]; decide) (fun ds R hR hl => ?_)⟩
  obtain ⟨s, t, rfl, h1, h2, q⟩ := hR
  refine t_ret (P := fun e => e = .own ((frs s t).map fun (i : Nat) => .int i)) (lc1_filt (t := fun k => !decide (s.getD k 0 = 46) && decide (t.getD k 0 = 46)) (emb := fun (i : Nat) => D.int i) (f := fun (i : Nat) => .int i) (iv_rngN (ea_c (EV.d1 (e_cb1 (ea_c (e_var rfl) ea_nil) (cd_lenS (by omega)))) ea_nil) (by omega)) (by rw [List.length_range]; omega) (fun i k hk => ?_) (fun i p hp _ => e_var rfl)) fun e he => by rw [he]; exact q
  have hk' : k < s.length := List.mem_range.mp (List.mem_of_getElem? hk)
  refine (et_and1 (et_neS (e_opd (e_var rfl) (e_var rfl) (od_ixS (j := k) rfl (get_of_lt hk') (by omega))) (e_str (s := [46]) (by decide +kernel))) (fun _ => et_eqS (e_opd (e_var rfl) (e_var rfl) (od_ixS (j := k) rfl (get_of_lt (by omega)) (by omega))) (e_str (s := [46]) (by decide +kernel)))).is ?_
  rw [str1, str1]

theorem ok_law_fits (T : Txt K mg) (G_law_fresh : FnOk P w K mg base CX0 1 T.a_law_fresh T.d_law_fresh ["_law_s", "_law_told"] (SpE Rg_law_fresh)) : FnOk P w K mg base CX0 2 T.a_law_fits T.d_law_fits ["_law_s", "_law_r", "_law_told"] (SpE Rg_law_fits) := by
  refine T.F_law_fits.ok sc_law_fits (fun vs H Q E h => spE_len h len_law_fits) (fun cdv A outer s H vs Q E hr h => ?_)
  have hu := hu64 hr
  have hvl : vs.length = 3 := spE_len h len_law_fits
  refine ⟨_, (pss_cons (ps_set (i := 3) sc_law_fits.nd rfl (Or.inl rfl) (pe_call G_law_fresh (hr.mono (by decide)) (by rfl) T.g_law_fresh T.F_law_fresh.kp (b_law_fresh T) .nil pass0 (pa_cons (pv 0) (pa_cons (pv 2) pa_nil)))) (pss_one (ps_ret (pe_and (pe_cmpR (op_neK (K := K) rfl hu) (pv 3) (pe_lst pa_nil) (nomark _)) (pe_one (pe_cmpR (op_eqK (K := K) rfl hu) (pe_lc (own := [("_law_k", 4)]) (g := gName 4) (tt := _) rfl sc_law_fits.nd (pi_listK (K := K) rfl (pv 3)) (blkOk_by (N := N_law_fits) (sc := defScope s_law_fits) (by decide +kernel)) (fun _ _ _ _ _ => (pg_name (i := 4) sc_law_fits.nd rfl (Or.inl rfl))) (fun _ _ _ _ _ => (pts_one (pt_cmpR (op_neK (K := K) rfl hu) (pe_ix (ix_K (K := K) rfl) (pv 1) (pv 4) (fun _ _ => rfl)) (pe_ix (ix_K (K := K) rfl) (pv 0) (pv 4) (fun _ _ => rfl)) (nomark _)))) (fun _ _ _ _ _ => (pv 4))) (pe_lst pa_nil) (nomark _))))))), fn_body h (by rw [hvl]; decide) (fun ds R hR hl => ?_)⟩
  obtain ⟨s, r, t, rfl, h1, h2, h3, q⟩ := hR
  rw [← fits_canT] at q
  refine q_asgo (e_call0 (ea_c (e_var rfl) (ea_c (e_var rfl) ea_nil)) ⟨s, t, rfl, h1, h3, rfl⟩) ?_
  refine t_freeze (i := 3) (ds := (frs s t).map fun (i : Nat) => .int i) rfl ?_
  have okI : ∀ (l : List Nat), ∀ d ∈ l.map (fun (i : Nat) => D.int i), d.ok = true := fun l d hd => by
    obtain ⟨i, _, rfl⟩ := List.mem_map.mp hd
    rfl
  have emp : ∀ (l : List Nat), (l.map fun (i : Nat) => D.int i).isEmpty = l.isEmpty := fun l => by cases l <;> rfl
  refine t_ret1 (e_and (e_opd (e_var rfl) (EV.o1 (e_lst1 ea_nil (by decide))) (od_neN (okI _))) fun _ => e_opd (EV.o1 (lc1_filt (ds := frs s t) (t := fun k => !decide (r.getD k 0 = s.getD k 0)) (emb := fun (i : Nat) => D.int i) (f := fun (i : Nat) => .int i) (iv_list1 (e_var rfl)) (by have := List.length_filter_le (fun k => !decide (s.getD k 0 = 46) && decide (t.getD k 0 = 46)) (List.range s.length); rw [List.length_range] at this; unfold frs; omega) (fun i k hk => ?_) (fun i p hp _ => e_var rfl))) (EV.o1 (e_lst1 ea_nil (by decide))) (od_eqN (okI _))) ?_
  · have hk' : k < s.length := outs_lt (mem_frs.mp (List.mem_of_getElem? hk))
    refine (et_neS (e_opd (e_var rfl) (e_var rfl) (od_ixS (j := k) rfl (get_of_lt (by omega)) (by omega))) (e_opd (e_var rfl) (e_var rfl) (od_ixS (j := k) rfl (get_of_lt hk') (by omega)))).is ?_
    rw [str1]
  · rw [emp, emp]
    exact q




end
end Nt

namespace Nt
open PySem PySem.Spec PyProof.Rows L2


def RowV (cs : List (List Nat × Nat)) (r : List Nat) : Prop := r.length = cs.length ∧ ∀ (i c : Nat) (m : List Nat × Nat), r[i]? = some c → cs[i]? = some m → c = 46 ∨ (48 ≤ c ∧ c < 48 + m.2)
/-- cells as they are drawn -/
def CsV (cs : List (List Nat × Nat)) : Prop := cs.length ≤ 20 ∧ ∀ c ∈ cs, 1 ≤ c.2 ∧ c.2 ≤ 4
theorem rowV_snoc {cs : List (List Nat × Nat)} {r : List Nat} {c : Nat} {m : List Nat × Nat} (h : RowV cs r) (hc : c = 46 ∨ (48 ≤ c ∧ c < 48 + m.2)) : RowV (cs ++ [m]) (r ++ [c]) := by
  refine ⟨by rw [List.length_append, List.length_append, h.1]; rfl, fun i x y h1 h2 => ?_⟩
  by_cases hi : i < r.length
  · rw [List.getElem?_append_left hi] at h1
    rw [List.getElem?_append_left (by rw [← h.1]; exact hi)] at h2
    exact h.2 i x y h1 h2
  · rw [List.getElem?_append_right (by omega)] at h1
    rw [List.getElem?_append_right (by rw [← h.1]; omega)] at h2
    have e : i - r.length = 0 := by
      have := (List.getElem?_eq_some_iff.mp h1).1
      simp at this; omega
    rw [e] at h1
    rw [← h.1, e] at h2
    cases h1; cases h2; exact hc
theorem rowV_set {cs : List (List Nat × Nat)} {r : List Nat} {k c : Nat} {m : List Nat × Nat} (h : RowV cs r) (hm : cs[k]? = some m) (hc : c = 46 ∨ (48 ≤ c ∧ c < 48 + m.2)) : RowV cs (r.take k ++ [c] ++ r.drop (k + 1)) := by
  have hk : k < cs.length := (List.getElem?_eq_some_iff.mp hm).1
  have e : r.take k ++ [c] ++ r.drop (k + 1) = r.set k c := by
    rw [List.set_eq_take_append_cons_drop, if_pos (by rw [h.1]; exact hk), List.append_assoc]; rfl
  rw [e]
  refine ⟨by rw [List.length_set, h.1], fun i x y h1 h2 => ?_⟩
  rcases set_get h1 with ⟨q1, q2, _⟩ | ⟨_, q⟩
  · rw [q1, hm] at h2
    cases h2
    rw [q2]; exact hc
  · exact h.2 i x y q h2
theorem mem_digits {c m : Nat} (hm : m ≤ 4) : c ∈ [48, 49, 50, 51].take m ↔ 48 ≤ c ∧ c < 48 + m := by
  have h5 : m = 0 ∨ m = 1 ∨ m = 2 ∨ m = 3 ∨ m = 4 := by omega
  rcases h5 with h | h | h | h | h <;> subst h <;> simp <;> omega
theorem rowV_ok {cs : List (List Nat × Nat)} {r : List Nat} (hc : CsV cs) (h : RowV cs r) : CR cs r := by
  refine ⟨h.1, hc.1, fun c hm => (hc.2 c hm).2, ?_⟩
  unfold rowOk
  rw [List.all_eq_true]
  intro b hb
  obtain ⟨p, hp, rfl⟩ := List.mem_map.mp hb
  obtain ⟨i, hi⟩ := List.mem_iff_getElem?.mp hp
  obtain ⟨h1, h2⟩ := zip_get hi
  have hm := hc.2 _ (List.mem_of_getElem? h2)
  show (decide (p.1 = 46) || decide (p.1 ∈ [48, 49, 50, 51].take p.2.2)) = true
  rw [Bool.or_eq_true, decide_eq_true_eq, decide_eq_true_eq, mem_digits hm.2]
  exact h.2 i _ _ h1 h2
section
variable {K : PySem.W.Frag} {ρ : List En} {ta tb to te : TE} {X : XK}
theorem e_draw {k : Int} (h1 : ED ta ρ (· = .bag)) (h2 : ED tb ρ (· = .int k)) (hk : 1 ≤ k) (hk2 : k ≤ 1000) : ED (tCall (SpE Rg_law_draw) [] X (tCons ta (tCons tb tNil))) ρ (fun d => ∃ j : Nat, d = .int j ∧ (j : Int) < k) :=
  EV.ed (R := fun e => ∃ j : Nat, e = .dat (.int j) ∧ (j : Int) < k) (e_call0 (ea_c h1 (ea_c h2 ea_nil)) ⟨k, rfl, hk, by
    obtain ⟨n, rfl⟩ : ∃ n : Nat, k = n := ⟨k.toNat, by omega⟩
    exact log_small (by omega), fun j j0 j1 => ⟨j.toNat, by rw [show ((j.toNat : Nat) : Int) = j by omega], by omega⟩⟩) fun e ⟨j, hj, hl⟩ => ⟨.int j, by rw [hj]; rfl, j, rfl, hl⟩
theorem e_of {x : D} {xs : List D} (h1 : ED ta ρ (· = .bag)) (h2 : ED tb ρ (· = x)) (hx : Src x xs) (hl : 1 ≤ xs.length) (hl2 : xs.length ≤ 1000) : ED (tCall (SpE Rg_law_of) [] X (tCons ta (tCons tb tNil))) ρ (fun d => d ∈ xs) :=
  EV.ed (R := fun e => ∃ d, d ∈ xs ∧ e = .dat d) (e_call0 (ea_c h1 (ea_c h2 ea_nil)) ⟨x, xs, rfl, hx, hl, hl2, fun d hd => ⟨d, hd, rfl⟩⟩) fun e ⟨d, hd, he⟩ => ⟨d, by rw [he]; rfl, hd⟩
/-- join of signs -/
theorem e_joinP {G : List Nat → Prop} (h0 : ED to ρ (· = .str [])) (h : EV te ρ (fun e => ∃ l : List Nat, e = .own (l.map fun c => .str [c]) ∧ G l ∧ l.length ≤ 100000)) : ED (tM1 (rJoin K) to te) ρ (fun d => ∃ l, d = .str l ∧ G l) := by
  refine EV.ed (R := fun e => ∃ l, e = .dat (.str l) ∧ G l) (e_m1 h0 (EV.ed (P := fun d => ∃ l : List Nat, d = .lst (l.map fun c => .str [c]) ∧ G l ∧ l.length ≤ 100000) h fun e ⟨l, e1, a, b⟩ => ⟨_, by rw [e1]; rfl, l, rfl, a, b⟩) fun y ⟨l, hy, a, b⟩ => ?_) fun e ⟨l, e1, a⟩ => ⟨_, by rw [e1]; rfl, l, rfl, a⟩
  subst hy
  have e : (l.map fun c => D.str [c]) = (l.map fun c => [c]).map D.str := by rw [List.map_map]; rfl
  rw [e]
  intro W v vs r rs Q q
  refine md_join (by rw [flat1 l (fun c => c), List.map_id']; exact b) W v vs r rs Q fun u e W' g r p => q u e W' g r ⟨l, ?_, a⟩
  rw [p, flat1 l (fun c => c), List.map_id']
/-- r[:k] + sign + r[k + 1:] -/
theorem e_glue {r : List Nat} {k : Nat} {G : Nat → Prop} {t1 t2 t3 t4 t5 : TE} (hk : k < r.length) (hr : r.length ≤ 1000) (h1 : ED t1 ρ (· = .str r)) (h2 : ED t2 ρ (· = .int k)) (h3 : ED t3 ρ (fun d => ∃ c, d = .str [c] ∧ G c)) (h4 : ED t4 ρ (· = .str r)) (h5 : ED t5 ρ (· = .int ((k : Int) + 1))) :
    ED (tOp rPlus (tOp rPlus (tSl (rSlU K) t1 tNoPart (tPart t2)) t3) (tSl (rSlU K) t4 (tPart t5) tNoPart)) ρ (fun d => ∃ c, d = .str (r.take k ++ [c] ++ r.drop (k + 1)) ∧ G c) := by
  have s1 : ED (tSl (rSlU K) t1 tNoPart (tPart t2)) ρ (· = .str (r.take k)) := by
    rw [← cut_to (xs := r) (i := (k : Int)) rfl (by omega)]
    exact EV.d1 (e_sl h1 eo_none (eo_part h2) (sd_str (by omega)))
  have s2 : ED (tSl (rSlU K) t4 (tPart t5) tNoPart) ρ (· = .str (r.drop (k + 1))) := by
    rw [← cut_from (xs := r) (i := ((k : Int) + 1)) (k := k + 1) (by omega) (by omega)]
    exact EV.d1 (e_sl h4 (eo_part h5) eo_none (sd_str (by omega)))
  refine EV.ed (R := fun e => ∃ c, e = .dat (.str (r.take k ++ [c] ++ r.drop (k + 1))) ∧ G c) (e_op (PA := fun d => ∃ c, d = .str (r.take k ++ [c]) ∧ G c) (PB := fun d => d = .str (r.drop (k + 1))) (EV.ed (R := fun e => ∃ c, e = .dat (.str (r.take k ++ [c])) ∧ G c) (e_op s1 h3 fun x y hx ⟨c, hy, hc⟩ => ?_) fun e ⟨c, e1, a⟩ => ⟨_, by rw [e1]; rfl, c, rfl, a⟩) s2 fun x y ⟨c, hx, hc⟩ hy => ?_) fun e ⟨c, e1, a⟩ => ⟨_, by rw [e1]; rfl, c, rfl, a⟩
  · subst hx hy
    intro W v w' r1 r2 Q q
    exact od_addS (by rw [List.length_take]; simp; omega) W v w' r1 r2 Q fun u e W' g r p => q u e W' g r ⟨c, p, hc⟩
  · subst hx hy
    intro W v w' r1 r2 Q q
    exact od_addS (by rw [List.length_append, List.length_take, List.length_drop]; simp; omega) W v w' r1 r2 Q fun u e W' g r p => q u e W' g r ⟨c, p, hc⟩
/-- str(draw(bag, m)) -/
theorem e_dig {k : Nat} (hk : 1 ≤ k) (hk2 : k ≤ 9) (h1 : ED ta ρ (· = .bag)) (h2 : ED tb ρ (· = .int k)) : ED (tCB rStrI (tCons (tCall (SpE Rg_law_draw) [] X (tCons ta (tCons tb tNil))) tNil)) ρ (fun d => ∃ c, d = .str [c] ∧ 48 ≤ c ∧ c < 48 + k) :=
  EV.ed (R := fun e => ∃ c, e = .dat (.str [c]) ∧ 48 ≤ c ∧ c < 48 + k) (e_cb (ea_1 (e_draw h1 h2 (by omega) (by omega))) fun ds ⟨x, e1, j, e2, hj⟩ => by
    subst e1 e2
    intro W vs r Q q
    exact cd_digit (n := j) (by omega) W vs r Q fun u e W' g r p => q u e W' g r ⟨48 + j, p, by omega, by omega⟩) fun e ⟨c, e1, a⟩ => ⟨_, by rw [e1]; rfl, c, rfl, a⟩
end
/-! pigeons -/
theorem nodup_len {α : Type} [BEq α] [LawfulBEq α] : ∀ {l m : List α}, l.Nodup → (∀ x ∈ l, x ∈ m) → l.length ≤ m.length
  | [], _, _, _ => Nat.zero_le _
  | a :: l, m, hn, hs => by
    have ha := hs a List.mem_cons_self
    have hn' := List.nodup_cons.mp hn
    have h := nodup_len (l := l) (m := m.erase a) hn'.2 fun x hx => by
      have hne : x ≠ a := fun e => hn'.1 (e ▸ hx)
      exact (List.mem_erase_of_ne hne).mpr (hs x (List.mem_cons_of_mem _ hx))
    rw [List.length_erase_of_mem ha] at h
    have := List.length_pos_of_mem ha
    simp
    omega
def abc : List Nat := [109, 110, 98, 118, 99, 120, 121, 108, 107, 106, 104, 103, 102, 100, 115, 97, 112, 111, 105, 117, 122, 116, 114, 101, 119, 113]
theorem abc_left {L : List (List Nat)} (h : L.length ≤ 25) : abc.filter (fun c => !decide ([c] ∈ L)) ≠ [] := by
  intro hn
  rw [List.filter_eq_nil_iff] at hn
  have h1 : ∀ x ∈ abc.map (fun c => [c]), x ∈ L := fun x hx => by
    obtain ⟨c, hc, rfl⟩ := List.mem_map.mp hx
    have := hn c hc
    simpa using this
  have := nodup_len (l := abc.map fun c => [c]) (m := L) (by decide +kernel) h1
  rw [List.length_map] at this
  have e : abc.length = 26 := by decide +kernel
  omega
theorem erase_perm {α : Type} : ∀ {l : List α} {k : Nat} (h : k < l.length), (l[k] :: l.eraseIdx k).Perm l
  | a :: l, 0, h => List.Perm.refl _
  | a :: l, k + 1, h => by
    have := erase_perm (l := l) (k := k) (by simpa using h)
    exact (List.Perm.swap _ _ _).trans (this.cons a)
def Rg_law_row (ds : List D) (P : En → Prop) : Prop := ∃ (cs : List (List Nat × Nat)) (th : Int), ds = [.bag, .lst (cs.map cellD), .int th] ∧ CsV cs ∧ ∀ r, RowV cs r → P (.dat (.str r))
abbrev NmV (s : List Nat) : Prop := s.length ≤ 6 ∧ ∀ c ∈ s, c < 0x110000
def Rg_law_title (ds : List D) (P : En → Prop) : Prop := ∃ (L : List (List Nat)), ds = [.bag, .lst (L.map .str)] ∧ L.length ≤ 25 ∧ ∀ s : List Nat, NmV s → P (.dat (.str s))
def Rg_law_frame (ds : List D) (P : En → Prop) : Prop := ∃ (n w : Nat), ds = [.bag, .int n, .int w] ∧ n ≤ 20 ∧ 1 ≤ w ∧ w ≤ 4 ∧ ∀ cs : List (List Nat × Nat), cs.length = n → (∀ c ∈ cs, (1 ≤ c.2 ∧ c.2 ≤ w) ∧ NmV c.1) → P (.own (cs.map cellD))
def Rg_law_once (ds : List D) (P : En → Prop) : Prop := ∃ (S : List (List Nat)), ds = [.lst (S.map .str)] ∧ S.length ≤ 1000 ∧ ∀ S' : List (List Nat), (∀ s, s ∈ S' ↔ s ∈ S) → S'.length ≤ S.length → S'.Nodup → S'.Sublist S → P (.own (S'.map .str))
def Rg_law_stack (ds : List D) (P : En → Prop) : Prop := ∃ (cs : List (List Nat × Nat)) (n : Nat), ds = [.bag, .lst (cs.map cellD), .int n] ∧ CsV cs ∧ 1 ≤ cs.length ∧ 1 ≤ n ∧ n ≤ 900 ∧ ∀ S : List (List Nat), S ≠ [] → S.length ≤ n → (∀ s ∈ S, RowV cs s) → P (.own (S.map .str))
def Rg_law_size (ds : List D) (P : En → Prop) : Prop := ds = [.bag] ∧ ∀ n : Nat, 1 ≤ n → n ≤ 6 → P (.dat (.int n))
def Rg_law_mixed (ds : List D) (P : En → Prop) : Prop := ∃ xs : List D, ds = [.bag, .lst xs] ∧ xs.length ≤ 1000 ∧ ∀ ys : List D, ys.Perm xs → P (.own ys)
theorem len_law_row (ds P) (h : Rg_law_row ds P) : ds.length = 3 := by obtain ⟨_, _, rfl, _⟩ := h; rfl
theorem len_law_title (ds P) (h : Rg_law_title ds P) : ds.length = 2 := by obtain ⟨_, rfl, _⟩ := h; rfl
theorem len_law_frame (ds P) (h : Rg_law_frame ds P) : ds.length = 3 := by obtain ⟨_, _, rfl, _⟩ := h; rfl
theorem len_law_once (ds P) (h : Rg_law_once ds P) : ds.length = 1 := by obtain ⟨_, rfl, _⟩ := h; rfl
theorem len_law_stack (ds P) (h : Rg_law_stack ds P) : ds.length = 3 := by obtain ⟨_, _, rfl, _⟩ := h; rfl
theorem len_law_size (ds P) (h : Rg_law_size ds P) : ds.length = 1 := by obtain ⟨rfl, _⟩ := h; rfl
theorem len_law_mixed (ds P) (h : Rg_law_mixed ds P) : ds.length = 2 := by obtain ⟨_, rfl, _⟩ := h; rfl
section
variable {P : Program} {w : World} {K : PySem.W.Frag} {mg : Str → Option Value} {base : Heap}
theorem b_law_row (T : Txt K mg) : Binds K T.d_law_row ["_law_bag_here", "_law_frame_here", "_law_thin"] [] := by
  obtain ⟨ds, v, b⟩ := T.F_law_row.binds1 (ps := ["_law_bag_here", "_law_frame_here", "_law_thin"]) 3 1 (by simp) (by rfl) fun _ _ _ _ _ _ _ us its hu hi => match us, its, hu, hi with
    | [_, _, _], [_], _, _ => ⟨_, rfl, rfl⟩
  cases v
  exact b
theorem ok_law_row (T : Txt K mg) (G_law_draw : FnOk P w K mg base CX0 1 T.a_law_draw T.d_law_draw ["_law_bag_here", "_law_sides"] (SpE Rg_law_draw)) : FnOk P w K mg base CX0 2 T.a_law_row T.d_law_row ["_law_bag_here", "_law_frame_here", "_law_thin"] (SpE Rg_law_row) := by
  refine T.F_law_row.ok sc_law_row (fun vs H Q E h => spE_len h len_law_row) (fun cdv A outer s H vs Q E hr h => ?_)
  have hu := hu64 hr
  have hvl : vs.length = 3 := spE_len h len_law_row
  refine ⟨_, (pss_one (ps_ret (pe_joinK (K := K) rfl pe_str (pe_lc (own := [("_law_pair", 3)]) (g := gName 3) (tt := tYes) rfl sc_law_row.nd (pi_listK (K := K) rfl (pv 1)) (blkOk_by (N := N_law_row) (sc := defScope s_law_row) (by decide +kernel)) (fun _ _ _ _ _ => (pg_name (i := 3) sc_law_row.nd rfl (Or.inl rfl))) (fun _ _ _ _ _ => pts_nil) (fun _ _ _ _ _ => (pe_ifExp (pt_cmpR op_lt (pe_call G_law_draw (hr.mono (by decide)) (by rfl) T.g_law_draw T.F_law_draw.kp (b_law_draw T) .nil pass0 (pa_cons (pv 0) (pa_cons pe_int pa_nil))) (pv 2) (nomark _)) pe_str (pe_callTy call_strI (by rfl) T.n_str (by decide +kernel) (pa_cons (pe_call G_law_draw (hr.mono (by decide)) (by rfl) T.g_law_draw T.F_law_draw.kp (b_law_draw T) .nil pass0 (pa_cons (pv 0) (pa_cons (pe_ix (ix_K (K := K) rfl) (pv 3) pe_int (fun _ _ => rfl)) pa_nil))) pa_nil)))))))), fn_body h (by rw [hvl]; decide) (fun ds R hR hl => ?_)⟩
  obtain ⟨cs, th, rfl, hcs, q⟩ := hR
  refine t_retd (PD := fun d => ∃ r, d = .str r ∧ RowV cs r) (e_joinP (e_str rfl) ((e_lc1 (T := fun ds => ds = cs.map cellD) (Inv := fun _ i acc => ∃ l : List Nat, acc = l.map (fun c => .str [c]) ∧ RowV (cs.take i) l) (iv_list1 (e_var rfl)) (fun ds e => by rw [e, List.length_map]; have := hcs.1; omega) (fun ds e => ⟨[], rfl, by simp [RowV]⟩) fun ds i d acc e hd ⟨l, ha, hl⟩ => ?_).imp fun e ⟨ds, acc, e1, e2, l, e3, hl⟩ => ?_)) fun d ⟨r, e, hr⟩ => by rw [e]; exact q r hr
  · subst e
    obtain ⟨m, hm, rfl⟩ := map_get hd
    have hmm := hcs.2 m (List.mem_of_getElem? hm)
    refine et_yes.imp fun b hb => ?_
    rw [hb]
    refine iteT ?_
    refine ED.imp (P := fun y => ∃ c, y = .str [c] ∧ (c = 46 ∨ (48 ≤ c ∧ c < 48 + m.2))) (e_ifd (T := fun _ => True) (et_test (EV.ed (R := fun e => ∃ b, e = .dat (.bl b)) (e_op (PA := fun d => ∃ j : Nat, d = .int j ∧ (j : Int) < 5) (PB := fun d => d = .int th) (e_draw (e_var rfl) e_int (by decide) (by decide)) (e_var rfl) fun x y ⟨j, hx, _⟩ hy => ?_) fun e ⟨b, hb⟩ => ⟨.bl b, by rw [hb]; rfl, b, rfl, trivial⟩)) (fun _ => (e_str (s := [46]) (by decide +kernel)).imp fun d hd => ⟨46, hd, .inl rfl⟩) (fun _ => (e_dig (k := m.2) hmm.1 (by omega) (e_var rfl) (e_opd (e_var rfl) e_int (od_ixT (j := 1) rfl rfl))).imp fun d ⟨c, e, h⟩ => ⟨c, e, .inr h⟩)) fun y ⟨c, hy, hc⟩ => ⟨l ++ [c], ?_, ?_⟩
    · subst hx hy
      intro W v w' r1 r2 Q q
      exact od_lt W v w' r1 r2 Q fun u e W' g r p => q u e W' g r ⟨_, p⟩
    · rw [ha, hy, List.map_append]; rfl
    · rw [take_step hm]
      exact rowV_snoc hl hc
  · rw [e2, List.length_map, take_all] at hl
    exact ⟨l, by rw [e1, e3], hl, by have := hl.1; have := hcs.1; omega⟩

theorem ok_law_title (T : Txt K mg) (G_law_draw : FnOk P w K mg base CX0 1 T.a_law_draw T.d_law_draw ["_law_bag_here", "_law_sides"] (SpE Rg_law_draw)) (G_law_of : FnOk P w K mg base CX0 2 T.a_law_of T.d_law_of ["_law_bag_here", "_law_things"] (SpE Rg_law_of)) : FnOk P w K mg base CX0 3 T.a_law_title T.d_law_title ["_law_bag_here", "_law_taken"] (SpE Rg_law_title) := by
  refine T.F_law_title.ok sc_law_title (fun vs H Q E h => spE_len h len_law_title) (fun cdv A outer s H vs Q E hr h => ?_)
  have hu := hu64 hr
  have hvl : vs.length = 2 := spE_len h len_law_title
  refine ⟨_, (pss_cons (ps_if (pt_cmpR (op_eqK (K := K) rfl hu) (pe_call G_law_draw (hr.mono (by decide)) (by rfl) T.g_law_draw T.F_law_draw.kp (b_law_draw T) .nil pass0 (pa_cons (pv 0) (pa_cons pe_int pa_nil))) pe_int (nomark _)) (pss_one (ps_set (i := 2) sc_law_title.nd rfl (Or.inl rfl) (pe_call G_law_of (hr.mono (by decide)) (by rfl) T.g_law_of T.F_law_of.kp (b_law_of T) .nil pass0 (pa_cons (pv 0) (pa_cons (pe_lst (pa_cons pe_str (pa_cons pe_str (pa_cons pe_str (pa_cons pe_str (pa_cons pe_str (pa_cons pe_str (pa_cons pe_str (pa_cons pe_str (pa_cons pe_str pa_nil)))))))))) pa_nil))))) (pss_one (ps_set (i := 2) sc_law_title.nd rfl (Or.inl rfl) (pe_joinK (K := K) rfl pe_str (pe_lc (own := [("_law_k", 3)]) (g := gName 3) (tt := tYes) rfl sc_law_title.nd (pi_range1 (by rfl) T.n_range (pa_cons (pe_op op_plus pe_int (pe_call G_law_draw (hr.mono (by decide)) (by rfl) T.g_law_draw T.F_law_draw.kp (b_law_draw T) .nil pass0 (pa_cons (pv 0) (pa_cons pe_int pa_nil)))) pa_nil)) (blkOk_by (N := N_law_title) (sc := defScope s_law_title) (by decide +kernel)) (fun _ _ _ _ _ => (pg_name (i := 3) sc_law_title.nd rfl (Or.inl rfl))) (fun _ _ _ _ _ => pts_nil) (fun _ _ _ _ _ => (pe_call G_law_of (hr.mono (by decide)) (by rfl) T.g_law_of T.F_law_of.kp (b_law_of T) .nil pass0 (pa_cons (pv 0) (pa_cons pe_str pa_nil))))))))) (pss_cons (ps_if (pt_cmpR (op_inK (K := K) rfl) (pv 2) (pv 1) (by rfl)) (pss_one (ps_set (i := 2) sc_law_title.nd rfl (Or.inl rfl) (pe_ix (ix_K (K := K) rfl) (pe_lc (own := [("_law_sign", 4)]) (g := gName 4) (tt := _) rfl sc_law_title.nd (pi_str pe_str) (blkOk_by (N := N_law_title) (sc := defScope s_law_title) (by decide +kernel)) (fun _ _ _ _ _ => (pg_name (i := 4) sc_law_title.nd rfl (Or.inl rfl))) (fun _ _ _ _ _ => (pts_one (pt_cmpR (op_notInK (K := K) rfl) (pv 4) (pv 1) (by rfl)))) (fun _ _ _ _ _ => (pv 4))) pe_int (fun _ _ => rfl)))) pss_nil) (pss_one (ps_ret (pv 2))))), fn_body h (by rw [hvl]; decide) (fun ds R hR hl => ?_)⟩
  obtain ⟨L, rfl, hL, q⟩ := hR
  refine t_seq (M := fun ρ' => ∃ s x y, ρ' = [.dat .bag, .dat (.lst (L.map .str)), .dat (.str s), x, y] ∧ NmV s) (t_if (T := fun _ => True) (et_test (EV.ed (R := fun e => ∃ b, e = .dat (.bl b)) (e_op (PA := fun d => ∃ j : Nat, d = .int j ∧ (j : Int) < 8) (PB := fun d => d = .int 0) (e_draw (e_var rfl) e_int (by decide) (by decide)) e_int fun x y ⟨j, hx, _⟩ hy => ?_) fun e ⟨b, hb⟩ => ⟨.bl b, by rw [hb]; rfl, b, rfl, trivial⟩)) (fun _ => ?_) (fun _ => ?_)) fun ρ' m => ?_
  · subst hx hy
    intro W v w' r1 r2 Q q
    exact od_eqI W v w' r1 r2 Q fun u e W' g r p => q u e W' g r ⟨_, p⟩
  · refine t_asgd (PD := fun d => ∃ s, d = .str s ∧ NmV s) ((e_of (e_var rfl) (EV.o1 (e_lst1 (ea_c e_strz (ea_c e_strz (ea_c e_strz (ea_c e_strz (ea_c e_strz (ea_c e_strz (ea_c e_strz (ea_c e_strz (ea_c e_strz ea_nil))))))))) (by simp))) (.lst _) (by simp) (by simp)).imp fun d hd => ?_) fun d ⟨s, e, hs⟩ => by subst e; exact ⟨s, _, _, rfl, hs⟩
    simp only [List.mem_cons, List.not_mem_nil, or_false] at hd
    rcases hd with h | h | h | h | h | h | h | h | h <;> subst h <;> exact ⟨_, rfl, by decide +kernel, by decide +kernel⟩
  · have hrng : ∀ (X : XK) (ρ0 : List En), ρ0[0]? = some (.dat .bag) → EA (tCons (tOp rPlus (tC (.int 1)) (tCall (SpE Rg_law_draw) [] X (tCons (tVar 0) (tCons (tC (.int 6)) tNil)))) tNil) ρ0 (fun ds => ∃ n : Int, ds = [.int n] ∧ n ≤ 100000 ∧ -100000 ≤ n ∧ n ≤ 6) := fun X ρ0 h0 =>
      (ea_1 (P := fun d => ∃ j : Nat, d = .int (1 + (j : Int)) ∧ j < 6) (EV.ed (R := fun e => ∃ j : Nat, e = .dat (.int (1 + (j : Int))) ∧ j < 6) (e_op (PA := fun d => d = .int 1) (PB := fun d => ∃ j : Nat, d = .int j ∧ (j : Int) < 6) e_int (e_draw (e_var h0) e_int (by decide) (by decide)) fun x y hx ⟨j, hy, hj⟩ => by
        subst hx hy
        intro W v w' r1 r2 Q q
        exact od_addI W v w' r1 r2 Q fun u e W' g r p => q u e W' g r ⟨j, p, by omega⟩) fun e ⟨j, e1, hj⟩ => ⟨.int (1 + (j : Int)), by rw [e1]; rfl, j, rfl, hj⟩)).imp fun ds ⟨x, e, j, ex, hj⟩ => ⟨1 + (j : Int), by rw [e, ex], by omega, by omega, by omega⟩
    refine t_asgd (PD := fun d => ∃ s, d = .str s ∧ NmV s) (e_joinP (G := NmV) (e_str rfl) ((e_lc1 (T := fun ds => ∃ n : Int, ds = ixs n.toNat ∧ n ≤ 6) (Inv := fun _ i acc => ∃ l : List Nat, acc = l.map (fun c => .str [c]) ∧ l.length = i ∧ ∀ c ∈ l, c < 0x110000) (iv_rngP (T := fun n => n ≤ 6) (hrng _ _ rfl)) (fun ds ⟨n, e, hn⟩ => by rw [e]; simp [ixs]; omega) (fun ds e => ⟨[], rfl, rfl, by simp⟩) fun ds i d acc e hd ⟨l, ha, hl, hv⟩ => ?_).imp fun e ⟨ds, acc, e1, ⟨n, e2, hn⟩, l, e3, hl, hv⟩ => ⟨l, by rw [e1, e3], ⟨?_, hv⟩, ?_⟩)) fun d ⟨s, e, hs⟩ => by subst e; exact ⟨s, _, _, rfl, hs⟩
    · refine et_yes.imp fun b hb => ?_
      rw [hb]
      refine iteT ((e_of (e_var rfl) e_strz (.str _) (by decide +kernel) (by decide +kernel)).imp fun y hy => ?_)
      obtain ⟨c, hcm, rfl⟩ := List.mem_map.mp hy
      exact ⟨l ++ [c], by rw [ha, List.map_append]; rfl, by rw [List.length_append, hl]; rfl, fun z hz => by
        rcases List.mem_append.mp hz with h | h
        · exact hv z h
        · rw [List.mem_singleton.mp h]
          exact (show ∀ c ∈ ("qwertzuiopasdfghjklyxcvbnm" : Str).cps.toList, c < 0x110000 by decide +kernel) c hcm⟩
    · rw [hl, e2]; simp [ixs]; omega
    · rw [hl, e2]; simp [ixs]; omega
  · obtain ⟨s, x, y, rfl, hs⟩ := m
    refine q_if1 (b := decide (s ∈ L)) (et_t1 (e_opd (e_var rfl) (e_var rfl) (od_inL (neg := false)))) (fun _ => ?_) fun _ => t_ret1 (e_var rfl) (q s hs)
    refine t_asgd (PD := fun d => ∃ c, d = .str [c] ∧ c < 0x110000) (EV.ed (R := fun e => ∃ c, e = .dat (.str [c]) ∧ c < 0x110000) (e_op (PA := fun d => d = .lst ((abc.filter fun c => !decide ([c] ∈ L)).map fun c => .str [c])) (PB := fun d => d = .int 0) (EV.o1 (lc1_filt (ds := abc) (emb := fun c => .str [c]) (t := fun c => !decide ([c] ∈ L)) (f := fun c => .str [c]) (iv_strS (e_str (s := abc) (by decide +kernel))) (by decide +kernel) (fun i c hc => et_t1 (e_opd (e_var rfl) (e_var rfl) (od_inL (neg := true)))) (fun i c hc _ => e_var rfl))) e_int fun a b ha hb => ?_) fun e ⟨c, e1, hc⟩ => ⟨_, by rw [e1]; rfl, c, rfl, hc⟩) fun d ⟨c, e, hc⟩ => by rw [e]; exact t_ret1 (e_var rfl) (q [c] ⟨by simp, fun z hz => by rw [List.mem_singleton.mp hz]; exact hc⟩)
    subst ha hb
    have hne := abc_left hL
    cases hf : abc.filter (fun c => !decide ([c] ∈ L)) with
    | nil => exact absurd hf hne
    | cons c l =>
      intro W v w' r1 r2 Q q
      exact od_ixL (K := K) (j := 0) rfl rfl W v w' r1 r2 Q fun u e W' g r p => q u e W' g r ⟨c, p, (show ∀ c ∈ abc, c < 0x110000 by decide +kernel) c (List.mem_filter.mp (by rw [hf]; exact List.mem_cons_self)).1⟩

theorem ok_law_frame (T : Txt K mg) (G_law_draw : FnOk P w K mg base CX0 1 T.a_law_draw T.d_law_draw ["_law_bag_here", "_law_sides"] (SpE Rg_law_draw)) (G_law_title : FnOk P w K mg base CX0 3 T.a_law_title T.d_law_title ["_law_bag_here", "_law_taken"] (SpE Rg_law_title)) : FnOk P w K mg base CX0 4 T.a_law_frame T.d_law_frame ["_law_bag_here", "_law_size_here", "_law_widest"] (SpE Rg_law_frame) := by
  refine T.F_law_frame.ok sc_law_frame (fun vs H Q E h => spE_len h len_law_frame) (fun cdv A outer s H vs Q E hr h => ?_)
  have hu := hu64 hr
  have hvl : vs.length = 3 := spE_len h len_law_frame
  refine ⟨_, (pss_cons (ps_par (i := 3) (j := 4) (by rfl) sc_law_frame.nd rfl rfl (by decide) rfl rfl (pa_cons (pe_lst pa_nil) (pa_cons (pe_lst pa_nil) pa_nil)) (by rfl)) (pss_cons (ps_for PassesOwn.never rfl (pi_range1 (by rfl) T.n_range (pa_cons (pv 1) pa_nil)) (pg_name (i := 5) sc_law_frame.nd rfl (Or.inl rfl)) (pss_cons (ps_expr (pe_bm PySem.F.plainAttrs_list PySem.F.slot_list_append PySem.F.type_list_append mt_append (pv 4) (pa_cons (pe_call G_law_title (hr.mono (by decide)) (by rfl) T.g_law_title T.F_law_title.kp (b_law_title T) .nil pass0 (pa_cons (pv 0) (pa_cons (pv 4) pa_nil))) pa_nil))) (pss_one (ps_expr (pe_bm PySem.F.plainAttrs_list PySem.F.slot_list_append PySem.F.type_list_append mt_append (pv 3) (pa_cons (pe_tup (pa_cons (pe_ix (ix_K (K := K) rfl) (pv 4) (pe_un un_neg pe_int) (fun _ _ => rfl)) (pa_cons (pe_op op_plus pe_int (pe_call G_law_draw (hr.mono (by decide)) (by rfl) T.g_law_draw T.F_law_draw.kp (b_law_draw T) .nil pass0 (pa_cons (pv 0) (pa_cons (pv 2) pa_nil)))) pa_nil))) pa_nil)))))) (pss_one (ps_ret (pv 3))))), fn_body h (by rw [hvl]; decide) (fun ds R hR hl => ?_)⟩
  obtain ⟨n, w', rfl, hn, h1, h2, q⟩ := hR
  refine t_seq (M := fun ρ' => ρ' = [.dat .bag, .dat (.int n), .dat (.int w'), .own [], .own [], .un]) (t_par (P1 := fun e => e = .own []) (P2 := fun e => e = .own []) (e_lst1 ea_nil (by simp)) (e_lst1 ea_nil (by simp)) fun a b ha hb => by rw [ha, hb]; rfl) fun ρ' m => ?_
  subst m
  refine t_seq (M := fun ρ' => ∃ (cs : List (List Nat × Nat)) (L : List (List Nat)) (x : En), ρ' = [.dat .bag, .dat (.int n), .dat (.int w'), .own (cs.map cellD), .own (L.map .str), x] ∧ cs.length = n ∧ ∀ c ∈ cs, (1 ≤ c.2 ∧ c.2 ≤ w') ∧ NmV c.1)
    (t_for1 (iv_rngN (ea_c (e_var rfl) ea_nil) (by omega)) (fun ds i ρ' => ∃ (cs : List (List Nat × Nat)) (L : List (List Nat)) (x : En), ρ' = [.dat .bag, .dat (.int n), .dat (.int w'), .own (cs.map cellD), .own (L.map .str), x] ∧ cs.length = i ∧ L.length = i ∧ ∀ c ∈ cs, (1 ≤ c.2 ∧ c.2 ≤ w') ∧ NmV c.1) (fun ds e => ⟨[], [], .un, rfl, rfl, rfl, by simp⟩) (fun ds i d ρ' e hd inv => ?_) (fun ds ρ' e ⟨cs, L, x, a, b, _, c⟩ => ⟨cs, L, x, a, by rw [b, e, List.length_map, List.length_range], c⟩)) fun ρ' m => ?_
  · subst e
    obtain ⟨cs, L, x, rfl, a, b, c⟩ := inv
    obtain ⟨k, hk, rfl⟩ := map_get hd
    have hil := (List.getElem?_eq_some_iff.mp hk).1
    rw [List.length_range] at hil
    refine t_seq (M := fun ρ' => ∃ s : List Nat, ρ' = [.dat .bag, .dat (.int n), .dat (.int w'), .own (cs.map cellD), .own ((L ++ [s]).map .str), .dat (.int (k : Nat))] ∧ NmV s) (t_app (PD := fun d => ∃ s, d = .str s ∧ NmV s) (ds := L.map .str) rfl (e_lend (i := 4) (ds := L.map .str) rfl (EV.ed (R := fun e => ∃ s, e = .dat (.str s) ∧ NmV s) (e_call0 (ea_c (e_var rfl) (ea_c (e_var rfl) ea_nil)) ⟨L, rfl, by omega, fun s hv => ⟨s, rfl, hv⟩⟩) fun e ⟨s, e1, hv⟩ => ⟨.str s, by rw [e1]; rfl, s, rfl, hv⟩) fun d ⟨s, e, _⟩ => by rw [e]; rfl) (by rw [List.length_map]; omega) fun d ⟨s, e, hv⟩ => ⟨s, by rw [e, List.map_append]; rfl, hv⟩) fun ρ' m => ?_
    obtain ⟨s, rfl, hsv⟩ := m
    have hlast : ((L ++ [s]).map D.str)[((L ++ [s]).map D.str).length - 1]? = some (.str s) := by rw [List.map_append, List.length_append]; simp
    refine t_app (PD := fun d => ∃ m : Nat, d = cellD (s, m) ∧ 1 ≤ m ∧ m ≤ w') (ds := cs.map cellD) rfl ((e_tup (T := fun ds => ∃ m : Nat, ds = [.str s, .int m] ∧ 1 ≤ m ∧ m ≤ w') (ea_cons (P := fun d => d = .str s) (T' := fun _ => True) (e_lend (i := 4) (ds := (L ++ [s]).map .str) rfl (e_opd (e_var rfl) (EV.d1 (e_un e_int ud_neg)) (od_ixLlast hlast)) fun d e => by rw [e]; rfl) fun y hy => (ea_1 (P := fun d => ∃ m : Nat, d = .int m ∧ 1 ≤ m ∧ m ≤ w') (EV.ed (R := fun e => ∃ m : Nat, e = .dat (.int m) ∧ 1 ≤ m ∧ m ≤ w') (e_op (PA := fun d => d = .int 1) (PB := fun d => ∃ j : Nat, d = .int j ∧ (j : Int) < w') e_int (e_draw (e_var rfl) (e_var rfl) (by omega) (by omega)) fun a b ha ⟨j, hb, hj⟩ => ?_) fun e ⟨m, e1, h⟩ => ⟨.int m, by rw [e1]; rfl, m, rfl, h⟩)).imp fun ds ⟨z, e, m, ez, h⟩ => ⟨m, by rw [e, ez, hy], h⟩) fun ds ⟨m, e, _⟩ => by rw [e]; simp).imp fun d ⟨ds, e, m, e2, h⟩ => ⟨m, by rw [e, e2]; rfl, h⟩) (by rw [List.length_map]; omega) fun d ⟨m, e, h⟩ => ⟨cs ++ [(s, m)], L ++ [s], .dat (.int (k : Nat)), by rw [e, List.map_append (f := cellD)]; rfl, by rw [List.length_append, a]; rfl, by rw [List.length_append, b]; rfl, fun c' hc' => ?_⟩
    · subst ha hb
      intro W v w2 r1 r2 Q q
      exact od_addI W v w2 r1 r2 Q fun u e W' g r p => q u e W' g r ⟨1 + j, by rw [p]; congr 2, by omega, by omega⟩
    · rcases List.mem_append.mp hc' with hh | hh
      · exact c c' hh
      · rw [List.mem_singleton.mp hh]; exact ⟨h, hsv⟩
  · obtain ⟨cs, L, x, rfl, a, c⟩ := m
    exact t_retO (i := 3) rfl (q cs a c)


theorem ok_law_size (T : Txt K mg) (G_law_of : FnOk P w K mg base CX0 2 T.a_law_of T.d_law_of ["_law_bag_here", "_law_things"] (SpE Rg_law_of)) : FnOk P w K mg base CX0 3 T.a_law_size T.d_law_size ["_law_bag_here"] (SpE Rg_law_size) := by
  refine T.F_law_size.ok sc_law_size (fun vs H Q E h => spE_len h len_law_size) (fun cdv A outer s H vs Q E hr h => ?_)
  have hu := hu64 hr
  have hvl : vs.length = 1 := spE_len h len_law_size
  refine ⟨_, (pss_one (ps_ret (pe_call G_law_of (hr.mono (by decide)) (by rfl) T.g_law_of T.F_law_of.kp (b_law_of T) .nil pass0 (pa_cons (pv 0) (pa_cons (pe_lst (pa_cons pe_int (pa_cons pe_int (pa_cons pe_int (pa_cons pe_int (pa_cons pe_int (pa_cons pe_int (pa_cons pe_int (pa_cons pe_int (pa_cons pe_int (pa_cons pe_int pa_nil))))))))))) pa_nil))))), fn_body h (by rw [hvl]; decide) (fun ds R hR hl => ?_)⟩
  obtain ⟨rfl, q⟩ := hR
  refine t_retd (PD := fun d => ∃ n : Nat, d = .int n ∧ 1 ≤ n ∧ n ≤ 6) ((e_of (e_var rfl) (EV.o1 (e_lst1 (ea_c e_int (ea_c e_int (ea_c e_int (ea_c e_int (ea_c e_int (ea_c e_int (ea_c e_int (ea_c e_int (ea_c e_int (ea_c e_int ea_nil)))))))))) (by simp))) (.lst _) (by simp) (by simp)).imp fun d hd => ?_) fun d ⟨n, e, a, b⟩ => by rw [e]; exact q n a b
  simp only [List.mem_cons, List.not_mem_nil, or_false] at hd
  rcases hd with h | h | h | h | h | h | h | h | h | h <;> subst h
  · exact ⟨2, rfl, by decide, by decide⟩
  · exact ⟨3, rfl, by decide, by decide⟩
  · exact ⟨3, rfl, by decide, by decide⟩
  · exact ⟨4, rfl, by decide, by decide⟩
  · exact ⟨4, rfl, by decide, by decide⟩
  · exact ⟨5, rfl, by decide, by decide⟩
  · exact ⟨3, rfl, by decide, by decide⟩
  · exact ⟨1, rfl, by decide, by decide⟩
  · exact ⟨2, rfl, by decide, by decide⟩
  · exact ⟨6, rfl, by decide, by decide⟩

theorem ok_law_mixed (T : Txt K mg) (G_law_draw : FnOk P w K mg base CX0 1 T.a_law_draw T.d_law_draw ["_law_bag_here", "_law_sides"] (SpE Rg_law_draw)) : FnOk P w K mg base CX0 2 T.a_law_mixed T.d_law_mixed ["_law_bag_here", "_law_things"] (SpE Rg_law_mixed) := by
  refine T.F_law_mixed.ok sc_law_mixed (fun vs H Q E h => spE_len h len_law_mixed) (fun cdv A outer s H vs Q E hr h => ?_)
  have hu := hu64 hr
  have hvl : vs.length = 2 := spE_len h len_law_mixed
  refine ⟨_, (pss_cons (ps_par (i := 2) (j := 3) (by rfl) sc_law_mixed.nd rfl rfl (by decide) rfl rfl (pa_cons (pe_callTy (call_listK (K := K) rfl) (by rfl) T.n_list (by decide +kernel) (pa_cons (pv 1) pa_nil)) (pa_cons (pe_lst pa_nil) pa_nil)) (by rfl)) (pss_cons (ps_for PassesOwn.never rfl (pi_range1 (by rfl) T.n_range (pa_cons (pe_callB (call_lenK (K := K) rfl) (by rfl) T.n_len (by decide +kernel) (pa_cons (pv 1) pa_nil)) pa_nil)) (pg_name (i := 4) sc_law_mixed.nd rfl (Or.inl rfl)) (pss_one (ps_expr (pe_bm PySem.F.plainAttrs_list PySem.F.slot_list_append PySem.F.type_list_append mt_append (pv 3) (pa_cons (pe_bm PySem.F.plainAttrs_list PySem.F.slot_list_pop PySem.F.type_list_pop mt_popAt (pv 2) (pa_cons (pe_call G_law_draw (hr.mono (by decide)) (by rfl) T.g_law_draw T.F_law_draw.kp (b_law_draw T) .nil pass0 (pa_cons (pv 0) (pa_cons (pe_callB (call_lenK (K := K) rfl) (by rfl) T.n_len (by decide +kernel) (pa_cons (pv 2) pa_nil)) pa_nil))) pa_nil)) pa_nil))))) (pss_one (ps_ret (pv 3))))), fn_body h (by rw [hvl]; decide) (fun ds R hR hl => ?_)⟩
  obtain ⟨xs, rfl, hx, q⟩ := hR
  refine t_seq (M := fun ρ' => ρ' = [.dat .bag, .dat (.lst xs), .own xs, .own [], .un]) (t_par (P1 := fun e => e = .own xs) (P2 := fun e => e = .own []) (e_cb1 (ea_c (e_var rfl) ea_nil) cd_list) (e_lst1 ea_nil (by simp)) fun a b ha hb => by rw [ha, hb]; rfl) fun ρ' m => ?_
  subst m
  refine t_seq (M := fun ρ' => ∃ (ys rs : List D) (x : En), ρ' = [.dat .bag, .dat (.lst xs), .own rs, .own ys, x] ∧ ys.Perm xs) (t_for1 (iv_rngN (ea_c (EV.d1 (e_cb1 (ea_c (e_var rfl) ea_nil) cd_lenL)) ea_nil) (by omega)) (fun ds i ρ' => ∃ (ys rs : List D) (x : En), ρ' = [.dat .bag, .dat (.lst xs), .own rs, .own ys, x] ∧ (ys ++ rs).Perm xs ∧ ys.length = i) (fun ds e => ⟨[], xs, .un, rfl, List.Perm.refl _, rfl⟩) (fun ds i d ρ' e hd inv => ?_) (fun ds ρ' e ⟨ys, rs, x, a, b, c⟩ => ⟨ys, rs, x, a, ?_⟩)) fun ρ' m => ?_
  · subst e
    obtain ⟨ys, rs, x, rfl, hp, hl⟩ := inv
    obtain ⟨k, hk, rfl⟩ := map_get hd
    have hil := (List.getElem?_eq_some_iff.mp hk).1
    rw [List.length_range] at hil
    have hlen := hp.length_eq
    rw [List.length_append] at hlen
    refine t_apop (i := 3) (j := 2) (xs := ys) (ys := rs) (by decide) rfl rfl ((ea_1 (P := fun d => ∃ k : Nat, d = .int k ∧ k < rs.length) (e_lend (i := 2) (ds := rs) rfl ((e_draw (k := (rs.length : Int)) (e_var rfl) (EV.d1 (e_cb1 (ea_c (e_var rfl) ea_nil) cd_lenL)) (by omega) (by omega)).imp fun d ⟨j, e, h⟩ => ⟨j, e, by omega⟩) fun d ⟨j, e, _⟩ => by rw [e]; rfl)).imp fun ds ⟨z, e, k, ez, h⟩ => ⟨k, by rw [e, ez], h⟩) (by omega) (by omega) fun k y hy => ⟨ys ++ [y], rs.eraseIdx k, _, rfl, ?_, by rw [List.length_append, hl]; rfl⟩
    refine List.Perm.trans ?_ hp
    rw [List.append_assoc]
    refine List.Perm.append_left ys ?_
    obtain ⟨hkl, rfl⟩ := List.getElem?_eq_some_iff.mp hy
    exact erase_perm hkl
  · have hlen := b.length_eq
    rw [List.length_append, c, e, List.length_map, List.length_range] at hlen
    have hr : rs = [] := List.eq_nil_of_length_eq_zero (by omega)
    rw [hr, List.append_nil] at b
    exact b
  · obtain ⟨ys, rs, x, rfl, hp⟩ := m
    exact t_retO (i := 3) rfl (q ys hp)

end
end Nt

namespace Nt
open PySem PySem.Spec PyProof.Rows L2


/-- one of the four plain kinds -/
def D.scal : D → Bool
  | .non | .bl _ | .int _ | .str _ => true
  | _ => false
def D.sm : Nat → D → Bool
  | n + 1, .tup ds | n + 1, .lst ds => ds.all (D.sm n) && decide (ds.length ≤ 100000)
  | n + 1, .dic [] => decide (1 ≤ n)
  | n + 1, .dic [(.inr _, d)] => decide (1 ≤ n) && D.sm n d
  | _, d => d.scal
theorem e_listD {K : PySem.W.Frag} {ρ : List En} {te : TE} {kd : List (Key × D)} (h : ED te ρ (· = .dic kd)) : EV (tCB rListD (tCons te tNil)) ρ (· = .own (kd.map fun p => match p.1 with | .inl i => D.int i | .inr x => D.str x.cps.toList)) := fun W0 W σ E Q q => h W0 W σ E _ fun v d W1 g1 r1 e1 => by
  subst e1
  cases r1 with
  | dic ha rk =>
    refine ⟨_, _, rfl, W1.le _ _ ha, fun p hp => ?_⟩
    have key : ∀ {kd : List (Key × D)} {kvs : List (Key × V)}, RepK W1.b kd kvs → Reps W1.b (kd.map fun p => match p.1 with | .inl i => D.int i | .inr x => D.str x.cps.toList) (kvs.map fun kv => kV kv.1) := by
      intro kd kvs r
      induction kd generalizing kvs with
      | nil => cases r; exact .nil
      | cons p kd ih =>
        cases r with
        | @cons k _ _ _ _ _ r2 =>
          refine .cons ?_ (ih r2)
          cases k with
          | inl i => exact .int i
          | inr x => exact rep_str x
    obtain ⟨a, c⟩ := new_own g1 hp (key rk)
    exact q _ _ _ a c rfl
theorem e_dget1 {K : PySem.W.Frag} {ρ : List En} {ta tb : TE} {x : Str} {d : D} (h : ED ta ρ (· = .dic [(.inr x, d)])) (hk : ED tb ρ (· = .str x.cps.toList)) : ED (tDGet ta tb) ρ (· = d) := fun W0 W σ E Q q => h W0 W σ E _ fun v z W1 g1 r1 e1 => hk W0 W1 σ (E.grow g1) _ fun u y W2 g2 r2 e2 => by
  subst e1 e2
  have r1' := r1.mono g2.b
  cases r1' with
  | dic ha rk =>
    cases rk with
    | cons rv rr =>
      cases rr
      have e3 : u = kV (.inr x) := by
        cases r2
        exact (tx_eq x).symm
      subst e3
      exact ⟨_, _, rfl, by
        have := DGet.k (k := .inr x) (W2.le _ _ ha)
        simp only [valV, List.find?_cons, decide_true, Option.map_some] at this
        exact this, q _ _ W2 (g1.trans g2) rv rfl⟩
theorem kit_sc {d : D} (h : d.scal = true) : d.pl = true ∧ kitB d.ty "list" = some false ∧ kitB d.ty "tuple" = some false ∧ kitB d.ty "dict" = some false ∧ (∃ b, kitB d.ty "bool" = some b) ∧ (∃ b, kitB d.ty "int" = some b) ∧ (∃ b, kitB d.ty "str" = some b) := by
  cases d with
  | non => exact ⟨rfl, rfl, rfl, rfl, ⟨_, rfl⟩, ⟨_, rfl⟩, ⟨_, rfl⟩⟩
  | bl b => exact ⟨rfl, rfl, rfl, rfl, ⟨_, rfl⟩, ⟨_, rfl⟩, ⟨_, rfl⟩⟩
  | int i => exact ⟨rfl, rfl, rfl, rfl, ⟨_, rfl⟩, ⟨_, rfl⟩, ⟨_, rfl⟩⟩
  | str s => exact ⟨rfl, rfl, rfl, rfl, ⟨_, rfl⟩, ⟨_, rfl⟩, ⟨_, rfl⟩⟩
  | _ => cases h
theorem od_eqSc {K : PySem.W.Frag} {d : D} (h : d.scal = true) (hn : d.isN = false) : OD (rEqU K) d d (· = .dat (.bl true)) := by
  cases d with
  | non => cases hn
  | bl b => have := od_eqB (K := K) (a := b) (b := b); rw [decide_eq_true rfl] at this; exact this
  | int i => have := od_eqI (K := K) (a := i) (b := i); rw [decide_eq_true rfl] at this; exact this
  | str s => have := od_eqS (K := K) (a := s) (b := s); rw [decide_eq_true rfl] at this; exact this
  | _ => cases h
def Rg_same (n : Nat) (ds : List D) (P : En → Prop) : Prop := ∃ d : D, ds = [d, d] ∧ d.sm n = true ∧ P (.dat (.bl true))
abbrev Rg_law_same := Rg_same 5
theorem len_same {n : Nat} (ds P) (h : Rg_same n ds P) : ds.length = 2 := by obtain ⟨_, rfl, _⟩ := h; rfl
theorem len_law_same (ds P) (h : Rg_law_same ds P) : ds.length = 2 := len_same ds P h
section
variable {P : Program} {w : World} {K : PySem.W.Frag} {mg : Str → Option Value} {base : Heap}

theorem ok_law_same0 (T : Txt K mg) : FnOk P w K mg base CX0 1 T.a_law_same T.d_law_same ["_law_found", "_law_due"] (SpE (Rg_same 0)) := by
  refine T.F_law_same.ok sc_law_same (fun vs H Q E h => spE_len h len_same) (fun cdv A outer s H vs Q E hr h => ?_)
  have hu := hu64 hr
  have hvl : vs.length = 2 := spE_len h len_same
  refine ⟨_, (pss_cons (ps_if (PW.pt (pw_or (pt_cmpR op_isNU (pv 1) pe_non (nomark _)) (pw_or1 (pt_cmpR op_isNU (pv 0) pe_non (nomark _))))) (pss_one (ps_ret (pe_and (pe_cmpR op_isNU (pv 1) pe_non (nomark _)) (pe_one (pe_cmpR op_isNU (pv 0) pe_non (nomark _)))))) pss_nil) (pss_cons (ps_if (pt_val (pe_callB (call_isiK2 (K := K) rfl) (by rfl) T.n_isinstance (by decide +kernel) (pa_cons (pv 1) (pa_cons (pe_tup (pa_cons (pe_bltn (v := .ty "list") (by rfl) T.n_list (by decide +kernel) rfl) (pa_cons (pe_bltn (v := .ty "tuple") (by rfl) T.n_tuple (by decide +kernel) rfl) pa_nil))) pa_nil)))) (pss_cons ps_never (pss_one ps_never)) pss_nil) (pss_cons (ps_if (pt_val (pe_callB (call_isiK1 (K := K) rfl) (by rfl) T.n_isinstance (by decide +kernel) (pa_cons (pv 1) (pa_cons (pe_bltn (v := .ty "dict") (by rfl) T.n_dict (by decide +kernel) rfl) pa_nil)))) (pss_cons ps_never (pss_one ps_never)) pss_nil) (pss_cons (ps_if (PW.pt (pw_or (pt_cmpR (op_neK (K := K) rfl hu) (pe_callB (call_isiK1 (K := K) rfl) (by rfl) T.n_isinstance (by decide +kernel) (pa_cons (pv 1) (pa_cons (pe_bltn (v := .ty "bool") (by rfl) T.n_bool (by decide +kernel) rfl) pa_nil))) (pe_callB (call_isiK1 (K := K) rfl) (by rfl) T.n_isinstance (by decide +kernel) (pa_cons (pv 0) (pa_cons (pe_bltn (v := .ty "bool") (by rfl) T.n_bool (by decide +kernel) rfl) pa_nil))) (nomark _)) (pw_or1 (pt_cmpR (op_neK (K := K) rfl hu) (pe_callB (call_isiK1 (K := K) rfl) (by rfl) T.n_isinstance (by decide +kernel) (pa_cons (pv 1) (pa_cons (pe_bltn (v := .ty "int") (by rfl) T.n_int (by decide +kernel) rfl) pa_nil))) (pe_callB (call_isiK1 (K := K) rfl) (by rfl) T.n_isinstance (by decide +kernel) (pa_cons (pv 0) (pa_cons (pe_bltn (v := .ty "int") (by rfl) T.n_int (by decide +kernel) rfl) pa_nil))) (nomark _))))) (pss_one (ps_ret pe_bl)) pss_nil) (pss_one (ps_ret (pe_and (pe_cmpR (op_eqK (K := K) rfl hu) (pe_callB (call_isiK1 (K := K) rfl) (by rfl) T.n_isinstance (by decide +kernel) (pa_cons (pv 1) (pa_cons (pe_bltn (v := .ty "str") (by rfl) T.n_str (by decide +kernel) rfl) pa_nil))) (pe_callB (call_isiK1 (K := K) rfl) (by rfl) T.n_isinstance (by decide +kernel) (pa_cons (pv 0) (pa_cons (pe_bltn (v := .ty "str") (by rfl) T.n_str (by decide +kernel) rfl) pa_nil))) (nomark _)) (pe_one (pe_cmpR (op_eqK (K := K) rfl hu) (pv 0) (pv 1) (nomark _)))))))))), fn_body h (by rw [hvl]; decide) (fun ds R hR hl => ?_)⟩
  obtain ⟨d, rfl, hd, q⟩ := hR
  refine q_if1 (b := d.isN || d.isN) (et_or1 (et_t1 (e_opd (e_var rfl) e_non od_isN)) fun _ => et_t1 (e_opd (e_var rfl) e_non od_isN)) (fun e => t_ret1 (e_and (e_opd (e_var rfl) e_non od_isN) fun _ => e_opd (e_var rfl) e_non od_isN) ?_) (fun e => ?_)
  · have e' : d.isN = true := by simpa using e
    rw [e']; exact q
  have hn : d.isN = false := by simpa using e
  obtain ⟨pl, k1, k2, k3, ⟨b4, k4⟩, ⟨b5, k5⟩, ⟨b6, k6⟩⟩ := kit_sc hd
  refine q_if1 (b := false || false) (et_v1 (e_isi2 (e_var rfl) pl k1 k2)) (fun e => nomatch e) fun _ => ?_
  refine q_if1 (b := false) (et_v1 (e_isi (e_var rfl) pl k3)) (fun e => nomatch e) fun _ => ?_
  refine q_if1 (b := (!decide (b4 = b4)) || (!decide (b5 = b5))) (et_or1 (et_t1 (e_opd (e_isi (e_var rfl) pl k4) (e_isi (e_var rfl) pl k4) od_neB)) fun _ => et_t1 (e_opd (e_isi (e_var rfl) pl k5) (e_isi (e_var rfl) pl k5) od_neB)) (fun e => by simp at e) fun _ => ?_
  refine t_ret1 (e_and (a := decide (b6 = b6)) (c := true) (e_opd (e_isi (e_var rfl) pl k6) (e_isi (e_var rfl) pl k6) od_eqB) fun _ => e_opd (e_var rfl) (e_var rfl) (od_eqSc hd hn)) ?_
  rw [decide_eq_true rfl]
  exact q

theorem IV2.imp2 {wi : TI} {ρ : List En} {R R' : List (D × D) → Prop} (h : IV2 wi ρ R) (k : ∀ l, R l → R' l) : IV2 wi ρ R' := fun W0 W σ E Q q => h W0 W σ E Q fun v e W' g r p => q v e W' g r (k e p)

theorem ok_law_sameS (T : Txt K mg) (n : Nat) (G_law_same : FnOk P w K mg base CX0 (n + 1) T.a_law_same T.d_law_same ["_law_found", "_law_due"] (SpE (Rg_same n))) : FnOk P w K mg base CX0 (n + 2) T.a_law_same T.d_law_same ["_law_found", "_law_due"] (SpE (Rg_same (n + 1))) := by
  refine T.F_law_same.ok sc_law_same (fun vs H Q E h => spE_len h len_same) (fun cdv A outer s H vs Q E hr h => ?_)
  have hu := hu64 hr
  have hvl : vs.length = 2 := spE_len h len_same
  refine ⟨_, (pss_cons (ps_if (PW.pt (pw_or (pt_cmpR op_isNU (pv 1) pe_non (nomark _)) (pw_or1 (pt_cmpR op_isNU (pv 0) pe_non (nomark _))))) (pss_one (ps_ret (pe_and (pe_cmpR op_isNU (pv 1) pe_non (nomark _)) (pe_one (pe_cmpR op_isNU (pv 0) pe_non (nomark _)))))) pss_nil) (pss_cons (ps_if (pt_val (pe_callB (call_isiK2 (K := K) rfl) (by rfl) T.n_isinstance (by decide +kernel) (pa_cons (pv 1) (pa_cons (pe_tup (pa_cons (pe_bltn (v := .ty "list") (by rfl) T.n_list (by decide +kernel) rfl) (pa_cons (pe_bltn (v := .ty "tuple") (by rfl) T.n_tuple (by decide +kernel) rfl) pa_nil))) pa_nil)))) (pss_cons (ps_if (PW.pt (pw_or (pt_cmpR (op_neK (K := K) rfl hu) (pe_callB (call_isiK1 (K := K) rfl) (by rfl) T.n_isinstance (by decide +kernel) (pa_cons (pv 0) (pa_cons (pe_bltn (v := .ty "list") (by rfl) T.n_list (by decide +kernel) rfl) pa_nil))) (pe_callB (call_isiK1 (K := K) rfl) (by rfl) T.n_isinstance (by decide +kernel) (pa_cons (pv 1) (pa_cons (pe_bltn (v := .ty "list") (by rfl) T.n_list (by decide +kernel) rfl) pa_nil))) (nomark _)) (pw_or1 (pt_cmpR (op_neK (K := K) rfl hu) (pe_callB (call_isiK1 (K := K) rfl) (by rfl) T.n_isinstance (by decide +kernel) (pa_cons (pv 0) (pa_cons (pe_bltn (v := .ty "tuple") (by rfl) T.n_tuple (by decide +kernel) rfl) pa_nil))) (pe_callB (call_isiK1 (K := K) rfl) (by rfl) T.n_isinstance (by decide +kernel) (pa_cons (pv 1) (pa_cons (pe_bltn (v := .ty "tuple") (by rfl) T.n_tuple (by decide +kernel) rfl) pa_nil))) (nomark _))))) (pss_one (ps_ret pe_bl)) pss_nil) (pss_one (ps_ret (pe_and (pe_cmpR (op_eqK (K := K) rfl hu) (pe_callB (call_lenK (K := K) rfl) (by rfl) T.n_len (by decide +kernel) (pa_cons (pv 0) pa_nil)) (pe_callB (call_lenK (K := K) rfl) (by rfl) T.n_len (by decide +kernel) (pa_cons (pv 1) pa_nil)) (nomark _)) (pe_one (pe_callB (call_allK (K := K) rfl rfl) (by rfl) T.n_all (by decide +kernel) (pa_cons (pe_lc (own := [("_law_x", 3), ("_law_y", 4)]) (g := gTup K 2 (gCons (gName 3) (gCons (gName 4) gNil))) (tt := tYes) rfl sc_law_same.nd (pi_zipK (K := K) rfl (by rfl) T.n_zip (pa_cons (pv 0) (pa_cons (pv 1) pa_nil))) (blkOk_by (N := N_law_same) (sc := defScope s_law_same) (by decide +kernel)) (fun _ _ _ _ _ => (pg_tup rfl (pgs_cons (pg_name (i := 3) sc_law_same.nd rfl (Or.inl rfl)) (pgs_cons (pg_name (i := 4) sc_law_same.nd rfl (Or.inl rfl)) pgs_nil)))) (fun _ _ _ _ _ => pts_nil) (fun _ _ _ _ _ => (pe_call G_law_same (hr.mono (by omega)) (by rfl) T.g_law_same T.F_law_same.kp (b_law_same T) .nil pass0 (pa_cons (pv 3) (pa_cons (pv 4) pa_nil))))) pa_nil))))))) pss_nil) (pss_cons (ps_if (pt_val (pe_callB (call_isiK1 (K := K) rfl) (by rfl) T.n_isinstance (by decide +kernel) (pa_cons (pv 1) (pa_cons (pe_bltn (v := .ty "dict") (by rfl) T.n_dict (by decide +kernel) rfl) pa_nil)))) (pss_cons (ps_if (PW.pt (pw_or (pt_not (pt_val (pe_callB (call_isiK1 (K := K) rfl) (by rfl) T.n_isinstance (by decide +kernel) (pa_cons (pv 0) (pa_cons (pe_bltn (v := .ty "dict") (by rfl) T.n_dict (by decide +kernel) rfl) pa_nil))))) (pw_or1 (pt_not (pt_val (pe_call G_law_same (hr.mono (by omega)) (by rfl) T.g_law_same T.F_law_same.kp (b_law_same T) .nil pass0 (pa_cons (pe_callTy (call_list_dK rfl) (by rfl) T.n_list (by decide +kernel) (pa_cons (pv 0) pa_nil)) (pa_cons (pe_callTy (call_list_dK rfl) (by rfl) T.n_list (by decide +kernel) (pa_cons (pv 1) pa_nil)) pa_nil)))))))) (pss_one (ps_ret pe_bl)) pss_nil) (pss_one (ps_ret (pe_callB (call_allK (K := K) rfl rfl) (by rfl) T.n_all (by decide +kernel) (pa_cons (pe_lc (own := [("_law_mark", 2)]) (g := gName 2) (tt := tYes) rfl sc_law_same.nd (pi_listK (K := K) rfl (pe_callTy (call_list_dK rfl) (by rfl) T.n_list (by decide +kernel) (pa_cons (pv 1) pa_nil))) (blkOk_by (N := N_law_same) (sc := defScope s_law_same) (by decide +kernel)) (fun _ _ _ _ _ => (pg_name (i := 2) sc_law_same.nd rfl (Or.inl rfl))) (fun _ _ _ _ _ => pts_nil) (fun _ _ _ _ _ => (pe_call G_law_same (hr.mono (by omega)) (by rfl) T.g_law_same T.F_law_same.kp (b_law_same T) .nil pass0 (pa_cons (pe_dget (hu1 hu) (pv 0) (pv 2) (fun _ _ => rfl)) (pa_cons (pe_dget (hu1 hu) (pv 1) (pv 2) (fun _ _ => rfl)) pa_nil))))) pa_nil))))) pss_nil) (pss_cons (ps_if (PW.pt (pw_or (pt_cmpR (op_neK (K := K) rfl hu) (pe_callB (call_isiK1 (K := K) rfl) (by rfl) T.n_isinstance (by decide +kernel) (pa_cons (pv 1) (pa_cons (pe_bltn (v := .ty "bool") (by rfl) T.n_bool (by decide +kernel) rfl) pa_nil))) (pe_callB (call_isiK1 (K := K) rfl) (by rfl) T.n_isinstance (by decide +kernel) (pa_cons (pv 0) (pa_cons (pe_bltn (v := .ty "bool") (by rfl) T.n_bool (by decide +kernel) rfl) pa_nil))) (nomark _)) (pw_or1 (pt_cmpR (op_neK (K := K) rfl hu) (pe_callB (call_isiK1 (K := K) rfl) (by rfl) T.n_isinstance (by decide +kernel) (pa_cons (pv 1) (pa_cons (pe_bltn (v := .ty "int") (by rfl) T.n_int (by decide +kernel) rfl) pa_nil))) (pe_callB (call_isiK1 (K := K) rfl) (by rfl) T.n_isinstance (by decide +kernel) (pa_cons (pv 0) (pa_cons (pe_bltn (v := .ty "int") (by rfl) T.n_int (by decide +kernel) rfl) pa_nil))) (nomark _))))) (pss_one (ps_ret pe_bl)) pss_nil) (pss_one (ps_ret (pe_and (pe_cmpR (op_eqK (K := K) rfl hu) (pe_callB (call_isiK1 (K := K) rfl) (by rfl) T.n_isinstance (by decide +kernel) (pa_cons (pv 1) (pa_cons (pe_bltn (v := .ty "str") (by rfl) T.n_str (by decide +kernel) rfl) pa_nil))) (pe_callB (call_isiK1 (K := K) rfl) (by rfl) T.n_isinstance (by decide +kernel) (pa_cons (pv 0) (pa_cons (pe_bltn (v := .ty "str") (by rfl) T.n_str (by decide +kernel) rfl) pa_nil))) (nomark _)) (pe_one (pe_cmpR (op_eqK (K := K) rfl hu) (pv 0) (pv 1) (nomark _)))))))))), fn_body h (by rw [hvl]; decide) (fun ds R hR hl => ?_)⟩
  obtain ⟨d, rfl, hd, q⟩ := hR
  rcases (show d.scal = true ∨ (∃ ds, d = .tup ds) ∨ (∃ ds, d = .lst ds) ∨ ∃ kd, d = .dic kd from by
    cases d <;> first | exact .inl rfl | exact .inr (.inl ⟨_, rfl⟩) | exact .inr (.inr (.inl ⟨_, rfl⟩)) | exact .inr (.inr (.inr ⟨_, rfl⟩)) | cases hd) with hd | ⟨ds, rfl⟩ | ⟨ds, rfl⟩ | ⟨kd, rfl⟩
  · refine q_if1 (b := d.isN || d.isN) (et_or1 (et_t1 (e_opd (e_var rfl) e_non od_isN)) fun _ => et_t1 (e_opd (e_var rfl) e_non od_isN)) (fun e => t_ret1 (e_and (e_opd (e_var rfl) e_non od_isN) fun _ => e_opd (e_var rfl) e_non od_isN) ?_) (fun e => ?_)
    · have e' : d.isN = true := by simpa using e
      rw [e']; exact q
    have hn : d.isN = false := by simpa using e
    obtain ⟨pl, k1, k2, k3, ⟨b4, k4⟩, ⟨b5, k5⟩, ⟨b6, k6⟩⟩ := kit_sc hd
    refine q_if1 (b := false || false) (et_v1 (e_isi2 (e_var rfl) pl k1 k2)) (fun e => nomatch e) fun _ => ?_
    refine q_if1 (b := false) (et_v1 (e_isi (e_var rfl) pl k3)) (fun e => nomatch e) fun _ => ?_
    refine q_if1 (b := (!decide (b4 = b4)) || (!decide (b5 = b5))) (et_or1 (et_t1 (e_opd (e_isi (e_var rfl) pl k4) (e_isi (e_var rfl) pl k4) od_neB)) fun _ => et_t1 (e_opd (e_isi (e_var rfl) pl k5) (e_isi (e_var rfl) pl k5) od_neB)) (fun e => by simp at e) fun _ => ?_
    refine t_ret1 (e_and (a := decide (b6 = b6)) (c := true) (e_opd (e_isi (e_var rfl) pl k6) (e_isi (e_var rfl) pl k6) od_eqB) fun _ => e_opd (e_var rfl) (e_var rfl) (od_eqSc hd hn)) ?_
    rw [decide_eq_true rfl]
    exact q

  · -- tup
    have h2 : ds.all (D.sm n) = true ∧ ds.length ≤ 100000 := by
      have := hd
      unfold D.sm at this
      rw [Bool.and_eq_true, decide_eq_true_eq] at this
      exact this
    refine q_if1 (b := false || false) (et_or1 (et_t1 (e_opd (e_var rfl) e_non od_isN)) fun _ => et_t1 (e_opd (e_var rfl) e_non od_isN)) (fun e => nomatch e) (fun e => ?_)
    refine q_if1 (b := false || true) (et_v1 (e_isi2 (e_var rfl) rfl rfl rfl)) (fun _ => ?_) (fun e => nomatch e)
    refine q_if1 (b := (!decide (false = false)) || (!decide (true = true))) (et_or1 (et_t1 (e_opd (e_isi (e_var rfl) rfl rfl) (e_isi (e_var rfl) rfl rfl) od_neB)) fun _ => et_t1 (e_opd (e_isi (e_var rfl) rfl rfl) (e_isi (e_var rfl) rfl rfl) od_neB)) (fun e => by simp at e) fun _ => ?_
    refine t_ret1 (e_and (a := decide ((ds.length : Int) = (ds.length : Int))) (c := ((ds.zip ds).map fun _ => true).all id) (e_opd (EV.d1 (e_cb1 (ea_c (e_var rfl) ea_nil) cd_lenT)) (EV.d1 (e_cb1 (ea_c (e_var rfl) ea_nil) cd_lenT)) od_eqI) fun _ => EV.d1 (e_cb1 (ea_c (EV.o1 ((lc2_map (ds := ds.zip ds) (emb := fun p => p) (f := fun _ => .bl true) (by decide) ((iv_zip (.tup _) (.tup _) (ea_c (e_var rfl) (ea_c (e_var rfl) ea_nil))).imp2 fun l e => by rw [e, List.map_id']) (by rw [List.length_zip]; omega) (fun i p hp => ?_)).imp fun e he => by rw [he, List.map_map]; rfl)) ea_nil) cd_all)) ?_
    · obtain ⟨z1, z2⟩ := zip_get hp
      have e12 : p.1 = p.2 := by rw [z1] at z2; exact Option.some.inj z2
      have hsc : p.2.sm n = true := List.all_eq_true.mp h2.1 _ (List.mem_of_getElem? z2)
      exact EV.d1 (e_call0 (R := fun e => e = .dat (.bl true)) (ea_c (e_var rfl) (ea_c (e_var rfl) ea_nil)) ⟨p.2, by rw [e12], hsc, rfl⟩)
    · rw [decide_eq_true rfl, List.all_map]
      have : (ds.zip ds).all (id ∘ fun _ => true) = true := List.all_eq_true.mpr fun _ _ => rfl
      rw [this]
      exact q

  · -- lst
    have h2 : ds.all (D.sm n) = true ∧ ds.length ≤ 100000 := by
      have := hd
      unfold D.sm at this
      rw [Bool.and_eq_true, decide_eq_true_eq] at this
      exact this
    refine q_if1 (b := false || false) (et_or1 (et_t1 (e_opd (e_var rfl) e_non od_isN)) fun _ => et_t1 (e_opd (e_var rfl) e_non od_isN)) (fun e => nomatch e) (fun e => ?_)
    refine q_if1 (b := true || false) (et_v1 (e_isi2 (e_var rfl) rfl rfl rfl)) (fun _ => ?_) (fun e => nomatch e)
    refine q_if1 (b := (!decide (true = true)) || (!decide (false = false))) (et_or1 (et_t1 (e_opd (e_isi (e_var rfl) rfl rfl) (e_isi (e_var rfl) rfl rfl) od_neB)) fun _ => et_t1 (e_opd (e_isi (e_var rfl) rfl rfl) (e_isi (e_var rfl) rfl rfl) od_neB)) (fun e => by simp at e) fun _ => ?_
    refine t_ret1 (e_and (a := decide ((ds.length : Int) = (ds.length : Int))) (c := ((ds.zip ds).map fun _ => true).all id) (e_opd (EV.d1 (e_cb1 (ea_c (e_var rfl) ea_nil) cd_lenL)) (EV.d1 (e_cb1 (ea_c (e_var rfl) ea_nil) cd_lenL)) od_eqI) fun _ => EV.d1 (e_cb1 (ea_c (EV.o1 ((lc2_map (ds := ds.zip ds) (emb := fun p => p) (f := fun _ => .bl true) (by decide) ((iv_zip (.lst _) (.lst _) (ea_c (e_var rfl) (ea_c (e_var rfl) ea_nil))).imp2 fun l e => by rw [e, List.map_id']) (by rw [List.length_zip]; omega) (fun i p hp => ?_)).imp fun e he => by rw [he, List.map_map]; rfl)) ea_nil) cd_all)) ?_
    · obtain ⟨z1, z2⟩ := zip_get hp
      have e12 : p.1 = p.2 := by rw [z1] at z2; exact Option.some.inj z2
      have hsc : p.2.sm n = true := List.all_eq_true.mp h2.1 _ (List.mem_of_getElem? z2)
      exact EV.d1 (e_call0 (R := fun e => e = .dat (.bl true)) (ea_c (e_var rfl) (ea_c (e_var rfl) ea_nil)) ⟨p.2, by rw [e12], hsc, rfl⟩)
    · rw [decide_eq_true rfl, List.all_map]
      have : (ds.zip ds).all (id ∘ fun _ => true) = true := List.all_eq_true.mpr fun _ _ => rfl
      rw [this]
      exact q
  · -- dict
    refine q_if1 (b := false || false) (et_or1 (et_t1 (e_opd (e_var rfl) e_non od_isN)) fun _ => et_t1 (e_opd (e_var rfl) e_non od_isN)) (fun e => nomatch e) (fun e => ?_)
    refine q_if1 (b := false || false) (et_v1 (e_isi2 (d := .dic kd) (T := "list") (U := "tuple") (e_var rfl) rfl (show kitB "dict" "list" = some false by decide +kernel) (show kitB "dict" "tuple" = some false by decide +kernel))) (fun e => nomatch e) (fun _ => ?_)
    refine q_if1 (b := true) (et_v1 (e_isi (d := .dic kd) (T := "dict") (e_var rfl) rfl (show kitB "dict" "dict" = some true by decide +kernel))) (fun _ => ?_) (fun e => nomatch e)
    have hk : ∃ ks : List (List Nat), (kd.map fun p => match p.1 with | .inl i => D.int i | .inr x => D.str x.cps.toList) = ks.map D.str ∧ ks.length ≤ 1 ∧ (D.lst (ks.map D.str)).sm n = true ∧ ∀ s ∈ ks, ∃ x d, kd = [(.inr x, d)] ∧ s = x.cps.toList ∧ d.sm n = true := by
      match kd, hd with
      | [], hd =>
        refine ⟨[], rfl, by simp, ?_, by simp⟩
        have h1 : 1 ≤ n := of_decide_eq_true hd
        obtain ⟨m, rfl⟩ : ∃ m, n = m + 1 := ⟨n - 1, by omega⟩
        rfl
      | [(.inr x, d)], hd =>
        have h2 : decide (1 ≤ n) = true ∧ d.sm n = true := by
          have := hd
          unfold D.sm at this
          rw [Bool.and_eq_true] at this
          exact this
        refine ⟨[x.cps.toList], rfl, by simp, ?_, fun s hs => ⟨x, d, rfl, List.mem_singleton.mp hs, h2.2⟩⟩
        have h1 : 1 ≤ n := of_decide_eq_true h2.1
        obtain ⟨m, rfl⟩ : ∃ m, n = m + 1 := ⟨n - 1, by omega⟩
        have : (D.str x.cps.toList).sm m = true := by cases m <;> rfl
        simp [D.sm, this]
    obtain ⟨ks, e1, e2, e3, e4⟩ := hk
    have lists : ∀ (i : Nat) (ρ0 : List En), ρ0[i]? = some (.dat (.dic kd)) → ED (tCB rListD (tCons (tVar i) tNil)) ρ0 (· = .lst (ks.map D.str)) := fun i ρ0 h => EV.o1 ((e_listD (K := K) (e_var h)).imp fun e he => by rw [he, e1])
    refine q_if1 (b := !true || !true) (et_or1 (et_not1 (et_v1 (e_isi (d := .dic kd) (T := "dict") (e_var rfl) rfl (show kitB "dict" "dict" = some true by decide +kernel)))) (fun _ => et_not1 (et_v1 (EV.d1 (e_call0 (R := fun e => e = .dat (.bl true)) (ea_c (lists 0 _ rfl) (ea_c (lists 1 _ rfl) ea_nil)) ⟨_, rfl, e3, rfl⟩))))) (fun e => nomatch e) (fun _ => ?_)
    refine t_ret1 (d := .bl ((ks.map fun _ => true).all id)) (EV.d1 (e_cb1 (ea_c (EV.o1 ((lc1_map (ds := ks) (emb := D.str) (f := fun _ => .bl true) (iv_list1 (lists 1 _ rfl)) (by omega) (fun i s hs => ?_)).imp fun e he => by rw [he, List.map_map]; rfl)) ea_nil) cd_all)) ?_
    · obtain ⟨x, d, h1, h2, h3⟩ := e4 s (List.mem_of_getElem? hs)
      subst h1 h2
      exact EV.d1 (e_call0 (R := fun e => e = .dat (.bl true)) (ea_c (e_dget1 (K := K) (e_var rfl) (e_var rfl)) (ea_c (e_dget1 (K := K) (e_var rfl) (e_var rfl)) ea_nil)) ⟨d, rfl, h3, rfl⟩)
    · have : (ks.map fun _ => true).all id = true := by rw [List.all_map]; exact List.all_eq_true.mpr fun _ _ => rfl
      rw [this]
      exact q
theorem ok_same_n (T : Txt K mg) : ∀ n : Nat, FnOk P w K mg base CX0 (n + 1) T.a_law_same T.d_law_same ["_law_found", "_law_due"] (SpE (Rg_same n))
  | 0 => ok_law_same0 T
  | n + 1 => ok_law_sameS T n (ok_same_n T n)
theorem ok_law_same (T : Txt K mg) : FnOk P w K mg base CX0 6 T.a_law_same T.d_law_same ["_law_found", "_law_due"] (SpE Rg_law_same) := ok_same_n T 5
end
end Nt

namespace Nt
open PySem PySem.Spec PyProof.Rows L2


def wRow : List Nat := [114, 111, 119]
def wTake : List Nat := [116, 97, 107, 101]
def wMade : List Nat := [109, 97, 100, 101]
def wBar : List Nat := [98, 97, 114]
def wBarred : List Nat := [98, 97, 114, 114, 101, 100]
def szM (s : List Nat) : Option Nat := if s = wRow then some 2 else if s = wTake then some 2 else if s = wMade then some 1 else if s = wBar then some 3 else if s = wBarred then some 1 else none
def wordD (d : D) : D := match d with
  | .tup (.str s :: r) => if szM s = some (r.length + 1) then .str s else .non
  | _ => .non
def getD0 : Option Nat → D
  | some n => .int n
  | none => .non
def LnOk (d : D) : Prop := match d with
  | .tup ds => (∀ x ∈ ds, elOk x = true) ∧ ds.length ≤ 1000 ∧ ∀ s, D.str s ∈ ds → s.length ≤ 1000
  | .bag | .scr _ _ | .obj _ => False
  | _ => True
theorem LnOk.pl {d : D} (h : LnOk d) : d.pl = true := by cases d <;> first | rfl | exact h.elim
def isW (d : D) (s : List Nat) : Bool := isS (wordD d) s
theorem word_ok {d : D} (h : LnOk d) : elOk (wordD d) = true := by
  unfold wordD
  split
  · rename_i s r
    split
    · exact h.1 _ List.mem_cons_self
    · rfl
  · rfl
theorem isW_of {d : D} {s : List Nat} (h : isW d s = true) : ∃ r, d = .tup (.str s :: r) ∧ szM s = some (r.length + 1) := by
  unfold isW wordD at h
  split at h
  · rename_i s' r
    split at h
    · rename_i hz
      have e : s' = s := of_decide_eq_true h
      subst e
      exact ⟨r, rfl, hz⟩
    · cases h
  · cases h
theorem two_r {ds : List D} {n : Nat} (h : some n = some (ds.length + 1)) : ds.length + 1 = n := (Option.some.inj h).symm
def takeO (S : List (List Nat)) (r t : List Nat) (l : D) : Option (List Nat) := match l with
  | .tup [.str w, .str s] => if w = wTake ∧ s ∈ S ∧ canT s t r = true then some s else none
  | _ => none
def folM (S : List (List Nat)) (r : List Nat) : List Nat → List D → Nat × List Nat
  | t, [] => (0, t)
  | t, l :: ls => match takeO S r t l with
    | some s => ((folM S r (ov t (lotOf s)) ls).1 + 1, (folM S r (ov t (lotOf s)) ls).2)
    | none => (0, t)
def namesM (cs : List (List Nat × Nat)) (s t r : List Nat) : List (List Nat) := (bars s t r).map fun i => (cs.getD i ([], 0)).1
def barB (cs : List (List Nat × Nat)) (s t r : List Nat) (l : D) : Bool := match l with
  | .tup [.str w, x, n] => decide (w = wBar) && isS x s && inS n (namesM cs s t r)
  | _ => false
def cntM (cs : List (List Nat × Nat)) (t r : List Nat) : List (List Nat) → List D → Nat
  | s :: ws, l :: ls => if barB cs s t r l = true then cntM cs t r ws ls + 1 else 0
  | _, _ => 0
def isRowM (cs : List (List Nat × Nat)) (x : D) : Bool := match x with
  | .str r => decide (r.length = cs.length) && rowOk cs r
  | _ => false
/-- seeds of signs -/
def SOk (n : Nat) (S : List (List Nat)) : Prop := S.length ≤ 1000 ∧ Len n S ∧ ∀ s ∈ S, D.ok (.str s) = true
def Rg_is_row2 (ds : List D) (P : En → Prop) : Prop := ∃ (xc : D) (cs : List (List Nat × Nat)) (x : D), ds = [xc, x] ∧ Sq xc (cs.map cellD) ∧ cs.length ≤ 20 ∧ (∀ c ∈ cs, c.2 ≤ 4) ∧ elOk x = true ∧ (∀ s, x = .str s → s.length ≤ 1000) ∧ P (.dat (.bl (isRowM cs x)))
theorem len_is_row2 (ds P) (h : Rg_is_row2 ds P) : ds.length = 2 := by obtain ⟨_, _, _, rfl, _⟩ := h; rfl
def Rg_word_of (ds : List D) (P : En → Prop) : Prop := ∃ d, ds = [d] ∧ LnOk d ∧ P (.dat (wordD d))
theorem len_word_of (ds P) (h : Rg_word_of ds P) : ds.length = 1 := by obtain ⟨_, rfl, _⟩ := h; rfl
def Rg_follow_takes (ds : List D) (P : En → Prop) : Prop := ∃ (xs xp : D) (S : List (List Nat)) (r : List Nat) (h : D) (ls : List D), ds = [xs, .str r, xp] ∧ Sq xs (S.map D.str) ∧ Sq xp (h :: ls) ∧ SOk r.length S ∧ r.length ≤ 1000 ∧ (∀ l ∈ ls, LnOk l) ∧ ls.length ≤ 1000 ∧
  P (.dat (.tup [.int (1 + ((folM S r (List.replicate r.length 46) ls).1 : Int)), .str (folM S r (List.replicate r.length 46) ls).2]))
theorem len_follow_takes (ds P) (h : Rg_follow_takes ds P) : ds.length = 3 := by obtain ⟨_, _, _, _, _, _, rfl, _⟩ := h; rfl
def Rg_bar_holds (ds : List D) (P : En → Prop) : Prop := ∃ (xc : D) (cs : List (List Nat × Nat)) (s t r : List Nat) (l : D), ds = [xc, .str s, .str t, .str r, l] ∧ Sq xc (cs.map cellD) ∧ s.length = t.length ∧ s.length = r.length ∧ r.length = cs.length ∧ cs.length ≤ 20 ∧ D.ok (.str s) = true ∧ (∀ c ∈ cs, D.ok (.str c.1) = true) ∧ LnOk l ∧ P (.dat (.bl (barB cs s t r l)))
theorem len_bar_holds (ds P) (h : Rg_bar_holds ds P) : ds.length = 5 := by obtain ⟨_, _, _, _, _, _, rfl, _⟩ := h; rfl
def Rg_count_bars (ds : List D) (P : En → Prop) : Prop := ∃ (xc xl : D) (cs : List (List Nat × Nat)) (ws : List (List Nat)) (t r : List Nat) (ls : List D), ds = [xc, .lst (ws.map D.str), .str t, .str r, xl] ∧ Sq xc (cs.map cellD) ∧ Sq xl ls ∧ SOk r.length ws ∧ t.length = r.length ∧ r.length = cs.length ∧ cs.length ≤ 20 ∧ (∀ c ∈ cs, D.ok (.str c.1) = true) ∧ (∀ l ∈ ls, LnOk l) ∧ ls.length ≤ 1000 ∧
  P (.dat (.int ((cntM cs t r ws ls : Nat) : Int)))
theorem len_count_bars (ds P) (h : Rg_count_bars ds P) : ds.length = 5 := by obtain ⟨_, _, _, _, _, _, _, rfl, _⟩ := h; rfl
theorem num1_zip {L : List D} {i : Nat} {d : D × D} (h : ((num1 L.length).zip L)[i]? = some d) : i < L.length ∧ d.1 = .int (1 + (i : Int)) ∧ L[i]? = some d.2 := by
  obtain ⟨h1, h2⟩ := zip_get h
  have hl := (List.getElem?_eq_some_iff.mp h2).1
  refine ⟨hl, ?_, h2⟩
  unfold num1 at h1
  rw [List.getElem?_map, List.getElem?_range hl] at h1
  exact (Option.some.inj h1).symm
theorem drop_get {α : Type} {l : List α} {i : Nat} {x : α} (h : l[i]? = some x) : l.drop i = x :: l.drop (i + 1) := by
  obtain ⟨hl, e⟩ := List.getElem?_eq_some_iff.mp h
  rw [← e]; exact List.drop_eq_getElem_cons hl
theorem Sq.from {K : PySem.W.Frag} {te ti : TE} {ρ : List En} {x : D} {L : List D} {k : Nat} {i : Int} (q : Sq x L) (hi : i = (k : Int)) (h0 : 0 < k) (hk : k ≤ L.length) (hx : ED te ρ (· = x)) (ht : ED ti ρ (· = .int i)) : ∃ y, Sq y (L.drop k) ∧ ED (tSl (rSlU K) te (tPart ti) tNoPart) ρ (· = y) := by
  subst hi
  cases q with
  | lst =>
    have := e_sl hx (eo_part ht) eo_none (sd_lst (K := K) (ds := L) (lo := some (k : Int)) (hi := none))
    rw [cut_from (k := k) rfl hk] at this
    exact ⟨.lst (L.drop k), .lst _, EV.o1 this⟩
  | tup =>
    have := e_sl hx (eo_part ht) eo_none (sd_tup (K := K) (ds := L) (lo := some (k : Int)) (hi := none) (by
      rintro ⟨z, _⟩
      rw [HT.sIx_nat] at z
      omega))
    rw [cut_from (k := k) rfl hk] at this
    exact ⟨.tup (L.drop k), .tup _, EV.d1 this⟩
section
variable {P : Program} {w : World} {K : PySem.W.Frag} {mg : Str → Option Value} {base : Heap}
theorem ok_word_of (T : Txt K mg) (TDx : (∃ es n, KDict K w T.a_LINE_SIZES es n) ∧ ∀ z : Str, z ∉ (["row", "take", "made", "bar", "barred"] : List Str) → PySem.W.nsIn K T.a_LINE_SIZES z = some none)  : FnOk P w K mg base CX0 1 T.a_word_of T.d_word_of ["line"] (SpE Rg_word_of) := by
  obtain ⟨⟨es0, n0, TD_LINE_SIZES⟩, TDn⟩ := TDx
  refine T.F_word_of.ok sc_word_of (fun vs H Q E h => spE_len h len_word_of) (fun cdv A outer s H vs Q E hr h => ?_)
  have hu := hu64 hr
  have hvl : vs.length = 1 := spE_len h len_word_of
  refine ⟨_, (pss_cons (ps_if (PW.pt (pw_or (pt_not (pt_val (pe_callB (call_isiK1 (K := K) rfl) (by rfl) T.n_isinstance (by decide +kernel) (pa_cons (pv 0) (pa_cons (pe_bltn (v := .ty "tuple") (by rfl) T.n_tuple (by decide +kernel) rfl) pa_nil))))) (pw_or (pt_cmpR (op_eqK (K := K) rfl hu) (pe_callB (call_lenK (K := K) rfl) (by rfl) T.n_len (by decide +kernel) (pa_cons (pv 0) pa_nil)) pe_int (nomark _)) (pw_or1 (pt_not (pt_val (pe_callB (call_isiK1 (K := K) rfl) (by rfl) T.n_isinstance (by decide +kernel) (pa_cons (pe_ix (ix_K (K := K) rfl) (pv 0) pe_int (fun _ _ => rfl)) (pa_cons (pe_bltn (v := .ty "str") (by rfl) T.n_str (by decide +kernel) rfl) pa_nil))))))))) (pss_one (ps_ret pe_non)) pss_nil) (pss_one (ps_ret (pe_ifExp (pt_cmpR (op_eqK (K := K) rfl hu) (pe_kget2 TD_LINE_SIZES (by rfl) T.g_LINE_SIZES (pe_ix (ix_K (K := K) rfl) (pv 0) pe_int (fun _ _ => rfl)) ⟨rfl, rfl, rfl, rfl⟩) (pe_callB (call_lenK (K := K) rfl) (by rfl) T.n_len (by decide +kernel) (pa_cons (pv 0) pa_nil)) (nomark _)) (pe_ix (ix_K (K := K) rfl) (pv 0) pe_int (fun _ _ => rfl)) pe_non)))), fn_body h (by rw [hvl]; decide) (fun ds R hR hl => ?_)⟩
  obtain ⟨d, rfl, hd, q⟩ := hR
  have tT : kitB d.ty "tuple" = some (d.isU "tuple") := kitU hd.pl (by simp)
  by_cases ht : ∃ ds, d = .tup ds
  · obtain ⟨ds, rfl⟩ := ht
    cases ds with
    | nil =>
      exact q_if1 (b := true) ((et_or1 (et_not1 (et_v1 (e_isi (d := .tup []) (T := "tuple") (b := true) (e_var rfl) rfl tT))) (fun _ => et_or1 (c := true) (et_t1 (e_opd (EV.d1 (e_cb1 (ea_c (e_var (d := .tup []) rfl) ea_nil) cd_lenT)) e_int od_eqI)) (fun e => absurd e (by simp)))).is (by simp)) (fun _ => t_ret1 e_non q) (fun e => nomatch e)
    | cons x r =>
      have ix : ∀ ρ : List En, ρ[0]? = some (.dat (.tup (x :: r))) → ED (tOp (rIx K) (tVar 0) (tC (.int 0))) ρ (· = x) := fun ρ h => e_opd (e_var h) e_int (od_ixT (j := 0) rfl rfl)
      have hx : elOk x = true := hd.1 x List.mem_cons_self
      have xpl : x.pl = true := by cases x <;> first | rfl | exact absurd hx (by simp [elOk, D.ok])
      have xT : kitB x.ty "str" = some (x.isU "str") := kitU xpl (by simp)
      have tests : ∀ b : Bool, x.isU "str" = b → ∀ ρ : List En, ρ[0]? = some (.dat (.tup (x :: r))) → ET (tOr (tNot (tB (tCB (rIsi K) (tCons (tVar 0) (tCons (tC (.ty "tuple")) tNil))))) (tOr (tTest (tOp (rEqU K) (tCB (rLenU K) (tCons (tVar 0) tNil)) (tC (.int 0)))) (tNot (tB (tCB (rIsi K) (tCons (tOp (rIx K) (tVar 0) (tC (.int 0))) (tCons (tC (.ty "str")) tNil))))))) ρ (· = !b) := fun b hb ρ h =>
        (et_or1 (et_not1 (et_v1 (e_isi (d := .tup (x :: r)) (T := "tuple") (b := true) (e_var h) rfl tT))) (fun _ => et_or1 (et_t1 (e_opd (EV.d1 (e_cb1 (ea_c (e_var h) ea_nil) cd_lenT)) e_int od_eqI)) (fun _ => et_not1 (et_v1 (e_isi (ix ρ h) xpl xT))))).is (by rw [hb]; simp; omega)
      by_cases hs : ∃ s, x = .str s
      · obtain ⟨s, rfl⟩ := hs
        refine q_if1 (b := !true) (tests true rfl _ rfl) (fun e => nomatch e) (fun _ => ?_)
        have hn : (∃ n : Int, getD0 (szM s) = .int n ∧ ∃ u, PySem.W.nsIn K T.a_LINE_SIZES ⟨s.toArray⟩ = some (some u) ∧ RelV (.int n) u) ∨ (getD0 (szM s) = .non ∧ PySem.W.nsIn K T.a_LINE_SIZES ⟨s.toArray⟩ = some none) := by
          unfold szM
          by_cases h1 : s = wRow
          · rw [if_pos h1, h1]; exact .inl ⟨_, rfl, T.v_LINE_SIZES ("row", 2) (by simp)⟩
          rw [if_neg h1]
          by_cases h2 : s = wTake
          · rw [if_pos h2, h2]; exact .inl ⟨_, rfl, T.v_LINE_SIZES ("take", 2) (by simp)⟩
          rw [if_neg h2]
          by_cases h3 : s = wMade
          · rw [if_pos h3, h3]; exact .inl ⟨_, rfl, T.v_LINE_SIZES ("made", 1) (by simp)⟩
          rw [if_neg h3]
          by_cases h4 : s = wBar
          · rw [if_pos h4, h4]; exact .inl ⟨_, rfl, T.v_LINE_SIZES ("bar", 3) (by simp)⟩
          rw [if_neg h4]
          by_cases h5 : s = wBarred
          · rw [if_pos h5, h5]; exact .inl ⟨_, rfl, T.v_LINE_SIZES ("barred", 1) (by simp)⟩
          rw [if_neg h5]
          refine .inr ⟨rfl, TDn _ fun hm => ?_⟩
          have back : ∀ {z : Str} {l : List Nat}, (⟨s.toArray⟩ : Str) = z → z.cps.toList = l → s = l := fun {z l} e1 e2 => by rw [← e2, ← e1]
          simp only [List.mem_cons, List.not_mem_nil, or_false] at hm
          rcases hm with e | e | e | e | e
          · exact h1 (back e (by decide +kernel))
          · exact h2 (back e (by decide +kernel))
          · exact h3 (back e (by decide +kernel))
          · exact h4 (back e (by decide +kernel))
          · exact h5 (back e (by decide +kernel))
        have hcmp : ∀ ρ : List En, ρ[0]? = some (.dat (.tup (.str s :: r))) → ET (tTest (tOp (rEqU K) (tKG2 K T.a_LINE_SIZES (tOp (rIx K) (tVar 0) (tC (.int 0)))) (tCB (rLenU K) (tCons (tVar 0) tNil)))) ρ (· = decide (szM s = some (r.length + 1))) := fun ρ h => by
          have hlen : ED (tCB (rLenU K) (tCons (tVar 0) tNil)) ρ (· = .int ((r.length + 1 : Nat) : Int)) := EV.d1 (e_cb1 (ea_c (e_var h) ea_nil) cd_lenT)
          cases hz : szM s with
          | some n =>
            rw [hz] at hn
            refine (et_t1 (e_opd (e_kget2 (d := .int n) (ix ρ h) hn) hlen od_eqI)).is ?_
            exact decide_eq_decide.mpr ⟨fun e => by rw [show n = r.length + 1 by omega], fun e => by rw [Option.some.inj e]⟩
          | none =>
            rw [hz] at hn
            refine (et_t1 (e_opd (e_kget2 (d := .non) (ix ρ h) hn) hlen (?_ : OD (rEqU K) .non (.int ((r.length + 1 : Nat) : Int)) (· = .dat (.bl false))))).is (by simp)
            intro W v w' r1 r2 Q q
            refine .inr ⟨.none, .int ((r.length + 1 : Nat) : Int), el_dp (x := .non) W.le rfl r1, el_dp (x := .int _) W.le rfl r2, el_shaped (x := .non) rfl, el_shaped (x := .int _) rfl, ?_⟩
            exact dat1 (.bl _) q
        refine t_ret1 (d := wordD (.tup (.str s :: r))) (e_ifd (T := fun b => b = decide (szM s = some (r.length + 1))) (hcmp _ rfl) (fun e => ?_) (fun e => ?_)) q
        · rw [show wordD (.tup (.str s :: r)) = .str s from if_pos (of_decide_eq_true e.symm)]
          exact ix _ rfl
        · rw [show wordD (.tup (.str s :: r)) = .non from if_neg (of_decide_eq_false e.symm)]
          exact e_non
      · have hb : x.isU "str" = false := by cases x <;> first | rfl | exact absurd ⟨_, rfl⟩ hs
        refine q_if1 (b := !false) (tests false hb _ rfl) (fun _ => t_ret1 e_non ?_) (fun e => nomatch e)
        rw [show wordD (.tup (x :: r)) = .non by unfold wordD; split <;> first | (rename_i e; cases e; exact absurd ⟨_, rfl⟩ hs) | rfl] at q
        exact q
  · have hb : d.isU "tuple" = false := by cases d <;> first | rfl | exact absurd ⟨_, rfl⟩ ht
    rw [hb] at tT
    refine q_if1 (b := true) ((et_or1 (c := true) (et_not1 (et_v1 (e_isi (T := "tuple") (b := false) (e_var rfl) hd.pl tT))) (fun e => nomatch e)).is rfl) (fun _ => t_ret1 e_non ?_) (fun e => nomatch e)
    rw [show wordD d = .non by unfold wordD; split <;> first | (exact absurd ⟨_, rfl⟩ ht) | rfl] at q
    exact q

end
end Nt

namespace Nt
open PySem PySem.Spec PyProof.Rows L2


section
variable {P : Program} {w : World} {K : PySem.W.Frag} {mg : Str → Option Value} {base : Heap}
theorem e_word {X : XK} {ρ : List En} {te : TE} {d : D} (h : ED te ρ (· = d)) (hd : LnOk d) : ED (tCall (SpE Rg_word_of) [] X (tCons te tNil)) ρ (· = wordD d) := EV.d1 (e_call0 (R := fun e => e = .dat (wordD d)) (ea_c h ea_nil) ⟨d, rfl, hd, rfl⟩)
theorem okW : D.ok (.str wTake) = true ∧ D.ok (.str wRow) = true ∧ D.ok (.str wMade) = true ∧ D.ok (.str wBar) = true ∧ D.ok (.str wBarred) = true := ⟨rfl, rfl, rfl, rfl, rfl⟩
theorem takeO_no {S : List (List Nat)} {r t : List Nat} {d : D} (h : isW d wTake = false) : takeO S r t d = none := by
  unfold takeO
  split
  · rename_i w' s'
    split
    · rename_i hc
      obtain ⟨h1, _⟩ := hc
      subst h1
      cases h
    · rfl
  · rfl
theorem one_of {ds : List D} (h : ds.length + 1 = 2) : ∃ x, ds = [x] := by
  match ds, h with
  | [x], _ => exact ⟨x, rfl⟩
theorem two_of {ds : List D} (h : ds.length + 1 = 3) : ∃ x y, ds = [x, y] := by
  match ds, h with
  | [x, y], _ => exact ⟨x, y, rfl⟩
theorem sz_take : szM wTake = some 2 := rfl
theorem sz_bar : szM wBar = some 3 := rfl
theorem inS_str {x : D} {S : List (List Nat)} (h : inS x S = true) : ∃ s, x = .str s ∧ s ∈ S := by
  cases x with
  | str s => exact ⟨s, rfl, of_decide_eq_true h⟩
  | _ => cases h
theorem folM_len {S : List (List Nat)} {r : List Nat} (hL : Len r.length S) : ∀ (ls : List D) (t : List Nat), t.length = r.length → (folM S r t ls).2.length = r.length ∧ (folM S r t ls).1 ≤ ls.length
  | [], t, h => ⟨h, Nat.le_refl _⟩
  | l :: ls, t, h => by
    unfold folM
    cases e : takeO S r t l with
    | none => exact ⟨h, Nat.zero_le _⟩
    | some s =>
      have hs : s ∈ S := by
        unfold takeO at e
        split at e
        · split at e
          · rename_i hc
            cases e
            exact hc.2.1
          · cases e
        · cases e
      have := folM_len hL ls (ov t (lotOf s)) (by rw [ov_len, h]; have := hL s hs; simp [lotOf]; omega)
      exact ⟨this.1, by have := this.2; simp only [List.length_cons]; omega⟩

theorem ok_follow_takes (T : Txt K mg) (G_lot_of : FnOk P w K mg base CX0 1 T.a_lot_of T.d_lot_of ["row"] (SpE Rg_lot_of)) (G_blank : FnOk P w K mg base CX0 1 T.a_blank T.d_blank ["many"] (SpE Rg_blank)) (G_union : FnOk P w K mg base CX0 2 T.a_union T.d_union ["one", "other"] (SpE Rg_union)) (G_can_be_taken : FnOk P w K mg base CX0 3 T.a_can_be_taken T.d_can_be_taken ["seed", "told", "row"] (SpE Rg_can_be_taken)) (G_word_of : FnOk P w K mg base CX0 1 T.a_word_of T.d_word_of ["line"] (SpE Rg_word_of)) : FnOk P w K mg base CX0 4 T.a_follow_takes T.d_follow_takes ["seeds", "row", "paper"] (SpE Rg_follow_takes) := by
  refine T.F_follow_takes.ok sc_follow_takes (fun vs H Q E h => spE_len h len_follow_takes) (fun cdv A outer s H vs Q E hr h => ?_)
  have hu := hu64 hr
  have hvl : vs.length = 3 := spE_len h len_follow_takes
  refine ⟨_, (pss_cons (ps_set (i := 3) sc_follow_takes.nd rfl (Or.inl rfl) (pe_call G_blank (hr.mono (by decide)) (by rfl) T.g_blank T.F_blank.kp (b_blank T) .nil pass0 (pa_cons (pe_callB (call_lenK (K := K) rfl) (by rfl) T.n_len (by decide +kernel) (pa_cons (pv 1) pa_nil)) pa_nil))) (pss_cons (ps_for PassesOwn.never rfl (pi_enum1K (K := K) rfl (by rfl) T.n_enumerate (pa_cons (pe_slice (sl_K (K := K) rfl) (pv 2) (po_some pe_int) po_none) pa_nil)) (pg_tup rfl (pgs_cons (pg_name (i := 4) sc_follow_takes.nd rfl (Or.inl rfl)) (pgs_cons (pg_name (i := 5) sc_follow_takes.nd rfl (Or.inl rfl)) pgs_nil))) (pss_cons (ps_if (PW.pt (pw_or (pt_cmpR (op_neK (K := K) rfl hu) (pe_call G_word_of (hr.mono (by decide)) (by rfl) T.g_word_of T.F_word_of.kp (b_word_of T) .nil pass0 (pa_cons (pv 5) pa_nil)) pe_str (nomark _)) (pw_or (pt_cmpR (op_notInW (K := K) rfl (hu65 hr)) (pe_ix (ix_K (K := K) rfl) (pv 5) pe_int (fun _ _ => rfl)) (pv 0) (by rfl)) (pw_or1 (pt_not (pt_val (pe_call G_can_be_taken (hr.mono (by decide)) (by rfl) T.g_can_be_taken T.F_can_be_taken.kp (b_can_be_taken T) .nil pass0 (pa_cons (pe_ix (ix_K (K := K) rfl) (pv 5) pe_int (fun _ _ => rfl)) (pa_cons (pv 3) (pa_cons (pv 1) pa_nil)))))))))) (pss_one (ps_ret (pe_tup (pa_cons (pv 4) (pa_cons (pv 3) pa_nil))))) pss_nil) (pss_one (ps_set (i := 3) sc_follow_takes.nd rfl (Or.inl rfl) (pe_call G_union (hr.mono (by decide)) (by rfl) T.g_union T.F_union.kp (b_union T) .nil pass0 (pa_cons (pv 3) (pa_cons (pe_call G_lot_of (hr.mono (by decide)) (by rfl) T.g_lot_of T.F_lot_of.kp (b_lot_of T) .nil pass0 (pa_cons (pe_ix (ix_K (K := K) rfl) (pv 5) pe_int (fun _ _ => rfl)) pa_nil)) pa_nil))))))) (pss_one (ps_ret (pe_tup (pa_cons (pe_callB (call_lenK (K := K) rfl) (by rfl) T.n_len (by decide +kernel) (pa_cons (pv 2) pa_nil)) (pa_cons (pv 3) pa_nil))))))), fn_body h (by rw [hvl]; decide) (fun ds R hR hl => ?_)⟩
  obtain ⟨xs, xp, S, r, h0, ls, rfl, qs, qp, ⟨h1, h2, h2b⟩, h3, hls, h4, q⟩ := hR
  have hu6 := hu65 hr
  refine q_asg1 (EV.d1 (e_call0 (R := fun e => e = .dat (.str (List.replicate r.length 46))) (ea_c (EV.d1 (e_cb1 (ea_c (e_var rfl) ea_nil) (cd_lenS (by omega)))) ea_nil) ⟨r.length, rfl, h3, rfl⟩)) ?_
  obtain ⟨y, qy, hy⟩ := qp.from (K := K) (te := tVar 2) (ti := tC (.int 1)) (ρ := [.dat xs, .dat (.str r), .dat xp, .dat (.str (List.replicate r.length 46)), .un, .un]) (k := 1) (i := 1) rfl (by decide) (by simp) (e_var rfl) e_int
  have iv := iv_enum1 (K := K) qy.its (ea_c hy ea_nil)
  rw [show (h0 :: ls).drop 1 = ls from rfl] at iv
  refine t_seq (M := fun ρ' => ∃ t x4 x5, ρ' = [.dat xs, .dat (.str r), .dat xp, .dat (.str t), x4, x5] ∧ folM S r (List.replicate r.length 46) ls = (ls.length, t)) (t_for2 iv (fun ds i ρ' => ∃ t x4 x5, ρ' = [.dat xs, .dat (.str r), .dat xp, .dat (.str t), x4, x5] ∧ t.length = r.length ∧ folM S r (List.replicate r.length 46) ls = ((folM S r t (ls.drop i)).1 + i, (folM S r t (ls.drop i)).2)) (fun ds e => ⟨_, .un, .un, rfl, List.length_replicate, rfl⟩) (fun ds i d ρ' e hdi inv => ?_) (fun ds ρ' e ⟨t, x4, x5, e1, e2, e3⟩ => ⟨t, x4, x5, e1, ?_⟩)) fun ρ' m => ?_
  · subst e
    obtain ⟨t, x4, x5, rfl, htl, hf⟩ := inv
    obtain ⟨hlt, e1, e2⟩ := num1_zip hdi
    obtain ⟨d1, d2⟩ := d
    have e1' : d1 = .int (1 + (i : Int)) := e1
    have e2' : ls[i]? = some d2 := e2
    subst e1'
    rw [drop_get e2'] at hf
    have hd2 := hls d2 (List.mem_of_getElem? e2')
    have stop : takeO S r t d2 = none → R (.dat (.tup [.int (1 + (i : Int)), .str t])) := fun hn => by
      have e3 : folM S r t (d2 :: ls.drop (i + 1)) = (0, t) := by unfold folM; rw [hn]
      rw [e3] at hf
      rw [hf] at q
      have : ((0 + i : Nat) : Int) = (i : Int) := by omega
      rw [this] at q
      exact q
    have retE : ∀ ρ0 : List En, ρ0[3]? = some (.dat (.str t)) → ρ0[4]? = some (.dat (.int (1 + (i : Int)))) → ED (tTup (tCons (tVar 4) (tCons (tVar 3) tNil))) ρ0 (· = .tup [.int (1 + (i : Int)), .str t]) := fun ρ0 h3 h4 => e_tup1 (ea_c (e_var h4) (ea_c (e_var h3) ea_nil)) (by simp)
    by_cases hw : isW d2 wTake = true
    · obtain ⟨rr, rfl, hz⟩ := isW_of hw
      obtain ⟨x, rfl⟩ := one_of (ds := rr) (by rw [sz_take] at hz; exact two_r hz)
      have hx : elOk x = true := hd2.1 x (by simp)
      have ix1 : ∀ ρ0 : List En, ρ0[5]? = some (.dat (.tup [.str wTake, x])) → ED (tOp (rIx K) (tVar 5) (tC (.int 1))) ρ0 (· = x) := fun ρ0 h => e_opd (e_var h) e_int (od_ixT (j := 1) rfl rfl)
      by_cases hin : inS x S = true
      · obtain ⟨s, rfl, hS⟩ := inS_str hin
        have hsl := h2 s hS
        refine q_if1 (b := !(canT s t r)) ((et_or1 (et_t1 (e_opd (e_word (e_var rfl) hd2) (e_str (s := wTake) (by decide +kernel)) (od_neE (word_ok hd2) rfl))) (fun _ => et_or1 (et_t1 (e_opd (ix1 _ rfl) (e_var rfl) (od_inE (neg := true) hx qs h2b))) (fun _ => et_not1 (et_v1 (EV.d1 (e_call0 (Rg := Rg_can_be_taken) (R := fun e => e = .dat (.bl (canT s t r))) (ea_c (ix1 _ rfl) (ea_c (e_var rfl) (ea_c (e_var rfl) ea_nil))) ⟨s, t, r, rfl, by omega, hsl, by omega, rfl⟩)))))).is (by
          have hw' : isS (wordD (.tup [.str wTake, .str s])) wTake = true := hw
          rw [hw', hin]; simp)) (fun e => t_ret1 (retE _ rfl rfl) (stop <| by
          show (if wTake = wTake ∧ s ∈ S ∧ canT s t r = true then some s else none) = none
          rw [if_neg (fun z => by rw [z.2.2] at e; cases e)])) fun e => ?_
        have hc : canT s t r = true := by simpa using e
        have htk : takeO S r t (.tup [.str wTake, .str s]) = some s := if_pos ⟨rfl, hS, hc⟩
        refine t_asgd (PD := fun d => d = .str (ov t (lotOf s))) (EV.d1 (e_call0 (Rg := Rg_union) (R := fun e => e = .dat (.str (ov t (lotOf s)))) (ea_c (e_var rfl) (ea_c (EV.d1 (e_call0 (Rg := Rg_lot_of) (R := fun e => e = .dat (.str (lotOf s))) (ea_c (ix1 _ rfl) ea_nil) ⟨s, rfl, by omega, rfl⟩)) ea_nil)) ⟨t, lotOf s, rfl, by omega, rfl⟩)) fun d hd' => ⟨ov t (lotOf s), .dat (.int (1 + (i : Int))), .dat (.tup [.str wTake, .str s]), by rw [hd']; rfl, by rw [ov_len]; simp [lotOf]; omega, ?_⟩
        rw [hf]
        have e4 : folM S r t (.tup [.str wTake, .str s] :: ls.drop (i + 1)) = ((folM S r (ov t (lotOf s)) (ls.drop (i + 1))).1 + 1, (folM S r (ov t (lotOf s)) (ls.drop (i + 1))).2) := by
          conv => lhs; unfold folM
          rw [htk]
        rw [e4]
        exact Prod.ext (by show _ + 1 + i = _ + (i + 1); omega) rfl
      · have hin' : inS x S = false := by simpa using hin
        refine q_if1 (b := true) ((et_or1 (et_t1 (e_opd (e_word (e_var rfl) hd2) (e_str (s := wTake) (by decide +kernel)) (od_neE (word_ok hd2) rfl))) (fun _ => et_or1 (c := true) (et_t1 (e_opd (ix1 _ rfl) (e_var rfl) (od_inE (neg := true) hx qs h2b))) (fun e => absurd e (by rw [hin']; simp)))).is (by rw [hin']; simp)) (fun _ => t_ret1 (retE _ rfl rfl) (stop <| by
          unfold takeO
          split
          · rename_i w' s' e5
            split
            · rename_i hc
              have : D.str s' = x := by have := D.tup.inj e5; simp at this; exact this.2.symm
              rw [← this] at hin'
              have h6 : decide (s' ∈ S) = false := hin'
              exact absurd hc.2.1 (of_decide_eq_false h6)
            · rfl
          · rfl)) (fun e => nomatch e)
    · have hw' : isS (wordD d2) wTake = false := by simpa [isW] using hw
      exact q_if1 (b := true) ((et_or1 (c := true) (et_t1 (e_opd (e_word (e_var rfl) hd2) (e_str (s := wTake) (by decide +kernel)) (od_neE (word_ok hd2) rfl))) (fun e => absurd e (by rw [hw']; simp))).is (by rw [hw']; rfl)) (fun _ => t_ret1 (retE _ rfl rfl) (stop <| takeO_no hw')) (fun e => nomatch e)
  · subst e
    have hl : ((num1 ls.length).zip ls).length = ls.length := by simp [num1]
    rw [hl, List.drop_length] at e3
    rw [e3]
    show (0 + ls.length, t) = _
    rw [Nat.zero_add]
  · obtain ⟨t, x4, x5, rfl, hf⟩ := m
    rw [hf] at q
    refine t_ret1 (d := .tup [.int (1 + ((ls.length : Nat) : Int)), .str t]) (e_tup1 (ea_c ((EV.d1 (e_cb1 (ea_c (e_var rfl) ea_nil) (cd_lenSq qp))).is (by simp; omega)) (ea_c (e_var rfl) ea_nil)) (by simp)) q

theorem ok_bar_holds (T : Txt K mg) (G_barring : FnOk P w K mg base CX0 2 T.a_barring T.d_barring ["seed", "told", "row"] (SpE Rg_barring)) (G_word_of : FnOk P w K mg base CX0 1 T.a_word_of T.d_word_of ["line"] (SpE Rg_word_of)) : FnOk P w K mg base CX0 3 T.a_bar_holds T.d_bar_holds ["cells", "seed", "told", "row", "line"] (SpE Rg_bar_holds) := by
  refine T.F_bar_holds.ok sc_bar_holds (fun vs H Q E h => spE_len h len_bar_holds) (fun cdv A outer s H vs Q E hr h => ?_)
  have hu := hu64 hr
  have hvl : vs.length = 5 := spE_len h len_bar_holds
  refine ⟨_, (pss_cons (ps_if (PW.pt (pw_or (pt_cmpR (op_neK (K := K) rfl hu) (pe_call G_word_of (hr.mono (by decide)) (by rfl) T.g_word_of T.F_word_of.kp (b_word_of T) .nil pass0 (pa_cons (pv 4) pa_nil)) pe_str (nomark _)) (pw_or1 (pt_cmpR (op_neK (K := K) rfl hu) (pe_ix (ix_K (K := K) rfl) (pv 4) pe_int (fun _ _ => rfl)) (pv 1) (nomark _))))) (pss_one (ps_ret pe_bl)) pss_nil) (pss_one (ps_ret (pe_cmpR (op_inW (K := K) rfl (hu65 hr)) (pe_ix (ix_K (K := K) rfl) (pv 4) pe_int (fun _ _ => rfl)) (pe_lc (own := [("place", 5)]) (g := gName 5) (tt := tYes) rfl sc_bar_holds.nd (pi_listK (K := K) rfl (pe_call G_barring (hr.mono (by decide)) (by rfl) T.g_barring T.F_barring.kp (b_barring T) .nil pass0 (pa_cons (pv 1) (pa_cons (pv 2) (pa_cons (pv 3) pa_nil))))) (blkOk_by (N := N_bar_holds) (sc := defScope s_bar_holds) (by decide +kernel)) (fun _ _ _ _ _ => (pg_name (i := 5) sc_bar_holds.nd rfl (Or.inl rfl))) (fun _ _ _ _ _ => pts_nil) (fun _ _ _ _ _ => (pe_ix (ix_K (K := K) rfl) (pe_ix (ix_K (K := K) rfl) (pv 0) (pv 5) (fun _ _ => rfl)) pe_int (fun _ _ => rfl)))) (by rfl))))), fn_body h (by rw [hvl]; decide) (fun ds R hR hl => ?_)⟩
  obtain ⟨xc, cs, s, t, r, d, rfl, qc, h1, h2, h3, h4, hs, hcs, hd, q⟩ := hR
  have hnames : ∀ i ∈ bars s t r, i < cs.length := fun i hi => by
    unfold bars at hi
    have := outs_lt (List.mem_filter.mp hi).1
    omega
  have nob : ∀ {z : D}, isW z wBar = false → barB cs s t r z = false := fun {z} h => by
    unfold barB
    split
    · rename_i w' x' n'
      by_cases e : w' = wBar
      · subst e; cases h
      · rw [decide_eq_false e]; rfl
    · rfl
  by_cases hw : isW d wBar = true
  · obtain ⟨rr, rfl, hz⟩ := isW_of hw
    obtain ⟨x, n, rfl⟩ := two_of (ds := rr) (by rw [sz_bar] at hz; exact two_r hz)
    have hx : elOk x = true := hd.1 x (by simp)
    have hn : elOk n = true := hd.1 n (by simp)
    have ix1 : ∀ ρ0 : List En, ρ0[4]? = some (.dat (.tup [.str wBar, x, n])) → ED (tOp (rIx K) (tVar 4) (tC (.int 1))) ρ0 (· = x) := fun ρ0 h => e_opd (e_var h) e_int (od_ixT (j := 1) rfl rfl)
    have ix2 : ∀ ρ0 : List En, ρ0[4]? = some (.dat (.tup [.str wBar, x, n])) → ED (tOp (rIx K) (tVar 4) (tC (.int 2))) ρ0 (· = n) := fun ρ0 h => e_opd (e_var h) e_int (od_ixT (j := 2) rfl rfl)
    have e0 : barB cs s t r (.tup [.str wBar, x, n]) = (isS x s && inS n (namesM cs s t r)) := by show (decide (wBar = wBar) && isS x s && inS n (namesM cs s t r)) = _; rw [decide_eq_true rfl, Bool.true_and]
    rw [e0] at q
    refine q_if1 (b := !isS x s) ((et_or1 (et_t1 (e_opd (e_word (e_var rfl) hd) (e_str (s := wBar) (by decide +kernel)) (od_neE (word_ok hd) rfl))) (fun _ => et_t1 (e_opd (ix1 _ rfl) (e_var rfl) (od_neE hx hs)))).is (by
      have hw' : isS (wordD (.tup [.str wBar, x, n])) wBar = true := hw
      rw [hw']; rfl)) (fun e => t_ret1 e_bl (by rw [show isS x s = false by simpa using e] at q; exact q)) fun e => ?_
    rw [show isS x s = true by simpa using e] at q
    refine t_ret1 (d := .bl (inS n (namesM cs s t r))) (e_opd (ix2 _ rfl) (EV.o1 ((lc1_map (emb := fun (i : Nat) => D.int i) (f := fun i => D.str (cs.getD i ([], 0)).1) (iv_list1 (EV.o1 (e_call0 (R := fun e => e = .own ((bars s t r).map fun (i : Nat) => .int i)) (ea_c (e_var rfl) (ea_c (e_var rfl) (ea_c (e_var rfl) ea_nil))) ⟨s, t, r, rfl, h1, h2, by omega, rfl⟩))) ?_ fun i k hk => ?_).imp (R' := fun e => e = .own ((namesM cs s t r).map D.str)) fun e he => by rw [he]; unfold namesM; rw [List.map_map]; rfl)) (od_inE (neg := false) hn (.lst _) (fun z hz => ?_))) q
    · have := outs_len s t
      have h5 : (bars s t r).length ≤ (outs s t).length := List.length_filter_le _ _
      omega
    · have hk' := hnames k (List.mem_of_getElem? hk)
      have hcl : cs[k]? = some (cs.getD k ([], 0)) := by rw [List.getD_eq_getElem?_getD, List.getElem?_eq_getElem hk']; rfl
      exact e_opd (e_opd (e_var rfl) (e_var rfl) (od_ixSq (j := k) qc rfl (by rw [List.getElem?_map, hcl]; rfl))) e_int (od_ixT (j := 0) rfl rfl)
    · obtain ⟨i, hi, rfl⟩ := List.mem_map.mp hz
      have hk' := hnames i hi
      have hcl : cs[i]? = some (cs.getD i ([], 0)) := by rw [List.getD_eq_getElem?_getD, List.getElem?_eq_getElem hk']; rfl
      exact hcs _ (List.mem_of_getElem? hcl)
  · have hw' : isS (wordD d) wBar = false := by simpa [isW] using hw
    rw [nob hw'] at q
    exact q_if1 (b := true) ((et_or1 (c := true) (et_t1 (e_opd (e_word (e_var rfl) hd) (e_str (s := wBar) (by decide +kernel)) (od_neE (word_ok hd) rfl))) (fun e => absurd e (by rw [hw']; simp))).is (by rw [hw']; rfl)) (fun _ => t_ret1 e_bl q) (fun e => nomatch e)

theorem ok_count_bars (T : Txt K mg) (G_bar_holds : FnOk P w K mg base CX0 3 T.a_bar_holds T.d_bar_holds ["cells", "seed", "told", "row", "line"] (SpE Rg_bar_holds)) : FnOk P w K mg base CX0 4 T.a_count_bars T.d_count_bars ["cells", "waiting", "told", "row", "lines"] (SpE Rg_count_bars) := by
  refine T.F_count_bars.ok sc_count_bars (fun vs H Q E h => spE_len h len_count_bars) (fun cdv A outer s H vs Q E hr h => ?_)
  have hu := hu64 hr
  have hvl : vs.length = 5 := spE_len h len_count_bars
  refine ⟨_, (pss_cons (ps_set (i := 5) sc_count_bars.nd rfl (Or.inl rfl) pe_int) (pss_cons (ps_for PassesOwn.never rfl (pi_zipK (K := K) rfl (by rfl) T.n_zip (pa_cons (pv 1) (pa_cons (pv 4) pa_nil))) (pg_tup rfl (pgs_cons (pg_name (i := 6) sc_count_bars.nd rfl (Or.inl rfl)) (pgs_cons (pg_name (i := 7) sc_count_bars.nd rfl (Or.inl rfl)) pgs_nil))) (pss_cons (ps_if (pt_not (pt_val (pe_call G_bar_holds (hr.mono (by decide)) (by rfl) T.g_bar_holds T.F_bar_holds.kp (b_bar_holds T) .nil pass0 (pa_cons (pv 0) (pa_cons (pv 6) (pa_cons (pv 2) (pa_cons (pv 3) (pa_cons (pv 7) pa_nil)))))))) (pss_one (ps_ret (pv 5))) pss_nil) (pss_one (ps_set (i := 5) sc_count_bars.nd rfl (Or.inl rfl) (pe_op op_plus (pv 5) pe_int))))) (pss_one (ps_ret (pv 5))))), fn_body h (by rw [hvl]; decide) (fun ds R hR hl => ?_)⟩
  obtain ⟨xc, xl, cs, ws, t, r, ls, rfl, qc, ql, ⟨w1, w2, w3⟩, h1, h2, h3, hcs, hls, h4, q⟩ := hR
  refine q_asg1 e_int ?_
  refine t_seq (M := fun ρ' => ∃ x6 x7, ρ' = [.dat xc, .dat (.lst (ws.map D.str)), .dat (.str t), .dat (.str r), .dat xl, .dat (.int ((cntM cs t r ws ls : Nat) : Int)), x6, x7]) (t_for2 (iv_zip (.lst _) ql.its (ea_c (e_var rfl) (ea_c (e_var rfl) ea_nil))) (fun ds i ρ' => ∃ x6 x7, ρ' = [.dat xc, .dat (.lst (ws.map D.str)), .dat (.str t), .dat (.str r), .dat xl, .dat (.int (i : Nat)), x6, x7] ∧ cntM cs t r ws ls = cntM cs t r (ws.drop i) (ls.drop i) + i) (fun ds e => ⟨.un, .un, rfl, rfl⟩) (fun ds i d ρ' e hdi inv => ?_) (fun ds ρ' e ⟨x6, x7, a, hc⟩ => ⟨x6, x7, ?_⟩)) fun ρ' m => ?_
  · subst e
    obtain ⟨x6, x7, rfl, hc⟩ := inv
    obtain ⟨d1, d2⟩ := d
    obtain ⟨e1, e2⟩ := zip_get hdi
    obtain ⟨s, hs, e3⟩ := map_get e1
    have e3' : d1 = .str s := e3
    have e2' : ls[i]? = some d2 := e2
    subst e3'
    have hsm := List.mem_of_getElem? hs
    have hsl := w2 s hsm
    rw [drop_get hs, drop_get e2'] at hc
    have hbar : ∀ (X : XK) (ρ0 : List En), ρ0[0]? = some (.dat xc) → ρ0[6]? = some (.dat (.str s)) → ρ0[2]? = some (.dat (.str t)) → ρ0[3]? = some (.dat (.str r)) → ρ0[7]? = some (.dat d2) → ED (tCall (SpE Rg_bar_holds) [] X (tCons (tVar 0) (tCons (tVar 6) (tCons (tVar 2) (tCons (tVar 3) (tCons (tVar 7) tNil)))))) ρ0 (· = .bl (barB cs s t r d2)) := fun X ρ0 a0 a6 a2 a3 a7 =>
      EV.d1 (e_call0 (R := fun e => e = .dat (.bl (barB cs s t r d2))) (ea_c (e_var a0) (ea_c (e_var a6) (ea_c (e_var a2) (ea_c (e_var a3) (ea_c (e_var a7) ea_nil))))) ⟨xc, cs, s, t, r, d2, rfl, qc, by omega, by omega, h2, h3, w3 s hsm, hcs, hls d2 (List.mem_of_getElem? e2'), rfl⟩)
    refine q_if1 (b := !(barB cs s t r d2)) (et_not1 (et_v1 (hbar _ _ rfl rfl rfl rfl rfl))) (fun e => t_ret1 (e_var rfl) ?_) fun e => ?_
    · have e5 : barB cs s t r d2 = false := by simpa using e
      have e6 : cntM cs t r (s :: ws.drop (i + 1)) (d2 :: ls.drop (i + 1)) = 0 := by unfold cntM; rw [if_neg (by rw [e5]; exact Bool.false_ne_true)]
      rw [e6, Nat.zero_add] at hc
      rw [hc] at q
      exact q
    · have e5 : barB cs s t r d2 = true := by simpa using e
      have e6 : cntM cs t r (s :: ws.drop (i + 1)) (d2 :: ls.drop (i + 1)) = cntM cs t r (ws.drop (i + 1)) (ls.drop (i + 1)) + 1 := by
        conv => lhs; unfold cntM
        rw [if_pos e5]
      refine t_asgd (PD := fun d => d = .int ((i : Int) + 1)) (e_opd (e_var rfl) e_int od_addI) fun d hd => ⟨.dat (.str s), .dat d2, ?_, by rw [hc, e6]; omega⟩
      rw [hd]
      rfl
  · rw [a, hc, e, List.length_zip, List.length_map]
    have : cntM cs t r (ws.drop (min ws.length ls.length)) (ls.drop (min ws.length ls.length)) = 0 := by
      rcases Nat.le_total ws.length ls.length with h | h
      · rw [Nat.min_eq_left h, List.drop_length]; cases ls.drop ws.length <;> rfl
      · rw [Nat.min_eq_right h, List.drop_length]; cases ws.drop ls.length <;> rfl
    rw [this, Nat.zero_add]
  · obtain ⟨x6, x7, rfl⟩ := m
    exact t_ret1 (e_var rfl) q

theorem ok_is_row2 (T : Txt K mg)  : FnOk P w K mg base CX0 1 T.a_is_row T.d_is_row ["cells", "value"] (SpE Rg_is_row2) := by
  refine T.F_is_row.ok sc_is_row (fun vs H Q E h => spE_len h len_is_row2) (fun cdv A outer s H vs Q E hr h => ?_)
  have hu := hu64 hr
  have hvl : vs.length = 2 := spE_len h len_is_row2
  refine ⟨_, (pss_cons (ps_if (PW.pt (pw_or (pt_not (pt_val (pe_callB (call_isiK1 (K := K) rfl) (by rfl) T.n_isinstance (by decide +kernel) (pa_cons (pv 1) (pa_cons (pe_bltn (v := .ty "str") (by rfl) T.n_str (by decide +kernel) rfl) pa_nil))))) (pw_or1 (pt_cmpR (op_neK (K := K) rfl hu) (pe_callB (call_lenK (K := K) rfl) (by rfl) T.n_len (by decide +kernel) (pa_cons (pv 1) pa_nil)) (pe_callB (call_lenK (K := K) rfl) (by rfl) T.n_len (by decide +kernel) (pa_cons (pv 0) pa_nil)) (nomark _))))) (pss_one (ps_ret pe_bl)) pss_nil) (pss_one (ps_ret (pe_callB (call_allK (K := K) rfl rfl) (by rfl) T.n_all (by decide +kernel) (pa_cons (pe_lc (own := [("sign", 2), ("cell", 3)]) (g := gTup K 2 (gCons (gName 2) (gCons (gName 3) gNil))) (tt := tYes) rfl sc_is_row.nd (pi_zipK (K := K) rfl (by rfl) T.n_zip (pa_cons (pv 1) (pa_cons (pv 0) pa_nil))) (blkOk_by (N := N_is_row) (sc := defScope s_is_row) (by decide +kernel)) (fun _ _ _ _ _ => (pg_tup rfl (pgs_cons (pg_name (i := 2) sc_is_row.nd rfl (Or.inl rfl)) (pgs_cons (pg_name (i := 3) sc_is_row.nd rfl (Or.inl rfl)) pgs_nil)))) (fun _ _ _ _ _ => pts_nil) (fun _ _ _ _ _ => (pe_or (pe_cmpR (op_eqK (K := K) rfl hu) (pv 2) (pe_glob (v := .str ".") rfl T.c_DOT ⟨_, rfl⟩) (nomark _)) (pe_one (pe_cmpR (op_inK (K := K) rfl) (pv 2) (pe_slice (sl_K (K := K) rfl) (pe_glob (v := .str "0123") rfl T.c_DIGITS ⟨_, rfl⟩) po_none (po_some (pe_ix (ix_K (K := K) rfl) (pv 3) pe_int (fun _ _ => rfl)))) (by rfl)))))) pa_nil))))), fn_body h (by rw [hvl]; decide) (fun ds R hR hl => ?_)⟩
  obtain ⟨xc, cs, x, rfl, qc, h2, h3, hx, hxl, q⟩ := hR
  have xpl : x.pl = true := by cases x <;> first | rfl | exact absurd hx (by simp [elOk, D.ok])
  have xT : kitB x.ty "str" = some (x.isU "str") := kitU xpl (by simp)
  by_cases hs : ∃ r, x = .str r
  · obtain ⟨r, rfl⟩ := hs
    have hrl := hxl r rfl
    refine q_if1 (b := !decide ((r.length : Int) = (cs.map cellD).length)) ((et_or1 (et_not1 (et_v1 (e_isi (d := .str r) (T := "str") (b := true) (e_var rfl) rfl xT))) (fun _ => et_t1 (e_opd (EV.d1 (e_cb1 (ea_c (e_var rfl) ea_nil) (cd_lenS (by omega)))) (EV.d1 (e_cb1 (ea_c (e_var rfl) ea_nil) (cd_lenSq qc))) od_neI))).is (by simp)) (fun e => t_ret1 e_bl ?_) (fun e => ?_)
    · have h1 : ¬ r.length = cs.length := fun z => by rw [List.length_map, z] at e; simp at e
      rw [show isRowM cs (.str r) = false by show (decide (r.length = cs.length) && rowOk cs r) = false; rw [decide_eq_false h1]; rfl] at q
      exact q
    have h1 : r.length = cs.length := by rw [List.length_map] at e; simp at e; omega
    rw [show isRowM cs (.str r) = rowOk cs r by show (decide (r.length = cs.length) && rowOk cs r) = _; rw [decide_eq_true h1, Bool.true_and]] at q
    have e2 : (chs r).zip (cs.map cellD) = (r.zip cs).map fun p => (D.str [p.1], cellD p.2) := by
      unfold chs
      rw [List.zip_map]; rfl
    have iv := iv_zip (K := K) (ρ := [.dat xc, .dat (.str r), .un, .un]) (.str r) qc.its (ea_c (e_var (i := 1) rfl) (ea_c (e_var (i := 0) rfl) ea_nil))
    rw [e2] at iv
    refine t_ret1 (d := .bl (rowOk cs r)) (EV.d1 (e_cb1 (ea_c (EV.o1 ((lc2_map (f := fun (p : Nat × (List Nat × Nat)) => D.bl (decide (p.1 = 46) || decide (p.1 ∈ [48, 49, 50, 51].take p.2.2))) (by decide) iv (by rw [List.length_zip]; omega) fun i p hp => ?_).imp fun e he => ?_)) ea_nil) (cd_all (bs := (r.zip cs).map fun (p : Nat × (List Nat × Nat)) => decide (p.1 = 46) || decide (p.1 ∈ [48, 49, 50, 51].take p.2.2))))) q
    · have hm : p.2.2 ≤ 4 := h3 _ (List.mem_of_getElem? (zip_get hp).2)
      rw [← str1 p.1 46]
      refine e_or (e_opd (e_var rfl) (e_str (s := [46]) (by decide +kernel)) od_eqS) fun _ => ?_
      rw [← cut_to (xs := [48, 49, 50, 51]) (i := (p.2.2 : Int)) rfl hm]
      exact e_opd (e_var rfl) (EV.d1 (e_sl (e_str (s := [48, 49, 50, 51]) (by decide +kernel)) eo_none (eo_part (e_opd (e_var rfl) e_int (od_ixT (j := 1) rfl rfl))) (sd_str (by decide)))) od_sgn
    · rw [he, List.map_map]; rfl
  · have hb : x.isU "str" = false := by cases x <;> first | rfl | exact absurd ⟨_, rfl⟩ hs
    refine q_if1 (b := true) ((et_or1 (c := true) (et_not1 (et_v1 (e_isi (T := "str") (b := false) (e_var rfl) xpl (by rw [xT, hb])))) (fun e => nomatch e)).is rfl) (fun _ => t_ret1 e_bl ?_) (fun e => nomatch e)
    rw [show isRowM cs x = false by cases x <;> first | rfl | exact absurd ⟨_, rfl⟩ hs] at q
    exact q

end
end Nt

namespace Nt
open PySem PySem.Spec PyProof.Rows L2


def PapOk (d : D) : Prop := match d with
  | .lst L | .tup L => (∀ l ∈ L, LnOk l) ∧ L.length ≤ 1000
  | .bag | .scr _ _ | .obj _ => False
  | _ => True
theorem PapOk.pl {d : D} (h : PapOk d) : d.pl = true := by cases d <;> first | rfl | exact h.elim
theorem PapOk.sq {d : D} {L : List D} (h : PapOk d) (q : Sq d L) : (∀ l ∈ L, LnOk l) ∧ L.length ≤ 1000 := by cases q <;> exact h
def CsOk (cs : List (List Nat × Nat)) : Prop := cs.length ≤ 20 ∧ (∀ c ∈ cs, c.2 ≤ 4) ∧ ∀ c ∈ cs, D.ok (.str c.1) = true
def headR (cs : List (List Nat × Nat)) (h : D) : Option (List Nat) := match h with
  | .tup [.str w, .str r] => if w = wRow ∧ isRowM cs (.str r) = true then some r else none
  | _ => none
def endB (cs : List (List Nat × Nat)) (S : List (List Nat)) (r t : List Nat) (b : Nat) (l : D) : Bool := if t = lotOf r then decide (b = 0) && isW l wMade else decide (b = (waitS S t).length) && isW l wBarred
def lookL (cs : List (List Nat × Nat)) (S : List (List Nat)) (r : List Nat) (a : Nat) (t : List Nat) (ls : List D) : D :=
  match ls[a + cntM cs t r (waitS S t) (ls.drop a)]? with
  | none => .int (1 + ((a + cntM cs t r (waitS S t) (ls.drop a) : Nat) : Int))
  | some l => if endB cs S r t (cntM cs t r (waitS S t) (ls.drop a)) l = true then (if a + cntM cs t r (waitS S t) (ls.drop a) + 1 = ls.length then .non else .int (1 + ((a + cntM cs t r (waitS S t) (ls.drop a) : Nat) : Int) + 1)) else .int (1 + ((a + cntM cs t r (waitS S t) (ls.drop a) : Nat) : Int))
def lookH (cs : List (List Nat × Nat)) (S : List (List Nat)) : List D → D
  | [] => .int 0
  | h :: ls => match headR cs h with
    | some r => lookL cs S r (folM S r (List.replicate r.length 46) ls).1 (folM S r (List.replicate r.length 46) ls).2 ls
    | none => .int 0
def lookM (cs : List (List Nat × Nat)) (S : List (List Nat)) (d : D) : D := match d with
  | .lst L | .tup L => lookH cs S L
  | _ => .int 0
def Rg_look (ds : List D) (P : En → Prop) : Prop := ∃ (xc xs : D) (cs : List (List Nat × Nat)) (S : List (List Nat)) (d : D), ds = [xc, xs, d] ∧ Sq xc (cs.map cellD) ∧ Sq xs (S.map D.str) ∧ CsOk cs ∧ SOk cs.length S ∧ PapOk d ∧ P (.dat (lookM cs S d))
theorem len_look (ds P) (h : Rg_look ds P) : ds.length = 3 := by obtain ⟨_, _, _, _, _, rfl, _⟩ := h; rfl
theorem cnt_le (cs : List (List Nat × Nat)) (t r : List Nat) : ∀ (ws : List (List Nat)) (ls : List D), cntM cs t r ws ls ≤ ws.length ∧ cntM cs t r ws ls ≤ ls.length
  | [], ls => by cases ls <;> exact ⟨Nat.zero_le _, Nat.zero_le _⟩
  | s :: ws, [] => ⟨Nat.zero_le _, Nat.zero_le _⟩
  | s :: ws, l :: ls => by
    unfold cntM
    by_cases h : barB cs s t r l = true
    · rw [if_pos h]
      have := cnt_le cs t r ws ls
      exact ⟨Nat.succ_le_succ this.1, Nat.succ_le_succ this.2⟩
    · rw [if_neg h]; exact ⟨Nat.zero_le _, Nat.zero_le _⟩
theorem seq_or (d : D) : (∃ L, Sq d L) ∨ (d.isU "list" = false ∧ d.isU "tuple" = false) := by
  cases d <;> first | exact .inl ⟨_, .lst _⟩ | exact .inl ⟨_, .tup _⟩ | exact .inr ⟨rfl, rfl⟩
theorem sq_isU {d : D} {L : List D} (q : Sq d L) : (d.isU "list" || d.isU "tuple") = true := by cases q <;> rfl
theorem lookM_sq {cs : List (List Nat × Nat)} {S : List (List Nat)} {d : D} {L : List D} (q : Sq d L) : lookM cs S d = lookH cs S L := by cases q <;> rfl
theorem lookM_no {cs : List (List Nat × Nat)} {S : List (List Nat)} {d : D} (h1 : d.isU "list" = false) (h2 : d.isU "tuple" = false) : lookM cs S d = .int 0 := by
  cases d with
  | tup xs => simp [D.isU] at h2
  | lst xs => simp [D.isU] at h1
  | _ => rfl
theorem headR_no {cs : List (List Nat × Nat)} {h : D} (e : isW h wRow = false) : headR cs h = none := by
  unfold headR
  split
  · rename_i w' r'
    split
    · rename_i hc
      obtain ⟨h1, _⟩ := hc
      subst h1
      cases e
    · rfl
  · rfl
theorem lookH_none {cs : List (List Nat × Nat)} {S : List (List Nat)} {h : D} {ls : List D} (e : headR cs h = none) : lookH cs S (h :: ls) = .int 0 := by
  simp only [lookH, e]
theorem lookH_some {cs : List (List Nat × Nat)} {S : List (List Nat)} {h : D} {ls : List D} {r : List Nat} (e : headR cs h = some r) : lookH cs S (h :: ls) = lookL cs S r (folM S r (List.replicate r.length 46) ls).1 (folM S r (List.replicate r.length 46) ls).2 ls := by
  simp only [lookH, e]
theorem sz_row : szM wRow = some 2 := rfl
section
variable {P : Program} {w : World} {K : PySem.W.Frag} {mg : Str → Option Value} {base : Heap}

theorem ok_look (T : Txt K mg) (G_is_row : FnOk P w K mg base CX0 1 T.a_is_row T.d_is_row ["cells", "value"] (SpE Rg_is_row2)) (G_lot_of : FnOk P w K mg base CX0 1 T.a_lot_of T.d_lot_of ["row"] (SpE Rg_lot_of)) (G_tellers_outside : FnOk P w K mg base CX0 2 T.a_tellers_outside T.d_tellers_outside ["seeds", "told"] (SpE Rg_tellers_outside)) (G_word_of : FnOk P w K mg base CX0 1 T.a_word_of T.d_word_of ["line"] (SpE Rg_word_of)) (G_follow_takes : FnOk P w K mg base CX0 4 T.a_follow_takes T.d_follow_takes ["seeds", "row", "paper"] (SpE Rg_follow_takes)) (G_count_bars : FnOk P w K mg base CX0 4 T.a_count_bars T.d_count_bars ["cells", "waiting", "told", "row", "lines"] (SpE Rg_count_bars)) : FnOk P w K mg base CX0 5 T.a_look T.d_look ["cells", "seeds", "paper"] (SpE Rg_look) := by
  refine T.F_look.ok sc_look (fun vs H Q E h => spE_len h len_look) (fun cdv A outer s H vs Q E hr h => ?_)
  have hu := hu64 hr
  have hvl : vs.length = 3 := spE_len h len_look
  refine ⟨_, (pss_cons (ps_if (PW.pt (pw_or (pt_not (pt_val (pe_callB (call_isiK2 (K := K) rfl) (by rfl) T.n_isinstance (by decide +kernel) (pa_cons (pv 2) (pa_cons (pe_tup (pa_cons (pe_bltn (v := .ty "list") (by rfl) T.n_list (by decide +kernel) rfl) (pa_cons (pe_bltn (v := .ty "tuple") (by rfl) T.n_tuple (by decide +kernel) rfl) pa_nil))) pa_nil))))) (pw_or1 (pt_cmpR (op_eqK (K := K) rfl hu) (pe_callB (call_lenK (K := K) rfl) (by rfl) T.n_len (by decide +kernel) (pa_cons (pv 2) pa_nil)) pe_int (nomark _))))) (pss_one (ps_ret pe_int)) pss_nil) (pss_cons (ps_if (PW.pt (pw_or (pt_cmpR (op_neK (K := K) rfl hu) (pe_call G_word_of (hr.mono (by decide)) (by rfl) T.g_word_of T.F_word_of.kp (b_word_of T) .nil pass0 (pa_cons (pe_ix (ix_K (K := K) rfl) (pv 2) pe_int (fun _ _ => rfl)) pa_nil)) pe_str (nomark _)) (pw_or1 (pt_not (pt_val (pe_call G_is_row (hr.mono (by decide)) (by rfl) T.g_is_row T.F_is_row.kp (b_is_row T) .nil pass0 (pa_cons (pv 0) (pa_cons (pe_ix (ix_K (K := K) rfl) (pe_ix (ix_K (K := K) rfl) (pv 2) pe_int (fun _ _ => rfl)) pe_int (fun _ _ => rfl)) pa_nil)))))))) (pss_one (ps_ret pe_int)) pss_nil) (pss_cons (ps_set (i := 3) sc_look.nd rfl (Or.inl rfl) (pe_ix (ix_K (K := K) rfl) (pe_ix (ix_K (K := K) rfl) (pv 2) pe_int (fun _ _ => rfl)) pe_int (fun _ _ => rfl))) (pss_cons (ps_asg (pe_call G_follow_takes (hr.mono (by decide)) (by rfl) T.g_follow_takes T.F_follow_takes.kp (b_follow_takes T) .nil pass0 (pa_cons (pv 1) (pa_cons (pv 3) (pa_cons (pv 2) pa_nil)))) (pg_tup rfl (pgs_cons (pg_name (i := 4) sc_look.nd rfl (Or.inl rfl)) (pgs_cons (pg_name (i := 5) sc_look.nd rfl (Or.inl rfl)) pgs_nil)))) (pss_cons (ps_set (i := 6) sc_look.nd rfl (Or.inl rfl) (pe_call G_tellers_outside (hr.mono (by decide)) (by rfl) T.g_tellers_outside T.F_tellers_outside.kp (b_tellers_outside T) .nil pass0 (pa_cons (pv 1) (pa_cons (pv 5) pa_nil)))) (pss_cons (ps_set (i := 7) sc_look.nd rfl (Or.inl rfl) (pe_call G_count_bars (hr.mono (by decide)) (by rfl) T.g_count_bars T.F_count_bars.kp (b_count_bars T) .nil pass0 (pa_cons (pv 0) (pa_cons (pv 6) (pa_cons (pv 5) (pa_cons (pv 3) (pa_cons (pe_slice (sl_K (K := K) rfl) (pv 2) (po_some (pv 4)) po_none) pa_nil))))))) (pss_cons (ps_set (i := 4) sc_look.nd rfl (Or.inl rfl) (pe_op op_plus (pv 4) (pv 7))) (pss_cons (ps_if (pt_cmpR (op_eqK (K := K) rfl hu) (pv 4) (pe_callB (call_lenK (K := K) rfl) (by rfl) T.n_len (by decide +kernel) (pa_cons (pv 2) pa_nil)) (nomark _)) (pss_one (ps_ret (pv 4))) pss_nil) (pss_cons (ps_if (pt_cmpR (op_eqK (K := K) rfl hu) (pv 5) (pe_call G_lot_of (hr.mono (by decide)) (by rfl) T.g_lot_of T.F_lot_of.kp (b_lot_of T) .nil pass0 (pa_cons (pv 3) pa_nil)) (nomark _)) (pss_one (ps_set (i := 8) sc_look.nd rfl (Or.inl rfl) (pe_and (pe_cmpR (op_eqK (K := K) rfl hu) (pv 7) pe_int (nomark _)) (pe_one (pe_cmpR (op_eqK (K := K) rfl hu) (pe_call G_word_of (hr.mono (by decide)) (by rfl) T.g_word_of T.F_word_of.kp (b_word_of T) .nil pass0 (pa_cons (pe_ix (ix_K (K := K) rfl) (pv 2) (pv 4) (fun _ _ => rfl)) pa_nil)) pe_str (nomark _)))))) (pss_one (ps_set (i := 8) sc_look.nd rfl (Or.inl rfl) (pe_and (pe_cmpR (op_eqK (K := K) rfl hu) (pv 7) (pe_callB (call_lenK (K := K) rfl) (by rfl) T.n_len (by decide +kernel) (pa_cons (pv 6) pa_nil)) (nomark _)) (pe_one (pe_cmpR (op_eqK (K := K) rfl hu) (pe_call G_word_of (hr.mono (by decide)) (by rfl) T.g_word_of T.F_word_of.kp (b_word_of T) .nil pass0 (pa_cons (pe_ix (ix_K (K := K) rfl) (pv 2) (pv 4) (fun _ _ => rfl)) pa_nil)) pe_str (nomark _))))))) (pss_cons (ps_if (pt_not (pt_val (pv 8))) (pss_one (ps_ret (pv 4))) pss_nil) (pss_one (ps_ret (pe_ifExp (pt_cmpR (op_eqK (K := K) rfl hu) (pe_op op_plus (pv 4) pe_int) (pe_callB (call_lenK (K := K) rfl) (by rfl) T.n_len (by decide +kernel) (pa_cons (pv 2) pa_nil)) (nomark _)) pe_non (pe_op op_plus (pv 4) pe_int)))))))))))))), fn_body h (by rw [hvl]; decide) (fun ds R hR hl => ?_)⟩
  obtain ⟨xc, xs, cs, S, d, rfl, qc, qs, ⟨c1, c2, c3⟩, hS, hd, q⟩ := hR
  have isq : ∀ ρ0 : List En, ρ0[2]? = some (.dat d) → ED (tCB (rIsiT K) (tCons (tVar 2) (tCons (tTup (tCons (tC (.ty "list")) (tCons (tC (.ty "tuple")) tNil))) tNil))) ρ0 (· = .bl (d.isU "list" || d.isU "tuple")) := fun ρ0 h => e_isi2 (e_var h) hd.pl (kitU hd.pl (by simp)) (kitU hd.pl (by simp))
  rcases seq_or d with ⟨L, ql⟩ | ⟨hn1, hn2⟩
  rotate_left
  · refine q_if1 (b := true) ((et_or1 (c := true) (et_not1 (et_v1 (isq _ rfl))) (fun e => by rw [hn1, hn2] at e; cases e)).is (by rw [hn1, hn2]; rfl)) (fun _ => t_ret1 e_int ?_) (fun e => nomatch e)
    rw [lookM_no hn1 hn2] at q
    exact q
  rw [lookM_sq ql] at q
  obtain ⟨hL, hLl⟩ := hd.sq ql
  cases L with
  | nil =>
    exact q_if1 (b := true) ((et_or1 (c := true) (et_not1 (et_v1 (isq _ rfl))) (fun _ => (et_t1 (e_opd (EV.d1 (e_cb1 (ea_c (e_var rfl) ea_nil) (cd_lenSq ql))) e_int od_eqI)).is (by simp))).is (by simp)) (fun _ => t_ret1 e_int q) (fun e => nomatch e)
  | cons h0 ls =>
    have elen : ∀ ρ0 : List En, ρ0[2]? = some (.dat d) → ED (tCB (rLenU K) (tCons (tVar 2) tNil)) ρ0 (· = .int ((ls.length + 1 : Nat) : Int)) := fun ρ0 h => EV.d1 (e_cb1 (ea_c (e_var h) ea_nil) (cd_lenSq ql))
    refine q_if1 (b := false) ((et_or1 (et_not1 (et_v1 (isq _ rfl))) (fun _ => et_t1 (e_opd (elen _ rfl) e_int od_eqI))).is (by rw [sq_isU ql]; simp; omega)) (fun e => nomatch e) (fun _ => ?_)
    have hh := hL h0 List.mem_cons_self
    have ix0 : ∀ ρ0 : List En, ρ0[2]? = some (.dat d) → ED (tOp (rIx K) (tVar 2) (tC (.int 0))) ρ0 (· = h0) := fun ρ0 h => e_opd (e_var h) e_int (od_ixSq (j := 0) ql rfl rfl)
    have ew : ∀ (X : XK) (ρ0 : List En), ρ0[2]? = some (.dat d) → ET (tTest (tOp (rNeU K) (tCall (SpE Rg_word_of) [] X (tCons (tOp (rIx K) (tVar 2) (tC (.int 0))) tNil)) (tC (.str "row")))) ρ0 (· = !isW h0 wRow) := fun X ρ0 h => et_t1 (e_opd (e_word (ix0 ρ0 h) hh) (e_str (s := wRow) (by decide +kernel)) (od_neE (word_ok hh) rfl))
    by_cases hw : isW h0 wRow = true
    rotate_left
    · have hw' : isW h0 wRow = false := by simpa using hw
      refine q_if1 (b := true) ((et_or1 (c := true) (ew _ _ rfl) (fun e => by rw [hw'] at e; cases e)).is (by rw [hw']; rfl)) (fun _ => t_ret1 e_int ?_) (fun e => nomatch e)
      rw [lookH_none (headR_no hw')] at q
      exact q
    obtain ⟨rr, rfl, hz⟩ := isW_of hw
    obtain ⟨x, rfl⟩ := one_of (ds := rr) (by rw [sz_row] at hz; exact two_r hz)
    have hx : elOk x = true := hh.1 x (by simp)
    have ix1 : ∀ ρ0 : List En, ρ0[2]? = some (.dat d) → ED (tOp (rIx K) (tOp (rIx K) (tVar 2) (tC (.int 0))) (tC (.int 1))) ρ0 (· = x) := fun ρ0 h => e_opd (ix0 ρ0 h) e_int (od_ixT (j := 1) rfl rfl)
    refine q_if1 (b := !isRowM cs x) ((et_or1 (ew _ _ rfl) (fun _ => et_not1 (et_v1 (EV.d1 (e_call0 (R := fun e => e = .dat (.bl (isRowM cs x))) (ea_c (e_var rfl) (ea_c (ix1 _ rfl) ea_nil)) ⟨xc, cs, x, rfl, qc, c1, c2, hx, fun s e => hh.2.2 s (by rw [e]; simp), rfl⟩))))).is (by rw [hw]; rfl)) (fun e => t_ret1 e_int ?_) (fun e => ?_)
    · rw [lookH_none (show headR cs (.tup [.str wRow, x]) = none by
          cases x with
          | str r => exact if_neg (fun z => by rw [z.2] at e; cases e)
          | _ => rfl)] at q
      exact q
    have hrow : isRowM cs x = true := by simpa using e
    obtain ⟨r, rfl⟩ : ∃ r, x = .str r := by cases x <;> first | exact ⟨_, rfl⟩ | cases hrow
    have hrl : r.length = cs.length := by
      have h1 : (decide (r.length = cs.length) && rowOk cs r) = true := hrow
      rw [Bool.and_eq_true, decide_eq_true_eq] at h1
      exact h1.1
    rw [lookH_some (show headR cs (.tup [.str wRow, .str r]) = some r from if_pos ⟨rfl, hrow⟩)] at q
    have hSr : SOk r.length S := by rw [hrl]; exact hS
    have hlen := folM_len hSr.2.1 ls (List.replicate r.length 46) List.length_replicate
    generalize hf : folM S r (List.replicate r.length 46) ls = ft at q hlen
    obtain ⟨a, t⟩ := ft
    obtain ⟨htl, hal⟩ := hlen
    have htl' : t.length = r.length := htl
    have hal' : a ≤ ls.length := hal
    have hlsl : ls.length ≤ 1000 := by simp at hLl; omega
    have hlsO : ∀ l ∈ ls, LnOk l := fun l hl => hL l (List.mem_cons_of_mem _ hl)
    refine q_asg1 (ix1 _ rfl) ?_
    refine t_seq (M := fun ρ' => ρ' = [.dat xc, .dat xs, .dat d, .dat (.str r), .dat (.int (1 + (a : Int))), .dat (.str t), .un, .un, .un]) (t_unp (Q2 := fun x y => x = .int (1 + (a : Int)) ∧ y = .str t) ((EV.d1 (e_call0 (R := fun e => e = .dat (.tup [.int (1 + (a : Int)), .str t])) (ea_c (e_var rfl) (ea_c (e_var rfl) (ea_c (e_var rfl) ea_nil))) ⟨xs, d, S, r, _, ls, rfl, qs, ql, hSr, by omega, hlsO, hlsl, by rw [hf]⟩)).imp fun d e => ⟨_, _, e, rfl, rfl⟩) fun x y ⟨e1, e2⟩ => by rw [e1, e2]; rfl) fun ρ' m => ?_
    subst m
    have hwl : (waitS S t).length ≤ S.length := List.length_filter_le _ _
    have hws : SOk r.length (waitS S t) := ⟨by have := hSr.1; omega, fun s hs => hSr.2.1 s (List.mem_filter.mp hs).1, fun s hs => hSr.2.2 s (List.mem_filter.mp hs).1⟩
    refine q_asg1 (EV.o1 (e_call0 (R := fun e => e = .own ((waitS S t).map D.str)) (ea_c (e_var rfl) (ea_c (e_var rfl) ea_nil)) ⟨xs, S, t, rfl, qs, hSr.1, by rw [htl']; exact hSr.2.1, by omega, rfl⟩)) ?_
    obtain ⟨y, qy, hy⟩ := ql.from (K := K) (te := tVar 2) (ti := tVar 4) (ρ := [.dat xc, .dat xs, .dat d, .dat (.str r), .dat (.int (1 + (a : Int))), .dat (.str t), .dat (.lst ((waitS S t).map D.str)), .un, .un]) (k := a + 1) (i := 1 + (a : Int)) (by omega) (by omega) (by simp; omega) (e_var rfl) (e_var rfl)
    rw [show (D.tup [.str wRow, .str r] :: ls).drop (a + 1) = ls.drop a from rfl] at qy
    obtain ⟨b, hb⟩ : ∃ b, b = cntM cs t r (waitS S t) (ls.drop a) := ⟨_, rfl⟩
    have hbl := cnt_le cs t r (waitS S t) (ls.drop a)
    rw [← hb] at hbl
    rw [List.length_drop] at hbl
    unfold lookL at q
    rw [← hb] at q
    refine q_asg1 (d := .int (b : Int)) (EV.d1 (e_call0 (R := fun e => e = .dat (.int (b : Int))) (ea_c (e_var rfl) (ea_c (e_var rfl) (ea_c (e_var rfl) (ea_c (e_var rfl) (ea_c hy ea_nil))))) ⟨xc, y, cs, waitS S t, t, r, ls.drop a, rfl, qc, qy, hws, htl', hrl, c1, c3, fun l hl => hlsO l (List.mem_of_mem_drop hl), by rw [List.length_drop]; omega, by rw [hb]⟩)) ?_
    refine q_asg1 (e_opd (e_var rfl) (e_var rfl) od_addI) ?_
    have eat : (1 + (a : Int)) + (b : Int) = 1 + ((a + b : Nat) : Int) := by omega
    rw [eat]
    refine q_if1 (b := decide (1 + ((a + b : Nat) : Int) = ((ls.length + 1 : Nat) : Int))) (et_t1 (e_opd (e_var rfl) (elen _ rfl) od_eqI)) (fun e => t_ret1 (e_var rfl) ?_) (fun e => ?_)
    · have : a + b = ls.length := by have := of_decide_eq_true e; omega
      rw [List.getElem?_eq_none (by omega)] at q
      exact q
    have hlt : a + b < ls.length := by have := of_decide_eq_false e; omega
    have hat : ls[a + b]? = some ls[a + b] := List.getElem?_eq_getElem hlt
    rw [hat] at q
    generalize ls[a + b] = l at hat q
    have hl := hlsO l (List.mem_of_getElem? hat)
    have ixa : ∀ ρ0 : List En, ρ0[2]? = some (.dat d) → ρ0[4]? = some (.dat (.int (1 + ((a + b : Nat) : Int)))) → ED (tOp (rIx K) (tVar 2) (tVar 4)) ρ0 (· = l) := fun ρ0 h h' => e_opd (e_var h) (e_var h') (od_ixSq (j := a + b + 1) ql (by omega) (by rw [List.getElem?_cons_succ]; exact hat))
    refine t_seq (M := fun ρ' => ρ' = [.dat xc, .dat xs, .dat d, .dat (.str r), .dat (.int (1 + ((a + b : Nat) : Int))), .dat (.str t), .dat (.lst ((waitS S t).map D.str)), .dat (.int (b : Int)), .dat (.bl (endB cs S r t b l))]) (t_if (T := fun z => z = decide (t = lotOf r)) (et_eqS (e_var rfl) (EV.d1 (e_call0 (R := fun e => e = .dat (.str (lotOf r))) (ea_c (e_var rfl) ea_nil) ⟨r, rfl, by omega, rfl⟩))) (fun e => ?_) (fun e => ?_)) fun ρ' m => ?_
    · refine t_asgd (PD := fun d => d = .bl (decide ((b : Int) = 0) && isW l wMade)) (e_and (e_opd (e_var rfl) e_int od_eqI) fun _ => e_opd (e_word (ixa _ rfl rfl) hl) (e_str (s := wMade) (by decide +kernel)) (od_eqE (word_ok hl) rfl)) fun d hd' => ?_
      rw [hd', show endB cs S r t b l = (decide ((b : Int) = 0) && isW l wMade) by
        unfold endB
        rw [if_pos (of_decide_eq_true e.symm)]
        congr 1
        exact decide_eq_decide.mpr ⟨fun z => by omega, fun z => by omega⟩]
      rfl
    · refine t_asgd (PD := fun d => d = .bl (decide ((b : Int) = (((waitS S t).map D.str).length : Int)) && isW l wBarred)) (e_and (e_opd (e_var rfl) (EV.d1 (e_cb1 (ea_c (e_var rfl) ea_nil) cd_lenL)) od_eqI) fun _ => e_opd (e_word (ixa _ rfl rfl) hl) (e_str (s := wBarred) (by decide +kernel)) (od_eqE (word_ok hl) rfl)) fun d hd' => ?_
      rw [hd', show endB cs S r t b l = (decide ((b : Int) = (((waitS S t).map D.str).length : Int)) && isW l wBarred) by
        unfold endB
        rw [if_neg (of_decide_eq_false e.symm), List.length_map]
        congr 1
        exact decide_eq_decide.mpr ⟨fun z => by omega, fun z => by omega⟩]
      rfl
    subst m
    refine q_if1 (b := !endB cs S r t b l) (et_not1 (et_v1 (e_var rfl))) (fun e => t_ret1 (e_var rfl) ?_) (fun e => ?_)
    · rw [show (match some l with | none => D.int (1 + ((a + b : Nat) : Int)) | some l => if endB cs S r t b l = true then (if a + b + 1 = ls.length then D.non else D.int (1 + ((a + b : Nat) : Int) + 1)) else D.int (1 + ((a + b : Nat) : Int))) = D.int (1 + ((a + b : Nat) : Int)) from if_neg (by intro z; rw [z] at e; cases e)] at q
      exact q
    · have he : endB cs S r t b l = true := by simpa using e
      rw [show (match some l with | none => D.int (1 + ((a + b : Nat) : Int)) | some l => if endB cs S r t b l = true then (if a + b + 1 = ls.length then D.non else D.int (1 + ((a + b : Nat) : Int) + 1)) else D.int (1 + ((a + b : Nat) : Int))) = (if a + b + 1 = ls.length then D.non else D.int (1 + ((a + b : Nat) : Int) + 1)) from if_pos he] at q
      refine t_ret1 (d := if a + b + 1 = ls.length then D.non else D.int (1 + ((a + b : Nat) : Int) + 1)) (e_ifd (T := fun z => z = decide (1 + ((a + b : Nat) : Int) + 1 = ((ls.length + 1 : Nat) : Int))) (et_t1 (e_opd (e_opd (e_var rfl) e_int od_addI) (elen _ rfl) od_eqI)) (fun e => ?_) (fun e => ?_)) q
      · rw [if_pos (by have := of_decide_eq_true e.symm; omega)]; exact e_non
      · rw [if_neg (by have := of_decide_eq_false e.symm; omega)]; exact e_opd (e_var rfl) e_int od_addI

end
end Nt

namespace Nt
open PySem PySem.Spec PyProof.Rows L2


def bnF (S : List (List Nat)) (t : List Nat) (i : Nat) : List Nat := ((List.range (S.length - i)).filter fun k => !(frs (S.getD (i + k) []) t).isEmpty).map fun k => i + k
def bnM (S : List (List Nat)) (t : List Nat) (i : Nat) : Nat := (bnF S t i).head?.getD S.length
def Rg_law_is_row (ds : List D) (P : En → Prop) : Prop := Rg_is_row2 ds P
theorem len_law_is_row (ds P) (h : Rg_law_is_row ds P) : ds.length = 2 := len_is_row2 ds P h
def Rg_law_bar_next (ds : List D) (P : En → Prop) : Prop := ∃ (S : List (List Nat)) (t : List Nat) (i : Nat), ds = [.lst (S.map D.str), .str t, .int (i : Int)] ∧ SOk t.length S ∧ t.length ≤ 1000 ∧ i ≤ 1000 ∧ P (.dat (.int (bnM S t i : Int)))
theorem len_law_bar_next (ds P) (h : Rg_law_bar_next ds P) : ds.length = 3 := by obtain ⟨_, _, _, rfl, _⟩ := h; rfl
def namesJ (cs : List (List Nat × Nat)) (s t r : List Nat) : List (List Nat) := ((frs s t).filter fun i => !decide (r.getD i 0 = s.getD i 0)).map fun i => (cs.getD i ([], 0)).1
def Rg_law_bar_good (ds : List D) (P : En → Prop) : Prop := ∃ (cs : List (List Nat × Nat)) (s r t : List Nat) (n : D), ds = [.lst (cs.map cellD), .str s, .str r, .str t, n] ∧ s.length = t.length ∧ s.length = r.length ∧ r.length = cs.length ∧ cs.length ≤ 20 ∧ (∀ c ∈ cs, D.ok (.str c.1) = true) ∧ elOk n = true ∧ P (.dat (.bl (inS n (namesM cs s t r))))
theorem len_law_bar_good (ds P) (h : Rg_law_bar_good ds P) : ds.length = 5 := by obtain ⟨_, _, _, _, _, rfl, _⟩ := h; rfl
theorem inS_congr {n : D} {A B : List (List Nat)} (h : ∀ s, s ∈ A ↔ s ∈ B) : inS n A = inS n B := by
  cases n <;> first | rfl | exact decide_eq_decide.mpr (h _)
theorem names_eq (cs : List (List Nat × Nat)) (s t r : List Nat) (x : List Nat) : x ∈ namesJ cs s t r ↔ x ∈ namesM cs s t r := by
  unfold namesJ namesM bars
  constructor
  · intro h
    obtain ⟨i, hi, e⟩ := List.mem_map.mp h
    obtain ⟨h1, h2⟩ := List.mem_filter.mp hi
    exact List.mem_map.mpr ⟨i, List.mem_filter.mpr ⟨mem_frs.mp h1, h2⟩, e⟩
  · intro h
    obtain ⟨i, hi, e⟩ := List.mem_map.mp h
    obtain ⟨h1, h2⟩ := List.mem_filter.mp hi
    exact List.mem_map.mpr ⟨i, List.mem_filter.mpr ⟨mem_frs.mpr h1, h2⟩, e⟩
theorem frs_le (s t : List Nat) : (frs s t).length ≤ s.length := by
  unfold frs
  have := List.length_filter_le (fun k => !decide (s.getD k 0 = 46) && decide (t.getD k 0 = 46)) (List.range s.length)
  rw [List.length_range] at this
  exact this
section
variable {P : Program} {w : World} {K : PySem.W.Frag} {mg : Str → Option Value} {base : Heap}
theorem ok_law_is_row (T : Txt K mg)  : FnOk P w K mg base CX0 1 T.a_law_is_row T.d_law_is_row ["_law_frame_here", "_law_thing"] (SpE Rg_law_is_row) := by
  refine T.F_law_is_row.ok sc_law_is_row (fun vs H Q E h => spE_len h len_law_is_row) (fun cdv A outer s H vs Q E hr h => ?_)
  have hu := hu64 hr
  have hvl : vs.length = 2 := spE_len h len_law_is_row
  refine ⟨_, (pss_cons (ps_if (PW.pt (pw_or (pt_not (pt_val (pe_callB (call_isiK1 (K := K) rfl) (by rfl) T.n_isinstance (by decide +kernel) (pa_cons (pv 1) (pa_cons (pe_bltn (v := .ty "str") (by rfl) T.n_str (by decide +kernel) rfl) pa_nil))))) (pw_or1 (pt_cmpR (op_neK (K := K) rfl hu) (pe_callB (call_lenK (K := K) rfl) (by rfl) T.n_len (by decide +kernel) (pa_cons (pv 1) pa_nil)) (pe_callB (call_lenK (K := K) rfl) (by rfl) T.n_len (by decide +kernel) (pa_cons (pv 0) pa_nil)) (nomark _))))) (pss_one (ps_ret pe_bl)) pss_nil) (pss_one (ps_ret (pe_callB (call_allK (K := K) rfl rfl) (by rfl) T.n_all (by decide +kernel) (pa_cons (pe_lc (own := [("_law_sign", 2), ("_law_pair", 3)]) (g := gTup K 2 (gCons (gName 2) (gCons (gName 3) gNil))) (tt := tYes) rfl sc_law_is_row.nd (pi_zipK (K := K) rfl (by rfl) T.n_zip (pa_cons (pv 1) (pa_cons (pv 0) pa_nil))) (blkOk_by (N := N_law_is_row) (sc := defScope s_law_is_row) (by decide +kernel)) (fun _ _ _ _ _ => (pg_tup rfl (pgs_cons (pg_name (i := 2) sc_law_is_row.nd rfl (Or.inl rfl)) (pgs_cons (pg_name (i := 3) sc_law_is_row.nd rfl (Or.inl rfl)) pgs_nil)))) (fun _ _ _ _ _ => pts_nil) (fun _ _ _ _ _ => (pe_cmpR (op_inK (K := K) rfl) (pv 2) (pe_op op_plus pe_str (pe_slice (sl_K (K := K) rfl) pe_str po_none (po_some (pe_ix (ix_K (K := K) rfl) (pv 3) pe_int (fun _ _ => rfl))))) (by rfl)))) pa_nil))))), fn_body h (by rw [hvl]; decide) (fun ds R hR hl => ?_)⟩
  obtain ⟨xc, cs, x, rfl, qc, h2, h3, hx, hxl, q⟩ := hR
  have xpl : x.pl = true := by cases x <;> first | rfl | exact absurd hx (by simp [elOk, D.ok])
  have xT : kitB x.ty "str" = some (x.isU "str") := kitU xpl (by simp)
  by_cases hs : ∃ r, x = .str r
  · obtain ⟨r, rfl⟩ := hs
    have hrl := hxl r rfl
    refine q_if1 (b := !decide ((r.length : Int) = (cs.map cellD).length)) ((et_or1 (et_not1 (et_v1 (e_isi (d := .str r) (T := "str") (b := true) (e_var rfl) rfl xT))) (fun _ => et_t1 (e_opd (EV.d1 (e_cb1 (ea_c (e_var rfl) ea_nil) (cd_lenS (by omega)))) (EV.d1 (e_cb1 (ea_c (e_var rfl) ea_nil) (cd_lenSq qc))) od_neI))).is (by simp)) (fun e => t_ret1 e_bl ?_) (fun e => ?_)
    · have h1 : ¬ r.length = cs.length := fun z => by rw [List.length_map, z] at e; simp at e
      rw [show isRowM cs (.str r) = false by show (decide (r.length = cs.length) && rowOk cs r) = false; rw [decide_eq_false h1]; rfl] at q
      exact q
    have h1 : r.length = cs.length := by rw [List.length_map] at e; simp at e; omega
    rw [show isRowM cs (.str r) = rowOk cs r by show (decide (r.length = cs.length) && rowOk cs r) = _; rw [decide_eq_true h1, Bool.true_and]] at q
    have e2 : (chs r).zip (cs.map cellD) = (r.zip cs).map fun p => (D.str [p.1], cellD p.2) := by
      unfold chs
      rw [List.zip_map]; rfl
    have iv := iv_zip (K := K) (ρ := [.dat xc, .dat (.str r), .un, .un]) (.str r) qc.its (ea_c (e_var (i := 1) rfl) (ea_c (e_var (i := 0) rfl) ea_nil))
    rw [e2] at iv
    refine t_ret1 (d := .bl (rowOk cs r)) (EV.d1 (e_cb1 (ea_c (EV.o1 ((lc2_map (f := fun (p : Nat × (List Nat × Nat)) => D.bl (decide (p.1 = 46) || decide (p.1 ∈ [48, 49, 50, 51].take p.2.2))) (by decide) iv (by rw [List.length_zip]; omega) fun i p hp => ?_).imp fun e he => ?_)) ea_nil) (cd_all (bs := (r.zip cs).map fun (p : Nat × (List Nat × Nat)) => decide (p.1 = 46) || decide (p.1 ∈ [48, 49, 50, 51].take p.2.2))))) q
    · have hm : p.2.2 ≤ 4 := h3 _ (List.mem_of_getElem? (zip_get hp).2)
      refine (e_opd (e_var rfl) (e_opd (e_str (s := [46]) (by decide +kernel)) (EV.d1 (e_sl (e_str (s := [48, 49, 50, 51]) (by decide +kernel)) eo_none (eo_part (e_opd (e_var rfl) e_int (od_ixT (j := 1) rfl rfl))) (sd_str (by decide)))) (od_addS (i := [46]) (j := cutN [48, 49, 50, 51] none (some (p.2.2 : Int))) (by rw [cut_to (xs := [48, 49, 50, 51]) (i := (p.2.2 : Int)) rfl hm]; simp; omega))) od_sgn).is ?_
      rw [cut_to (xs := [48, 49, 50, 51]) (i := (p.2.2 : Int)) rfl hm]
      congr 1
      rw [if_neg Bool.false_ne_true, Bool.eq_iff_iff, Bool.or_eq_true, decide_eq_true_eq, decide_eq_true_eq, decide_eq_true_eq]
      exact List.mem_cons
    · rw [he, List.map_map]; rfl
  · have hb : x.isU "str" = false := by cases x <;> first | rfl | exact absurd ⟨_, rfl⟩ hs
    refine q_if1 (b := true) ((et_or1 (c := true) (et_not1 (et_v1 (e_isi (T := "str") (b := false) (e_var rfl) xpl (by rw [xT, hb])))) (fun e => nomatch e)).is rfl) (fun _ => t_ret1 e_bl ?_) (fun e => nomatch e)
    rw [show isRowM cs x = false by cases x <;> first | rfl | exact absurd ⟨_, rfl⟩ hs] at q
    exact q

theorem ok_law_bar_next (T : Txt K mg) (G_law_fresh : FnOk P w K mg base CX0 1 T.a_law_fresh T.d_law_fresh ["_law_s", "_law_told"] (SpE Rg_law_fresh)) : FnOk P w K mg base CX0 2 T.a_law_bar_next T.d_law_bar_next ["_law_stack", "_law_told", "_law_spot"] (SpE Rg_law_bar_next) := by
  refine T.F_law_bar_next.ok sc_law_bar_next (fun vs H Q E h => spE_len h len_law_bar_next) (fun cdv A outer s H vs Q E hr h => ?_)
  have hu := hu64 hr
  have hvl : vs.length = 3 := spE_len h len_law_bar_next
  refine ⟨_, (pss_cons (ps_setLc (i := 3) (own := [("_law_k", 4)]) (g := gName 4) (tt := _) rfl sc_law_bar_next.nd rfl rfl (sw_true rfl rfl rfl (by decide +kernel)) (pi_range2 (by rfl) T.n_range (pa_cons (pv 2) (pa_cons (pe_callB (call_lenK (K := K) rfl) (by rfl) T.n_len (by decide +kernel) (pa_cons (pv 0) pa_nil)) pa_nil))) (blkOk_by (N := N_law_bar_next) (sc := defScope s_law_bar_next) (by decide +kernel)) (fun _ _ _ _ _ => (pg_name (i := 4) sc_law_bar_next.nd rfl (Or.inl rfl))) (fun _ _ _ _ _ => (pts_one (pt_cmpR (op_neK (K := K) rfl hu) (pe_call G_law_fresh (hr.mono (by decide)) (by rfl) T.g_law_fresh T.F_law_fresh.kp (b_law_fresh T) .nil pass0 (pa_cons (pe_ix (ix_K (K := K) rfl) (pv 0) (pv 4) (fun _ _ => rfl)) (pa_cons (pv 1) pa_nil))) (pe_lst pa_nil) (nomark _)))) (fun _ _ _ _ _ => (pv 4))) (pss_one (ps_ret (pe_ifExp (pt_truK (K := K) rfl (pv 3)) (pe_ix (ix_K (K := K) rfl) (pv 3) pe_int (fun _ _ => rfl)) (pe_callB (call_lenK (K := K) rfl) (by rfl) T.n_len (by decide +kernel) (pa_cons (pv 0) pa_nil)))))), fn_body h (by rw [hvl]; decide) (fun ds R hR hl => ?_)⟩
  obtain ⟨S, t, i, rfl, ⟨h1, h2, h3⟩, h4, h5, q⟩ := hR
  have hln : (S.map D.str).length = S.length := List.length_map ..
  have okI : ∀ (l : List Nat), ∀ d ∈ l.map (fun (i : Nat) => D.int i), d.ok = true := fun l d hd => by
    obtain ⟨i, _, rfl⟩ := List.mem_map.mp hd
    rfl
  have emp : ∀ (l : List Nat), (l.map fun (i : Nat) => D.int i).isEmpty = l.isEmpty := fun l => by cases l <;> rfl
  refine q_asgo (ds := (bnF S t i).map fun (k : Nat) => .int k) ((lc1_filt (t := fun k => !(frs (S.getD (i + k) []) t).isEmpty) (emb := fun (k : Nat) => D.int ((i + k : Nat) : Int)) (f := fun (k : Nat) => .int ((i + k : Nat) : Int)) (iv_rng2 (b := S.length) (ea_c (e_var rfl) (ea_c ((EV.d1 (e_cb1 (ea_c (e_var rfl) ea_nil) cd_lenL)).is (by rw [hln])) ea_nil)) (by omega) (by omega)) (by rw [List.length_range]; omega) (fun j k hk => ?_) (fun j k hk _ => e_var rfl)).imp fun e he => by rw [he]; unfold bnF; rw [List.map_map]; rfl) ?_
  · have hk' : k < S.length - i := List.mem_range.mp (List.mem_of_getElem? hk)
    have hs : S[i + k]? = some (S.getD (i + k) []) := by rw [List.getD_eq_getElem?_getD, List.getElem?_eq_getElem (by omega)]; rfl
    have hsl := h2 _ (List.mem_of_getElem? hs)
    refine (et_t1 (e_opd (EV.o1 (e_call0 (R := fun e => e = .own ((frs (S.getD (i + k) []) t).map fun (i : Nat) => .int i)) (ea_c (e_opd (e_var rfl) (e_var rfl) (od_ixL (j := i + k) rfl (by rw [List.getElem?_map, hs]; rfl))) (ea_c (e_var rfl) ea_nil)) ⟨_, t, rfl, by omega, by omega, rfl⟩)) (EV.o1 (e_lst1 ea_nil (by decide))) (od_neN (okI _)))).is ?_
    rw [emp]
  refine t_freeze (i := 3) (ds := (bnF S t i).map fun (k : Nat) => .int k) rfl ?_
  unfold bnM at q
  generalize bnF S t i = L at q
  refine t_ret1 (e_ifd (T := fun b => b = !(L.map fun (k : Nat) => D.int k).isEmpty) (et_tru (e_var rfl)) (fun e => ?_) (fun e => ?_)) q
  · cases L with
    | nil => cases e
    | cons k L => exact e_opd (e_var rfl) e_int (od_ixL (j := 0) rfl rfl)
  · cases L with
    | cons k L => cases e
    | nil => exact (EV.d1 (e_cb1 (ea_c (e_var rfl) ea_nil) cd_lenL)).is (by rw [hln]; rfl)

theorem ok_law_bar_good (T : Txt K mg) (G_law_fresh : FnOk P w K mg base CX0 1 T.a_law_fresh T.d_law_fresh ["_law_s", "_law_told"] (SpE Rg_law_fresh)) : FnOk P w K mg base CX0 2 T.a_law_bar_good T.d_law_bar_good ["_law_frame_here", "_law_s", "_law_r", "_law_told", "_law_title_here"] (SpE Rg_law_bar_good) := by
  refine T.F_law_bar_good.ok sc_law_bar_good (fun vs H Q E h => spE_len h len_law_bar_good) (fun cdv A outer s H vs Q E hr h => ?_)
  have hu := hu64 hr
  have hvl : vs.length = 5 := spE_len h len_law_bar_good
  refine ⟨_, (pss_one (ps_ret (pe_cmpR (op_inW (K := K) rfl (hu65 hr)) (pv 4) (pe_lc (own := [("_law_k", 5)]) (g := gName 5) (tt := _) rfl sc_law_bar_good.nd (pi_listK (K := K) rfl (pe_call G_law_fresh (hr.mono (by decide)) (by rfl) T.g_law_fresh T.F_law_fresh.kp (b_law_fresh T) .nil pass0 (pa_cons (pv 1) (pa_cons (pv 3) pa_nil)))) (blkOk_by (N := N_law_bar_good) (sc := defScope s_law_bar_good) (by decide +kernel)) (fun _ _ _ _ _ => (pg_name (i := 5) sc_law_bar_good.nd rfl (Or.inl rfl))) (fun _ _ _ _ _ => (pts_one (pt_cmpR (op_neK (K := K) rfl hu) (pe_ix (ix_K (K := K) rfl) (pv 2) (pv 5) (fun _ _ => rfl)) (pe_ix (ix_K (K := K) rfl) (pv 1) (pv 5) (fun _ _ => rfl)) (nomark _)))) (fun _ _ _ _ _ => (pe_ix (ix_K (K := K) rfl) (pe_ix (ix_K (K := K) rfl) (pv 0) (pv 5) (fun _ _ => rfl)) pe_int (fun _ _ => rfl)))) (by rfl)))), fn_body h (by rw [hvl]; decide) (fun ds R hR hl => ?_)⟩
  obtain ⟨cs, s, r, t, n, rfl, h1, h2, h3, h4, hcs, hn, q⟩ := hR
  have hfl := frs_le s t
  have hlt : ∀ i, i ∈ (frs s t).filter (fun i => !decide (r.getD i 0 = s.getD i 0)) → i < cs.length := fun i hi => by
    have := outs_lt (mem_frs.mp (List.mem_filter.mp hi).1)
    omega
  rw [← inS_congr (names_eq cs s t r)] at q
  refine t_ret1 (d := .bl (inS n (namesJ cs s t r))) (e_opd (e_var rfl) (EV.o1 ((lc1_filt (ds := frs s t) (t := fun i => !decide (r.getD i 0 = s.getD i 0)) (emb := fun (i : Nat) => D.int i) (f := fun i => D.str (cs.getD i ([], 0)).1) (iv_list1 (EV.o1 (e_call0 (R := fun e => e = .own ((frs s t).map fun (i : Nat) => .int i)) (ea_c (e_var rfl) (ea_c (e_var rfl) ea_nil)) ⟨s, t, rfl, h1, by omega, rfl⟩))) (by omega) (fun i k hk => ?_) fun i k hk ht => ?_).imp (R' := fun e => e = .own ((namesJ cs s t r).map D.str)) fun e he => by rw [he]; unfold namesJ; rw [List.map_map]; rfl)) (od_inE (neg := false) hn (.lst _) (fun z hz => ?_))) q
  · have hk' : k < s.length := outs_lt (mem_frs.mp (List.mem_of_getElem? hk))
    refine (et_neS (e_opd (e_var rfl) (e_var rfl) (od_ixS (j := k) rfl (get_of_lt (by omega)) (by omega))) (e_opd (e_var rfl) (e_var rfl) (od_ixS (j := k) rfl (get_of_lt hk') (by omega)))).is ?_
    rw [str1]
  · have hk' : k < cs.length := by
      have := outs_lt (mem_frs.mp (List.mem_of_getElem? hk))
      omega
    have hcl : cs[k]? = some (cs.getD k ([], 0)) := by rw [List.getD_eq_getElem?_getD, List.getElem?_eq_getElem hk']; rfl
    exact e_opd (e_opd (e_var rfl) (e_var rfl) (od_ixL (j := k) rfl (by rw [List.getElem?_map, hcl]; rfl))) e_int (od_ixT (j := 0) rfl rfl)
  · obtain ⟨i, hi, rfl⟩ := List.mem_map.mp hz
    have hk' := hlt i hi
    have hcl : cs[i]? = some (cs.getD i ([], 0)) := by rw [List.getD_eq_getElem?_getD, List.getElem?_eq_getElem hk']; rfl
    exact hcs _ (List.mem_of_getElem? hcl)

end
end Nt

namespace Nt
open PySem PySem.Spec PyProof.Rows L2


def spI : Option Nat → Int
  | none => -1
  | some n => n
def tkB (S : List (List Nat)) (r t : List Nat) (sp : Option Nat) (ds : List D) : Bool := match ds with
  | [x, .str s] => isS x wTake && (decide (spI sp < 0) && (decide (s ∈ S) && canT s t r))
  | _ => false
def seed2 (ds : List D) : List Nat := match ds with
  | [_, .str s] => s
  | _ => []
def brB (S : List (List Nat)) (ah : Nat) (ds : List D) : Bool := match ds with
  | [x, y, _] => isS x wBar && (decide ((ah : Int) < (S.length : Int)) && isS y (S.getD ah []))
  | _ => false
def gdB (cs : List (List Nat × Nat)) (S : List (List Nat)) (r t : List Nat) (ah : Nat) (ds : List D) : Bool := match ds with
  | [_, _, n] => inS n (namesM cs (S.getD ah []) t r)
  | _ => false
def stepJ (cs : List (List Nat × Nat)) (S : List (List Nat)) (r t : List Nat) (sp : Option Nat) (l : D) : Option (List Nat × Option Nat × Bool) := match l with
  | .tup ds =>
    if (isT1 ds wMade && (decide (spI sp < 0) && decide (t = lotOf r))) = true then some (t, sp, true)
    else if (isT1 ds wBarred && (decide ((bnM S t (sp.getD 0) : Int) = (S.length : Int)) && !decide (t = lotOf r))) = true then some (t, sp, true)
    else if tkB S r t sp ds = true then some (ov t (lotOf (seed2 ds)), sp, false)
    else if brB S (bnM S t (sp.getD 0)) ds = true then (if gdB cs S r t (bnM S t (sp.getD 0)) ds = true then some (t, some (bnM S t (sp.getD 0) + 1), false) else none)
    else none
  | _ => none
def jdg (cs : List (List Nat × Nat)) (S : List (List Nat)) (r : List Nat) : Nat → List Nat → Option Nat → Bool → List D → D
  | k, _, _, c, [] => if c = true then .non else .int (k : Int)
  | k, t, sp, c, l :: ls => if c = true then .int (k : Int) else match stepJ cs S r t sp l with
    | none => .int (k : Int)
    | some z => jdg cs S r (k + 1) z.1 z.2.1 z.2.2 ls
def judH (cs : List (List Nat × Nat)) (S : List (List Nat)) : List D → D
  | [] => .int 0
  | h :: ls => match headR cs h with
    | some r => jdg cs S r 1 (List.replicate r.length 46) none false ls
    | none => .int 0
def judM (cs : List (List Nat × Nat)) (S : List (List Nat)) (d : D) : D := match d with
  | .lst L | .tup L => judH cs S L
  | _ => .int 0
theorem judM_sq {cs : List (List Nat × Nat)} {S : List (List Nat)} {d : D} {L : List D} (q : Sq d L) : judM cs S d = judH cs S L := by cases q <;> rfl
theorem judM_no {cs : List (List Nat × Nat)} {S : List (List Nat)} {d : D} (h1 : d.isU "list" = false) (h2 : d.isU "tuple" = false) : judM cs S d = .int 0 := by
  cases d with
  | tup xs => simp [D.isU] at h2
  | lst xs => simp [D.isU] at h1
  | _ => rfl
theorem judH_none {cs : List (List Nat × Nat)} {S : List (List Nat)} {h : D} {ls : List D} (e : headR cs h = none) : judH cs S (h :: ls) = .int 0 := by
  simp only [judH, e]
theorem judH_some {cs : List (List Nat × Nat)} {S : List (List Nat)} {h : D} {ls : List D} {r : List Nat} (e : headR cs h = some r) : judH cs S (h :: ls) = jdg cs S r 1 (List.replicate r.length 46) none false ls := by
  simp only [judH, e]
def Rg_law_judge (ds : List D) (P : En → Prop) : Prop := ∃ (cs : List (List Nat × Nat)) (S : List (List Nat)) (d : D), ds = [.lst (cs.map cellD), .lst (S.map D.str), d] ∧ CsOk cs ∧ SOk cs.length S ∧ PapOk d ∧ P (.dat (judM cs S d))
theorem len_law_judge (ds P) (h : Rg_law_judge ds P) : ds.length = 3 := by obtain ⟨_, _, _, rfl, _⟩ := h; rfl
theorem e_negI {ρ : List En} {ta : TE} {i : Int} (h : ED ta ρ (· = .int i)) : ED (tUn (rU fun i => .int (-i)) ta) ρ (· = .int (-i)) := fun W0 W σ E Q q => h W0 W σ E _ fun v d W' g r p => by
  subst p
  cases r
  exact ⟨_, rfl, q _ _ W' g (.int _) rfl⟩
theorem headR_len {cs : List (List Nat × Nat)} {ds : List D} (h : ds.length ≠ 2) : headR cs (.tup ds) = none := by
  unfold headR
  split
  · rename_i w' r' e
    cases e
    exact absurd rfl h
  · rfl
theorem headR_two {cs : List (List Nat × Nat)} {x y : D} (h : isS x wRow = false ∨ isRowM cs y = false) : headR cs (.tup [x, y]) = none := by
  unfold headR
  split
  · rename_i w' r' e
    cases e
    refine if_neg fun z => ?_
    rcases h with h | h
    · exact absurd z.1 (of_decide_eq_false h)
    · rw [z.2] at h; cases h
  · rfl
theorem two_D {ds : List D} (h : ds.length = 2) : ∃ x y, ds = [x, y] := by
  match ds, h with
  | [x, y], _ => exact ⟨x, y, rfl⟩
theorem three_D {ds : List D} (h : ds.length = 3) : ∃ x y z, ds = [x, y, z] := by
  match ds, h with
  | [x, y, z], _ => exact ⟨x, y, z, rfl⟩
theorem isT1_len {ds : List D} {s : List Nat} (h : isT1 ds s = true) : ds.length = 1 := by
  unfold isT1 at h
  split at h
  · rfl
  · cases h
theorem tkB_len {S : List (List Nat)} {r t : List Nat} {sp : Option Nat} {ds : List D} (h : ds.length ≠ 2) : tkB S r t sp ds = false := by
  unfold tkB
  split
  · exact absurd rfl h
  · rfl
theorem brB_len {S : List (List Nat)} {ah : Nat} {ds : List D} (h : ds.length ≠ 3) : brB S ah ds = false := by
  unfold brB
  split
  · exact absurd rfl h
  · rfl
theorem bnM_le {S : List (List Nat)} {t : List Nat} {i : Nat} : bnM S t i ≤ S.length := by
  unfold bnM
  cases e : (bnF S t i).head? with
  | none => exact Nat.le_refl _
  | some k =>
    have hk := List.mem_of_head? e
    unfold bnF at hk
    obtain ⟨j, hj, rfl⟩ := List.mem_map.mp hk
    have := List.mem_range.mp (List.mem_filter.mp hj).1
    show i + j ≤ S.length
    omega
section
variable {P : Program} {w : World} {K : PySem.W.Frag} {mg : Str → Option Value} {base : Heap}
theorem ok_law_judge (T : Txt K mg) (G_law_lot : FnOk P w K mg base CX0 1 T.a_law_lot T.d_law_lot ["_law_r"] (SpE Rg_law_lot)) (G_law_join : FnOk P w K mg base CX0 1 T.a_law_join T.d_law_join ["_law_x", "_law_y"] (SpE Rg_law_join)) (G_law_is_row : FnOk P w K mg base CX0 1 T.a_law_is_row T.d_law_is_row ["_law_frame_here", "_law_thing"] (SpE Rg_law_is_row)) (G_law_fits : FnOk P w K mg base CX0 2 T.a_law_fits T.d_law_fits ["_law_s", "_law_r", "_law_told"] (SpE Rg_law_fits)) (G_law_bar_next : FnOk P w K mg base CX0 2 T.a_law_bar_next T.d_law_bar_next ["_law_stack", "_law_told", "_law_spot"] (SpE Rg_law_bar_next)) (G_law_bar_good : FnOk P w K mg base CX0 2 T.a_law_bar_good T.d_law_bar_good ["_law_frame_here", "_law_s", "_law_r", "_law_told", "_law_title_here"] (SpE Rg_law_bar_good)) : FnOk P w K mg base CX0 3 T.a_law_judge T.d_law_judge ["_law_frame_here", "_law_stack", "_law_thing"] (SpE Rg_law_judge) := by
  refine T.F_law_judge.ok sc_law_judge (fun vs H Q E h => spE_len h len_law_judge) (fun cdv A outer s H vs Q E hr h => ?_)
  have hu := hu64 hr
  have hvl : vs.length = 3 := spE_len h len_law_judge
  refine ⟨_, (pss_cons (ps_if (PW.pt (pw_or (pt_not (pt_val (pe_callB (call_isiK2 (K := K) rfl) (by rfl) T.n_isinstance (by decide +kernel) (pa_cons (pv 2) (pa_cons (pe_tup (pa_cons (pe_bltn (v := .ty "list") (by rfl) T.n_list (by decide +kernel) rfl) (pa_cons (pe_bltn (v := .ty "tuple") (by rfl) T.n_tuple (by decide +kernel) rfl) pa_nil))) pa_nil))))) (pw_or1 (pt_cmpR (op_eqK (K := K) rfl hu) (pe_callB (call_lenK (K := K) rfl) (by rfl) T.n_len (by decide +kernel) (pa_cons (pv 2) pa_nil)) pe_int (nomark _))))) (pss_one (ps_ret pe_int)) pss_nil) (pss_cons (ps_set (i := 3) sc_law_judge.nd rfl (Or.inl rfl) (pe_ix (ix_K (K := K) rfl) (pv 2) pe_int (fun _ _ => rfl))) (pss_cons (ps_if (PW.pt (pw_or (pt_not (pt_val (pe_callB (call_isiK1 (K := K) rfl) (by rfl) T.n_isinstance (by decide +kernel) (pa_cons (pv 3) (pa_cons (pe_bltn (v := .ty "tuple") (by rfl) T.n_tuple (by decide +kernel) rfl) pa_nil))))) (pw_or (pt_cmpR (op_neK (K := K) rfl hu) (pe_callB (call_lenK (K := K) rfl) (by rfl) T.n_len (by decide +kernel) (pa_cons (pv 3) pa_nil)) pe_int (nomark _)) (pw_or (pt_cmpR (op_neK (K := K) rfl hu) (pe_ix (ix_K (K := K) rfl) (pv 3) pe_int (fun _ _ => rfl)) pe_str (nomark _)) (pw_or1 (pt_not (pt_val (pe_call G_law_is_row (hr.mono (by decide)) (by rfl) T.g_law_is_row T.F_law_is_row.kp (b_law_is_row T) .nil pass0 (pa_cons (pv 0) (pa_cons (pe_ix (ix_K (K := K) rfl) (pv 3) pe_int (fun _ _ => rfl)) pa_nil)))))))))) (pss_one (ps_ret pe_int)) pss_nil) (pss_cons (ps_asg (pe_tup (pa_cons (pe_ix (ix_K (K := K) rfl) (pv 3) pe_int (fun _ _ => rfl)) (pa_cons (pe_op op_times pe_str (pe_callB (call_lenK (K := K) rfl) (by rfl) T.n_len (by decide +kernel) (pa_cons (pv 0) pa_nil))) (pa_cons (pe_un un_neg pe_int) (pa_cons pe_bl pa_nil))))) (pg_tup rfl (pgs_cons (pg_name (i := 4) sc_law_judge.nd rfl (Or.inl rfl)) (pgs_cons (pg_name (i := 5) sc_law_judge.nd rfl (Or.inl rfl)) (pgs_cons (pg_name (i := 6) sc_law_judge.nd rfl (Or.inl rfl)) (pgs_cons (pg_name (i := 7) sc_law_judge.nd rfl (Or.inl rfl)) pgs_nil)))))) (pss_cons (ps_for PassesOwn.never rfl (pi_range2 (by rfl) T.n_range (pa_cons pe_int (pa_cons (pe_callB (call_lenK (K := K) rfl) (by rfl) T.n_len (by decide +kernel) (pa_cons (pv 2) pa_nil)) pa_nil))) (pg_name (i := 8) sc_law_judge.nd rfl (Or.inl rfl)) (pss_cons (ps_set (i := 9) sc_law_judge.nd rfl (Or.inl rfl) (pe_ix (ix_K (K := K) rfl) (pv 2) (pv 8) (fun _ _ => rfl))) (pss_cons (ps_if (PW.pt (pw_or (pt_val (pv 7)) (pw_or (pt_not (pt_val (pe_callB (call_isiK1 (K := K) rfl) (by rfl) T.n_isinstance (by decide +kernel) (pa_cons (pv 9) (pa_cons (pe_bltn (v := .ty "tuple") (by rfl) T.n_tuple (by decide +kernel) rfl) pa_nil))))) (pw_or1 (PW.pt (pw_and (pt_cmpR (op_notInW (K := K) rfl (hu65 hr)) (pv 9) (pe_lst (pa_cons (pe_tup (pa_cons pe_str pa_nil)) (pa_cons (pe_tup (pa_cons pe_str pa_nil)) pa_nil))) (by rfl)) (pw_and1 (pt_cmpR (op_notInW (K := K) rfl (hu65 hr)) (pe_callB (call_lenK (K := K) rfl) (by rfl) T.n_len (by decide +kernel) (pa_cons (pv 9) pa_nil)) (pe_lst (pa_cons pe_int (pa_cons pe_int pa_nil))) (by rfl))))))))) (pss_one (ps_ret (pv 8))) pss_nil) (pss_cons (ps_set (i := 10) sc_law_judge.nd rfl (Or.inl rfl) (pe_call G_law_bar_next (hr.mono (by decide)) (by rfl) T.g_law_bar_next T.F_law_bar_next.kp (b_law_bar_next T) .nil pass0 (pa_cons (pv 1) (pa_cons (pv 5) (pa_cons (pe_callB (call_maxIK rfl) (by rfl) T.n_max (by decide +kernel) (pa_cons pe_int (pa_cons (pv 6) pa_nil))) pa_nil))))) (pss_one (ps_if (PW.pt (pw_and (pt_cmpR (op_eqK (K := K) rfl hu) (pv 9) (pe_tup (pa_cons pe_str pa_nil)) (nomark _)) (pw_and (pt_cmpR op_lt (pv 6) pe_int (nomark _)) (pw_and1 (pt_cmpR (op_eqK (K := K) rfl hu) (pv 5) (pe_call G_law_lot (hr.mono (by decide)) (by rfl) T.g_law_lot T.F_law_lot.kp (b_law_lot T) .nil pass0 (pa_cons (pv 4) pa_nil)) (nomark _)))))) (pss_one (ps_set (i := 7) sc_law_judge.nd rfl (Or.inl rfl) pe_bl)) (pss_one (ps_if (PW.pt (pw_and (pt_cmpR (op_eqK (K := K) rfl hu) (pv 9) (pe_tup (pa_cons pe_str pa_nil)) (nomark _)) (pw_and (pt_cmpR (op_eqK (K := K) rfl hu) (pv 10) (pe_callB (call_lenK (K := K) rfl) (by rfl) T.n_len (by decide +kernel) (pa_cons (pv 1) pa_nil)) (nomark _)) (pw_and1 (pt_cmpR (op_neK (K := K) rfl hu) (pv 5) (pe_call G_law_lot (hr.mono (by decide)) (by rfl) T.g_law_lot T.F_law_lot.kp (b_law_lot T) .nil pass0 (pa_cons (pv 4) pa_nil)) (nomark _)))))) (pss_one (ps_set (i := 7) sc_law_judge.nd rfl (Or.inl rfl) pe_bl)) (pss_one (ps_if (PW.pt (pw_and (pt_cmpR (op_eqK (K := K) rfl hu) (pe_callB (call_lenK (K := K) rfl) (by rfl) T.n_len (by decide +kernel) (pa_cons (pv 9) pa_nil)) pe_int (nomark _)) (pw_and (pt_cmpR (op_eqK (K := K) rfl hu) (pe_ix (ix_K (K := K) rfl) (pv 9) pe_int (fun _ _ => rfl)) pe_str (nomark _)) (pw_and (pt_cmpR op_lt (pv 6) pe_int (nomark _)) (pw_and (pt_cmpR (op_inW (K := K) rfl (hu65 hr)) (pe_ix (ix_K (K := K) rfl) (pv 9) pe_int (fun _ _ => rfl)) (pv 1) (by rfl)) (pw_and1 (pt_val (pe_call G_law_fits (hr.mono (by decide)) (by rfl) T.g_law_fits T.F_law_fits.kp (b_law_fits T) .nil pass0 (pa_cons (pe_ix (ix_K (K := K) rfl) (pv 9) pe_int (fun _ _ => rfl)) (pa_cons (pv 4) (pa_cons (pv 5) pa_nil))))))))))) (pss_one (ps_set (i := 5) sc_law_judge.nd rfl (Or.inl rfl) (pe_call G_law_join (hr.mono (by decide)) (by rfl) T.g_law_join T.F_law_join.kp (b_law_join T) .nil pass0 (pa_cons (pv 5) (pa_cons (pe_call G_law_lot (hr.mono (by decide)) (by rfl) T.g_law_lot T.F_law_lot.kp (b_law_lot T) .nil pass0 (pa_cons (pe_ix (ix_K (K := K) rfl) (pv 9) pe_int (fun _ _ => rfl)) pa_nil)) pa_nil))))) (pss_one (ps_if (PW.pt (pw_and (pt_cmpR (op_eqK (K := K) rfl hu) (pe_callB (call_lenK (K := K) rfl) (by rfl) T.n_len (by decide +kernel) (pa_cons (pv 9) pa_nil)) pe_int (nomark _)) (pw_and (pt_cmpR (op_eqK (K := K) rfl hu) (pe_ix (ix_K (K := K) rfl) (pv 9) pe_int (fun _ _ => rfl)) pe_str (nomark _)) (pw_and (pt_cmpR op_lt (pv 10) (pe_callB (call_lenK (K := K) rfl) (by rfl) T.n_len (by decide +kernel) (pa_cons (pv 1) pa_nil)) (nomark _)) (pw_and1 (pt_cmpR (op_eqK (K := K) rfl hu) (pe_ix (ix_K (K := K) rfl) (pv 9) pe_int (fun _ _ => rfl)) (pe_ix (ix_K (K := K) rfl) (pv 1) (pv 10) (fun _ _ => rfl)) (nomark _))))))) (pss_cons (ps_if (pt_not (pt_val (pe_call G_law_bar_good (hr.mono (by decide)) (by rfl) T.g_law_bar_good T.F_law_bar_good.kp (b_law_bar_good T) .nil pass0 (pa_cons (pv 0) (pa_cons (pe_ix (ix_K (K := K) rfl) (pv 1) (pv 10) (fun _ _ => rfl)) (pa_cons (pv 4) (pa_cons (pv 5) (pa_cons (pe_ix (ix_K (K := K) rfl) (pv 9) pe_int (fun _ _ => rfl)) pa_nil)))))))) (pss_one (ps_ret (pv 8))) pss_nil) (pss_one (ps_set (i := 6) sc_law_judge.nd rfl (Or.inl rfl) (pe_op op_plus (pv 10) pe_int)))) (pss_one (ps_ret (pv 8))))))))))))))) (pss_one (ps_ret (pe_ifExp (pt_val (pv 7)) pe_non (pe_callB (call_lenK (K := K) rfl) (by rfl) T.n_len (by decide +kernel) (pa_cons (pv 2) pa_nil)))))))))), fn_body h (by rw [hvl]; decide) (fun ds R hR hl => ?_)⟩
  obtain ⟨cs, S, d, rfl, ⟨c1, c2, c3⟩, hS, hd, q⟩ := hR
  have hcl : (cs.map cellD).length = cs.length := List.length_map ..
  have hSl : (S.map D.str).length = S.length := List.length_map ..
  have isq : ∀ ρ0 : List En, ρ0[2]? = some (.dat d) → ED (tCB (rIsiT K) (tCons (tVar 2) (tCons (tTup (tCons (tC (.ty "list")) (tCons (tC (.ty "tuple")) tNil))) tNil))) ρ0 (· = .bl (d.isU "list" || d.isU "tuple")) := fun ρ0 h => e_isi2 (e_var h) hd.pl (kitU hd.pl (by simp)) (kitU hd.pl (by simp))
  rcases seq_or d with ⟨L, ql⟩ | ⟨hn1, hn2⟩
  rotate_left
  · refine q_if1 (b := true) ((et_or1 (c := true) (et_not1 (et_v1 (isq _ rfl))) (fun e => by rw [hn1, hn2] at e; cases e)).is (by rw [hn1, hn2]; rfl)) (fun _ => t_ret1 e_int ?_) (fun e => nomatch e)
    rw [judM_no hn1 hn2] at q
    exact q
  rw [judM_sq ql] at q
  obtain ⟨hL, hLl⟩ := hd.sq ql
  cases L with
  | nil =>
    exact q_if1 (b := true) ((et_or1 (c := true) (et_not1 (et_v1 (isq _ rfl))) (fun _ => (et_t1 (e_opd (EV.d1 (e_cb1 (ea_c (e_var rfl) ea_nil) (cd_lenSq ql))) e_int od_eqI)).is (by simp))).is (by simp)) (fun _ => t_ret1 e_int q) (fun e => nomatch e)
  | cons h0 ls =>
    have elen : ∀ ρ0 : List En, ρ0[2]? = some (.dat d) → ED (tCB (rLenU K) (tCons (tVar 2) tNil)) ρ0 (· = .int ((ls.length + 1 : Nat) : Int)) := fun ρ0 h => EV.d1 (e_cb1 (ea_c (e_var h) ea_nil) (cd_lenSq ql))
    refine q_if1 (b := false) ((et_or1 (et_not1 (et_v1 (isq _ rfl))) (fun _ => et_t1 (e_opd (elen _ rfl) e_int od_eqI))).is (by rw [sq_isU ql]; simp; omega)) (fun e => nomatch e) (fun _ => ?_)
    have hh := hL h0 List.mem_cons_self
    have hhT : kitB h0.ty "tuple" = some (h0.isU "tuple") := kitU hh.pl (by simp)
    refine q_asg1 (e_opd (e_var rfl) e_int (od_ixSq (j := 0) ql rfl rfl)) ?_
    by_cases ht : ∃ ds, h0 = .tup ds
    rotate_left
    · have hb : h0.isU "tuple" = false := by cases h0 <;> first | rfl | exact absurd ⟨_, rfl⟩ ht
      refine q_if1 (b := true) ((et_or1 (c := true) (et_not1 (et_v1 (e_isi (T := "tuple") (e_var rfl) hh.pl hhT))) (fun e => by rw [hb] at e; cases e)).is (by rw [hb]; rfl)) (fun _ => t_ret1 e_int ?_) (fun e => nomatch e)
      rw [judH_none (show headR cs h0 = none by unfold headR; split <;> first | exact absurd ⟨_, rfl⟩ ht | rfl)] at q
      exact q
    obtain ⟨hs, rfl⟩ := ht
    have hlen : ∀ ρ0 : List En, ρ0[3]? = some (.dat (.tup hs)) → ED (tCB (rLenU K) (tCons (tVar 3) tNil)) ρ0 (· = .int (hs.length : Int)) := fun ρ0 h => EV.d1 (e_cb1 (ea_c (e_var h) ea_nil) cd_lenT)
    by_cases h2 : hs.length = 2
    rotate_left
    · refine q_if1 (b := true) ((et_or1 (c := true) (et_not1 (et_v1 (e_isi (T := "tuple") (b := true) (e_var rfl) hh.pl hhT))) (fun _ => (et_or1 (c := true) (et_t1 (e_opd (hlen _ rfl) e_int od_neI)) (fun e => by
        have h3 : ¬ ((hs.length : Int) = 2) := by omega
        rw [decide_eq_false h3] at e; cases e)).is (by simp))).is (by simp)) (fun _ => t_ret1 e_int ?_) (fun e => nomatch e)
      rw [judH_none (headR_len h2)] at q
      exact q
    obtain ⟨x, y, rfl⟩ := two_D h2
    have hx : elOk x = true := hh.1 x (by simp)
    have hy : elOk y = true := hh.1 y (by simp)
    refine q_if1 (b := !isS x wRow || !isRowM cs y) ((et_or1 (et_not1 (et_v1 (e_isi (T := "tuple") (b := true) (e_var rfl) hh.pl hhT))) (fun _ => et_or1 (et_t1 (e_opd (hlen _ rfl) e_int od_neI)) (fun _ => et_or1 (et_t1 (e_opd (e_opd (e_var rfl) e_int (od_ixT (j := 0) rfl rfl)) (e_str (s := wRow) (by decide +kernel)) (od_neE hx rfl))) (fun _ => et_not1 (et_v1 (EV.d1 (e_call0 (R := fun e => e = .dat (.bl (isRowM cs y))) (ea_c (e_var rfl) (ea_c (e_opd (e_var rfl) e_int (od_ixT (j := 1) rfl rfl)) ea_nil)) ⟨_, cs, y, rfl, .lst _, c1, c2, hy, fun s e => hh.2.2 s (by rw [e]; simp), rfl⟩))))))).is (by simp)) (fun e => t_ret1 e_int ?_) (fun e => ?_)
    · rw [judH_none (headR_two (by
        rcases Bool.eq_false_or_eq_true (isS x wRow) with z | z
        · rw [z] at e; exact .inr (by simpa using e)
        · exact .inl z))] at q
      exact q
    rw [Bool.or_eq_false_iff] at e
    have hxr : isS x wRow = true := by simpa using e.1
    have hrow : isRowM cs y = true := by simpa using e.2
    obtain ⟨r, rfl⟩ : ∃ r, y = .str r := by cases y <;> first | exact ⟨_, rfl⟩ | cases hrow
    have hxe : x = .str wRow := by
      cases x <;> first | cases hxr; done | skip
      exact congrArg D.str (of_decide_eq_true hxr)
    subst hxe
    have hrl : r.length = cs.length := by
      have h1 : (decide (r.length = cs.length) && rowOk cs r) = true := hrow
      rw [Bool.and_eq_true, decide_eq_true_eq] at h1
      exact h1.1
    rw [judH_some (show headR cs (.tup [.str wRow, .str r]) = some r from if_pos ⟨rfl, hrow⟩)] at q
    obtain ⟨s1, s2, s3⟩ := hS
    have hls : ls.length ≤ 1000 := by simp at hLl; omega
    refine t_seq (M := fun ρ' => ρ' = [.dat (.lst (cs.map cellD)), .dat (.lst (S.map D.str)), .dat d, .dat (.tup [.str wRow, .str r]), .dat (.str r), .dat (.str (List.replicate r.length 46)), .dat (.int (-1)), .dat (.bl false), .un, .un, .un]) (t_quad (a := .str r) (b := .str (List.replicate r.length 46)) (c := .int (-1)) (d := .bl false) (e_tup1 (ea_c (e_opd (e_var rfl) e_int (od_ixT (j := 1) rfl rfl)) (ea_c ((e_opd (e_str (s := [46]) (by decide +kernel)) (EV.d1 (e_cb1 (ea_c (e_var rfl) ea_nil) cd_lenL)) (od_mulS (by omega) (by omega) (by decide))).is (by rw [Int.toNat_natCast, rep46, hcl, hrl])) (ea_c (e_negI e_int) (ea_c e_bl ea_nil)))) (by simp)) rfl) fun ρ' m => ?_
    subst m
    have e1 : ls.length + 1 - 1 = ls.length := rfl
    refine t_seq (M := fun ρ' => ∃ t sp c x8 x9 x10, ρ' = [.dat (.lst (cs.map cellD)), .dat (.lst (S.map D.str)), .dat d, .dat (.tup [.str wRow, .str r]), .dat (.str r), .dat (.str t), .dat (.int (spI sp)), .dat (.bl c), x8, x9, x10] ∧ jdg cs S r 1 (List.replicate r.length 46) none false ls = jdg cs S r (1 + ls.length) t sp c []) (t_for1 (iv_rng2 (a := 1) (b := ls.length + 1) (ea_c e_int (ea_c (elen _ rfl) ea_nil)) (by omega) (by omega)) (fun ds i ρ' => ∃ t sp c x8 x9 x10, ρ' = [.dat (.lst (cs.map cellD)), .dat (.lst (S.map D.str)), .dat d, .dat (.tup [.str wRow, .str r]), .dat (.str r), .dat (.str t), .dat (.int (spI sp)), .dat (.bl c), x8, x9, x10] ∧ t.length = r.length ∧ Bin t ∧ sp.getD 0 ≤ S.length ∧ jdg cs S r 1 (List.replicate r.length 46) none false ls = jdg cs S r (1 + i) t sp c (ls.drop i)) (fun ds e => ⟨List.replicate r.length 46, none, false, .un, .un, .un, rfl, List.length_replicate, fun c hc => .inl (List.eq_of_mem_replicate hc), Nat.zero_le _, rfl⟩) (fun ds i dd ρ' e hdi inv => ?_) (fun ds ρ' e ⟨t, sp, c, x8, x9, x10, a, _, _, _, b⟩ => ⟨t, sp, c, x8, x9, x10, a, ?_⟩)) fun ρ' m => ?_
    · subst e
      obtain ⟨t, sp, c, x8, x9, x10, rfl, htl, hbin, hsp, hj⟩ := inv
      obtain ⟨k, hk, rfl⟩ := map_get hdi
      have hki : k = i ∧ i < ls.length := by
        have hi := (List.getElem?_eq_some_iff.mp hk).1
        rw [List.length_range] at hi
        rw [List.getElem?_range hi] at hk
        exact ⟨(Option.some.inj hk).symm, by omega⟩
      obtain ⟨rfl, hil⟩ := hki
      have hat : ls[k]? = some ls[k] := List.getElem?_eq_getElem hil
      generalize ls[k] = l at hat
      rw [drop_get hat] at hj
      have hl : LnOk l := hL l (List.mem_cons_of_mem _ (List.mem_of_getElem? hat))
      refine q_asg1 (d := l) (e_opd (e_var rfl) (e_var rfl) (od_ixSq (j := 1 + k) ql (by omega) (by rw [Nat.add_comm 1 k, List.getElem?_cons_succ]; exact hat))) ?_
      have stop : (c = true ∨ stepJ cs S r t sp l = none) → R (.dat (.int ((1 + k : Nat) : Int))) := fun z => by
        rw [hj] at q
        unfold jdg at q
        rcases z with z | z
        · rw [if_pos z] at q; exact q
        · rw [z] at q
          by_cases hc : c = true
          · rw [if_pos hc] at q; exact q
          · rw [if_neg hc] at q; exact q
      have hlT : kitB l.ty "tuple" = some (l.isU "tuple") := kitU hl.pl (by simp)
      cases c with
      | true =>
        exact q_if1 (b := true) ((et_or1 (a := true) (c := true) (et_v1 (e_var rfl)) (fun e => by cases e)).is rfl) (fun _ => t_ret1 (e_var rfl) (stop (.inl rfl))) (fun e => nomatch e)
      | false =>
      by_cases ht : ∃ ds, l = .tup ds
      rotate_left
      · have hb : l.isU "tuple" = false := by cases l <;> first | rfl | exact absurd ⟨_, rfl⟩ ht
        exact q_if1 (b := true) ((et_or1 (et_v1 (e_var rfl)) (fun _ => et_or1 (c := true) (et_not1 (et_v1 (e_isi (T := "tuple") (e_var rfl) hl.pl hlT))) (fun e => by rw [hb] at e; cases e))).is (by rw [hb]; rfl)) (fun _ => t_ret1 (e_var rfl) (stop (.inr (by unfold stepJ; split <;> first | exact absurd ⟨_, rfl⟩ ht | rfl)))) (fun e => nomatch e)
      obtain ⟨ds, rfl⟩ := ht
      obtain ⟨l1, l2, l3⟩ := hl
      have plen : ∀ ρ0 : List En, ρ0[9]? = some (.dat (.tup ds)) → ED (tCB (rLenU K) (tCons (tVar 9) tNil)) ρ0 (· = .int (ds.length : Int)) := fun ρ0 h => EV.d1 (e_cb1 (ea_c (e_var h) ea_nil) cd_lenT)
      refine q_if1 (b := !(isT1 ds wMade || isT1 ds wBarred) && !(decide ((2 : Int) = (ds.length : Int)) || decide ((3 : Int) = (ds.length : Int)))) ((et_or1 (et_v1 (e_var rfl)) (fun _ => et_or1 (et_not1 (et_v1 (e_isi (T := "tuple") (b := true) (e_var rfl) rfl hlT))) (fun _ => et_and1 (et_t1 (e_opd (e_var rfl) (EV.o1 (e_lst1 (ea_c (e_tup1 (ea_c (e_str (s := wMade) (by decide +kernel)) ea_nil) (by simp)) (ea_c (e_tup1 (ea_c (e_str (s := wBarred) (by decide +kernel)) ea_nil) (by simp)) ea_nil)) (by simp))) (od_inT1 (neg := true) l1 rfl rfl))) (fun _ => et_t1 (e_opd (plen _ rfl) (EV.o1 (e_lst1 (ea_c e_int (ea_c e_int ea_nil)) (by simp))) (od_inI2 (neg := true))))))).is (by simp)) (fun e => t_ret1 (e_var rfl) (stop (.inr ?_))) (fun e => ?_)
      · rw [Bool.and_eq_true] at e
        obtain ⟨z1, z2⟩ := e
        have z1' : isT1 ds wMade = false ∧ isT1 ds wBarred = false := by
          rw [Bool.not_eq_true', Bool.or_eq_false_iff] at z1; exact z1
        have z2' : ds.length ≠ 2 ∧ ds.length ≠ 3 := by
          rw [Bool.not_eq_true', Bool.or_eq_false_iff, decide_eq_false_iff_not, decide_eq_false_iff_not] at z2
          omega
        simp only [stepJ, z1'.1, z1'.2, tkB_len z2'.1, brB_len z2'.2, Bool.false_and, Bool.false_eq_true, if_false]
      obtain ⟨ah, hah⟩ : ∃ ah, ah = bnM S t (sp.getD 0) := ⟨_, rfl⟩
      have hahl : ah ≤ S.length := by rw [hah]; exact bnM_le
      refine q_asg1 (d := .int (ah : Int)) (EV.d1 (e_call0 (R := fun e => e = .dat (.int (ah : Int))) (ea_c (e_var rfl) (ea_c (e_var rfl) (ea_c ((e_maxI e_int (e_var rfl)).is (y := .int ((sp.getD 0 : Nat) : Int)) (by
        cases sp with
        | none => rfl
        | some n =>
          show D.int (if (n : Int) > 0 then (n : Int) else 0) = .int (n : Int)
          congr 1
          split <;> omega)) ea_nil))) ⟨S, t, sp.getD 0, rfl, ⟨s1, by rw [htl, hrl]; exact s2, s3⟩, by omega, by omega, by rw [hah]⟩)) ?_
      have elot : ∀ (X : XK) (ρ0 : List En), ρ0[4]? = some (.dat (.str r)) → ED (tCall (SpE Rg_law_lot) [] X (tCons (tVar 4) tNil)) ρ0 (· = .str (lotOf r)) := fun X ρ0 h => EV.d1 (e_call0 (R := fun e => e = .dat (.str (lotOf r))) (ea_c (e_var h) ea_nil) ⟨r, rfl, by omega, rfl⟩)
      have estk : ∀ ρ0 : List En, ρ0[1]? = some (.dat (.lst (S.map D.str))) → ED (tCB (rLenU K) (tCons (tVar 1) tNil)) ρ0 (· = .int (S.length : Int)) := fun ρ0 h => (EV.d1 (e_cb1 (ea_c (e_var h) ea_nil) cd_lenL)).is (by rw [hSl])
      have go : ∀ (z : List Nat × Option Nat × Bool), stepJ cs S r t sp (.tup ds) = some z → jdg cs S r 1 (List.replicate r.length 46) none false ls = jdg cs S r (1 + (k + 1)) z.1 z.2.1 z.2.2 (ls.drop (k + 1)) := fun z hz => by
        rw [hj]
        conv => lhs; unfold jdg
        rw [if_neg Bool.false_ne_true, hz]
        rfl
      have hst : stepJ cs S r t sp (.tup ds) = if (isT1 ds wMade && (decide (spI sp < 0) && decide (t = lotOf r))) = true then some (t, sp, true)
          else if (isT1 ds wBarred && (decide ((ah : Int) = (S.length : Int)) && !decide (t = lotOf r))) = true then some (t, sp, true)
          else if tkB S r t sp ds = true then some (ov t (lotOf (seed2 ds)), sp, false)
          else if brB S ah ds = true then (if gdB cs S r t ah ds = true then some (t, some (ah + 1), false) else none)
          else none := by rw [hah]; rfl
      refine t_if (T := fun b => b = (isT1 ds wMade && (decide (spI sp < 0) && decide (t = lotOf r)))) (et_and1 (et_t1 (e_opd (e_var rfl) (e_tup1 (ea_c (e_str (s := wMade) (by decide +kernel)) ea_nil) (by simp)) (od_eqT1 l1 rfl))) fun _ => et_and1 (et_t1 (e_opd (e_var rfl) e_int od_lt)) fun _ => et_eqS (e_var rfl) (elot _ _ rfl)) (fun e => ?_) (fun e => ?_)
      · refine t_asgd (PD := (· = .bl true)) e_bl fun d' hd' => ?_
        rw [if_pos e.symm] at hst
        exact ⟨t, sp, true, _, _, _, by rw [hd']; rfl, htl, hbin, hsp, go _ hst⟩
      rw [if_neg (by rw [← e]; exact Bool.false_ne_true)] at hst
      refine t_if (T := fun b => b = (isT1 ds wBarred && (decide ((ah : Int) = (S.length : Int)) && !decide (t = lotOf r)))) (et_and1 (et_t1 (e_opd (e_var rfl) (e_tup1 (ea_c (e_str (s := wBarred) (by decide +kernel)) ea_nil) (by simp)) (od_eqT1 l1 rfl))) fun _ => et_and1 (et_t1 (e_opd (e_var rfl) (estk _ rfl) od_eqI)) fun _ => et_neS (e_var rfl) (elot _ _ rfl)) (fun e => ?_) (fun e => ?_)
      · refine t_asgd (PD := (· = .bl true)) e_bl fun d' hd' => ?_
        rw [if_pos e.symm] at hst
        exact ⟨t, sp, true, _, _, _, by rw [hd']; rfl, htl, hbin, hsp, go _ hst⟩
      rw [if_neg (by rw [← e]; exact Bool.false_ne_true)] at hst
      have hx0 : ∀ (ρ0 : List En) (j : Nat) (z : D), ρ0[9]? = some (.dat (.tup ds)) → ds[j]? = some z → ∀ n : Int, n = (j : Int) → ED (tOp (rIx K) (tVar 9) (tC (.int n))) ρ0 (· = z) := fun ρ0 j z h hz n hn => e_opd (e_var h) e_int (od_ixT (j := j) hn hz)
      have hfit : ∀ (X : XK) (ρ0 : List En) (s : List Nat), ρ0[9]? = some (.dat (.tup ds)) → ρ0[4]? = some (.dat (.str r)) → ρ0[5]? = some (.dat (.str t)) → ds[1]? = some (.str s) → s ∈ S → ED (tCall (SpE Rg_law_fits) [] X (tCons (tOp (rIx K) (tVar 9) (tC (.int 1))) (tCons (tVar 4) (tCons (tVar 5) tNil)))) ρ0 (· = .bl (canT s t r)) := fun X ρ0 s h9 h4 h5 hz hs => by
        have hsl := s2 s hs
        exact EV.d1 (e_call0 (Rg := Rg_law_fits) (R := fun e => e = .dat (.bl (canT s t r))) (ea_c (hx0 _ 1 _ h9 hz 1 rfl) (ea_c (e_var h4) (ea_c (e_var h5) ea_nil))) ⟨s, r, t, rfl, by omega, by omega, by omega, rfl⟩)
      refine t_if (T := fun b => b = tkB S r t sp ds) (?_) (fun e => ?_) (fun e => ?_)
      · by_cases h2 : ds.length = 2
        · obtain ⟨x, y, rfl⟩ := two_D h2
          by_cases hin : inS y S = true
          · obtain ⟨s, rfl, hs⟩ := inS_str hin
            refine (et_and1 (et_t1 (e_opd (plen _ rfl) e_int od_eqI)) fun _ => et_and1 (et_t1 (e_opd (hx0 _ 0 x rfl rfl 0 rfl) (e_str (s := wTake) (by decide +kernel)) (od_eqE (l1 x (by simp)) rfl))) fun _ => et_and1 (et_t1 (e_opd (e_var rfl) e_int od_lt)) fun _ => et_and1 (et_t1 (e_opd (hx0 _ 1 _ rfl rfl 1 rfl) (e_var rfl) (od_inE (neg := false) (l1 _ (by simp)) (.lst _) s3))) fun _ => et_v1 (hfit _ _ s rfl rfl rfl rfl hs)).is ?_
            show (decide (((2 : Nat) : Int) = 2) && (isS x wTake && (decide (spI sp < 0) && (decide (s ∈ S) && canT s t r)))) = (isS x wTake && (decide (spI sp < 0) && (decide (s ∈ S) && canT s t r)))
            rfl
          · have hin' : inS y S = false := by simpa using hin
            refine (et_and1 (et_t1 (e_opd (plen _ rfl) e_int od_eqI)) fun _ => et_and1 (et_t1 (e_opd (hx0 _ 0 x rfl rfl 0 rfl) (e_str (s := wTake) (by decide +kernel)) (od_eqE (l1 x (by simp)) rfl))) fun _ => et_and1 (et_t1 (e_opd (e_var rfl) e_int od_lt)) fun _ => et_and1 (c := false) (et_t1 (e_opd (hx0 _ 1 _ rfl rfl 1 rfl) (e_var rfl) (od_inE (neg := false) (l1 _ (by simp)) (.lst _) s3))) fun e => by rw [hin'] at e; cases e).is ?_
            rw [hin']
            have : tkB S r t sp [x, y] = false := by
              cases y with
              | str s =>
                show (isS x wTake && (decide (spI sp < 0) && (decide (s ∈ S) && canT s t r))) = false
                rw [show decide (s ∈ S) = false from hin']
                simp
              | _ => rfl
            rw [this]
            simp
        · refine (et_and1 (c := false) (et_t1 (e_opd (plen _ rfl) e_int od_eqI)) fun e => absurd (of_decide_eq_true e) (by omega)).is ?_
          rw [tkB_len h2]
          simp
      · have hk2 : ds.length = 2 := by
          rcases Nat.decEq ds.length 2 with z | z
          · rw [tkB_len z] at e; cases e
          · exact z
        obtain ⟨x, y, rfl⟩ := two_D hk2
        obtain ⟨s, rfl⟩ : ∃ s, y = .str s := by cases y <;> first | exact ⟨_, rfl⟩ | cases e
        have hs : s ∈ S := by
          have e' : true = (isS x wTake && (decide (spI sp < 0) && (decide (s ∈ S) && canT s t r))) := e
          by_cases z : s ∈ S
          · exact z
          · rw [decide_eq_false z] at e'; simp at e'
        have hsl := s2 s hs
        rw [if_pos e.symm] at hst
        refine t_asgd (PD := (· = .str (ov t (lotOf s)))) (EV.d1 (e_call0 (Rg := Rg_law_join) (R := fun e => e = .dat (.str (ov t (lotOf s)))) (ea_c (e_var rfl) (ea_c (EV.d1 (e_call0 (Rg := Rg_law_lot) (R := fun e => e = .dat (.str (lotOf s))) (ea_c (hx0 _ 1 _ rfl rfl 1 rfl) ea_nil) ⟨s, rfl, by omega, rfl⟩)) ea_nil)) ⟨t, lotOf s, rfl, by omega, by rw [jn_ov hbin (bin_lot s)]⟩)) fun d' hd' => ?_
        refine ⟨ov t (lotOf s), sp, false, _, _, _, by rw [hd']; rfl, by rw [ov_len]; simp [lotOf]; omega, bin_ov hbin (bin_lot s), hsp, go _ hst⟩
      rw [if_neg (by rw [← e]; exact Bool.false_ne_true)] at hst
      have hix : ∀ ρ0 : List En, ah < S.length → ρ0[1]? = some (.dat (.lst (S.map D.str))) → ρ0[10]? = some (.dat (.int (ah : Int))) → ED (tOp (rIx K) (tVar 1) (tVar 10)) ρ0 (· = .str (S.getD ah [])) := fun ρ0 hlt h1 h2 => e_opd (e_var h1) (e_var h2) (od_ixL (j := ah) rfl (by rw [List.getElem?_map, List.getD_eq_getElem?_getD, List.getElem?_eq_getElem hlt]; rfl))
      have hmem : ah < S.length → S.getD ah [] ∈ S := fun hlt => by rw [List.getD_eq_getElem?_getD, List.getElem?_eq_getElem hlt]; exact List.getElem_mem hlt
      refine t_if (T := fun b => b = brB S ah ds) (?_) (fun e => ?_) (fun e => ?_)
      · by_cases h2 : ds.length = 3
        · obtain ⟨x, y, z, rfl⟩ := three_D h2
          refine (et_and1 (et_t1 (e_opd (plen _ rfl) e_int od_eqI)) fun _ => et_and1 (et_t1 (e_opd (hx0 _ 0 x rfl rfl 0 rfl) (e_str (s := wBar) (by decide +kernel)) (od_eqE (l1 x (by simp)) rfl))) fun _ => et_and1 (c := isS y (S.getD ah [])) (et_t1 (e_opd (e_var rfl) (estk _ rfl) od_lt)) fun e => by
            have hlt : ah < S.length := by have := of_decide_eq_true e; omega
            exact et_t1 (e_opd (hx0 _ 1 y rfl rfl 1 rfl) (hix _ hlt rfl rfl) (od_eqE (l1 y (by simp)) (s3 _ (hmem hlt))))).is ?_
          rfl
        · refine (et_and1 (c := false) (et_t1 (e_opd (plen _ rfl) e_int od_eqI)) fun e => absurd (of_decide_eq_true e) (by omega)).is ?_
          rw [brB_len h2]
          simp
      · have hk3 : ds.length = 3 := by
          rcases Nat.decEq ds.length 3 with z | z
          · rw [brB_len z] at e; cases e
          · exact z
        obtain ⟨x, y, n, rfl⟩ := three_D hk3
        rw [if_pos e.symm] at hst
        have hlt : ah < S.length := by
          have e' : true = (isS x wBar && (decide ((ah : Int) < (S.length : Int)) && isS y (S.getD ah []))) := e
          by_cases z : ah < S.length
          · exact z
          · rw [decide_eq_false (show ¬ ((ah : Int) < (S.length : Int)) by omega)] at e'; simp at e'
        have hsl := s2 _ (hmem hlt)
        refine q_if1 (b := !gdB cs S r t ah [x, y, n]) (et_not1 (et_v1 (EV.d1 (e_call0 (Rg := Rg_law_bar_good) (R := fun e => e = .dat (.bl (gdB cs S r t ah [x, y, n]))) (ea_c (e_var rfl) (ea_c (hix _ hlt rfl rfl) (ea_c (e_var rfl) (ea_c (e_var rfl) (ea_c (hx0 _ 2 n rfl rfl 2 rfl) ea_nil))))) ⟨cs, S.getD ah [], r, t, n, rfl, by omega, by omega, hrl, c1, c3, l1 n (by simp), rfl⟩)))) (fun e2 => t_ret1 (e_var rfl) (stop (.inr ?_))) (fun e2 => ?_)
        · rw [hst, if_neg (by intro z; rw [z] at e2; cases e2)]
        · have e3 : gdB cs S r t ah [x, y, n] = true := by simpa using e2
          rw [if_pos e3] at hst
          refine t_asgd (PD := (· = .int ((ah + 1 : Nat) : Int))) ((e_opd (e_var rfl) e_int od_addI).is (by congr 1)) fun d' hd' => ?_
          exact ⟨t, some (ah + 1), false, _, _, _, by rw [hd']; rfl, htl, hbin, by show ah + 1 ≤ S.length; omega, go _ hst⟩
      · rw [if_neg (by rw [← e]; exact Bool.false_ne_true)] at hst
        exact t_ret1 (e_var rfl) (stop (.inr hst))
    · rw [b, e, List.length_map, List.length_range, e1, List.drop_length]
    · obtain ⟨t, sp, c, x8, x9, x10, rfl, hj⟩ := m
      rw [hj] at q
      refine t_ret1 (d := if c = true then .non else .int ((1 + ls.length : Nat) : Int)) (e_ifd (T := fun z => z = c) (et_v1 (e_var rfl)) (fun e => ?_) (fun e => ?_)) q
      · rw [if_pos e.symm]; exact e_non
      · rw [if_neg (by rw [← e]; exact Bool.false_ne_true)]
        exact (elen _ rfl).is (by congr 1; omega)

end
end Nt

namespace Nt
open PySem PySem.Spec PyProof.Rows L2


abbrev fr (t : List Nat) (s : List Nat) : Bool := decide ((0 : Int) < ((outs s t).length : Int))
theorem fr_eq (s t : List Nat) : (!(frs s t).isEmpty) = fr t s := by
  unfold fr
  rw [Bool.eq_iff_iff, decide_eq_true_eq]
  constructor
  · intro h
    cases e : frs s t with
    | nil => rw [e] at h; cases h
    | cons a l =>
      have ha : a ∈ outs s t := mem_frs.mp (by rw [e]; exact List.mem_cons_self)
      have := List.length_pos_of_mem ha
      omega
  · intro h
    cases e : outs s t with
    | nil => rw [e] at h; simp at h
    | cons a l =>
      have ha : a ∈ frs s t := mem_frs.mpr (by rw [e]; exact List.mem_cons_self)
      cases e2 : frs s t with
      | nil => rw [e2] at ha; cases ha
      | cons _ _ => rfl
theorem bn_spec (S : List (List Nat)) (t : List Nat) : ∀ (m i : Nat), S.length = i + m → (((S.drop i).filter (fr t) = [] ∧ bnM S t i = S.length) ∨ ∃ s W, (S.drop i).filter (fr t) = s :: W ∧ bnM S t i < S.length ∧ S.getD (bnM S t i) [] = s ∧ (S.drop (bnM S t i + 1)).filter (fr t) = W)
  | 0, i, h => by
    refine .inl ⟨by rw [List.drop_eq_nil_of_le (by omega)]; rfl, ?_⟩
    unfold bnM bnF
    rw [show S.length - i = 0 by omega]
    rfl
  | m + 1, i, h => by
    have hi : i < S.length := by omega
    have hg : S.getD i [] = S[i] := by rw [List.getD_eq_getElem?_getD, List.getElem?_eq_getElem hi]; rfl
    have hd : S.drop i = S[i] :: S.drop (i + 1) := List.drop_eq_getElem_cons hi
    have hr : S.length - i = m + 1 := by omega
    by_cases hf : fr t S[i] = true
    · have hb : bnM S t i = i := by
        unfold bnM bnF
        rw [hr, List.range_succ_eq_map, List.filter_cons, if_pos (by show (!(frs (S.getD (i + 0) []) t).isEmpty) = true; rw [Nat.add_zero, fr_eq, hg]; exact hf)]
        rfl
      refine .inr ⟨S[i], (S.drop (i + 1)).filter (fr t), by rw [hd, List.filter_cons, if_pos hf], by rw [hb]; exact hi, by rw [hb]; exact hg, by rw [hb]⟩
    · have hb : bnM S t i = bnM S t (i + 1) := by
        unfold bnM
        have : bnF S t i = bnF S t (i + 1) := by
          unfold bnF
          rw [hr, show S.length - (i + 1) = m by omega, List.range_succ_eq_map, List.filter_cons, if_neg (by show ¬ (!(frs (S.getD (i + 0) []) t).isEmpty) = true; rw [Nat.add_zero, fr_eq, hg]; exact hf), List.filter_map, List.map_map]
          have e : ∀ k, i + (k + 1) = i + 1 + k := fun k => by omega
          have e1 : ((fun k => !(frs (S.getD (i + k) []) t).isEmpty) ∘ Nat.succ) = fun k => !(frs (S.getD (i + 1 + k) []) t).isEmpty := by
            funext k
            show (!(frs (S.getD (i + (k + 1)) []) t).isEmpty) = _
            rw [e]
          have e2 : ((fun k => i + k) ∘ Nat.succ) = fun k => i + 1 + k := by
            funext k
            exact e k
          rw [e1, e2]
        rw [this]
      have hw : (S.drop i).filter (fr t) = (S.drop (i + 1)).filter (fr t) := by rw [hd, List.filter_cons, if_neg hf]
      rw [hw, hb]
      exact bn_spec S t m (i + 1) (by omega)
theorem isS_eq {x : D} {s : List Nat} (h : isS x s = true) : x = .str s := by
  cases x with
  | str z => exact congrArg D.str (of_decide_eq_true h)
  | _ => cases h
theorem isW_T1 {ds : List D} {s : List Nat} (hz : szM s = some 1) : isW (.tup ds) s = isT1 ds s := by
  rw [Bool.eq_iff_iff]
  constructor
  · intro h
    obtain ⟨r, e, h2⟩ := isW_of h
    rw [hz] at h2
    have : r = [] := List.eq_nil_of_length_eq_zero (by have := Option.some.inj h2; omega)
    subst this
    cases e
    exact decide_eq_true rfl
  · intro h
    unfold isT1 at h
    split at h
    · rename_i x
      rw [isS_eq h]
      show isS (if szM s = some (([] : List D).length + 1) then .str s else .non) s = true
      rw [if_pos (show szM s = some (([] : List D).length + 1) from hz)]
      exact decide_eq_true rfl
    · cases h
theorem isW_no {d : D} {s : List Nat} (h : ¬ ∃ ds, d = .tup ds) : isW d s = false := by
  cases e : isW d s with
  | false => rfl
  | true => obtain ⟨r, e2, _⟩ := isW_of e; exact absurd ⟨_, e2⟩ h
theorem stepJ_tup {cs : List (List Nat × Nat)} {S : List (List Nat)} {r t : List Nat} {sp : Option Nat} {ds : List D} : stepJ cs S r t sp (.tup ds) = if (isT1 ds wMade && (decide (spI sp < 0) && decide (t = lotOf r))) = true then some (t, sp, true)
    else if (isT1 ds wBarred && (decide ((bnM S t (sp.getD 0) : Int) = (S.length : Int)) && !decide (t = lotOf r))) = true then some (t, sp, true)
    else if tkB S r t sp ds = true then some (ov t (lotOf (seed2 ds)), sp, false)
    else if brB S (bnM S t (sp.getD 0)) ds = true then (if gdB cs S r t (bnM S t (sp.getD 0)) ds = true then some (t, some (bnM S t (sp.getD 0) + 1), false) else none)
    else none := rfl
def lookW (cs : List (List Nat × Nat)) (S : List (List Nat)) (r : List Nat) (k : Nat) (t : List Nat) (n : Nat) (W : List (List Nat)) (rest : List D) : D :=
  match rest[cntM cs t r W rest]? with
  | none => .int ((k + cntM cs t r W rest : Nat) : Int)
  | some l => if endB cs S r t (n + cntM cs t r W rest) l = true then (if cntM cs t r W rest + 1 = rest.length then .non else .int ((k + cntM cs t r W rest + 1 : Nat) : Int)) else .int ((k + cntM cs t r W rest : Nat) : Int)
theorem barB_no {cs : List (List Nat × Nat)} {s t r : List Nat} {d : D} (h : ¬ ∃ ds : List D, d = .tup ds ∧ ds.length = 3) : barB cs s t r d = false := by
  unfold barB
  split
  · exact absurd ⟨_, rfl, rfl⟩ h
  · rfl
theorem barB_three {cs : List (List Nat × Nat)} {s t r : List Nat} {x y n : D} : barB cs s t r (.tup [x, y, n]) = (isS x wBar && isS y s && inS n (namesM cs s t r)) := by
  cases x <;> rfl
theorem lookW_zero {cs : List (List Nat × Nat)} {S : List (List Nat)} {r t : List Nat} {k n : Nat} {W : List (List Nat)} {l : D} {rest : List D} (h : cntM cs t r W (l :: rest) = 0) : lookW cs S r k t n W (l :: rest) = if endB cs S r t n l = true then (if rest = [] then .non else .int ((k + 1 : Nat) : Int)) else .int (k : Int) := by
  unfold lookW
  rw [h]
  show (if endB cs S r t (n + 0) l = true then (if 0 + 1 = rest.length + 1 then D.non else .int ((k + 0 + 1 : Nat) : Int)) else .int ((k + 0 : Nat) : Int)) = _
  rw [Nat.add_zero, Nat.add_zero]
  cases rest with
  | nil => rfl
  | cons a b => rfl
theorem jdg_closed {cs : List (List Nat × Nat)} {S : List (List Nat)} {r t : List Nat} {k : Nat} {sp : Option Nat} {rest : List D} : jdg cs S r k t sp true rest = if rest = [] then .non else .int (k : Int) := by
  cases rest <;> rfl
theorem lot_ne {t r : List Nat} : (!decide (t = lotOf r)) = decide (¬ t = lotOf r) := by
  by_cases h : t = lotOf r
  · rw [decide_eq_true h, decide_eq_false (fun z => z h)]; rfl
  · rw [decide_eq_false h, decide_eq_true h]; rfl
theorem bars_jdg (cs : List (List Nat × Nat)) (S : List (List Nat)) (r t : List Nat) : ∀ (rest : List D) (k n : Nat) (sp : Option Nat) (W : List (List Nat)), sp.getD 0 ≤ S.length → (S.drop (sp.getD 0)).filter (fr t) = W → n + W.length = (waitS S t).length → (n = 0 ↔ sp = none) → (∀ ds rs, rest = .tup ds :: rs → tkB S r t sp ds = false) → jdg cs S r k t sp false rest = lookW cs S r k t n W rest
  | [], k, n, sp, W, h1, h2, h3, h4, h5 => by
    have e : cntM cs t r W [] = 0 := by cases W <;> rfl
    unfold lookW jdg
    rw [e]
    rfl
  | l :: rest, k, n, sp, W, h1, h2, h3, h4, h5 => by
    have hs0 : ∀ {z : Option (List Nat × Option Nat × Bool)}, stepJ cs S r t sp l = z → jdg cs S r k t sp false (l :: rest) = match z with | none => .int (k : Int) | some z => jdg cs S r (k + 1) z.1 z.2.1 z.2.2 rest := fun {z} hz => by
      conv => lhs; unfold jdg
      rw [if_neg Bool.false_ne_true, hz]
      all_goals (cases z <;> rfl)
    have cnt0 : ∀ d : D, (∀ s, barB cs s t r d = false) → cntM cs t r W (d :: rest) = 0 := fun d hd => by
      cases W with
      | nil => rfl
      | cons s W => unfold cntM; rw [if_neg (by rw [hd]; exact Bool.false_ne_true)]
    by_cases ht : ∃ ds, l = .tup ds
    rotate_left
    · have hst : stepJ cs S r t sp l = none := by unfold stepJ; split <;> first | exact absurd ⟨_, rfl⟩ ht | rfl
      rw [hs0 hst, lookW_zero (cnt0 l fun s => barB_no fun ⟨ds, e, _⟩ => ht ⟨ds, e⟩)]
      have : endB cs S r t n l = false := by
        unfold endB
        rw [isW_no ht, isW_no ht]
        split <;> simp
      rw [this]
      rfl
    obtain ⟨ds, rfl⟩ := ht
    have htk : tkB S r t sp ds = false := h5 ds rest rfl
    have wM : isW (.tup ds) wMade = isT1 ds wMade := isW_T1 rfl
    have wB : isW (.tup ds) wBarred = isT1 ds wBarred := isW_T1 rfl
    have spn : decide (spI sp < 0) = decide (n = 0) := by
      cases sp with
      | none => rw [decide_eq_true (h4.mpr rfl)]; rfl
      | some m =>
        have : ¬ n = 0 := fun z => by have := h4.mp z; cases this
        rw [decide_eq_false this, decide_eq_false (by show ¬ (m : Int) < 0; omega)]
    have ahW : (decide ((bnM S t (sp.getD 0) : Int) = (S.length : Int))) = decide (n = (waitS S t).length) := by
      rcases bn_spec S t (S.length - sp.getD 0) (sp.getD 0) (by omega) with ⟨a, b⟩ | ⟨s, W', a, b, _, _⟩
      · rw [h2] at a
        subst a
        rw [b, decide_eq_true rfl, decide_eq_true (by simpa using h3)]
      · rw [h2] at a
        subst a
        rw [decide_eq_false (by omega), decide_eq_false (by rw [List.length_cons] at h3; omega)]
    have hend : endB cs S r t n (.tup ds) = if t = lotOf r then decide (n = 0) && isT1 ds wMade else decide (n = (waitS S t).length) && isT1 ds wBarred := by
      unfold endB
      rw [wM, wB]
    by_cases a1 : (isT1 ds wMade && (decide (spI sp < 0) && decide (t = lotOf r))) = true
    · have hst : stepJ cs S r t sp (.tup ds) = some (t, sp, true) := by rw [stepJ_tup]; exact if_pos a1
      have a2 := a1
      rw [Bool.and_eq_true, Bool.and_eq_true, decide_eq_true_eq (p := t = lotOf r)] at a2
      obtain ⟨x1, x2, x3⟩ := a2
      rw [hs0 hst, lookW_zero (cnt0 _ fun s => barB_no fun ⟨ds', e, h⟩ => by cases e; have := isT1_len x1; omega), hend, if_pos x3, x1, ← spn, x2]
      exact jdg_closed
    by_cases a2 : (isT1 ds wBarred && (decide ((bnM S t (sp.getD 0) : Int) = (S.length : Int)) && !decide (t = lotOf r))) = true
    · have hst : stepJ cs S r t sp (.tup ds) = some (t, sp, true) := by rw [stepJ_tup, if_neg a1]; exact if_pos a2
      have a3 := a2
      rw [Bool.and_eq_true, Bool.and_eq_true, lot_ne, decide_eq_true_eq (p := ¬ t = lotOf r)] at a3
      obtain ⟨x1, x2, x3⟩ := a3
      rw [hs0 hst, lookW_zero (cnt0 _ fun s => barB_no fun ⟨ds', e, h⟩ => by cases e; have := isT1_len x1; omega), hend, if_neg x3, x1, ← ahW, x2]
      exact jdg_closed
    have noend : endB cs S r t n (.tup ds) = false := by
      rw [hend]
      by_cases z : t = lotOf r
      · rw [if_pos z]
        rw [decide_eq_true z, spn] at a1
        cases e1 : decide (n = 0) <;> cases e2 : isT1 ds wMade <;> first | rfl | (rw [e1, e2] at a1; exact absurd rfl a1)
      · rw [if_neg z]
        rw [lot_ne, decide_eq_true z, ahW] at a2
        cases e1 : decide (n = (waitS S t).length) <;> cases e2 : isT1 ds wBarred <;> first | rfl | (rw [e1, e2] at a2; exact absurd rfl a2)
    have hst : stepJ cs S r t sp (.tup ds) = if brB S (bnM S t (sp.getD 0)) ds = true then (if gdB cs S r t (bnM S t (sp.getD 0)) ds = true then some (t, some (bnM S t (sp.getD 0) + 1), false) else none) else none := by
      rw [stepJ_tup, if_neg a1, if_neg a2, if_neg (by rw [htk]; exact Bool.false_ne_true)]
    have stop : stepJ cs S r t sp (.tup ds) = none → cntM cs t r W (.tup ds :: rest) = 0 → jdg cs S r k t sp false (.tup ds :: rest) = lookW cs S r k t n W (.tup ds :: rest) := fun e1 e2 => by
      rw [hs0 e1, lookW_zero e2, noend]
      rfl
    by_cases h3d : ds.length = 3
    rotate_left
    · exact stop (by rw [hst, if_neg (by rw [brB_len h3d]; exact Bool.false_ne_true)]) (cnt0 _ fun s => barB_no fun ⟨ds', e, h⟩ => by cases e; exact h3d h)
    obtain ⟨x, y, z, rfl⟩ := three_D h3d
    rcases bn_spec S t (S.length - sp.getD 0) (sp.getD 0) (by omega) with ⟨a, b⟩ | ⟨s, W', a, b, c, d⟩
    · rw [h2] at a
      subst a
      refine stop ?_ rfl
      have hb0 : brB S (bnM S t (sp.getD 0)) [x, y, z] = false := by
        show (isS x wBar && (decide ((bnM S t (sp.getD 0) : Int) < (S.length : Int)) && isS y (S.getD (bnM S t (sp.getD 0)) []))) = false
        rw [decide_eq_false (by omega)]; simp
      rw [hst, if_neg (by rw [hb0]; exact Bool.false_ne_true)]
    · rw [h2] at a
      subst a
      have ebr : brB S (bnM S t (sp.getD 0)) [x, y, z] = (isS x wBar && isS y s) := by
        show (isS x wBar && (decide ((bnM S t (sp.getD 0) : Int) < (S.length : Int)) && isS y (S.getD (bnM S t (sp.getD 0)) []))) = _
        rw [decide_eq_true (by omega), c, Bool.true_and]
      have egd : gdB cs S r t (bnM S t (sp.getD 0)) [x, y, z] = inS z (namesM cs s t r) := by
        show inS z (namesM cs (S.getD (bnM S t (sp.getD 0)) []) t r) = _
        rw [c]
      rw [ebr, egd] at hst
      by_cases hb : barB cs s t r (.tup [x, y, z]) = true
      · have hb2 := hb
        rw [barB_three, Bool.and_eq_true] at hb2
        rw [if_pos hb2.1, if_pos hb2.2] at hst
        rw [hs0 hst]
        show jdg cs S r (k + 1) t (some (bnM S t (sp.getD 0) + 1)) false rest = _
        rw [bars_jdg cs S r t rest (k + 1) (n + 1) (some (bnM S t (sp.getD 0) + 1)) W' (by show bnM S t (sp.getD 0) + 1 ≤ S.length; omega) d (by rw [List.length_cons] at h3; omega) ⟨fun z => by omega, fun z => by cases z⟩ (fun ds rs _ => by
          unfold tkB
          split
          · rw [decide_eq_false (by show ¬ (((bnM S t (sp.getD 0) + 1 : Nat) : Int) < 0); omega)]; simp
          · rfl)]
        have ec : cntM cs t r (s :: W') (.tup [x, y, z] :: rest) = cntM cs t r W' rest + 1 := by
          conv => lhs; unfold cntM
          rw [if_pos hb]
        unfold lookW
        rw [ec, List.getElem?_cons_succ]
        have e1 : k + 1 + cntM cs t r W' rest = k + (cntM cs t r W' rest + 1) := by omega
        have e2 : n + 1 + cntM cs t r W' rest = n + (cntM cs t r W' rest + 1) := by omega
        have e3 : (cntM cs t r W' rest + 1 + 1 = (D.tup [x, y, z] :: rest).length) = (cntM cs t r W' rest + 1 = rest.length) := by
          rw [List.length_cons]
          exact propext ⟨fun z => by omega, fun z => by omega⟩
        rw [e1, e2]
        cases rest[cntM cs t r W' rest]? with
        | none => rfl
        | some l => simp only [e3]
      · refine stop ?_ (by unfold cntM; rw [if_neg hb])
        rw [hst]
        rw [barB_three] at hb
        by_cases z1 : (isS x wBar && isS y s) = true
        · rw [if_pos z1]
          rw [z1, Bool.true_and] at hb
          rw [if_neg hb]
        · rw [if_neg z1]
theorem takes_jdg (cs : List (List Nat × Nat)) (S : List (List Nat)) (r : List Nat) : ∀ (ls : List D) (k : Nat) (t : List Nat), jdg cs S r k t none false ls = lookW cs S r (k + (folM S r t ls).1) (folM S r t ls).2 0 (waitS S (folM S r t ls).2) (ls.drop (folM S r t ls).1)
  | [], k, t => by
    have e : cntM cs t r (waitS S t) [] = 0 := by cases waitS S t <;> rfl
    show D.int (k : Int) = lookW cs S r (k + 0) t 0 (waitS S t) []
    unfold lookW
    rw [e]
    rfl
  | l :: ls, k, t => by
    cases e : takeO S r t l with
    | some s =>
      have ef : folM S r t (l :: ls) = ((folM S r (ov t (lotOf s)) ls).1 + 1, (folM S r (ov t (lotOf s)) ls).2) := by
        conv => lhs; unfold folM
        rw [e]
      have hl : l = .tup [.str wTake, .str s] ∧ s ∈ S ∧ canT s t r = true := by
        unfold takeO at e
        split at e
        · split at e
          · rename_i hc
            cases e
            exact ⟨by rw [hc.1], hc.2⟩
          · cases e
        · cases e
      obtain ⟨rfl, hs, hc⟩ := hl
      have hst : stepJ cs S r t none (.tup [.str wTake, .str s]) = some (ov t (lotOf s), none, false) := by
        rw [stepJ_tup, if_neg (by show ¬ (false && _) = true; rw [Bool.false_and]; exact Bool.false_ne_true), if_neg (by show ¬ (false && _) = true; rw [Bool.false_and]; exact Bool.false_ne_true), if_pos (show tkB S r t none [.str wTake, .str s] = true by
          show (isS (.str wTake) wTake && (decide (spI none < 0) && (decide (s ∈ S) && canT s t r))) = true
          rw [hc, decide_eq_true hs]; rfl)]
        rfl
      rw [ef]
      conv => lhs; unfold jdg
      rw [if_neg Bool.false_ne_true, hst]
      show jdg cs S r (k + 1) (ov t (lotOf s)) none false ls = _
      rw [takes_jdg cs S r ls (k + 1) (ov t (lotOf s))]
      show lookW cs S r (k + 1 + (folM S r (ov t (lotOf s)) ls).1) _ 0 _ _ = lookW cs S r (k + ((folM S r (ov t (lotOf s)) ls).1 + 1)) _ 0 _ _
      rw [show k + 1 + (folM S r (ov t (lotOf s)) ls).1 = k + ((folM S r (ov t (lotOf s)) ls).1 + 1) by omega]
      rfl
    | none =>
      have ef : folM S r t (l :: ls) = (0, t) := by
        unfold folM
        rw [e]
      rw [ef]
      refine bars_jdg cs S r t (l :: ls) k 0 none (waitS S t) (Nat.zero_le _) rfl (by omega) ⟨fun _ => rfl, fun _ => rfl⟩ fun ds rs he => ?_
      cases he
      unfold takeO at e
      unfold tkB
      split
      · rename_i x s
        cases hx : isS x wTake with
        | false => rfl
        | true =>
          have := isS_eq hx
          subst this
          cases h1 : decide (s ∈ S) with
          | false => simp
          | true =>
            cases h2 : canT s t r with
            | false => simp
            | true =>
              have : (if wTake = wTake ∧ s ∈ S ∧ canT s t r = true then some s else none) = none := e
              rw [if_pos ⟨rfl, of_decide_eq_true h1, h2⟩] at this
              cases this
      · rfl
theorem lookL_W {cs : List (List Nat × Nat)} {S : List (List Nat)} {r : List Nat} {a : Nat} {t : List Nat} {ls : List D} (h : a ≤ ls.length) : lookL cs S r a t ls = lookW cs S r (1 + a) t 0 (waitS S t) (ls.drop a) := by
  unfold lookL lookW
  rw [List.getElem?_drop]
  generalize cntM cs t r (waitS S t) (ls.drop a) = b
  have e1 : (1 : Int) + ((a + b : Nat) : Int) = ((1 + a + b : Nat) : Int) := by omega
  have e2 : ((1 + a + b : Nat) : Int) + 1 = ((1 + a + b + 1 : Nat) : Int) := by omega
  have e3 : (a + b + 1 = ls.length) = (b + 1 = (ls.drop a).length) := by
    rw [List.length_drop]
    exact propext ⟨fun z => by omega, fun z => by omega⟩
  cases ls[a + b]? with
  | none => exact congrArg D.int e1
  | some l => simp only [e1, e2, e3, Nat.zero_add]
theorem jud_look {cs : List (List Nat × Nat)} {S : List (List Nat)} {d : D} (hL : Len cs.length S) : judM cs S d = lookM cs S d := by
  have hH : ∀ L, judH cs S L = lookH cs S L := fun L => by
    cases L with
    | nil => rfl
    | cons h ls =>
      cases e : headR cs h with
      | none => rw [judH_none e, lookH_none e]
      | some r =>
        rw [judH_some e, lookH_some e]
        have hrl : r.length = cs.length := by
          unfold headR at e
          split at e
          · split at e
            · rename_i hc
              cases e
              have h1 : (decide (r.length = cs.length) && rowOk cs r) = true := hc.2
              rw [Bool.and_eq_true, decide_eq_true_eq] at h1
              exact h1.1
            · cases e
          · cases e
        have := (folM_len (S := S) (r := r) (by rw [hrl]; exact hL) ls (List.replicate r.length 46) List.length_replicate).2
        rw [lookL_W this]
        exact takes_jdg cs S r ls 1 _
  cases d <;> first | exact hH _ | rfl

end Nt

namespace Nt
open PySem PySem.Spec PyProof.Rows L2


theorem rowV_ov {cs : List (List Nat × Nat)} {x y : List Nat} (hx : RowV cs x) (hy : RowV cs y) : RowV cs (ov x y) := by
  refine ⟨by rw [ov_len, hx.1, hy.1, Nat.min_self], fun i c m h1 h2 => ?_⟩
  unfold ov at h1
  rw [List.getElem?_map] at h1
  cases hz : (x.zip y)[i]? with
  | none => rw [hz] at h1; cases h1
  | some p =>
    rw [hz] at h1
    obtain ⟨a, b⟩ := zip_get hz
    have h1' : (if p.1 = 46 then p.2 else p.1) = c := Option.some.inj h1
    by_cases e : p.1 = 46
    · rw [if_pos e] at h1'
      rw [← h1']
      exact hy.2 i _ m b h2
    · rw [if_neg e] at h1'
      rw [← h1']
      exact hx.2 i _ m a h2
/-- a bar for each that waits -/
inductive BarsOf (cs : List (List Nat × Nat)) (t r : List Nat) : List (List Nat) → List D → Prop where
  | nil : BarsOf cs t r [] []
  | cons {s : List Nat} {b : D} {W : List (List Nat)} {bs : List D} : barB cs s t r b = true → BarsOf cs t r W bs → BarsOf cs t r (s :: W) (b :: bs)
theorem BarsOf.snoc {cs : List (List Nat × Nat)} {t r s : List Nat} {b : D} (h : barB cs s t r b = true) : ∀ {W : List (List Nat)} {bs : List D}, BarsOf cs t r W bs → BarsOf cs t r (W ++ [s]) (bs ++ [b])
  | _, _, .nil => .cons h .nil
  | _, _, .cons h1 h2 => .cons h1 (h2.snoc h)
theorem BarsOf.len {cs : List (List Nat × Nat)} {t r : List Nat} : ∀ {W : List (List Nat)} {bs : List D}, BarsOf cs t r W bs → W.length = bs.length
  | _, _, .nil => rfl
  | _, _, .cons _ h2 => by rw [List.length_cons, List.length_cons, h2.len]
theorem BarsOf.cnt {cs : List (List Nat × Nat)} {t r : List Nat} {rest : List D} : ∀ {W : List (List Nat)} {bs : List D}, BarsOf cs t r W bs → cntM cs t r W (bs ++ rest) = W.length
  | _, _, .nil => by cases rest <;> rfl
  | _, _, .cons h1 h2 => by
    rw [List.cons_append]
    conv => lhs; unfold cntM
    rw [if_pos h1, h2.cnt]
    rfl
theorem BarsOf.hd {cs : List (List Nat × Nat)} {S : List (List Nat)} {t r : List Nat} {W : List (List Nat)} {b : D} {bs : List D} (h : BarsOf cs t r W (b :: bs)) : takeO S r t b = none := by
  cases h with
  | cons h1 _ =>
    unfold takeO
    split
    · rename_i w' s'
      cases h1
    · rfl
theorem run_fol {S : List (List Nat)} {r : List Nat} {tk : List (List Nat)} {t : List Nat} (h : Run S r tk t) : ∀ rest, folM S r (List.replicate r.length 46) (tk.map lTake ++ rest) = (tk.length + (folM S r t rest).1, (folM S r t rest).2) := by
  induction h with
  | nil => intro rest; show folM S r (List.replicate r.length 46) rest = _; rw [List.length_nil, Nat.zero_add]
  | @snoc tk t s hr hs hc ih =>
    intro rest
    rw [List.map_append, List.append_assoc, ih]
    have e : takeO S r t (lTake s) = some s := by
      show (if wTake = wTake ∧ s ∈ S ∧ canT s t r = true then some s else none) = some s
      rw [if_pos ⟨rfl, hs, hc⟩]
    have ef : folM S r t ([s].map lTake ++ rest) = ((folM S r (ov t (lotOf s)) rest).1 + 1, (folM S r (ov t (lotOf s)) rest).2) := by
      show folM S r t (lTake s :: rest) = _
      conv => lhs; unfold folM
      rw [e]
    rw [ef, List.length_append]
    exact Prod.ext (by show tk.length + ((folM S r (ov t (lotOf s)) rest).1 + 1) = tk.length + 1 + (folM S r (ov t (lotOf s)) rest).1; omega) rfl
/-- how a paper goes on behind its takes -/
inductive PapEnd (cs : List (List Nat × Nat)) (S : List (List Nat)) (r t : List Nat) : List D → Prop where
  | made : t = lotOf r → PapEnd cs S r t [lMade]
  | barred {bs : List D} : t ≠ lotOf r → BarsOf cs t r (waitS S t) bs → PapEnd cs S r t (bs ++ [lBarred])
theorem paper_look {cs : List (List Nat × Nat)} {S : List (List Nat)} {r t : List Nat} {tk : List (List Nat)} {rest : List D} (hr : CR cs r) (h : Run S r tk t) (he : PapEnd cs S r t rest) : lookH cs S (lRow r :: (tk.map lTake ++ rest)) = .non := by
  have hh : headR cs (lRow r) = some r := by
    show (if wRow = wRow ∧ isRowM cs (.str r) = true then some r else none) = some r
    rw [if_pos ⟨rfl, show (decide (r.length = cs.length) && rowOk cs r) = true by rw [decide_eq_true hr.1, hr.2.2.2]; rfl⟩]
  rw [lookH_some hh, run_fol h]
  have hf : folM S r t rest = (0, t) := by
    cases he with
    | made e => rfl
    | @barred bs e hb =>
      cases bs with
      | nil => rfl
      | cons b bs =>
        rw [List.cons_append]
        unfold folM
        rw [hb.hd]
  rw [hf, Nat.add_zero, lookL_W (by rw [List.length_append, List.length_map]; omega)]
  have hd : (tk.map lTake ++ rest).drop tk.length = rest := by
    rw [List.drop_append_of_le_length (by rw [List.length_map]; exact Nat.le_refl _), List.drop_of_length_le (by rw [List.length_map]; exact Nat.le_refl _)]
    rfl
  rw [hd]
  cases he with
  | made e =>
    have hc : cntM cs t r (waitS S t) [lMade] = 0 := by cases waitS S t <;> rfl
    rw [lookW_zero hc]
    have : endB cs S r t 0 lMade = true := by
      unfold endB
      rw [if_pos e]
      rfl
    rw [this]
    rfl
  | @barred bs e hb =>
    have hc := hb.cnt (rest := [lBarred])
    have hl := hb.len
    unfold lookW
    rw [hc, hl, List.getElem?_append_right (Nat.le_refl _), Nat.sub_self]
    show (if endB cs S r t (0 + bs.length) lBarred = true then (if bs.length + 1 = (bs ++ [lBarred]).length then D.non else _) else _) = D.non
    have : endB cs S r t (0 + bs.length) lBarred = true := by
      unfold endB
      rw [if_neg e, Nat.zero_add, decide_eq_true hl.symm]
      rfl
    rw [if_pos this, if_pos (by rw [List.length_append]; rfl)]
/-- a text of few signs -/
def Tx (s : List Nat) : Prop := D.ok (.str s) = true ∧ s.length ≤ 1000
theorem Tx.el {s : List Nat} (h : Tx s) : elOk (.str s) = true := h.1
/-- a line as it is drawn -/
def LineOk (d : D) : Prop := LnOk d ∧ D.sm 4 d = true
theorem rowV_tx {cs : List (List Nat × Nat)} {r : List Nat} (hc : CsV cs) (h : RowV cs r) : Tx r := by
  have h1 := h.1
  have h2 := hc.1
  refine ⟨strs_ok fun c hm => ?_, by omega⟩
  obtain ⟨i, hi⟩ := List.mem_iff_getElem?.mp hm
  have hil := (List.getElem?_eq_some_iff.mp hi).1
  have hm2 : cs[i]? = some cs[i] := List.getElem?_eq_getElem (by omega)
  have h3 := hc.2 _ (List.getElem_mem (l := cs) (n := i) (by omega))
  rcases h.2 i c _ hi hm2 with z | ⟨_, z⟩ <;> omega
theorem line_of {ds : List D} (h1 : ∀ d ∈ ds, elOk d = true) (h2 : ds.length ≤ 3) (h3 : ∀ s, D.str s ∈ ds → s.length ≤ 1000) (h4 : ∀ d ∈ ds, D.sm 3 d = true) : LineOk (.tup ds) := by
  refine ⟨⟨h1, by omega, h3⟩, ?_⟩
  show (ds.all (D.sm 3) && decide (ds.length ≤ 100000)) = true
  rw [decide_eq_true (by omega), Bool.and_true]
  exact List.all_eq_true.mpr h4
/-- texts in a line -/
theorem line_tx {ss : List (List Nat)} (h : ∀ s ∈ ss, Tx s) (h2 : ss.length ≤ 3) : LineOk (.tup (ss.map D.str)) := by
  refine line_of (fun d hd => ?_) (by rw [List.length_map]; exact h2) (fun s hs => ?_) (fun d hd => ?_)
  · obtain ⟨s, hs, rfl⟩ := List.mem_map.mp hd
    exact (h s hs).1
  · obtain ⟨z, hz, e⟩ := List.mem_map.mp hs
    cases e
    exact (h _ hz).2
  · obtain ⟨s, hs, rfl⟩ := List.mem_map.mp hd
    rfl
theorem tx_take : Tx wTake := ⟨rfl, by decide⟩
theorem tx_row : Tx wRow := ⟨rfl, by decide⟩
theorem tx_made : Tx wMade := ⟨rfl, by decide⟩
theorem tx_bar : Tx wBar := ⟨rfl, by decide⟩
theorem tx_barred : Tx wBarred := ⟨rfl, by decide⟩
theorem ln_row {r : List Nat} (h : Tx r) : LineOk (lRow r) := line_tx (ss := [wRow, r]) (fun s hs => by
  simp only [List.mem_cons, List.not_mem_nil, or_false] at hs
  rcases hs with z | z <;> rw [z] <;> first | exact tx_row | exact h) (by simp)
theorem ln_take {r : List Nat} (h : Tx r) : LineOk (lTake r) := line_tx (ss := [wTake, r]) (fun s hs => by
  simp only [List.mem_cons, List.not_mem_nil, or_false] at hs
  rcases hs with z | z <;> rw [z] <;> first | exact tx_take | exact h) (by simp)
theorem ln_made : LineOk lMade := line_tx (ss := [wMade]) (fun s hs => by rw [List.mem_singleton.mp hs]; exact tx_made) (by simp)
theorem ln_barred : LineOk lBarred := line_tx (ss := [wBarred]) (fun s hs => by rw [List.mem_singleton.mp hs]; exact tx_barred) (by simp)
def lBar (s n : List Nat) : D := .tup [.str wBar, .str s, .str n]
theorem ln_bar {s n : List Nat} (h : Tx s) (h2 : Tx n) : LineOk (lBar s n) := line_tx (ss := [wBar, s, n]) (fun z hz => by
  simp only [List.mem_cons, List.not_mem_nil, or_false] at hz
  rcases hz with e | e | e <;> rw [e] <;> first | exact tx_bar | exact h | exact h2) (by simp)
theorem barB_lBar {cs : List (List Nat × Nat)} {s t r : List Nat} {i : Nat} (hi : i ∈ bars s t r) : barB cs s t r (lBar s (cs.getD i ([], 0)).1) = true := by
  show (decide (wBar = wBar) && decide (s = s) && decide ((cs.getD i ([], 0)).1 ∈ namesM cs s t r)) = true
  have hm : (cs.getD i ([], 0)).1 ∈ namesM cs s t r := List.mem_map.mpr ⟨i, hi, rfl⟩
  rw [decide_eq_true rfl, decide_eq_true rfl, decide_eq_true hm]
  rfl
theorem wait_bar {S : List (List Nat)} {r t : List Nat} {s : List Nat} (hf : Fin S r t) (hs : s ∈ waitS S t) : bars s t r ≠ [] := fun e => by
  obtain ⟨h1, h2⟩ := List.mem_filter.mp hs
  have := hf s h1
  unfold canT at this
  rw [h2, e] at this
  cases this
theorem wait_none {S : List (List Nat)} {r t s : List Nat} (hf : Fin S r t) (hs : s ∈ S) : (bars s t r = [] ↔ fr t s = false) := by
  constructor
  · intro e
    cases h : fr t s with
    | false => rfl
    | true => exact absurd e (wait_bar hf (List.mem_filter.mpr ⟨hs, h⟩))
  · intro h
    unfold bars
    have : outs s t = [] := List.eq_nil_of_length_eq_zero (by have := of_decide_eq_false h; omega)
    rw [this]
    rfl
/-- what come tells, looked at -/
theorem come_good {cs : List (List Nat × Nat)} {S : List (List Nat)} {r t : List Nat} {tk : List (List Nat)} (hc : CR cs r) (h : Run S r tk t) (hf : Fin S r t) : lookH cs S (linesD cs S r tk t) = .non := by
  unfold linesD
  by_cases e : t = lotOf r
  · rw [if_pos e]
    exact paper_look hc h (.made e)
  · rw [if_neg e, List.append_assoc]
    refine paper_look hc h (.barred e ?_)
    have key : ∀ W : List (List Nat), (∀ s ∈ W, s ∈ waitS S t) → BarsOf cs t r W (W.map (barOf cs r t)) := fun W => by
      induction W with
      | nil => intro _; exact .nil
      | cons s W ih =>
        intro hw
        refine .cons ?_ (ih fun s hs => hw s (List.mem_cons_of_mem _ hs))
        have hb := wait_bar hf (hw s List.mem_cons_self)
        cases hbb : bars s t r with
        | nil => exact absurd hbb hb
        | cons i l =>
          have e1 : barOf cs r t s = lBar s (cs.getD i ([], 0)).1 := by
            unfold barOf
            rw [hbb]
            rfl
          rw [e1]
          exact barB_lBar (by rw [hbb]; exact List.mem_cons_self)
    exact key _ fun s hs => hs
theorem come_lines {cs : List (List Nat × Nat)} {S : List (List Nat)} {r t : List Nat} {tk : List (List Nat)} (hv : CsV cs) (hn : ∀ c ∈ cs, NmV c.1) (hr : RowV cs r) (hS : ∀ s ∈ S, RowV cs s) (h : Run S r tk t) (hf : Fin S r t) : (∀ l ∈ linesD cs S r tk t, LineOk l) ∧ (linesD cs S r tk t).length ≤ 2 + tk.length + S.length := by
  have htk : ∀ l ∈ tk.map lTake, LineOk l := fun l hl => by
    obtain ⟨s, hs, rfl⟩ := List.mem_map.mp hl
    exact ln_take (rowV_tx hv (hS s (run_mem h s hs)))
  have hwl : (waitS S t).length ≤ S.length := List.length_filter_le _ _
  unfold linesD
  split
  · refine ⟨fun l hl => ?_, by simp; omega⟩
    rw [List.cons_append, List.mem_cons, List.mem_append, List.mem_singleton] at hl
    rcases hl with z | z | z
    · rw [z]; exact ln_row (rowV_tx hv hr)
    · exact htk l z
    · rw [z]; exact ln_made
  · refine ⟨fun l hl => ?_, by simp; omega⟩
    rw [List.append_assoc, List.cons_append, List.mem_cons, List.mem_append, List.mem_append, List.mem_singleton] at hl
    rcases hl with z | z | z | z
    · rw [z]; exact ln_row (rowV_tx hv hr)
    · exact htk l z
    · obtain ⟨s, hs, rfl⟩ := List.mem_map.mp z
      have hsS := (List.mem_filter.mp hs).1
      refine ln_bar (rowV_tx hv (hS s hsS)) ?_
      cases hbb : bars s t r with
      | nil => exact absurd hbb (wait_bar hf hs)
      | cons i l0 =>
        have hi : i ∈ bars s t r := by rw [hbb]; exact List.mem_cons_self
        unfold bars at hi
        have hil := outs_lt (List.mem_filter.mp hi).1
        have hsl := (hS s hsS).1
        rw [List.headD_cons, List.getD_eq_getElem?_getD, List.getElem?_eq_getElem (show i < cs.length by omega)]
        have := hn _ (List.getElem_mem (l := cs) (n := i) (by omega))
        exact ⟨strs_ok this.2, by have := this.1; show _ ≤ 1000; exact Nat.le_trans ‹_› (by decide)⟩
    · rw [z]; exact ln_barred

end Nt

namespace Nt
open PySem PySem.Spec PyProof.Rows L2


def B30z : Int := 1000000000000000000000000000000
def oddsD : List D := [.non, .bl true, .bl false, .int 7, .int (-1), .str [], .str [120], .lst [], .tup [], .dic [], .lst [.non], .tup [.str [48]], .dic [(tk [97], .int 1)], .int B30z, .str [48, 32]]
def lineVs (s r t : List Nat) : List D := [.tup [.str [109, 97, 100, 101]], .tup [.str [98, 97, 114, 114, 101, 100]], .tup [.str [116, 97, 107, 101], .str s], .tup [.str [98, 97, 114], .str s, .str t], .tup [.str [114, 111, 119], .str r], .lst [.str [109, 97, 100, 101]], .lst [.str [116, 97, 107, 101], .str s], .str [109, 97, 100, 101], .non, .tup [], .bl true, .tup [.str [116, 97, 107, 101]], .tup [.str [116, 97, 107, 101], .str s, .str t], .tup [.str [98, 97, 114], .str s], .tup [.str [109, 97, 100, 101], .str r], .tup [.str [109, 97, 100, 101], .bl true], .tup [.str [98, 97, 114], .str t, .str s], .tup [.str [114, 111, 119], .str s], .tup [.str [98, 97, 114], .str s, .str [122, 122, 122, 122, 122, 122, 122]], .tup [.str [116, 97, 107, 101], .non], .tup [.str [116, 97, 107, 101], .lst [.str s]], .tup [.str [98, 97, 114], .lst [.str s], .str t], .tup [.str [98, 97, 114], .str s, .non], .tup [.str [84, 97, 107, 101], .str s], .tup [.non], .tup [.str [98, 97, 114], .str s, .lst [.str t]], .dic [(tk [109, 97, 100, 101], .int 1)]]


theorem odds_pap : ∀ d ∈ oddsD, PapOk d := by
  intro d hd
  simp only [oddsD, List.mem_cons, List.not_mem_nil, or_false] at hd
  have one : ∀ x : D, LnOk x → (∀ l ∈ [x], LnOk l) ∧ [x].length ≤ 1000 := fun x hx => ⟨fun l hl => by rw [List.mem_singleton.mp hl]; exact hx, by simp⟩
  have nil : (∀ l ∈ ([] : List D), LnOk l) ∧ ([] : List D).length ≤ 1000 := ⟨fun l hl => (nomatch hl), by simp⟩
  rcases hd with h | h | h | h | h | h | h | h | h | h | h | h | h | h | h <;> subst h
  · exact trivial
  · exact trivial
  · exact trivial
  · exact trivial
  · exact trivial
  · exact trivial
  · exact trivial
  · exact nil
  · exact nil
  · exact trivial
  · exact one _ trivial
  · exact one _ trivial
  · exact trivial
  · exact trivial
  · exact trivial
theorem line_vs {s r t : List Nat} (hs : Tx s) (hr : Tx r) (ht : Tx t) : ∀ d ∈ lineVs s r t, LineOk d := by
  intro d hd
  have es : elOk (.str s) = true := hs.1
  have er : elOk (.str r) = true := hr.1
  have et : elOk (.str t) = true := ht.1
  have es' : D.ok (.str s) = true := hs.1
  have et' : D.ok (.str t) = true := ht.1
  have ls := hs.2
  have lr := hr.2
  have lt := ht.2
  simp only [lineVs, List.mem_cons, List.not_mem_nil, or_false] at hd
  rcases hd with h | h | h | h | h | h | h | h | h | h | h | h | h | h | h | h | h | h | h | h | h | h | h | h | h | h | h <;> subst h <;>
    first
    | exact ⟨trivial, rfl⟩
    | (refine line_of (fun d hd => ?_) (by simp) (fun z hz => ?_) (fun d hd => ?_)
       · simp only [List.mem_cons, List.not_mem_nil, or_false] at hd <;> first
         | (rcases hd with h | h | h <;> subst h <;> first | assumption | rfl | (show ([_] : List D).all D.ok = true; rw [List.all_cons, List.all_nil, Bool.and_true]; assumption))
         | (rcases hd with h | h <;> subst h <;> first | assumption | rfl | (show ([_] : List D).all D.ok = true; rw [List.all_cons, List.all_nil, Bool.and_true]; assumption))
         | (subst hd; first | assumption | rfl)
         | exact hd.elim
       · simp only [List.mem_cons, List.not_mem_nil, or_false, D.str.injEq, reduceCtorEq, false_or] at hz <;> first
         | (rcases hz with h | h | h <;> subst h <;> first | assumption | decide)
         | (rcases hz with h | h <;> subst h <;> first | assumption | decide)
         | (subst hz; first | assumption | decide)
         | exact hz.elim
       · simp only [List.mem_cons, List.not_mem_nil, or_false] at hd <;> first
         | (rcases hd with h | h | h <;> subst h <;> rfl)
         | (rcases hd with h | h <;> subst h <;> rfl)
         | (subst hd; rfl)
         | exact hd.elim)
theorem rowV_dots (cs : List (List Nat × Nat)) : RowV cs (List.replicate cs.length 46) :=
  ⟨List.length_replicate, fun i c m h _ => .inl (by
    have := List.mem_of_getElem? h
    exact List.eq_of_mem_replicate this)⟩
def unS : D → List Nat
  | .str s => s
  | _ => []
theorem perm_strs {ys : List D} {S : List (List Nat)} (h : ys.Perm (S.map D.str)) : ∃ S1 : List (List Nat), ys = S1.map D.str ∧ (∀ s, s ∈ S1 ↔ s ∈ S) ∧ S1.length = S.length := by
  have e : ∀ y ∈ ys, y = .str (unS y) := fun y hy => by
    obtain ⟨s, _, rfl⟩ := List.mem_map.mp (h.mem_iff.mp hy)
    rfl
  have e2 : ys = (ys.map unS).map D.str := by
    rw [List.map_map, List.map_congr_left (f := D.str ∘ unS) (g := id) fun y hy => (e y hy).symm, List.map_id]
  refine ⟨ys.map unS, e2, fun s => ?_, by rw [List.length_map, h.length_eq, List.length_map]⟩
  constructor
  · intro hs
    have : D.str s ∈ ys := by rw [e2]; exact List.mem_map_of_mem hs
    obtain ⟨z, hz, hz2⟩ := List.mem_map.mp (h.mem_iff.mp this)
    cases hz2; exact hz
  · intro hs
    exact List.mem_map.mpr ⟨.str s, h.mem_iff.mpr (List.mem_map_of_mem hs), rfl⟩
def Rg_law_odd (ds : List D) (P : En → Prop) : Prop := ∃ xs : List D, ds = [.bag, .lst xs] ∧ xs.length ≤ 100 ∧ ∀ d ∈ oddsD ++ xs, P (.dat d)
theorem len_law_odd (ds P) (h : Rg_law_odd ds P) : ds.length = 2 := by obtain ⟨_, rfl, _⟩ := h; rfl
def Rg_law_loose (ds : List D) (P : En → Prop) : Prop := ∃ cs : List (List Nat × Nat), ds = [.bag, .lst (cs.map cellD)] ∧ CsV cs ∧ ∀ S : List (List Nat), S.length ≤ 7 → (∀ s ∈ S, RowV cs s) → P (.own (S.map D.str))
theorem len_law_loose (ds P) (h : Rg_law_loose ds P) : ds.length = 2 := by obtain ⟨_, rfl, _⟩ := h; rfl
def Rg_law_wanted (ds : List D) (P : En → Prop) : Prop := ∃ (cs : List (List Nat × Nat)) (S : List (List Nat)), ds = [.bag, .lst (cs.map cellD), .lst (S.map D.str)] ∧ CsV cs ∧ 1 ≤ cs.length ∧ S.length ≤ 100 ∧ (∀ s ∈ S, RowV cs s) ∧ ∀ r, RowV cs r → P (.dat (.str r))
theorem len_law_wanted (ds P) (h : Rg_law_wanted ds P) : ds.length = 3 := by obtain ⟨_, _, rfl, _⟩ := h; rfl
def Rg_law_line (ds : List D) (P : En → Prop) : Prop := ∃ (cs : List (List Nat × Nat)) (S : List (List Nat)) (r : List Nat), ds = [.bag, .lst (cs.map cellD), .lst (S.map D.str), .str r] ∧ CsV cs ∧ 1 ≤ cs.length ∧ (∀ c ∈ cs, NmV c.1) ∧ S.length ≤ 100 ∧ (∀ s ∈ S, RowV cs s) ∧ RowV cs r ∧ ∀ d, LineOk d → P (.dat d)
theorem len_law_line (ds P) (h : Rg_law_line ds P) : ds.length = 4 := by obtain ⟨_, _, _, rfl, _⟩ := h; rfl
section
variable {P : Program} {w : World} {K : PySem.W.Frag} {mg : Str → Option Value} {base : Heap}
theorem e_dnew0 {ρ : List En} : ED tDNewK ρ (· = .dic []) := EV.ed (R := (· = .dct [])) (fun W0 W σ E Q q => fun p hp =>
  q (.ref p) (.dct []) (W.add p (.dK []) hp) (Grow.add hp) ⟨p, [], rfl, upd_same, W.le.none' hp, hp, .nil⟩ rfl) fun e q => ⟨.dic [], by rw [q]; rfl, rfl⟩
theorem e_dic1 {ρ : List En} {ta tb : TE} {s : List Nat} {d : D} (hk : ED ta ρ (· = .str s)) (hv : ED tb ρ (· = d)) : ED (tDisp [(ta, tb)]) ρ (· = .dic [(tk s, d)]) := (e_disp1 hk hv).ed fun e q => ⟨_, by rw [q]; rfl, rfl⟩
theorem e_pow30 {ρ : List En} {z : Int} (hz : B30z = z) : ED (tOp (rI CPow fun i j => .int (i ^ j.toNat)) (tC (.int 10)) (tC (.int 30))) ρ (· = .int z) := e_opd e_int e_int fun W v w a b Q q => by
  cases a; cases b
  refine ⟨10, 30, rfl, rfl, ⟨by decide, by decide, by decide⟩, ?_⟩
  have : (10 : Int) ^ (30 : Int).toNat = z := by rw [← hz]; decide
  show Q (V.int ((10 : Int) ^ (30 : Int).toNat)) W.h
  rw [this]
  exact dat1 (.int z) q

theorem ok_law_odd (T : Txt K mg) (G_law_of : FnOk P w K mg base CX0 2 T.a_law_of T.d_law_of ["_law_bag_here", "_law_things"] (SpE Rg_law_of)) : FnOk P w K mg base CX0 3 T.a_law_odd T.d_law_odd ["_law_bag_here", "_law_more"] (SpE Rg_law_odd) := by
  refine T.F_law_odd.ok sc_law_odd (fun vs H Q E h => spE_len h len_law_odd) (fun cdv A outer s H vs Q E hr h => ?_)
  have hu := hu64 hr
  have hvl : vs.length = 2 := spE_len h len_law_odd
  refine ⟨_, (pss_one (ps_ret (pe_call G_law_of (hr.mono (by decide)) (by rfl) T.g_law_of T.F_law_of.kp (b_law_of T) .nil pass0 (pa_cons (pv 0) (pa_cons (pe_op op_plus (pe_lst (pa_cons pe_non (pa_cons pe_bl (pa_cons pe_bl (pa_cons pe_int (pa_cons (pe_un un_neg pe_int) (pa_cons pe_str (pa_cons pe_str (pa_cons (pe_lst pa_nil) (pa_cons (pe_tup pa_nil) (pa_cons pe_dnewK (pa_cons (pe_lst (pa_cons pe_non pa_nil)) (pa_cons (pe_tup (pa_cons pe_str pa_nil)) (pa_cons (pe_disp (pps_cons pe_str pe_int pps_nil) rfl rfl (by simp) (by decide)) (pa_cons (pe_op op_pow pe_int pe_int) (pa_cons pe_str pa_nil)))))))))))))))) (pv 1)) pa_nil))))), fn_body h (by rw [hvl]; decide) (fun ds R hR hl => ?_)⟩
  obtain ⟨xs, rfl, hx, q⟩ := hR
  exact t_retd (PD := fun d => d ∈ oddsD ++ xs) (e_of (e_var rfl) (EV.o1 (e_op1 (x := .lst oddsD) (EV.o1 (e_lst1 (ds := oddsD) (ea_c e_non (ea_c e_bl (ea_c e_bl (ea_c e_int (ea_c (e_negI e_int) (ea_c (e_str (by decide +kernel)) (ea_c (e_str (by decide +kernel)) (ea_c (EV.o1 (e_lst1 ea_nil (by simp))) (ea_c (e_tup1 ea_nil (by simp)) (ea_c (e_dnew0) (ea_c (EV.o1 (e_lst1 (ea_c e_non ea_nil) (by simp))) (ea_c (e_tup1 (ea_c (e_str (by decide +kernel)) ea_nil) (by simp)) (ea_c (e_dic1 (e_str (by decide +kernel)) e_int) (ea_c (e_pow30 rfl) (ea_c (e_str (by decide +kernel)) ea_nil))))))))))))))) (by simp [oddsD]))) (e_var rfl) (od_addL (by simp [oddsD]; omega)))) (.lst _) (by simp [oddsD]) (by simp [oddsD]; omega)) fun d hd => q d hd

theorem ok_law_loose (T : Txt K mg) (G_law_draw : FnOk P w K mg base CX0 1 T.a_law_draw T.d_law_draw ["_law_bag_here", "_law_sides"] (SpE Rg_law_draw)) (G_law_of : FnOk P w K mg base CX0 2 T.a_law_of T.d_law_of ["_law_bag_here", "_law_things"] (SpE Rg_law_of)) (G_law_mixed : FnOk P w K mg base CX0 2 T.a_law_mixed T.d_law_mixed ["_law_bag_here", "_law_things"] (SpE Rg_law_mixed)) (G_law_row : FnOk P w K mg base CX0 2 T.a_law_row T.d_law_row ["_law_bag_here", "_law_frame_here", "_law_thin"] (SpE Rg_law_row)) (G_law_blank : FnOk P w K mg base CX0 1 T.a_law_blank T.d_law_blank ["_law_frame_here"] (SpE Rg_law_blank)) : FnOk P w K mg base CX0 3 T.a_law_loose T.d_law_loose ["_law_bag_here", "_law_frame_here"] (SpE Rg_law_loose) := by
  refine T.F_law_loose.ok sc_law_loose (fun vs H Q E h => spE_len h len_law_loose) (fun cdv A outer s H vs Q E hr h => ?_)
  have hu := hu64 hr
  have hvl : vs.length = 2 := spE_len h len_law_loose
  refine ⟨_, (pss_cons (ps_setLc (i := 2) (own := [("_law_k", 3)]) (g := gName 3) (tt := tYes) rfl sc_law_loose.nd rfl rfl (sw_true rfl rfl rfl (by decide +kernel)) (pi_range1 (by rfl) T.n_range (pa_cons (pe_call G_law_of (hr.mono (by decide)) (by rfl) T.g_law_of T.F_law_of.kp (b_law_of T) .nil pass0 (pa_cons (pv 0) (pa_cons (pe_lst (pa_cons pe_int (pa_cons pe_int (pa_cons pe_int (pa_cons pe_int (pa_cons pe_int (pa_cons pe_int pa_nil))))))) pa_nil))) pa_nil)) (blkOk_by (N := N_law_loose) (sc := defScope s_law_loose) (by decide +kernel)) (fun _ _ _ _ _ => (pg_name (i := 3) sc_law_loose.nd rfl (Or.inl rfl))) (fun _ _ _ _ _ => pts_nil) (fun _ _ _ _ _ => (pe_call G_law_row (hr.mono (by decide)) (by rfl) T.g_law_row T.F_law_row.kp (b_law_row T) .nil pass0 (pa_cons (pv 0) (pa_cons (pv 1) (pa_cons (pe_call G_law_of (hr.mono (by decide)) (by rfl) T.g_law_of T.F_law_of.kp (b_law_of T) .nil pass0 (pa_cons (pv 0) (pa_cons (pe_lst (pa_cons pe_int (pa_cons pe_int pa_nil))) pa_nil))) pa_nil)))))) (pss_cons (ps_if (PW.pt (pw_and (pt_truK (K := K) rfl (pv 2)) (pw_and1 (pt_cmpR (op_eqK (K := K) rfl hu) (pe_call G_law_draw (hr.mono (by decide)) (by rfl) T.g_law_draw T.F_law_draw.kp (b_law_draw T) .nil pass0 (pa_cons (pv 0) (pa_cons pe_int pa_nil))) pe_int (nomark _))))) (pss_one (ps_expr (pe_bm PySem.F.plainAttrs_list PySem.F.slot_list_append PySem.F.type_list_append mt_append (pv 2) (pa_cons (pe_call G_law_of (hr.mono (by decide)) (by rfl) T.g_law_of T.F_law_of.kp (b_law_of T) .nil pass0 (pa_cons (pv 0) (pa_cons (pv 2) pa_nil))) pa_nil)))) pss_nil) (pss_cons (ps_if (pt_cmpR (op_eqK (K := K) rfl hu) (pe_call G_law_draw (hr.mono (by decide)) (by rfl) T.g_law_draw T.F_law_draw.kp (b_law_draw T) .nil pass0 (pa_cons (pv 0) (pa_cons pe_int pa_nil))) pe_int (nomark _)) (pss_one (ps_expr (pe_bm PySem.F.plainAttrs_list PySem.F.slot_list_append PySem.F.type_list_append mt_append (pv 2) (pa_cons (pe_call G_law_blank (hr.mono (by decide)) (by rfl) T.g_law_blank T.F_law_blank.kp (b_law_blank T) .nil pass0 (pa_cons (pv 1) pa_nil)) pa_nil)))) pss_nil) (pss_one (ps_ret (pe_call G_law_mixed (hr.mono (by decide)) (by rfl) T.g_law_mixed T.F_law_mixed.kp (b_law_mixed T) .nil pass0 (pa_cons (pv 0) (pa_cons (pv 2) pa_nil)))))))), fn_body h (by rw [hvl]; decide) (fun ds R hR hl => ?_)⟩
  obtain ⟨cs, rfl, hcs, q⟩ := hR
  have h20 := hcs.1
  refine q_asg (P := fun e => ∃ S : List (List Nat), e = .own (S.map D.str) ∧ S.length ≤ 5 ∧ ∀ s ∈ S, RowV cs s) ((e_lc1 (T := fun ds => ∃ n : Int, ds = ixs n.toNat ∧ n ≤ 5) (Inv := fun _ i acc => ∃ L : List (List Nat), acc = L.map .str ∧ L.length = i ∧ ∀ s ∈ L, RowV cs s) (iv_rngP (T := fun n => n ≤ 5) ((ea_1 (P := fun d => ∃ j : Int, d = .int j ∧ 0 ≤ j ∧ j ≤ 5) ((e_of (e_var rfl) (EV.o1 (e_lst1 (ds := [.int 2, .int 3, .int 4, .int 5, .int 0, .int 1]) (ea_c e_int (ea_c e_int (ea_c e_int (ea_c e_int (ea_c e_int (ea_c e_int ea_nil)))))) (by simp))) (.lst _) (by simp) (by simp)).imp fun d hd => ?_)).imp fun ds ⟨x, e, j, ex, hj⟩ => ⟨j, by rw [e, ex], by omega, by omega, by omega⟩)) (fun ds ⟨n, e, hn⟩ => by rw [e]; simp [ixs]; omega) (fun ds e => ⟨[], rfl, rfl, by simp⟩) fun ds i d acc e hd ⟨L, ha, hl, hL⟩ => ?_).imp fun e ⟨ds, acc, e1, ⟨n, e2, hn⟩, L, e3, hl, hL⟩ => ⟨L, by rw [e1, e3], ?_, hL⟩) fun e ⟨S, e1, hl, hS⟩ => ?_
  · simp only [List.mem_cons, List.not_mem_nil, or_false] at hd
    rcases hd with h | h | h | h | h | h <;> subst h <;> exact ⟨_, rfl, by decide, by decide⟩
  · refine et_yes.imp fun b hb => ?_
    rw [hb]
    refine iteT ?_
    refine EV.ed (R := fun e => ∃ r, e = .dat (.str r) ∧ RowV cs r) (e_callP (Rg := Rg_law_row) (T := fun ds => ∃ th : Int, ds = [.bag, .lst (cs.map cellD), .int th]) (ea_cons (T' := fun _ => True) (P := fun d => d = .bag) (e_var rfl) fun x hx => ea_cons (T' := fun _ => True) (P := fun d => d = .lst (cs.map cellD)) (e_var rfl) fun y hy => (ea_1 (P := fun d => ∃ th : Int, d = .int th) ((e_of (e_var rfl) (EV.o1 (e_lst1 (ds := [.int 2, .int 3]) (ea_c e_int (ea_c e_int ea_nil)) (by simp))) (.lst _) (by simp) (by simp)).imp fun d hd => ?_)).imp fun ds ⟨z, ez, th, eth⟩ => ⟨th, by rw [hx, hy, ez, eth]⟩) fun ds ⟨th, e⟩ => ⟨cs, th, e, hcs, fun r hr => ⟨r, rfl, hr⟩⟩) fun e ⟨r, e1, hr⟩ => ⟨.str r, by rw [e1]; rfl, ⟨L ++ [r], by rw [ha, List.map_append]; rfl, by rw [List.length_append, hl]; rfl, fun z hz => by
      rcases List.mem_append.mp hz with h | h
      · exact hL z h
      · rw [List.mem_singleton.mp h]; exact hr⟩⟩
    simp only [List.mem_cons, List.not_mem_nil, or_false] at hd
    rcases hd with h | h <;> subst h <;> exact ⟨_, rfl⟩
  · rw [hl, e2]; simp [ixs]; omega
  subst e1
  refine t_seq (M := fun ρ' => ∃ S : List (List Nat), ρ' = [.dat .bag, .dat (.lst (cs.map cellD)), .own (S.map D.str), .un] ∧ S.length ≤ 6 ∧ ∀ s ∈ S, RowV cs s) (t_if (T := fun b => b = true → S ≠ []) (et_and (T1 := fun b => b = true → S ≠ []) ((et_lend (i := 2) (ds := S.map D.str) rfl (et_tru (e_var rfl))).imp fun b hb e z => by subst z; rw [hb] at e; cases e) (fun h => (et_test (T := fun _ => True) (EV.ed (R := fun e => ∃ b, e = .dat (.bl b)) (e_op (PA := fun d => ∃ j : Nat, d = .int j ∧ (j : Int) < 3) (PB := fun d => d = .int 0) (e_draw (e_var rfl) e_int (by decide) (by decide)) e_int fun x y ⟨j, hx, _⟩ hy => by
      subst hx hy
      intro W v w2 r1 r2 Q q
      exact od_eqI W v w2 r1 r2 Q fun u e W' g r p => q u e W' g r ⟨_, p⟩) fun e ⟨b, hb⟩ => ⟨.bl b, by rw [hb]; rfl, b, rfl, trivial⟩)).imp fun _ _ _ => h rfl) (fun _ e => nomatch e)) (fun h => ?_) (fun _ => t_next ⟨S, rfl, by omega, hS⟩)) fun ρ' m => ?_
  · have hne := h rfl
    refine t_app (i := 2) (ds := S.map D.str) (PD := fun d => d ∈ S.map D.str) rfl (e_lend (i := 2) (ds := S.map D.str) (PD := fun d => d ∈ S.map D.str) rfl (e_of (e_var rfl) (e_var rfl) (.lst _) (by rw [List.length_map]; exact List.length_pos_iff.mpr hne) (by rw [List.length_map]; omega)) fun d hd => by
      obtain ⟨s, _, rfl⟩ := List.mem_map.mp hd
      rfl) (by rw [List.length_map]; omega) fun d hd => ?_
    obtain ⟨s, hs, rfl⟩ := List.mem_map.mp hd
    exact ⟨S ++ [s], by rw [List.map_append]; rfl, by rw [List.length_append]; simp; omega, fun z hz => by
      rcases List.mem_append.mp hz with h | h
      · exact hS z h
      · rw [List.mem_singleton.mp h]; exact hS s hs⟩
  obtain ⟨S, rfl, hl, hS⟩ := m
  refine t_seq (M := fun ρ' => ∃ S : List (List Nat), ρ' = [.dat .bag, .dat (.lst (cs.map cellD)), .own (S.map D.str), .un] ∧ S.length ≤ 7 ∧ ∀ s ∈ S, RowV cs s) (t_if (T := fun _ => True) (et_test (T := fun _ => True) (EV.ed (R := fun e => ∃ b, e = .dat (.bl b)) (e_op (PA := fun d => ∃ j : Nat, d = .int j ∧ (j : Int) < 4) (PB := fun d => d = .int 0) (e_draw (e_var rfl) e_int (by decide) (by decide)) e_int fun x y ⟨j, hx, _⟩ hy => by
      subst hx hy
      intro W v w2 r1 r2 Q q
      exact od_eqI W v w2 r1 r2 Q fun u e W' g r p => q u e W' g r ⟨_, p⟩) fun e ⟨b, hb⟩ => ⟨.bl b, by rw [hb]; rfl, b, rfl, trivial⟩)) (fun _ => ?_) (fun _ => t_next ⟨S, rfl, by omega, hS⟩)) fun ρ' m => ?_
  · refine t_app (i := 2) (ds := S.map D.str) (PD := fun d => d = .str (List.replicate cs.length 46)) rfl (EV.d1 (e_call0 (R := fun e => e = .dat (.str (List.replicate cs.length 46))) (ea_c (e_var rfl) ea_nil) ⟨cs.map cellD, rfl, by rw [List.length_map]; omega, by rw [List.length_map]⟩)) (by rw [List.length_map]; omega) fun d hd => ?_
    subst hd
    exact ⟨S ++ [List.replicate cs.length 46], by rw [List.map_append]; rfl, by rw [List.length_append]; simp; omega, fun z hz => by
      rcases List.mem_append.mp hz with h | h
      · exact hS z h
      · rw [List.mem_singleton.mp h]; exact rowV_dots cs⟩
  obtain ⟨S, rfl, hl, hS⟩ := m
  refine t_freeze (i := 2) (ds := S.map D.str) rfl ?_
  exact t_ret (P := fun e => ∃ Y : List (List Nat), e = .own (Y.map D.str) ∧ Y.length ≤ 7 ∧ ∀ s ∈ Y, RowV cs s) (e_call0 (Rg := Rg_law_mixed) (ea_c (e_var rfl) (ea_c (e_var rfl) ea_nil)) ⟨S.map D.str, rfl, by rw [List.length_map]; omega, fun ys hp => by
    obtain ⟨S1, a1, b1, c1⟩ := perm_strs hp
    exact ⟨S1, by rw [a1], by omega, fun z hz => hS z ((b1 z).mp hz)⟩⟩) fun e ⟨Y, e1, h1, h2⟩ => by rw [e1]; exact q Y h1 h2

theorem ok_law_wanted (T : Txt K mg) (G_law_draw : FnOk P w K mg base CX0 1 T.a_law_draw T.d_law_draw ["_law_bag_here", "_law_sides"] (SpE Rg_law_draw)) (G_law_of : FnOk P w K mg base CX0 2 T.a_law_of T.d_law_of ["_law_bag_here", "_law_things"] (SpE Rg_law_of)) (G_law_lay : FnOk P w K mg base CX0 1 T.a_law_lay T.d_law_lay ["_law_newer_row", "_law_older_row"] (SpE Rg_law_lay)) (G_law_blank : FnOk P w K mg base CX0 1 T.a_law_blank T.d_law_blank ["_law_frame_here"] (SpE Rg_law_blank)) : FnOk P w K mg base CX0 3 T.a_law_wanted T.d_law_wanted ["_law_bag_here", "_law_frame_here", "_law_stack"] (SpE Rg_law_wanted) := by
  refine T.F_law_wanted.ok sc_law_wanted (fun vs H Q E h => spE_len h len_law_wanted) (fun cdv A outer s H vs Q E hr h => ?_)
  have hu := hu64 hr
  have hvl : vs.length = 3 := spE_len h len_law_wanted
  refine ⟨_, (pss_cons (ps_set (i := 3) sc_law_wanted.nd rfl (Or.inl rfl) (pe_call G_law_blank (hr.mono (by decide)) (by rfl) T.g_law_blank T.F_law_blank.kp (b_law_blank T) .nil pass0 (pa_cons (pv 1) pa_nil))) (pss_cons (ps_for PassesOwn.never rfl (pi_range1 (by rfl) T.n_range (pa_cons (pe_call G_law_draw (hr.mono (by decide)) (by rfl) T.g_law_draw T.F_law_draw.kp (b_law_draw T) .nil pass0 (pa_cons (pv 0) (pa_cons pe_int pa_nil))) pa_nil)) (pg_name (i := 4) sc_law_wanted.nd rfl (Or.inl rfl)) (pss_one (ps_if (pt_truK (K := K) rfl (pv 2)) (pss_one (ps_set (i := 3) sc_law_wanted.nd rfl (Or.inl rfl) (pe_call G_law_lay (hr.mono (by decide)) (by rfl) T.g_law_lay T.F_law_lay.kp (b_law_lay T) .nil pass0 (pa_cons (pe_call G_law_of (hr.mono (by decide)) (by rfl) T.g_law_of T.F_law_of.kp (b_law_of T) .nil pass0 (pa_cons (pv 0) (pa_cons (pv 2) pa_nil))) (pa_cons (pv 3) pa_nil))))) pss_nil))) (pss_cons (ps_if (pt_cmpR (op_eqK (K := K) rfl hu) (pe_call G_law_draw (hr.mono (by decide)) (by rfl) T.g_law_draw T.F_law_draw.kp (b_law_draw T) .nil pass0 (pa_cons (pv 0) (pa_cons pe_int pa_nil))) pe_int (nomark _)) (pss_one (ps_ret (pv 3))) pss_nil) (pss_cons (ps_set (i := 5) sc_law_wanted.nd rfl (Or.inl rfl) (pe_call G_law_draw (hr.mono (by decide)) (by rfl) T.g_law_draw T.F_law_draw.kp (b_law_draw T) .nil pass0 (pa_cons (pv 0) (pa_cons (pe_callB (call_lenK (K := K) rfl) (by rfl) T.n_len (by decide +kernel) (pa_cons (pv 1) pa_nil)) pa_nil)))) (pss_one (ps_ret (pe_op op_plus (pe_op op_plus (pe_slice (sl_K (K := K) rfl) (pv 3) po_none (po_some (pv 5))) (pe_call G_law_of (hr.mono (by decide)) (by rfl) T.g_law_of T.F_law_of.kp (b_law_of T) .nil pass0 (pa_cons (pv 0) (pa_cons (pe_op op_plus pe_str (pe_slice (sl_K (K := K) rfl) pe_str po_none (po_some (pe_ix (ix_K (K := K) rfl) (pe_ix (ix_K (K := K) rfl) (pv 1) (pv 5) (fun _ _ => rfl)) pe_int (fun _ _ => rfl))))) pa_nil)))) (pe_slice (sl_K (K := K) rfl) (pv 3) (po_some (pe_op op_plus (pv 5) pe_int)) po_none)))))))), fn_body h (by rw [hvl]; decide) (fun ds R hR hl => ?_)⟩
  obtain ⟨cs, S, rfl, hcs, hc1, hSl, hS, q⟩ := hR
  have h20 := hcs.1
  have hlen : ∀ s ∈ S, s.length = cs.length := fun s hs => (hS s hs).1
  refine q_asg1 (d := .str (List.replicate cs.length 46)) (EV.d1 (e_call0 (R := fun e => e = .dat (.str (List.replicate cs.length 46))) (ea_c (e_var rfl) ea_nil) ⟨cs.map cellD, rfl, by rw [List.length_map]; omega, by rw [List.length_map]⟩)) ?_
  refine t_seq (M := fun ρ' => ∃ (r : List Nat) (x4 : En), ρ' = [.dat .bag, .dat (.lst (cs.map cellD)), .dat (.lst (S.map .str)), .dat (.str r), x4, .un] ∧ RowV cs r) (t_for1 (iv_rngP (T := fun _ => True) ((ea_1 (P := fun d => ∃ j : Nat, d = .int j ∧ (j : Int) < 5) (e_draw (e_var rfl) e_int (by decide) (by decide))).imp fun ds ⟨x, e, j, ex, hj⟩ => ⟨(j : Int), by rw [e, ex], by omega, by omega, trivial⟩)) (fun ds i ρ' => ∃ (r : List Nat) (x4 : En), ρ' = [.dat .bag, .dat (.lst (cs.map cellD)), .dat (.lst (S.map .str)), .dat (.str r), x4, .un] ∧ RowV cs r) (fun ds e => ⟨_, _, rfl, rowV_dots cs⟩) (fun ds i k ρ' e hk inv => ?_) (fun ds ρ' e m => m)) fun ρ' m => ?_
  · obtain ⟨r, x4, rfl, hr⟩ := inv
    refine t_if (T := fun b => b = true → S ≠ []) ((et_tru (e_var rfl)).imp fun b hb e z => by subst z; rw [hb] at e; cases e) (fun h => ?_) (fun _ => t_next ⟨r, _, rfl, hr⟩)
    have hne := h rfl
    refine t_asgd (PD := fun d => ∃ r, d = .str r ∧ RowV cs r) (EV.ed (R := fun e => ∃ r, e = .dat (.str r) ∧ RowV cs r) (e_callP (T := fun ds => ∃ s, ds = [.str s, .str r] ∧ RowV cs s) (ea_cons (T' := fun _ => True) (P := fun d => d ∈ S.map D.str) (e_of (e_var rfl) (e_var rfl) (.lst _) (by rw [List.length_map]; exact List.length_pos_iff.mpr hne) (by rw [List.length_map]; omega)) fun x hx => (ea_c (e_var rfl) ea_nil).imp fun ds e => by
      obtain ⟨s, hs, rfl⟩ := List.mem_map.mp hx
      exact ⟨s, by rw [e], hS s hs⟩) fun ds ⟨s, e, hs⟩ => ⟨s, r, e, by rw [hs.1]; omega, _, rfl, rowV_ov hs hr⟩) fun e ⟨r, e1, h⟩ => ⟨.str r, by rw [e1]; rfl, r, rfl, h⟩) fun d' ⟨r', e, hr'⟩ => by subst e; exact ⟨_, _, rfl, hr'⟩
  obtain ⟨r, x4, rfl, hr⟩ := m
  have hrl := hr.1
  refine q_if (T := fun _ => True) (et_test (T := fun _ => True) (EV.ed (R := fun e => ∃ b, e = .dat (.bl b)) (e_op (PA := fun d => ∃ j : Nat, d = .int j ∧ (j : Int) < 2) (PB := fun d => d = .int 0) (e_draw (e_var rfl) e_int (by decide) (by decide)) e_int fun x y ⟨j, hx, _⟩ hy => by
      subst hx hy
      intro W v w2 r1 r2 Q q
      exact od_eqI W v w2 r1 r2 Q fun u e W' g r p => q u e W' g r ⟨_, p⟩) fun e ⟨b, hb⟩ => ⟨.bl b, by rw [hb]; rfl, b, rfl, trivial⟩)) (fun _ => t_ret1 (e_var rfl) (q r hr)) (fun _ => ?_)
  refine q_asgd (PD := fun d => ∃ j : Nat, d = .int j ∧ j < cs.length) ((e_draw (k := (cs.length : Int)) (e_var rfl) ((EV.d1 (e_cb1 (ea_c (e_var rfl) ea_nil) cd_lenL)).is (by rw [List.length_map])) (by omega) (by omega)).imp fun d ⟨j, e, h⟩ => ⟨j, e, by omega⟩) fun d' ⟨j, e, hj⟩ => ?_
  subst e
  have hcj : cs[j]? = some cs[j] := List.getElem?_eq_getElem hj
  have hm := hcs.2 _ (List.getElem_mem hj)
  have hcut : cutN [48, 49, 50, 51] none (some ((cs[j].2 : Nat) : Int)) = [48, 49, 50, 51].take cs[j].2 := cut_to rfl (by simp; omega)
  refine t_retd (PD := fun d => ∃ c, d = .str (r.take j ++ [c] ++ r.drop (j + 1)) ∧ (c = 46 ∨ (48 ≤ c ∧ c < 48 + cs[j].2))) (e_glue (k := j) (r := r) (by omega) (by omega) (e_var rfl) (e_var rfl) ((e_of (x := .str ([46] ++ [48, 49, 50, 51].take cs[j].2)) (e_var rfl) (e_opd (e_str (s := [46]) (by decide +kernel)) ((EV.d1 (e_sl (e_str (s := [48, 49, 50, 51]) (by decide +kernel)) eo_none (eo_part (e_opd (e_opd (e_var rfl) (e_var rfl) (od_ixL (j := j) rfl (by rw [List.getElem?_map, hcj]; rfl))) e_int (od_ixT (j := 1) rfl rfl))) (sd_str (by decide)))).is (by rw [hcut])) (od_addS (by rw [List.length_take]; simp; omega))) (.str _) (by simp [chs]) (by simp [chs]; omega)).imp fun d hd => ?_) (e_var rfl) (e_opd (e_var rfl) e_int od_addI)) fun d' ⟨c, e, hc⟩ => by subst e; exact q _ (rowV_set hr hcj hc)
  obtain ⟨c, hc, rfl⟩ := List.mem_map.mp hd
  refine ⟨c, rfl, ?_⟩
  rcases List.mem_append.mp hc with h | h
  · exact .inl (List.mem_singleton.mp h)
  · exact .inr ((mem_digits (by omega)).mp h)

theorem ok_law_line (T : Txt K mg) (G_law_of : FnOk P w K mg base CX0 2 T.a_law_of T.d_law_of ["_law_bag_here", "_law_things"] (SpE Rg_law_of)) (G_law_blank : FnOk P w K mg base CX0 1 T.a_law_blank T.d_law_blank ["_law_frame_here"] (SpE Rg_law_blank)) : FnOk P w K mg base CX0 3 T.a_law_line T.d_law_line ["_law_bag_here", "_law_frame_here", "_law_stack", "_law_r"] (SpE Rg_law_line) := by
  refine T.F_law_line.ok sc_law_line (fun vs H Q E h => spE_len h len_law_line) (fun cdv A outer s H vs Q E hr h => ?_)
  have hu := hu64 hr
  have hvl : vs.length = 4 := spE_len h len_law_line
  refine ⟨_, (pss_cons (ps_set (i := 4) sc_law_line.nd rfl (Or.inl rfl) (pe_call G_law_of (hr.mono (by decide)) (by rfl) T.g_law_of T.F_law_of.kp (b_law_of T) .nil pass0 (pa_cons (pv 0) (pa_cons (pe_op op_plus (pv 2) (pe_lst (pa_cons (pv 3) (pa_cons (pe_call G_law_blank (hr.mono (by decide)) (by rfl) T.g_law_blank T.F_law_blank.kp (b_law_blank T) .nil pass0 (pa_cons (pv 1) pa_nil)) pa_nil)))) pa_nil)))) (pss_cons (ps_set (i := 5) sc_law_line.nd rfl (Or.inl rfl) (pe_ix (ix_K (K := K) rfl) (pe_call G_law_of (hr.mono (by decide)) (by rfl) T.g_law_of T.F_law_of.kp (b_law_of T) .nil pass0 (pa_cons (pv 0) (pa_cons (pv 1) pa_nil))) pe_int (fun _ _ => rfl))) (pss_one (ps_ret (pe_call G_law_of (hr.mono (by decide)) (by rfl) T.g_law_of T.F_law_of.kp (b_law_of T) .nil pass0 (pa_cons (pv 0) (pa_cons (pe_lst (pa_cons (pe_tup (pa_cons pe_str pa_nil)) (pa_cons (pe_tup (pa_cons pe_str pa_nil)) (pa_cons (pe_tup (pa_cons pe_str (pa_cons (pv 4) pa_nil))) (pa_cons (pe_tup (pa_cons pe_str (pa_cons (pv 4) (pa_cons (pv 5) pa_nil)))) (pa_cons (pe_tup (pa_cons pe_str (pa_cons (pv 3) pa_nil))) (pa_cons (pe_lst (pa_cons pe_str pa_nil)) (pa_cons (pe_lst (pa_cons pe_str (pa_cons (pv 4) pa_nil))) (pa_cons pe_str (pa_cons pe_non (pa_cons (pe_tup pa_nil) (pa_cons pe_bl (pa_cons (pe_tup (pa_cons pe_str pa_nil)) (pa_cons (pe_tup (pa_cons pe_str (pa_cons (pv 4) (pa_cons (pv 5) pa_nil)))) (pa_cons (pe_tup (pa_cons pe_str (pa_cons (pv 4) pa_nil))) (pa_cons (pe_tup (pa_cons pe_str (pa_cons (pv 3) pa_nil))) (pa_cons (pe_tup (pa_cons pe_str (pa_cons pe_bl pa_nil))) (pa_cons (pe_tup (pa_cons pe_str (pa_cons (pv 5) (pa_cons (pv 4) pa_nil)))) (pa_cons (pe_tup (pa_cons pe_str (pa_cons (pv 4) pa_nil))) (pa_cons (pe_tup (pa_cons pe_str (pa_cons (pv 4) (pa_cons pe_str pa_nil)))) (pa_cons (pe_tup (pa_cons pe_str (pa_cons pe_non pa_nil))) (pa_cons (pe_tup (pa_cons pe_str (pa_cons (pe_lst (pa_cons (pv 4) pa_nil)) pa_nil))) (pa_cons (pe_tup (pa_cons pe_str (pa_cons (pe_lst (pa_cons (pv 4) pa_nil)) (pa_cons (pv 5) pa_nil)))) (pa_cons (pe_tup (pa_cons pe_str (pa_cons (pv 4) (pa_cons pe_non pa_nil)))) (pa_cons (pe_tup (pa_cons pe_str (pa_cons (pv 4) pa_nil))) (pa_cons (pe_tup (pa_cons pe_non pa_nil)) (pa_cons (pe_tup (pa_cons pe_str (pa_cons (pv 4) (pa_cons (pe_lst (pa_cons (pv 5) pa_nil)) pa_nil)))) (pa_cons (pe_disp (pps_cons pe_str pe_int pps_nil) rfl rfl (by simp) (by decide)) pa_nil)))))))))))))))))))))))))))) pa_nil))))))), fn_body h (by rw [hvl]; decide) (fun ds R hR hl => ?_)⟩
  obtain ⟨cs, S, r, rfl, hcs, hc1, hnm, hSl, hS, hr, q⟩ := hR
  have h20 := hcs.1
  refine q_asgd (PD := fun d => ∃ s, d = .str s ∧ Tx s) ((e_of (xs := S.map D.str ++ [.str r, .str (List.replicate cs.length 46)]) (e_var rfl) (EV.o1 (e_op1 (e_var rfl) (EV.o1 (e_lst1 (ea_c (e_var rfl) (ea_c (EV.d1 (e_call0 (Rg := Rg_law_blank) (R := fun e => e = .dat (.str (List.replicate cs.length 46))) (ea_c (e_var rfl) ea_nil) ⟨cs.map cellD, rfl, by rw [List.length_map]; omega, by rw [List.length_map]⟩)) ea_nil)) (by simp))) (od_addL (by rw [List.length_map]; simp; omega)))) (.lst _) (by simp) (by simp; omega)).imp fun d hd => ?_) fun d ⟨s, e, hs⟩ => ?_
  · rcases List.mem_append.mp hd with h | h
    · obtain ⟨s, hs, rfl⟩ := List.mem_map.mp h
      exact ⟨s, rfl, rowV_tx hcs (hS s hs)⟩
    · simp only [List.mem_cons, List.not_mem_nil, or_false] at h
      rcases h with h | h <;> subst h
      · exact ⟨_, rfl, rowV_tx hcs hr⟩
      · exact ⟨_, rfl, rowV_tx hcs (rowV_dots cs)⟩
  subst e
  refine q_asgd (PD := fun d => ∃ t, d = .str t ∧ Tx t) (EV.ed (R := fun e => ∃ t, e = .dat (.str t) ∧ Tx t) (e_op (PA := fun d => d ∈ cs.map cellD) (PB := fun d => d = .int 0) (e_of (e_var rfl) (e_var rfl) (.lst _) (by rw [List.length_map]; omega) (by rw [List.length_map]; omega)) e_int fun x y hx hy => ?_) fun e ⟨t, e1, h⟩ => ⟨.str t, by rw [e1]; rfl, t, rfl, h⟩) fun d ⟨t, e, ht⟩ => ?_
  · subst hy
    obtain ⟨c, hc, rfl⟩ := List.mem_map.mp hx
    have h := hnm c hc
    intro W v w2 r1 r2 Q q
    exact od_ixT (j := 0) rfl rfl W v w2 r1 r2 Q fun u e W' g r p => q u e W' g r ⟨c.1, p, ⟨strs_ok h.2, by have := h.1; exact Nat.le_trans this (by decide)⟩⟩
  subst e
  exact t_retd (PD := fun d => d ∈ lineVs s r t) (e_of (e_var rfl) (EV.o1 (e_lst1 (ds := lineVs s r t) (ea_c (e_tup1 (ea_c (e_str (by decide +kernel)) ea_nil) (by simp)) (ea_c (e_tup1 (ea_c (e_str (by decide +kernel)) ea_nil) (by simp)) (ea_c (e_tup1 (ea_c (e_str (by decide +kernel)) (ea_c (e_var rfl) ea_nil)) (by simp)) (ea_c (e_tup1 (ea_c (e_str (by decide +kernel)) (ea_c (e_var rfl) (ea_c (e_var rfl) ea_nil))) (by simp)) (ea_c (e_tup1 (ea_c (e_str (by decide +kernel)) (ea_c (e_var rfl) ea_nil)) (by simp)) (ea_c (EV.o1 (e_lst1 (ea_c (e_str (by decide +kernel)) ea_nil) (by simp))) (ea_c (EV.o1 (e_lst1 (ea_c (e_str (by decide +kernel)) (ea_c (e_var rfl) ea_nil)) (by simp))) (ea_c (e_str (by decide +kernel)) (ea_c e_non (ea_c (e_tup1 ea_nil (by simp)) (ea_c e_bl (ea_c (e_tup1 (ea_c (e_str (by decide +kernel)) ea_nil) (by simp)) (ea_c (e_tup1 (ea_c (e_str (by decide +kernel)) (ea_c (e_var rfl) (ea_c (e_var rfl) ea_nil))) (by simp)) (ea_c (e_tup1 (ea_c (e_str (by decide +kernel)) (ea_c (e_var rfl) ea_nil)) (by simp)) (ea_c (e_tup1 (ea_c (e_str (by decide +kernel)) (ea_c (e_var rfl) ea_nil)) (by simp)) (ea_c (e_tup1 (ea_c (e_str (by decide +kernel)) (ea_c e_bl ea_nil)) (by simp)) (ea_c (e_tup1 (ea_c (e_str (by decide +kernel)) (ea_c (e_var rfl) (ea_c (e_var rfl) ea_nil))) (by simp)) (ea_c (e_tup1 (ea_c (e_str (by decide +kernel)) (ea_c (e_var rfl) ea_nil)) (by simp)) (ea_c (e_tup1 (ea_c (e_str (by decide +kernel)) (ea_c (e_var rfl) (ea_c (e_str (by decide +kernel)) ea_nil))) (by simp)) (ea_c (e_tup1 (ea_c (e_str (by decide +kernel)) (ea_c e_non ea_nil)) (by simp)) (ea_c (e_tup1 (ea_c (e_str (by decide +kernel)) (ea_c (EV.o1 (e_lst1 (ea_c (e_var rfl) ea_nil) (by simp))) ea_nil)) (by simp)) (ea_c (e_tup1 (ea_c (e_str (by decide +kernel)) (ea_c (EV.o1 (e_lst1 (ea_c (e_var rfl) ea_nil) (by simp))) (ea_c (e_var rfl) ea_nil))) (by simp)) (ea_c (e_tup1 (ea_c (e_str (by decide +kernel)) (ea_c (e_var rfl) (ea_c e_non ea_nil))) (by simp)) (ea_c (e_tup1 (ea_c (e_str (by decide +kernel)) (ea_c (e_var rfl) ea_nil)) (by simp)) (ea_c (e_tup1 (ea_c e_non ea_nil) (by simp)) (ea_c (e_tup1 (ea_c (e_str (by decide +kernel)) (ea_c (e_var rfl) (ea_c (EV.o1 (e_lst1 (ea_c (e_var rfl) ea_nil) (by simp))) ea_nil))) (by simp)) (ea_c (e_dic1 (e_str (by decide +kernel)) e_int) ea_nil))))))))))))))))))))))))))) (by simp [lineVs]))) (.lst _) (by simp [lineVs]) (by simp [lineVs])) fun d hd => q d (line_vs hs (rowV_tx hcs hr) ht d hd)

end
end Nt

namespace Nt
open PySem PySem.Spec PyProof.Rows L2


/-- lines of a new list -/
def LO (n : Nat) (e : En) : Prop := ∃ L, e = .own L ∧ (∀ l ∈ L, LineOk l) ∧ L.length ≤ n
theorem mem_cutN {α : Type} {xs : List α} {lo hi : Option Int} {x : α} (h : x ∈ cutN xs lo hi) : x ∈ xs := List.mem_of_mem_drop (List.mem_of_mem_take h)
theorem cut_mid {α : Type} {xs : List α} {i j : Int} {k m : Nat} (e : i = k) (e2 : j = m) : (cutN xs (some i) (some j)).length = min m xs.length - min k xs.length := by
  subst e e2
  unfold cutN
  rw [HT.sIx_nat, HT.sIx_nat, List.length_take, List.length_drop]
  omega
theorem cut_from2 {α : Type} {xs : List α} {i : Int} {k : Nat} (e : i = k) : cutN xs (some i) none = xs.drop k := by
  subst e
  unfold cutN
  rw [HT.sIx_none, HT.sIx_nat]
  rcases Nat.le_total k xs.length with h | h
  · rw [Nat.min_eq_left h]
    exact List.take_of_length_le (by simp)
  · rw [Nat.min_eq_right h, List.drop_length, List.drop_eq_nil_of_le h]
    simp
theorem cd_listT {K : PySem.W.Frag} {ds : List D} : CD (rListC K) [.tup ds] (· = .own ds) := fun W vs r Q q => by
  cases r with
  | cons r rr =>
    cases rr
    cases r with
    | tup ha ra => exact ⟨_, _, rfl, .inr (sq_t (W.le _ _ ha)), own1 ra q⟩
theorem tm_made : LineOk lMade := ln_made
def Rg_law_free_lines (ds : List D) (P : En → Prop) : Prop := ∃ (cs : List (List Nat × Nat)) (S : List (List Nat)) (r : List Nat), ds = [.bag, .lst (cs.map cellD), .lst (S.map D.str), .str r] ∧ CsV cs ∧ (∀ c ∈ cs, NmV c.1) ∧ S.length ≤ 100 ∧ (∀ s ∈ S, RowV cs s) ∧ RowV cs r ∧ ∀ L : List D, lookH cs S L = .non → (∀ l ∈ L, LineOk l) → L.length ≤ 200 → P (.own L)
theorem len_law_free_lines (ds P) (h : Rg_law_free_lines ds P) : ds.length = 4 := by obtain ⟨_, _, _, rfl, _⟩ := h; rfl
def Rg_law_spoilt (ds : List D) (P : En → Prop) : Prop := ∃ (cs : List (List Nat × Nat)) (S : List (List Nat)) (r : List Nat) (L : List D), ds = [.bag, .lst (cs.map cellD), .lst (S.map D.str), .str r, .lst L] ∧ CsV cs ∧ 1 ≤ cs.length ∧ (∀ c ∈ cs, NmV c.1) ∧ S.length ≤ 100 ∧ (∀ s ∈ S, RowV cs s) ∧ RowV cs r ∧ (∀ l ∈ L, LineOk l) ∧ L.length ≤ 900 ∧ ∀ L' : List D, (∀ l ∈ L', LineOk l) → L'.length ≤ L.length + 1 → P (.own L')
theorem len_law_spoilt (ds P) (h : Rg_law_spoilt ds P) : ds.length = 5 := by obtain ⟨_, _, _, _, rfl, _⟩ := h; rfl
theorem take_filt {α : Type} {l : List α} {p : α → Bool} {i : Nat} {x : α} (h : l[i]? = some x) : (l.take (i + 1)).filter p = (l.take i).filter p ++ (if p x = true then [x] else []) := by
  rw [List.take_add_one, h, List.filter_append]
  congr 1
  show List.filter p [x] = _
  rw [List.filter_cons]
  rfl
section
variable {P : Program} {w : World} {K : PySem.W.Frag} {mg : Str → Option Value} {base : Heap}
theorem LO.imp {a b : Nat} {te : TE} {ρ : List En} (h : EV te ρ (LO a)) (e : a ≤ b) : EV te ρ (LO b) := EV.imp h fun e' ⟨L, h1, h2, h3⟩ => ⟨L, h1, h2, by omega⟩
theorem e_cat {a b : Nat} {ta tb : TE} {ρ : List En} (h1 : EV ta ρ (LO a)) (h2 : EV tb ρ (LO b)) (hl : a + b ≤ 100000) : EV (tOp rPlus ta tb) ρ (LO (a + b)) :=
  e_op (PA := fun d => ∃ L, d = .lst L ∧ (∀ l ∈ L, LineOk l) ∧ L.length ≤ a) (PB := fun d => ∃ L, d = .lst L ∧ (∀ l ∈ L, LineOk l) ∧ L.length ≤ b)
    (h1.ed fun e ⟨L, e1, h⟩ => ⟨.lst L, by rw [e1]; rfl, L, rfl, h⟩) (h2.ed fun e ⟨L, e1, h⟩ => ⟨.lst L, by rw [e1]; rfl, L, rfl, h⟩) fun x y ⟨A, hx, hA, la⟩ ⟨B, hy, hB, lb⟩ => by
      subst hx hy
      intro W v w2 r1 r2 Q q
      exact od_addL (by omega) W v w2 r1 r2 Q fun u e W' g r p => q u e W' g r ⟨A ++ B, p, fun l hl => (List.mem_append.mp hl).elim (hA l) (hB l), by rw [List.length_append]; omega⟩
theorem e_cutL {L : List D} {lo hi : Option Int} {n : Nat} {te : TE} {tl th : TO} {ρ : List En} (hL : ∀ l ∈ L, LineOk l) (h : ED te ρ (· = .lst L)) (hlo : EO tl ρ (· = lo)) (hhi : EO th ρ (· = hi)) (hn : (cutN L lo hi).length ≤ n) : EV (tSl (rSlU K) te tl th) ρ (LO n) :=
  (e_sl h hlo hhi (sd_lst (K := K))).imp fun e q => ⟨_, q, fun l hl => hL l (mem_cutN hl), hn⟩
theorem e_oneL {te : TE} {ρ : List En} (h : ED te ρ LineOk) : EV (tLst (tCons te tNil)) ρ (LO 1) :=
  (e_lst (T := fun ds => ∃ d, ds = [d] ∧ LineOk d) (ea_1 h) fun ds ⟨d, e, _⟩ => by rw [e]; simp).imp fun e ⟨ds, h1, d, h2, h3⟩ => ⟨[d], by rw [h1, h2], fun l hl => by rw [List.mem_singleton.mp hl]; exact h3, Nat.le_refl _⟩
theorem e_lineP {cs : List (List Nat × Nat)} {S : List (List Nat)} {r : List Nat} {X : XK} {ρ : List En} (h0 : ρ[0]? = some (.dat .bag)) (h1 : ρ[1]? = some (.dat (.lst (cs.map cellD)))) (h2 : ρ[2]? = some (.dat (.lst (S.map D.str)))) (h3 : ρ[3]? = some (.dat (.str r))) (hcs : CsV cs) (hc1 : 1 ≤ cs.length) (hnm : ∀ c ∈ cs, NmV c.1) (hSl : S.length ≤ 100) (hS : ∀ s ∈ S, RowV cs s) (hr : RowV cs r) : ED (tCall (SpE Rg_law_line) [] X (tCons (tVar 0) (tCons (tVar 1) (tCons (tVar 2) (tCons (tVar 3) tNil))))) ρ LineOk :=
  EV.ed (R := fun e => ∃ d, e = .dat d ∧ LineOk d) (e_call0 (ea_c (e_var h0) (ea_c (e_var h1) (ea_c (e_var h2) (ea_c (e_var h3) ea_nil)))) ⟨cs, S, r, rfl, hcs, hc1, hnm, hSl, hS, hr, fun d hd => ⟨d, rfl, hd⟩⟩) fun e ⟨d, e1, h⟩ => ⟨d, by rw [e1]; rfl, h⟩

theorem ok_law_free_lines (T : Txt K mg) (G_law_of : FnOk P w K mg base CX0 2 T.a_law_of T.d_law_of ["_law_bag_here", "_law_things"] (SpE Rg_law_of)) (G_law_lot : FnOk P w K mg base CX0 1 T.a_law_lot T.d_law_lot ["_law_r"] (SpE Rg_law_lot)) (G_law_join : FnOk P w K mg base CX0 1 T.a_law_join T.d_law_join ["_law_x", "_law_y"] (SpE Rg_law_join)) (G_law_fresh : FnOk P w K mg base CX0 1 T.a_law_fresh T.d_law_fresh ["_law_s", "_law_told"] (SpE Rg_law_fresh)) (G_law_fits : FnOk P w K mg base CX0 2 T.a_law_fits T.d_law_fits ["_law_s", "_law_r", "_law_told"] (SpE Rg_law_fits)) : FnOk P w K mg base CX0 3 T.a_law_free_lines T.d_law_free_lines ["_law_bag_here", "_law_frame_here", "_law_stack", "_law_r"] (SpE Rg_law_free_lines) := by
  refine T.F_law_free_lines.ok sc_law_free_lines (fun vs H Q E h => spE_len h len_law_free_lines) (fun cdv A outer s H vs Q E hr h => ?_)
  have hu := hu64 hr
  have hvl : vs.length = 4 := spE_len h len_law_free_lines
  refine ⟨_, (pss_cons (ps_asg (pe_tup (pa_cons (pe_lst (pa_cons (pe_tup (pa_cons pe_str (pa_cons (pv 3) pa_nil))) pa_nil)) (pa_cons (pe_op op_times pe_str (pe_callB (call_lenK (K := K) rfl) (by rfl) T.n_len (by decide +kernel) (pa_cons (pv 3) pa_nil))) pa_nil))) (pg_tup rfl (pgs_cons (pg_name (i := 4) sc_law_free_lines.nd rfl (Or.inl rfl)) (pgs_cons (pg_name (i := 5) sc_law_free_lines.nd rfl (Or.inr rfl)) pgs_nil)))) (pss_cons (ps_for PassesOwn.never rfl (pi_range1 (by rfl) T.n_range (pa_cons (pe_callB (call_lenK (K := K) rfl) (by rfl) T.n_len (by decide +kernel) (pa_cons (pv 3) pa_nil)) pa_nil)) (pg_name (i := 6) sc_law_free_lines.nd rfl (Or.inl rfl)) (pss_cons (ps_setLc (i := 8) (own := [("_law_s", 7)]) (g := gName 7) (tt := _) rfl sc_law_free_lines.nd rfl rfl (sw_true rfl rfl rfl (by decide +kernel)) (pi_listK (K := K) rfl (pv 2)) (blkOk_by (N := N_law_free_lines) (sc := defScope s_law_free_lines) (by decide +kernel)) (fun _ _ _ _ _ => (pg_name (i := 7) sc_law_free_lines.nd rfl (Or.inl rfl))) (fun _ _ _ _ _ => (pts_one (pt_val (pe_call G_law_fits (hr.mono (by decide)) (by rfl) T.g_law_fits T.F_law_fits.kp (b_law_fits T) .nil pass0 (pa_cons (pv 7) (pa_cons (pv 3) (pa_cons (pv 5) pa_nil))))))) (fun _ _ _ _ _ => (pv 7))) (pss_one (ps_if (pt_truK (K := K) rfl (pv 8)) (pss_cons (ps_set (i := 7) sc_law_free_lines.nd rfl (Or.inr rfl) (pe_call G_law_of (hr.mono (by decide)) (by rfl) T.g_law_of T.F_law_of.kp (b_law_of T) .nil pass0 (pa_cons (pv 0) (pa_cons (pv 8) pa_nil)))) (pss_cons (ps_expr (pe_bm PySem.F.plainAttrs_list PySem.F.slot_list_append PySem.F.type_list_append mt_append (pv 4) (pa_cons (pe_tup (pa_cons pe_str (pa_cons (pv 7) pa_nil))) pa_nil))) (pss_one (ps_set (i := 5) sc_law_free_lines.nd rfl (Or.inr rfl) (pe_call G_law_join (hr.mono (by decide)) (by rfl) T.g_law_join T.F_law_join.kp (b_law_join T) .nil pass0 (pa_cons (pv 5) (pa_cons (pe_call G_law_lot (hr.mono (by decide)) (by rfl) T.g_law_lot T.F_law_lot.kp (b_law_lot T) .nil pass0 (pa_cons (pv 7) pa_nil)) pa_nil))))))) pss_nil)))) (pss_cons (ps_if (pt_cmpR (op_eqK (K := K) rfl hu) (pv 5) (pe_call G_law_lot (hr.mono (by decide)) (by rfl) T.g_law_lot T.F_law_lot.kp (b_law_lot T) .nil pass0 (pa_cons (pv 3) pa_nil)) (nomark _)) (pss_one (ps_ret (pe_op op_plus (pv 4) (pe_lst (pa_cons (pe_tup (pa_cons pe_str pa_nil)) pa_nil))))) pss_nil) (pss_cons (ps_for PassesOwn.never rfl (pi_listK (K := K) rfl (pv 2)) (pg_name (i := 7) sc_law_free_lines.nd rfl (Or.inr rfl)) (pss_cons (ps_setLc (i := 9) (own := [("_law_k", 6)]) (g := gName 6) (tt := _) rfl sc_law_free_lines.nd rfl rfl (sw_true rfl rfl rfl (by decide +kernel)) (pi_listK (K := K) rfl (pe_call G_law_fresh (hr.mono (by decide)) (by rfl) T.g_law_fresh T.F_law_fresh.kp (b_law_fresh T) .nil pass0 (pa_cons (pv 7) (pa_cons (pv 5) pa_nil)))) (blkOk_by (N := N_law_free_lines) (sc := defScope s_law_free_lines) (by decide +kernel)) (fun _ _ _ _ _ => (pg_name (i := 6) sc_law_free_lines.nd rfl (Or.inl rfl))) (fun _ _ _ _ _ => (pts_one (pt_cmpR (op_neK (K := K) rfl hu) (pe_ix (ix_K (K := K) rfl) (pv 3) (pv 6) (fun _ _ => rfl)) (pe_ix (ix_K (K := K) rfl) (pv 7) (pv 6) (fun _ _ => rfl)) (nomark _)))) (fun _ _ _ _ _ => (pv 6))) (pss_one (ps_if (pt_truK (K := K) rfl (pv 9)) (pss_one (ps_expr (pe_bm PySem.F.plainAttrs_list PySem.F.slot_list_append PySem.F.type_list_append mt_append (pv 4) (pa_cons (pe_tup (pa_cons pe_str (pa_cons (pv 7) (pa_cons (pe_ix (ix_K (K := K) rfl) (pe_ix (ix_K (K := K) rfl) (pv 1) (pe_call G_law_of (hr.mono (by decide)) (by rfl) T.g_law_of T.F_law_of.kp (b_law_of T) .nil pass0 (pa_cons (pv 0) (pa_cons (pv 9) pa_nil))) (fun _ _ => rfl)) pe_int (fun _ _ => rfl)) pa_nil)))) pa_nil)))) pss_nil)))) (pss_one (ps_ret (pe_op op_plus (pv 4) (pe_lst (pa_cons (pe_tup (pa_cons pe_str pa_nil)) pa_nil))))))))), fn_body h (by rw [hvl]; decide) (fun ds R hR hl => ?_)⟩
  obtain ⟨cs, S, r, rfl, hcs, hnm, hSl, hS, hr, q⟩ := hR
  have h20 := hcs.1
  have hrl := hr.1
  have hlen : Len r.length S := fun s hs => by rw [(hS s hs).1, hrl]
  have hSm : (S.map D.str).length = S.length := List.length_map ..
  have hCR := rowV_ok hcs hr
  refine t_seq (M := fun ρ' => ρ' = [.dat .bag, .dat (.lst (cs.map cellD)), .dat (.lst (S.map D.str)), .dat (.str r), .own ([lRow r]), .dat (.str (List.replicate r.length 46)), .un, .un, .un, .un]) (t_pair (P1 := (· = .own [lRow r])) (P2 := (· = .dat (.str (List.replicate r.length 46)))) (e_lst1 (ds := [lRow r]) (ea_c (e_tup1 (ea_c (e_str (s := wRow) (by decide +kernel)) (ea_c (e_var rfl) ea_nil)) (by simp)) ea_nil) (by simp)) (((e_opd (e_str (s := [46]) (by decide +kernel)) (EV.d1 (e_cb1 (ea_c (e_var rfl) ea_nil) (cd_lenS (by omega)))) (od_mulS (by omega) (by omega) (by decide))).is (y := .str (List.replicate r.length 46)) (by rw [Int.toNat_natCast, rep46])).ev.imp fun e ⟨d, e1, e2⟩ => by rw [e1, e2]) fun a b ha hb => by rw [ha, hb]; rfl) fun ρ' m => ?_
  subst m
  refine t_seq (M := fun ρ' => ∃ tk t x6 x7 x8, ρ' = [.dat .bag, .dat (.lst (cs.map cellD)), .dat (.lst (S.map D.str)), .dat (.str r), .own (lRow r :: tk.map lTake), .dat (.str t), x6, x7, x8, .un] ∧ Run S r tk t ∧ Fin S r t) (t_for1 (iv_rngN (ea_c (EV.d1 (e_cb1 (ea_c (e_var rfl) ea_nil) (cd_lenS (by omega)))) ea_nil) (by omega)) (fun ds i ρ' => ∃ tk t x6 x7 x8, ρ' = [.dat .bag, .dat (.lst (cs.map cellD)), .dat (.lst (S.map D.str)), .dat (.str r), .own (lRow r :: tk.map lTake), .dat (.str t), x6, x7, x8, .un] ∧ Run S r tk t ∧ (Fin S r t ∨ i ≤ tk.length)) (fun ds e => ⟨[], _, .un, .un, .un, rfl, .nil, .inr (Nat.zero_le _)⟩) (fun ds i d ρ' e hd inv => ?_) (fun ds ρ' e inv => ?_)) fun ρ' m => ?_
  · obtain ⟨tk, t, x, y, z, rfl, hrun, hf⟩ := inv
    have hlt := run_len hlen hrun
    have hdt := run_dots hlen hrun
    refine q_asgo (lc1_filt (t := fun s => canT s t r) (emb := D.str) (f := D.str) (iv_list1 (e_var rfl)) (by omega) (fun i s hs => ?_) (fun i s hs _ => e_var rfl)) ?_
    · have hsl := hlen s (List.mem_of_getElem? hs)
      exact et_v1 (EV.d1 (e_call0 (R := fun e => e = .dat (.bl (canT s t r))) (ea_c (e_var rfl) (ea_c (e_var rfl) (ea_c (e_var rfl) ea_nil))) ⟨s, r, t, rfl, by omega, hsl, by omega, rfl⟩))
    · refine t_freeze (i := 8) (ds := (S.filter fun s => canT s t r).map D.str) rfl ?_
      refine t_if (T := fun b => b = !((S.filter fun s => canT s t r).map D.str).isEmpty) (et_tru (e_var rfl)) (fun e2 => ?_) (fun e2 => ?_)
      · have hne : 1 ≤ ((S.filter fun s => canT s t r).map D.str).length := by
          cases hL : (S.filter fun s => canT s t r).map D.str with
          | nil => rw [hL] at e2; cases e2
          | cons s0 l0 => simp
        have hfl := List.length_filter_le (fun s => canT s t r) S
        refine q_asgd (PD := fun d => ∃ s, d = .str s ∧ s ∈ S ∧ canT s t r = true) ((e_of (e_var rfl) (e_var rfl) (.lst _) hne (by rw [List.length_map]; omega)).imp fun d hd => ?_) fun d ⟨s, e, hs, hc⟩ => ?_
        · obtain ⟨s, hs, rfl⟩ := List.mem_map.mp hd
          obtain ⟨h1, h2⟩ := List.mem_filter.mp hs
          exact ⟨s, rfl, h1, h2⟩
        subst e
        have hsl := hlen s hs
        refine q_of (M := fun ρ' => ρ' = [.dat .bag, .dat (.lst (cs.map cellD)), .dat (.lst (S.map D.str)), .dat (.str r), .own (lRow r :: (tk ++ [s]).map lTake), .dat (.str t), .dat d, .dat (.str s), .dat (.lst ((S.filter fun s => canT s t r).map D.str)), .un]) (t_app (i := 4) (ds := lRow r :: tk.map lTake) (PD := fun d => d = lTake s) rfl (e_tup1 (ea_c (e_str (s := wTake) (by decide +kernel)) (ea_c (e_var rfl) ea_nil)) (by simp)) (by rw [List.length_cons, List.length_map]; omega) fun d hd => by rw [hd, List.map_append]; rfl) fun ρ' m => ?_
        subst m
        refine t_asgd (PD := fun d => d = .str (ov t (lotOf s))) ((EV.d1 (e_call0 (Rg := Rg_law_join) (R := fun e => e = .dat (.str (jn t (lotOf s)))) (ea_c (e_var rfl) (ea_c (EV.d1 (e_call0 (Rg := Rg_law_lot) (R := fun e => e = .dat (.str (lotOf s))) (ea_c (e_var rfl) ea_nil) ⟨s, rfl, by omega, rfl⟩)) ea_nil)) ⟨t, lotOf s, rfl, by omega, rfl⟩)).imp fun d hd => by rw [hd, jn_ov (run_bin hrun) (bin_lot s)]) fun d hd => ?_
        subst hd
        refine ⟨tk ++ [s], ov t (lotOf s), _, _, _, rfl, .snoc hrun hs hc, .inr ?_⟩
        rcases hf with hf | hf
        · rw [hf s hs] at hc; cases hc
        · rw [List.length_append]; simp; omega
      · refine t_next ⟨tk, t, _, _, _, rfl, hrun, .inl fun s hs => ?_⟩
        cases hc : canT s t r with
        | false => rfl
        | true =>
          have hm : s ∈ S.filter (fun s => canT s t r) := List.mem_filter.mpr ⟨hs, hc⟩
          cases hL : S.filter (fun s => canT s t r) with
          | nil => rw [hL] at hm; cases hm
          | cons a l => rw [hL] at e2; cases e2
  · obtain ⟨tk, t, x, y, z, rfl, hrun, hf⟩ := inv
    refine ⟨tk, t, x, y, z, rfl, hrun, ?_⟩
    rcases hf with hf | hf
    · exact hf
    · have hd := run_dots hlen hrun
      have hlt := run_len hlen hrun
      rw [e, List.length_map, List.length_range] at hf
      exact fin_of_dots (by omega) fun s hs => by rw [hlen s hs, hlt]
  obtain ⟨tk, t, x6, x7, x8, rfl, hrun, hfin⟩ := m
  have hlt := run_len hlen hrun
  have hdt := run_dots hlen hrun
  have htk : ∀ l ∈ lRow r :: tk.map lTake, LineOk l := fun l hl => by
    rcases List.mem_cons.mp hl with h | h
    · rw [h]; exact ln_row (rowV_tx hcs hr)
    · obtain ⟨s, hs, rfl⟩ := List.mem_map.mp h
      exact ln_take (rowV_tx hcs (hS s (run_mem hrun s hs)))
  refine q_if1 (b := decide (t = lotOf r)) (et_eqS (e_var rfl) (EV.d1 (e_call0 (R := fun e => e = .dat (.str (lotOf r))) (ea_c (e_var rfl) ea_nil) ⟨r, rfl, by omega, rfl⟩))) (fun e => ?_) (fun e => ?_)
  · have e := of_decide_eq_true e
    refine t_freeze (i := 4) (ds := lRow r :: tk.map lTake) rfl ?_
    refine t_ret (P := (· = .own (lRow r :: (tk.map lTake ++ [lMade])))) (e_op1 (e_var rfl) (EV.o1 (e_lst1 (ds := [lMade]) (ea_c (e_tup1 (ea_c (e_str (s := wMade) (by decide +kernel)) ea_nil) (by simp)) ea_nil) (by simp))) (od_addL (by rw [List.length_cons, List.length_map]; simp; omega))) fun e' h => ?_
    rw [h]
    refine q _ (paper_look hCR hrun (.made e)) (fun l hl => ?_) (by simp; omega)
    rw [← List.cons_append] at hl
    rcases List.mem_append.mp hl with h | h
    · exact htk l h
    · rw [List.mem_singleton.mp h]; exact ln_made
  have e := of_decide_eq_false e
  refine t_seq (M := fun ρ' => ∃ bs x6 x7 x9, ρ' = [.dat .bag, .dat (.lst (cs.map cellD)), .dat (.lst (S.map D.str)), .dat (.str r), .own (lRow r :: tk.map lTake ++ bs), .dat (.str t), x6, x7, x8, x9] ∧ BarsOf cs t r (waitS S t) bs ∧ (∀ b ∈ bs, LineOk b) ∧ bs.length ≤ S.length) (t_for1 (iv_list1 (ds := S.map D.str) (e_var rfl)) (fun ds i ρ' => ∃ bs x6 x7 x9, ρ' = [.dat .bag, .dat (.lst (cs.map cellD)), .dat (.lst (S.map D.str)), .dat (.str r), .own (lRow r :: tk.map lTake ++ bs), .dat (.str t), x6, x7, x8, x9] ∧ BarsOf cs t r ((S.take i).filter (fr t)) bs ∧ (∀ b ∈ bs, LineOk b) ∧ bs.length ≤ i) (fun ds e => ⟨[], _, _, _, by rw [List.append_nil], .nil, by simp, Nat.zero_le _⟩) (fun ds i d ρ' e1 hd inv => ?_) (fun ds ρ' e1 ⟨bs, y6, y7, y9, a, b, c, d⟩ => ⟨bs, y6, y7, y9, a, by
    rw [e1, hSm, List.take_length] at b
    exact b, c, by rw [e1, hSm] at d; exact d⟩)) fun ρ' m => ?_
  · obtain ⟨bs, y6, y7, y9, rfl, hb, hbl, hbn⟩ := inv
    rw [e1] at hd
    obtain ⟨s, hs, rfl⟩ := map_get hd
    have hsS := List.mem_of_getElem? hs
    have hiS := (List.getElem?_eq_some_iff.mp hs).1
    have hsl := hlen s hsS
    have hfl := frs_le s t
    refine q_asgo (lc1_filt (ds := frs s t) (t := fun k => !decide (r.getD k 0 = s.getD k 0)) (emb := fun (i : Nat) => D.int i) (f := fun (i : Nat) => D.int i) (iv_list1 (EV.o1 (e_call0 (R := fun e => e = .own ((frs s t).map fun (i : Nat) => .int i)) (ea_c (e_var rfl) (ea_c (e_var rfl) ea_nil)) ⟨s, t, rfl, by omega, by omega, rfl⟩))) (by omega) (fun j k hk => ?_) fun j k hk ht => e_var rfl) ?_
    · have hk' : k < s.length := outs_lt (mem_frs.mp (List.mem_of_getElem? hk))
      refine (et_neS (e_opd (e_var rfl) (e_var rfl) (od_ixS (j := k) rfl (get_of_lt (by omega)) (by omega))) (e_opd (e_var rfl) (e_var rfl) (od_ixS (j := k) rfl (get_of_lt hk') (by omega)))).is ?_
      rw [str1]
    have hmemB : ∀ k, k ∈ (frs s t).filter (fun k => !decide (r.getD k 0 = s.getD k 0)) ↔ k ∈ bars s t r := fun k => by
      unfold bars
      rw [List.mem_filter, List.mem_filter, mem_frs]
    generalize hB : (frs s t).filter (fun k => !decide (r.getD k 0 = s.getD k 0)) = B at hmemB
    have hBl : B.length ≤ 20 := by
      have := List.length_filter_le (fun k => !decide (r.getD k 0 = s.getD k 0)) (frs s t)
      rw [hB] at this
      omega
    refine t_freeze (i := 9) (ds := B.map fun (i : Nat) => D.int i) rfl ?_
    refine t_if (T := fun b => b = !(B.map fun (i : Nat) => D.int i).isEmpty) (et_tru (e_var rfl)) (fun e2 => ?_) (fun e2 => ?_)
    · have hne : B ≠ [] := fun z => by rw [z] at e2; cases e2
      have hbne : bars s t r ≠ [] := fun z => by
        cases B with
        | nil => exact hne rfl
        | cons k l =>
          have := (hmemB k).mp List.mem_cons_self
          rw [z] at this; cases this
      have hfr : fr t s = true := by
        cases h : fr t s with
        | true => rfl
        | false => exact absurd ((wait_none hfin hsS).mpr h) hbne
      refine t_app (i := 4) (ds := lRow r :: tk.map lTake ++ bs) (PD := fun d => ∃ n, d = lBar s n ∧ Tx n ∧ barB cs s t r (lBar s n) = true) rfl ((e_tup (T := fun ds => ∃ n, ds = [.str wBar, .str s, .str n] ∧ Tx n ∧ barB cs s t r (lBar s n) = true) (ea_cons (T' := fun _ => True) (P := fun d => d = .str wBar) (e_str (s := wBar) (by decide +kernel)) fun x hx => ea_cons (T' := fun _ => True) (P := fun d => d = .str s) (e_var rfl) fun y hy => (ea_1 (P := fun d => ∃ n, d = .str n ∧ Tx n ∧ barB cs s t r (lBar s n) = true) (EV.ed (R := fun e => ∃ n, e = .dat (.str n) ∧ Tx n ∧ barB cs s t r (lBar s n) = true) (e_op (PA := fun d => ∃ k, d = cellD (cs.getD k ([], 0)) ∧ k ∈ bars s t r ∧ k < cs.length) (PB := fun d => d = .int 0) (EV.ed (R := fun e => ∃ k, e = .dat (cellD (cs.getD k ([], 0))) ∧ k ∈ bars s t r ∧ k < cs.length) (e_op (PA := fun d => d = .lst (cs.map cellD)) (PB := fun d => ∃ k : Nat, d = .int k ∧ k ∈ bars s t r ∧ k < cs.length) (e_var rfl) ((e_of (e_var rfl) (e_var rfl) (.lst _) (by rw [List.length_map]; exact List.length_pos_iff.mpr hne) (by rw [List.length_map]; omega)).imp fun d hd => ?_) fun x y hx ⟨k, hy, hk, hkl⟩ => ?_) fun e ⟨k, e1, h⟩ => ⟨_, by rw [e1]; rfl, k, rfl, h⟩) e_int fun x y ⟨k, hx, hk, hkl⟩ hy => ?_) fun e ⟨n, e1, h⟩ => ⟨.str n, by rw [e1]; rfl, n, rfl, h⟩)).imp fun ds ⟨z, ez, n, en, h⟩ => ⟨n, by rw [hx, hy, ez, en], h⟩) fun ds ⟨n, e, _⟩ => by rw [e]; simp).imp fun d ⟨ds, e1, n, e2, h⟩ => ⟨n, by rw [e1, e2]; rfl, h⟩) (by rw [List.length_append, List.length_cons, List.length_map]; omega) fun d ⟨n, hd, hn, hbb⟩ => ?_
      · obtain ⟨k, hk, rfl⟩ := List.mem_map.mp hd
        have hk2 := (hmemB k).mp hk
        refine ⟨k, rfl, hk2, ?_⟩
        unfold bars at hk2
        have := outs_lt (List.mem_filter.mp hk2).1
        omega
      · subst hx hy
        intro W v w2 r1 r2 Q q
        exact od_ixL (j := k) (d := cellD (cs.getD k ([], 0))) rfl (by rw [List.getElem?_map, List.getD_eq_getElem?_getD, List.getElem?_eq_getElem hkl]; rfl) W v w2 r1 r2 Q fun u e W' g r p => q u e W' g r ⟨k, p, hk, hkl⟩
      · subst hx hy
        have hnk := hnm _ (List.getElem_mem (l := cs) hkl)
        have hge : cs.getD k ([], 0) = cs[k] := by rw [List.getD_eq_getElem?_getD, List.getElem?_eq_getElem hkl]; rfl
        intro W v w2 r1 r2 Q q
        exact od_ixT (j := 0) (d := .str (cs.getD k ([], 0)).1) rfl rfl W v w2 r1 r2 Q fun u e W' g r p => q u e W' g r ⟨(cs.getD k ([], 0)).1, p, by rw [hge]; exact ⟨strs_ok hnk.2, Nat.le_trans hnk.1 (by decide)⟩, barB_lBar hk⟩
      · subst hd
        refine ⟨bs ++ [lBar s n], _, _, _, by rw [← List.append_assoc]; rfl, ?_, fun b hb' => ?_, by rw [List.length_append]; simp; omega⟩
        · rw [take_filt hs, if_pos hfr]
          exact hb.snoc hbb
        · rcases List.mem_append.mp hb' with h | h
          · exact hbl b h
          · rw [List.mem_singleton.mp h]; exact ln_bar (rowV_tx hcs (hS s hsS)) hn
    · refine t_next ⟨bs, _, _, _, rfl, ?_, hbl, by omega⟩
      have hBn : B = [] := by
        cases B with
        | nil => rfl
        | cons k l => cases e2
      have hbn2 : bars s t r = [] := by
        cases h : bars s t r with
        | nil => rfl
        | cons k l =>
          have := (hmemB k).mpr (by rw [h]; exact List.mem_cons_self)
          rw [hBn] at this; cases this
      rw [take_filt hs, if_neg (by rw [(wait_none hfin hsS).mp hbn2]; exact Bool.false_ne_true), List.append_nil]
      exact hb
  obtain ⟨bs, y6, y7, y9, rfl, hb, hbl, hbn⟩ := m
  refine t_freeze (i := 4) (ds := lRow r :: tk.map lTake ++ bs) rfl ?_
  refine t_ret (P := (· = .own (lRow r :: (tk.map lTake ++ (bs ++ [lBarred]))))) ((e_op1 (e_var rfl) (EV.o1 (e_lst1 (ds := [lBarred]) (ea_c (e_tup1 (ea_c (e_str (s := wBarred) (by decide +kernel)) ea_nil) (by simp)) ea_nil) (by simp))) (od_addL (by rw [List.length_append, List.length_cons, List.length_map]; simp; omega))).imp fun e h => by rw [h, List.append_assoc]; rfl) fun e' h => ?_
  rw [h]
  refine q _ (paper_look hCR hrun (.barred e hb)) (fun l hl => ?_) (by simp; omega)
  rw [← List.cons_append] at hl
  rcases List.mem_append.mp hl with h | h
  · exact htk l h
  rcases List.mem_append.mp h with h | h
  · exact hbl l h
  · rw [List.mem_singleton.mp h]; exact ln_barred

theorem e_revP {L : List D} {lo hi : Option Int} {n : Nat} {te : TE} {tl th : TO} {ρ : List En} (hL : ∀ l ∈ L, LineOk l) (h : ED te ρ (· = .lst L)) (hlo : EO tl ρ (· = lo)) (hhi : EO th ρ (· = hi)) (hn : (cutN L lo hi).length ≤ n) : EV (tRevL K (tSl (rSlU K) te tl th)) ρ (LO n) :=
  (e_rev (EV.o1 (e_sl h hlo hhi (sd_lst (K := K))))).imp fun e q => ⟨_, q, fun l hl => hL l (mem_cutN (List.mem_reverse.mp hl)), by rw [List.length_reverse]; exact hn⟩
theorem e_catL {L : List D} {b : Nat} {ta tb : TE} {ρ : List En} (hL : ∀ l ∈ L, LineOk l) (h1 : ED ta ρ (· = .lst L)) (h2 : EV tb ρ (LO b)) (hl : L.length + b ≤ 100000) : EV (tOp rPlus ta tb) ρ (LO (L.length + b)) :=
  e_op (PA := fun d => d = .lst L) (PB := fun d => ∃ L, d = .lst L ∧ (∀ l ∈ L, LineOk l) ∧ L.length ≤ b)
    h1 (h2.ed fun e ⟨L, e1, h⟩ => ⟨.lst L, by rw [e1]; rfl, L, rfl, h⟩) fun x y hx ⟨B, hy, hB, lb⟩ => by
      subst hx hy
      intro W v w2 r1 r2 Q q
      exact od_addL (by omega) W v w2 r1 r2 Q fun u e W' g r p => q u e W' g r ⟨L ++ B, p, fun l hl => (List.mem_append.mp hl).elim (hL l) (hB l), by rw [List.length_append]; omega⟩

theorem ok_law_spoilt (T : Txt K mg) (G_law_draw : FnOk P w K mg base CX0 1 T.a_law_draw T.d_law_draw ["_law_bag_here", "_law_sides"] (SpE Rg_law_draw)) (G_law_of : FnOk P w K mg base CX0 2 T.a_law_of T.d_law_of ["_law_bag_here", "_law_things"] (SpE Rg_law_of)) (G_law_line : FnOk P w K mg base CX0 3 T.a_law_line T.d_law_line ["_law_bag_here", "_law_frame_here", "_law_stack", "_law_r"] (SpE Rg_law_line)) : FnOk P w K mg base CX0 4 T.a_law_spoilt T.d_law_spoilt ["_law_bag_here", "_law_frame_here", "_law_stack", "_law_r", "_law_listed"] (SpE Rg_law_spoilt) := by
  refine T.F_law_spoilt.ok sc_law_spoilt (fun vs H Q E h => spE_len h len_law_spoilt) (fun cdv A outer s H vs Q E hr h => ?_)
  have hu := hu64 hr
  have hvl : vs.length = 5 := spE_len h len_law_spoilt
  refine ⟨_, (pss_cons (ps_if (pt_not (pt_truK (K := K) rfl (pv 4))) (pss_one (ps_ret (pe_lst (pa_cons (pe_call G_law_line (hr.mono (by decide)) (by rfl) T.g_law_line T.F_law_line.kp (b_law_line T) .nil pass0 (pa_cons (pv 0) (pa_cons (pv 1) (pa_cons (pv 2) (pa_cons (pv 3) pa_nil))))) pa_nil)))) pss_nil) (pss_cons (ps_par (i := 5) (j := 6) (by rfl) sc_law_spoilt.nd rfl rfl (by decide) rfl rfl (pa_cons (pe_call G_law_draw (hr.mono (by decide)) (by rfl) T.g_law_draw T.F_law_draw.kp (b_law_draw T) .nil pass0 (pa_cons (pv 0) (pa_cons (pe_callB (call_lenK (K := K) rfl) (by rfl) T.n_len (by decide +kernel) (pa_cons (pv 4) pa_nil)) pa_nil))) (pa_cons (pe_call G_law_draw (hr.mono (by decide)) (by rfl) T.g_law_draw T.F_law_draw.kp (b_law_draw T) .nil pass0 (pa_cons (pv 0) (pa_cons pe_int pa_nil))) pa_nil)) (by rfl)) (pss_cons (ps_if (pt_cmpR (op_eqK (K := K) rfl hu) (pv 6) pe_int (nomark _)) (pss_one (ps_ret (pe_op op_plus (pe_slice (sl_K (K := K) rfl) (pv 4) po_none (po_some (pv 5))) (pe_slice (sl_K (K := K) rfl) (pv 4) (po_some (pe_op op_plus (pv 5) pe_int)) po_none)))) pss_nil) (pss_cons (ps_if (pt_cmpR (op_eqK (K := K) rfl hu) (pv 6) pe_int (nomark _)) (pss_one (ps_ret (pe_op op_plus (pe_slice (sl_K (K := K) rfl) (pv 4) po_none (po_some (pe_op op_plus (pv 5) pe_int))) (pe_slice (sl_K (K := K) rfl) (pv 4) (po_some (pv 5)) po_none)))) pss_nil) (pss_cons (ps_if (pt_cmpR (op_eqK (K := K) rfl hu) (pv 6) pe_int (nomark _)) (pss_one (ps_ret (pe_op op_plus (pe_op op_plus (pe_slice (sl_K (K := K) rfl) (pv 4) po_none (po_some (pv 5))) (pe_lst (pa_cons (pe_call G_law_line (hr.mono (by decide)) (by rfl) T.g_law_line T.F_law_line.kp (b_law_line T) .nil pass0 (pa_cons (pv 0) (pa_cons (pv 1) (pa_cons (pv 2) (pa_cons (pv 3) pa_nil))))) pa_nil))) (pe_slice (sl_K (K := K) rfl) (pv 4) (po_some (pv 5)) po_none)))) pss_nil) (pss_cons (ps_if (pt_cmpR (op_eqK (K := K) rfl hu) (pv 6) pe_int (nomark _)) (pss_one (ps_ret (pe_op op_plus (pe_op op_plus (pe_slice (sl_K (K := K) rfl) (pv 4) po_none (po_some (pv 5))) (pe_revK (K := K) rfl (pe_slice (sl_K (K := K) rfl) (pv 4) (po_some (pv 5)) (po_some (pe_op op_plus (pv 5) pe_int))))) (pe_slice (sl_K (K := K) rfl) (pv 4) (po_some (pe_op op_plus (pv 5) pe_int)) po_none)))) pss_nil) (pss_cons (ps_if (pt_cmpR (op_eqK (K := K) rfl hu) (pv 6) pe_int (nomark _)) (pss_one (ps_ret (pe_op op_plus (pv 4) (pe_lst (pa_cons (pe_call G_law_line (hr.mono (by decide)) (by rfl) T.g_law_line T.F_law_line.kp (b_law_line T) .nil pass0 (pa_cons (pv 0) (pa_cons (pv 1) (pa_cons (pv 2) (pa_cons (pv 3) pa_nil))))) pa_nil))))) pss_nil) (pss_cons (ps_if (pt_cmpR (op_eqK (K := K) rfl hu) (pv 6) pe_int (nomark _)) (pss_one (ps_ret (pe_op op_plus (pe_op op_plus (pe_slice (sl_K (K := K) rfl) (pv 4) po_none (po_some (pv 5))) (pe_lst (pa_cons (pe_ifExp (pt_val (pe_callB (call_isiK1 (K := K) rfl) (by rfl) T.n_isinstance (by decide +kernel) (pa_cons (pe_ix (ix_K (K := K) rfl) (pv 4) (pv 5) (fun _ _ => rfl)) (pa_cons (pe_bltn (v := .ty "tuple") (by rfl) T.n_tuple (by decide +kernel) rfl) pa_nil)))) (pe_callTy (call_listK (K := K) rfl) (by rfl) T.n_list (by decide +kernel) (pa_cons (pe_ix (ix_K (K := K) rfl) (pv 4) (pv 5) (fun _ _ => rfl)) pa_nil)) (pe_tup (pa_cons pe_str pa_nil))) pa_nil))) (pe_slice (sl_K (K := K) rfl) (pv 4) (po_some (pe_op op_plus (pv 5) pe_int)) po_none)))) pss_nil) (pss_cons (ps_if (pt_cmpR (op_eqK (K := K) rfl hu) (pv 6) pe_int (nomark _)) (pss_one (ps_ret (pe_op op_plus (pe_slice (sl_K (K := K) rfl) (pv 4) po_none (po_some (pe_op op_sub (pe_callB (call_lenK (K := K) rfl) (by rfl) T.n_len (by decide +kernel) (pa_cons (pv 4) pa_nil)) pe_int))) (pe_lst (pa_cons (pe_call G_law_of (hr.mono (by decide)) (by rfl) T.g_law_of T.F_law_of.kp (b_law_of T) .nil pass0 (pa_cons (pv 0) (pa_cons (pe_lst (pa_cons (pe_tup (pa_cons pe_str pa_nil)) (pa_cons (pe_tup (pa_cons pe_str pa_nil)) pa_nil))) pa_nil))) pa_nil))))) pss_nil) (pss_one (ps_ret (pe_op op_plus (pe_op op_plus (pe_slice (sl_K (K := K) rfl) (pv 4) po_none (po_some (pv 5))) (pe_lst (pa_cons (pe_call G_law_line (hr.mono (by decide)) (by rfl) T.g_law_line T.F_law_line.kp (b_law_line T) .nil pass0 (pa_cons (pv 0) (pa_cons (pv 1) (pa_cons (pv 2) (pa_cons (pv 3) pa_nil))))) pa_nil))) (pe_slice (sl_K (K := K) rfl) (pv 4) (po_some (pe_op op_plus (pv 5) pe_int)) po_none))))))))))))), fn_body h (by rw [hvl]; decide) (fun ds R hR hl => ?_)⟩
  obtain ⟨cs, S, r, L, rfl, hcs, hc1, hnm, hSl, hS, hr, hL, hLl, q⟩ := hR
  refine q_if1 (b := !(!L.isEmpty)) (et_not1 (et_tru (e_var rfl))) (fun e => ?_) (fun e => ?_)
  · exact t_ret (P := LO 1) (e_oneL (e_lineP rfl rfl rfl rfl hcs hc1 hnm hSl hS hr)) fun e ⟨L2, e1, h1, h2⟩ => by rw [e1]; exact q L2 h1 (by omega)
  have hne : 1 ≤ L.length := by
    cases L with
    | nil => cases e
    | cons a l => simp
  refine t_seq (M := fun ρ' => ∃ j k : Nat, ρ' = [.dat .bag, .dat (.lst (cs.map cellD)), .dat (.lst (S.map D.str)), .dat (.str r), .dat (.lst L), .dat (.int j), .dat (.int k)] ∧ j < L.length) (t_par (P1 := fun e => ∃ j : Nat, e = .dat (.int j) ∧ j < L.length) (P2 := fun e => ∃ k : Nat, e = .dat (.int k)) ((e_draw (k := (L.length : Int)) (e_var rfl) (EV.d1 (e_cb1 (ea_c (e_var rfl) ea_nil) cd_lenL)) (by omega) (by omega)).ev.imp fun e ⟨d, e1, j, e2, h⟩ => ⟨j, by rw [e1, e2], by omega⟩) ((e_draw (k := 8) (e_var rfl) e_int (by decide) (by decide)).ev.imp fun e ⟨d, e1, j, e2, _⟩ => ⟨j, by rw [e1, e2]⟩) fun e1 e2 ⟨a, h1, h3⟩ ⟨b, h2⟩ => ⟨a, b, by rw [h1, h2]; rfl, h3⟩) fun ρ' m => ?_
  obtain ⟨j, k, rfl, hj⟩ := m
  have hgj : L[j]? = some L[j] := List.getElem?_eq_getElem hj
  have hlj := hL _ (List.getElem_mem hj)
  generalize L[j] = lj at hgj hlj
  have hlist : ∀ ρ0 : List En, ρ0[4]? = some (.dat (.lst L)) → ρ0[5]? = some (.dat (.int j)) → ED (tIf (tB (tCB (rIsi K) (tCons (tOp (rIx K) (tVar 4) (tVar 5)) (tCons (tC (.ty "tuple")) tNil)))) (tCB (rListC K) (tCons (tOp (rIx K) (tVar 4) (tVar 5)) tNil)) (tTup (tCons (tC (.str "made")) tNil))) ρ0 LineOk := fun ρ0 h4 h5 => by
    have hix : ED (tOp (rIx K) (tVar 4) (tVar 5)) ρ0 (· = lj) := e_opd (e_var h4) (e_var h5) (od_ixL (j := j) rfl hgj)
    refine e_ifd (T := fun b => b = lj.isU "tuple") (et_v1 (e_isi hix hlj.1.pl (kitU hlj.1.pl (by simp)))) (fun e => ?_) (fun e => ?_)
    · obtain ⟨ds, rfl⟩ : ∃ ds, lj = .tup ds := by cases lj <;> first | exact ⟨_, rfl⟩ | (exact absurd e.symm (by simp [D.isU]))
      exact (EV.o1 (e_cb1 (ea_c hix ea_nil) cd_listT)).imp fun d hd => by rw [hd]; exact ⟨trivial, hlj.2⟩
    · exact (e_tup1 (ea_c (e_str (s := wMade) (by decide +kernel)) ea_nil) (by simp)).imp fun d hd => by rw [hd]; exact ln_made
  have tst : ∀ (c : Int) (ρ : List En), ρ[6]? = some (.dat (.int k)) → ET (tTest (tOp (rEqU K) (tVar 6) (tC (.int c)))) ρ (fun _ => True) := fun c ρ h => (et_t1 (e_opd (e_var h) e_int od_eqI)).imp fun _ _ => trivial
  refine q_if (tst 0 _ rfl) (fun _ => ?_) (fun _ => ?_)
  · exact t_ret (P := LO (L.length + 1)) (LO.imp (e_cat (e_cutL hL (e_var rfl) eo_none (eo_part (e_var rfl)) (by rw [cut_to (k := j) rfl (by omega), List.length_take]; exact Nat.min_le_left _ _)) (e_cutL hL (e_var rfl) (eo_part (e_opd (e_var rfl) e_int od_addI)) eo_none (n := L.length - (j + 1)) (by rw [cut_from2 (xs := L) (i := (j : Int) + 1) (k := j + 1) (by omega), List.length_drop]; exact Nat.le_refl _)) (by omega)) (by omega)) fun e ⟨L2, e1, h1, h2⟩ => by rw [e1]; exact q L2 h1 h2
  refine q_if (tst 1 _ rfl) (fun _ => ?_) (fun _ => ?_)
  · exact t_ret (P := LO (L.length + 1)) (LO.imp (e_cat (e_cutL hL (e_var rfl) eo_none (eo_part (e_opd (e_var rfl) e_int od_addI)) (n := j + 1) (by rw [cut_to (xs := L) (i := (j : Int) + 1) (k := j + 1) (by omega) (by omega), List.length_take]; exact Nat.min_le_left _ _)) (e_cutL hL (e_var rfl) (eo_part (e_var rfl)) eo_none (n := L.length - j) (by rw [cut_from2 (k := j) rfl, List.length_drop]; exact Nat.le_refl _)) (by omega)) (by omega)) fun e ⟨L2, e1, h1, h2⟩ => by rw [e1]; exact q L2 h1 h2
  refine q_if (tst 2 _ rfl) (fun _ => ?_) (fun _ => ?_)
  · exact t_ret (P := LO (L.length + 1)) (LO.imp (e_cat (e_cat (e_cutL hL (e_var rfl) eo_none (eo_part (e_var rfl)) (by rw [cut_to (k := j) rfl (by omega), List.length_take]; exact Nat.min_le_left _ _)) (e_oneL (e_lineP rfl rfl rfl rfl hcs hc1 hnm hSl hS hr)) (by omega)) (e_cutL hL (e_var rfl) (eo_part (e_var rfl)) eo_none (n := L.length - j) (by rw [cut_from2 (k := j) rfl, List.length_drop]; exact Nat.le_refl _)) (by omega)) (by omega)) fun e ⟨L2, e1, h1, h2⟩ => by rw [e1]; exact q L2 h1 h2
  refine q_if (tst 3 _ rfl) (fun _ => ?_) (fun _ => ?_)
  · exact t_ret (P := LO (L.length + 1)) (LO.imp (e_cat (e_cat (e_cutL hL (e_var rfl) eo_none (eo_part (e_var rfl)) (by rw [cut_to (k := j) rfl (by omega), List.length_take]; exact Nat.min_le_left _ _)) (e_revP hL (e_var rfl) (eo_part (e_var rfl)) (eo_part (e_opd (e_var rfl) e_int od_addI)) (n := min (j + 2) L.length - min j L.length) (by rw [cut_mid (xs := L) (i := (j : Int)) (j := (j : Int) + 2) (k := j) (m := j + 2) rfl (by omega)]; exact Nat.le_refl _)) (by omega)) (e_cutL hL (e_var rfl) (eo_part (e_opd (e_var rfl) e_int od_addI)) eo_none (n := L.length - (j + 2)) (by rw [cut_from2 (xs := L) (i := (j : Int) + 2) (k := j + 2) (by omega), List.length_drop]; exact Nat.le_refl _)) (by omega)) (by omega)) fun e ⟨L2, e1, h1, h2⟩ => by rw [e1]; exact q L2 h1 h2
  refine q_if (tst 4 _ rfl) (fun _ => ?_) (fun _ => ?_)
  · exact t_ret (P := LO (L.length + 1)) (e_catL hL (e_var rfl) (e_oneL (e_lineP rfl rfl rfl rfl hcs hc1 hnm hSl hS hr)) (by omega)) fun e ⟨L2, e1, h1, h2⟩ => by rw [e1]; exact q L2 h1 h2
  refine q_if (tst 5 _ rfl) (fun _ => ?_) (fun _ => ?_)
  · exact t_ret (P := LO (L.length + 1)) (LO.imp (e_cat (e_cat (e_cutL hL (e_var rfl) eo_none (eo_part (e_var rfl)) (by rw [cut_to (k := j) rfl (by omega), List.length_take]; exact Nat.min_le_left _ _)) (e_oneL (hlist _ rfl rfl)) (by omega)) (e_cutL hL (e_var rfl) (eo_part (e_opd (e_var rfl) e_int od_addI)) eo_none (n := L.length - (j + 1)) (by rw [cut_from2 (xs := L) (i := (j : Int) + 1) (k := j + 1) (by omega), List.length_drop]; exact Nat.le_refl _)) (by omega)) (by omega)) fun e ⟨L2, e1, h1, h2⟩ => by rw [e1]; exact q L2 h1 h2
  refine q_if (tst 6 _ rfl) (fun _ => ?_) (fun _ => ?_)
  · exact t_ret (P := LO (L.length + 1)) (LO.imp (e_cat (e_cutL hL (e_var rfl) eo_none (eo_part (e_opd (EV.d1 (e_cb1 (ea_c (e_var rfl) ea_nil) cd_lenL)) e_int od_subI)) (n := L.length - 1) (by rw [cut_to (xs := L) (i := (L.length : Int) - 1) (k := L.length - 1) (by omega) (by omega), List.length_take]; exact Nat.min_le_left _ _)) (e_oneL ((e_of (xs := [lMade, lBarred]) (e_var rfl) (EV.o1 (e_lst1 (ea_c (e_tup1 (ea_c (e_str (s := wMade) (by decide +kernel)) ea_nil) (by simp)) (ea_c (e_tup1 (ea_c (e_str (s := wBarred) (by decide +kernel)) ea_nil) (by simp)) ea_nil)) (by simp))) (.lst _) (by simp) (by simp)).imp fun d hd => by
      simp only [List.mem_cons, List.not_mem_nil, or_false] at hd
      rcases hd with h | h <;> rw [h]
      · exact ln_made
      · exact ln_barred)) (by omega)) (by omega)) fun e ⟨L2, e1, h1, h2⟩ => by rw [e1]; exact q L2 h1 h2
  exact t_ret (P := LO (L.length + 1)) (LO.imp (e_cat (e_cat (e_cutL hL (e_var rfl) eo_none (eo_part (e_var rfl)) (by rw [cut_to (k := j) rfl (by omega), List.length_take]; exact Nat.min_le_left _ _)) (e_oneL (e_lineP rfl rfl rfl rfl hcs hc1 hnm hSl hS hr)) (by omega)) (e_cutL hL (e_var rfl) (eo_part (e_opd (e_var rfl) e_int od_addI)) eo_none (n := L.length - (j + 1)) (by rw [cut_from2 (xs := L) (i := (j : Int) + 1) (k := j + 1) (by omega), List.length_drop]; exact Nat.le_refl _)) (by omega)) (by omega)) fun e ⟨L2, e1, h1, h2⟩ => by rw [e1]; exact q L2 h1 h2

end
end Nt

namespace Nt
open PySem PySem.Spec PyProof.Rows L2


theorem look_sc {cs : List (List Nat × Nat)} {S : List (List Nat)} (d : D) : (lookM cs S d).scal = true := by
  have hL : ∀ r a t ls, (lookL cs S r a t ls).scal = true := fun r a t ls => by
    unfold lookL
    split
    · rfl
    · split
      · split <;> rfl
      · rfl
  have hH : ∀ L, (lookH cs S L).scal = true := fun L => by
    unfold lookH
    split
    · rfl
    · split
      · exact hL _ _ _ _
      · rfl
  unfold lookM
  split <;> first | exact hH _ | rfl
theorem sc_sm {d : D} (h : d.scal = true) (n : Nat) : d.sm n = true := by
  cases n <;> cases d <;> first | rfl | cases h
def moreD (L : List D) (r : List Nat) : List D := [.lst [.lst L], .tup [.str wRow, .str r], .str r, .lst [.tup [.str wRow, .str (r ++ [46])]], .lst [.lst [.str wRow, .str r]], .lst [.tup [.str wRow, .str r]], .dic [(tk wRow, .str r)], .lst [.tup [.str wRow, .non]], .lst [.tup [.str wRow, .lst []]]]
theorem more_pap {L : List D} {r : List Nat} (hr : Tx r) (hl : r.length ≤ 900) : ∀ d ∈ moreD L r, PapOk d := by
  have e1 : elOk (.str r) = true := hr.1
  have e3 : elOk (.str (r ++ [46])) = true := strs_ok fun c hc => by
    rcases List.mem_append.mp hc with h | h
    · have := List.all_eq_true.mp (show r.all (· < 0x110000) = true from hr.1) c h
      exact of_decide_eq_true this
    · rw [List.mem_singleton.mp h]; decide
  have two : ∀ x : D, elOk x = true → (∀ s, x = .str s → s.length ≤ 1000) → PapOk (.lst [.tup [.str wRow, x]]) := fun x h1 h2 => ⟨fun l hl => by
    rw [List.mem_singleton.mp hl]
    refine ⟨fun z hz => ?_, by simp, fun s hs => ?_⟩
    · simp only [List.mem_cons, List.not_mem_nil, or_false] at hz
      rcases hz with h | h <;> rw [h]
      · rfl
      · exact h1
    · simp only [List.mem_cons, List.not_mem_nil, or_false] at hs
      rcases hs with h | h
      · cases h; decide
      · exact h2 s h.symm, by simp⟩
  intro d hd
  simp only [moreD, List.mem_cons, List.not_mem_nil, or_false] at hd
  rcases hd with h | h | h | h | h | h | h | h | h <;> subst h
  · exact ⟨fun l hl => by rw [List.mem_singleton.mp hl]; exact trivial, by simp⟩
  · exact ⟨fun l hl => by
      simp only [List.mem_cons, List.not_mem_nil, or_false] at hl
      rcases hl with h | h <;> rw [h] <;> exact trivial, by simp⟩
  · exact trivial
  · exact two _ e3 fun s h => by cases h; rw [List.length_append]; simp; omega
  · exact ⟨fun l hl => by rw [List.mem_singleton.mp hl]; exact trivial, by simp⟩
  · exact two _ e1 fun s h => by cases h; omega
  · exact trivial
  · exact two _ rfl fun s h => nomatch h
  · exact two _ rfl fun s h => nomatch h
def Rg_law (K : PySem.W.Frag) (ds : List D) (P : En → Prop) : Prop := ∃ ns : List Int, ds = [.scr K ns] ∧ ns.length ≤ 63 ∧ P (.dat (.bl true))
theorem len_law {K : PySem.W.Frag} (ds P) (h : Rg_law K ds P) : ds.length = 1 := by obtain ⟨_, rfl, _⟩ := h; rfl
section
variable {K : PySem.W.Frag}
def rTupC (K : PySem.W.Frag) : List V → Hp → VK → Prop := fun xs H Q => ∃ p ys, xs = [.ref p] ∧ ((SqL K H p ys ∧ ∀ l, H l = none → Q (.ref l) (upd H l (.tup ys))) ∨ (SqT K H p ys ∧ Q (.ref p) H))
theorem call_tupK {X : Cx} (hK : X.K = K) : CallR X (.type "tuple") (rTupC K) := hK ▸ call_tuple_of
theorem cd_tupL {ds : List D} : CD (rTupC K) [.lst ds] (· = .dat (.tup ds)) := fun W vs r Q q => by
  cases r with
  | cons r rr =>
    cases rr
    cases r with
    | lst ha ra => exact ⟨_, _, rfl, .inl ⟨sq_l (W.le _ _ ha), fun p hp => q (.ref p) (.dat (.tup ds)) (W.put p _) (Grow.put hp) (.tup upd_same (ra.mono (Ex.nw (W.le.none' hp)))) rfl⟩⟩
end
section
variable {P : Program} {w : World} {K : PySem.W.Frag} {mg : Str → Option Value} {base : Heap}
theorem c_sm {n : Nat} {d : D} {ρ : List En} {ta tb : TE} {X : XK} (h1 : ED ta ρ (· = d)) (h2 : ED tb ρ (· = d)) (hd : d.sm n = true) : ED (tCall (SpE (Rg_same n)) [] X (tCons ta (tCons tb tNil))) ρ (· = .bl true) := EV.d1 (e_call0 (R := fun e => e = .dat (.bl true)) (ea_c h1 (ea_c h2 ea_nil)) ⟨d, rfl, hd, rfl⟩)
theorem e_look {cs : List (List Nat × Nat)} {S : List (List Nat)} {xc xs d : D} {ρ : List En} {ta tb tc : TE} {X : XK} (h1 : ED ta ρ (· = xc)) (h2 : ED tb ρ (· = xs)) (h3 : ED tc ρ (· = d)) (q1 : Sq xc (cs.map cellD)) (q2 : Sq xs (S.map D.str)) (hc : CsOk cs) (hS : SOk cs.length S) (hd : PapOk d) : ED (tCall (SpE Rg_look) [] X (tCons ta (tCons tb (tCons tc tNil)))) ρ (· = lookM cs S d) :=
  EV.d1 (e_call0 (Rg := Rg_look) (R := fun e => e = .dat (lookM cs S d)) (ea_c h1 (ea_c h2 (ea_c h3 ea_nil))) ⟨xc, xs, cs, S, d, rfl, q1, q2, hc, hS, hd, rfl⟩)
theorem e_jdg {cs : List (List Nat × Nat)} {S : List (List Nat)} {d : D} {ρ : List En} {ta tb tc : TE} {X : XK} (h1 : ED ta ρ (· = .lst (cs.map cellD))) (h2 : ED tb ρ (· = .lst (S.map D.str))) (h3 : ED tc ρ (· = d)) (hc : CsOk cs) (hS : SOk cs.length S) (hd : PapOk d) : ED (tCall (SpE Rg_law_judge) [] X (tCons ta (tCons tb (tCons tc tNil)))) ρ (· = lookM cs S d) :=
  EV.d1 (e_call0 (Rg := Rg_law_judge) (R := fun e => e = .dat (lookM cs S d)) (ea_c h1 (ea_c h2 (ea_c h3 ea_nil))) ⟨cs, S, d, rfl, hc, hS, hd, by rw [jud_look hS.2.1]⟩)
theorem t_fz {i : Nat} {L : List D} {ρ ρ1 : List En} {t : TS} {p : Ps} (h : ρ = ρ1 ∨ (ρ[i]? = some (.own L) ∧ ρ.set i (.dat (.lst L)) = ρ1)) (k : TT' t ρ1 p) : TT' t ρ p := by
  rcases h with rfl | ⟨h, rfl⟩
  · exact k
  · exact t_freeze h k
theorem pap_of {L : List D} (h : ∀ l ∈ L, LineOk l) (hl : L.length ≤ 1000) : PapOk (.lst L) := ⟨fun l hm => (h l hm).1, hl⟩

theorem ok_law (T : Txt K mg) (G_come : FnOk P w K mg base CX0 6 T.a_come T.d_come ["cells", "seeds", "row"] (SpE Rg_come)) (G_look : FnOk P w K mg base CX0 5 T.a_look T.d_look ["cells", "seeds", "paper"] (SpE Rg_look)) (G_law_bag : FnOk P w K mg base CX0 1 T.a_law_bag T.d_law_bag ["_law_script"] (SpE (Rg_law_bag K))) (G_law_of : FnOk P w K mg base CX0 2 T.a_law_of T.d_law_of ["_law_bag_here", "_law_things"] (SpE Rg_law_of)) (G_law_same : FnOk P w K mg base CX0 6 T.a_law_same T.d_law_same ["_law_found", "_law_due"] (SpE Rg_law_same)) (G_law_frame : FnOk P w K mg base CX0 4 T.a_law_frame T.d_law_frame ["_law_bag_here", "_law_size_here", "_law_widest"] (SpE Rg_law_frame)) (G_law_size : FnOk P w K mg base CX0 3 T.a_law_size T.d_law_size ["_law_bag_here"] (SpE Rg_law_size)) (G_law_odd : FnOk P w K mg base CX0 3 T.a_law_odd T.d_law_odd ["_law_bag_here", "_law_more"] (SpE Rg_law_odd)) (G_law_loose : FnOk P w K mg base CX0 3 T.a_law_loose T.d_law_loose ["_law_bag_here", "_law_frame_here"] (SpE Rg_law_loose)) (G_law_wanted : FnOk P w K mg base CX0 3 T.a_law_wanted T.d_law_wanted ["_law_bag_here", "_law_frame_here", "_law_stack"] (SpE Rg_law_wanted)) (G_law_free_lines : FnOk P w K mg base CX0 3 T.a_law_free_lines T.d_law_free_lines ["_law_bag_here", "_law_frame_here", "_law_stack", "_law_r"] (SpE Rg_law_free_lines)) (G_law_spoilt : FnOk P w K mg base CX0 4 T.a_law_spoilt T.d_law_spoilt ["_law_bag_here", "_law_frame_here", "_law_stack", "_law_r", "_law_listed"] (SpE Rg_law_spoilt)) (G_law_judge : FnOk P w K mg base CX0 3 T.a_law_judge T.d_law_judge ["_law_frame_here", "_law_stack", "_law_thing"] (SpE Rg_law_judge)) : FnOk P w K mg base CX0 7 T.a_law T.d_law ["_law_script"] (SpE (Rg_law K)) := by
  refine T.F_law.ok sc_law (fun vs H Q E h => spE_len h len_law) (fun cdv A outer s H vs Q E hr h => ?_)
  have hu := hu64 hr
  have hvl : vs.length = 1 := spE_len h len_law
  refine ⟨_, (pss_cons (ps_set (i := 1) sc_law.nd rfl (Or.inl rfl) (pe_call G_law_bag (hr.mono (by decide)) (by rfl) T.g_law_bag T.F_law_bag.kp (b_law_bag T) .nil pass0 (pa_cons (pv 0) pa_nil))) (pss_cons (ps_set (i := 2) sc_law.nd rfl (Or.inl rfl) (pe_call G_law_frame (hr.mono (by decide)) (by rfl) T.g_law_frame T.F_law_frame.kp (b_law_frame T) .nil pass0 (pa_cons (pv 1) (pa_cons (pe_call G_law_size (hr.mono (by decide)) (by rfl) T.g_law_size T.F_law_size.kp (b_law_size T) .nil pass0 (pa_cons (pv 1) pa_nil)) (pa_cons pe_int pa_nil))))) (pss_cons (ps_set (i := 3) sc_law.nd rfl (Or.inl rfl) (pe_call G_law_loose (hr.mono (by decide)) (by rfl) T.g_law_loose T.F_law_loose.kp (b_law_loose T) .nil pass0 (pa_cons (pv 1) (pa_cons (pv 2) pa_nil)))) (pss_cons (ps_for PassesOwn.never rfl (pi_range1 (by rfl) T.n_range (pa_cons pe_int pa_nil)) (pg_name (i := 4) sc_law.nd rfl (Or.inl rfl)) (pss_cons (ps_set (i := 5) sc_law.nd rfl (Or.inl rfl) (pe_call G_law_wanted (hr.mono (by decide)) (by rfl) T.g_law_wanted T.F_law_wanted.kp (b_law_wanted T) .nil pass0 (pa_cons (pv 1) (pa_cons (pv 2) (pa_cons (pv 3) pa_nil))))) (pss_cons (ps_set (i := 6) sc_law.nd rfl (Or.inl rfl) (pe_call G_law_free_lines (hr.mono (by decide)) (by rfl) T.g_law_free_lines T.F_law_free_lines.kp (b_law_free_lines T) .nil pass0 (pa_cons (pv 1) (pa_cons (pv 2) (pa_cons (pv 3) (pa_cons (pv 5) pa_nil)))))) (pss_cons (ps_if (pt_not (pt_val (pe_call G_law_same (hr.mono (by decide)) (by rfl) T.g_law_same T.F_law_same.kp (b_law_same T) .nil pass0 (pa_cons (pe_lst (pa_cons (pe_call G_look (hr.mono (by decide)) (by rfl) T.g_look T.F_look.kp (b_look T) .nil pass0 (pa_cons (pv 2) (pa_cons (pv 3) (pa_cons (pv 6) pa_nil)))) (pa_cons (pe_call G_look (hr.mono (by decide)) (by rfl) T.g_look T.F_look.kp (b_look T) .nil pass0 (pa_cons (pv 2) (pa_cons (pv 3) (pa_cons (pe_call G_come (hr.mono (by decide)) (by rfl) T.g_come T.F_come.kp (b_come T) .nil pass0 (pa_cons (pv 2) (pa_cons (pv 3) (pa_cons (pv 5) pa_nil)))) pa_nil)))) pa_nil))) (pa_cons (pe_lst (pa_cons pe_non (pa_cons pe_non pa_nil))) pa_nil))))) (pss_one (ps_ret pe_bl)) pss_nil) (pss_cons (ps_for PassesOwn.never rfl (pi_range1 (by rfl) T.n_range (pa_cons (pe_call G_law_of (hr.mono (by decide)) (by rfl) T.g_law_of T.F_law_of.kp (b_law_of T) .nil pass0 (pa_cons (pv 1) (pa_cons (pe_lst (pa_cons pe_int (pa_cons pe_int (pa_cons pe_int (pa_cons pe_int (pa_cons pe_int pa_nil)))))) pa_nil))) pa_nil)) (pg_name (i := 7) sc_law.nd rfl (Or.inl rfl)) (pss_one (ps_set (i := 6) sc_law.nd rfl (Or.inl rfl) (pe_call G_law_spoilt (hr.mono (by decide)) (by rfl) T.g_law_spoilt T.F_law_spoilt.kp (b_law_spoilt T) .nil pass0 (pa_cons (pv 1) (pa_cons (pv 2) (pa_cons (pv 3) (pa_cons (pv 5) (pa_cons (pv 6) pa_nil))))))))) (pss_cons (ps_set (i := 8) sc_law.nd rfl (Or.inl rfl) (pe_callTy (call_listK (K := K) rfl) (by rfl) T.n_list (by decide +kernel) (pa_cons (pv 6) pa_nil))) (pss_cons (ps_set (i := 9) sc_law.nd rfl (Or.inl rfl) (pe_call G_law_judge (hr.mono (by decide)) (by rfl) T.g_law_judge T.F_law_judge.kp (b_law_judge T) .nil pass0 (pa_cons (pv 2) (pa_cons (pv 3) (pa_cons (pv 8) pa_nil))))) (pss_cons (ps_if (pt_not (pt_val (pe_call G_law_same (hr.mono (by decide)) (by rfl) T.g_law_same T.F_law_same.kp (b_law_same T) .nil pass0 (pa_cons (pe_lst (pa_cons (pe_call G_look (hr.mono (by decide)) (by rfl) T.g_look T.F_look.kp (b_look T) .nil pass0 (pa_cons (pv 2) (pa_cons (pv 3) (pa_cons (pv 6) pa_nil)))) (pa_cons (pe_call G_look (hr.mono (by decide)) (by rfl) T.g_look T.F_look.kp (b_look T) .nil pass0 (pa_cons (pe_callTy (call_tupK (K := K) rfl) (by rfl) T.n_tuple (by decide +kernel) (pa_cons (pv 2) pa_nil)) (pa_cons (pe_callTy (call_tupK (K := K) rfl) (by rfl) T.n_tuple (by decide +kernel) (pa_cons (pv 3) pa_nil)) (pa_cons (pe_callTy (call_tupK (K := K) rfl) (by rfl) T.n_tuple (by decide +kernel) (pa_cons (pv 6) pa_nil)) pa_nil)))) pa_nil))) (pa_cons (pe_lst (pa_cons (pv 9) (pa_cons (pv 9) pa_nil))) pa_nil))))) (pss_one (ps_ret pe_bl)) pss_nil) (pss_cons (ps_if (pt_not (pt_val (pe_call G_law_same (hr.mono (by decide)) (by rfl) T.g_law_same T.F_law_same.kp (b_law_same T) .nil pass0 (pa_cons (pv 6) (pa_cons (pv 8) pa_nil))))) (pss_one (ps_ret pe_bl)) pss_nil) (pss_cons (ps_set (i := 10) sc_law.nd rfl (Or.inl rfl) (pe_call G_law_odd (hr.mono (by decide)) (by rfl) T.g_law_odd T.F_law_odd.kp (b_law_odd T) .nil pass0 (pa_cons (pv 1) (pa_cons (pe_lst (pa_cons (pe_lst (pa_cons (pv 6) pa_nil)) (pa_cons (pe_tup (pa_cons pe_str (pa_cons (pv 5) pa_nil))) (pa_cons (pv 5) (pa_cons (pe_lst (pa_cons (pe_tup (pa_cons pe_str (pa_cons (pe_op op_plus (pv 5) pe_str) pa_nil))) pa_nil)) (pa_cons (pe_lst (pa_cons (pe_lst (pa_cons pe_str (pa_cons (pv 5) pa_nil))) pa_nil)) (pa_cons (pe_lst (pa_cons (pe_tup (pa_cons pe_str (pa_cons (pv 5) pa_nil))) pa_nil)) (pa_cons (pe_disp (pps_cons pe_str (pv 5) pps_nil) rfl rfl (by simp) (by decide)) (pa_cons (pe_lst (pa_cons (pe_tup (pa_cons pe_str (pa_cons pe_non pa_nil))) pa_nil)) (pa_cons (pe_lst (pa_cons (pe_tup (pa_cons pe_str (pa_cons (pe_lst pa_nil) pa_nil))) pa_nil)) pa_nil)))))))))) pa_nil)))) (pss_one (ps_if (pt_not (pt_val (pe_call G_law_same (hr.mono (by decide)) (by rfl) T.g_law_same T.F_law_same.kp (b_law_same T) .nil pass0 (pa_cons (pe_call G_look (hr.mono (by decide)) (by rfl) T.g_look T.F_look.kp (b_look T) .nil pass0 (pa_cons (pv 2) (pa_cons (pv 3) (pa_cons (pv 10) pa_nil)))) (pa_cons (pe_call G_law_judge (hr.mono (by decide)) (by rfl) T.g_law_judge T.F_law_judge.kp (b_law_judge T) .nil pass0 (pa_cons (pv 2) (pa_cons (pv 3) (pa_cons (pv 10) pa_nil)))) pa_nil))))) (pss_one (ps_ret pe_bl)) pss_nil)))))))))))) (pss_one (ps_ret pe_bl)))))), fn_body h (by rw [hvl]; decide) (fun ds R hR hl => ?_)⟩
  obtain ⟨ns, rfl, hns, q⟩ := hR
  refine q_asg1 (EV.d1 (e_call0 (R := fun e => e = .dat .bag) (ea_c (e_var rfl) ea_nil) ⟨ns, rfl, hns, rfl⟩)) ?_
  refine q_asg (P := fun e => ∃ cs : List (List Nat × Nat), e = .own (cs.map cellD) ∧ 1 ≤ cs.length ∧ cs.length ≤ 6 ∧ CsV cs ∧ ∀ c ∈ cs, NmV c.1) (e_callP (T := fun ds => ∃ n : Nat, ds = [.bag, .int n, .int 3] ∧ 1 ≤ n ∧ n ≤ 6) (ea_cons (T' := fun _ => True) (P := fun d => d = .bag) (e_var rfl) fun x hx => ea_cons (T' := fun _ => True) (P := fun d => ∃ n : Nat, d = .int n ∧ 1 ≤ n ∧ n ≤ 6) (EV.ed (R := fun e => ∃ n : Nat, e = .dat (.int n) ∧ 1 ≤ n ∧ n ≤ 6) (e_call0 (ea_c (e_var rfl) ea_nil) ⟨rfl, fun n h1 h2 => ⟨n, rfl, h1, h2⟩⟩) fun e ⟨n, e1, h⟩ => ⟨.int n, by rw [e1]; rfl, n, rfl, h⟩) fun y ⟨n, hy, h⟩ => (ea_c e_int ea_nil).imp fun ds e => ⟨n, by rw [e, hx, hy], h⟩) fun ds ⟨n, e, h1, h2⟩ => ⟨n, 3, e, by omega, by decide, by decide, fun cs g1 g2 => ⟨cs, rfl, by omega, by omega, ⟨by omega, fun c hc => by have := (g2 c hc).1; omega⟩, fun c hc => (g2 c hc).2⟩⟩) fun e ⟨cs, e1, hc1, hc6, hcs, hnm⟩ => ?_
  subst e1
  refine t_freeze (i := 2) (ds := cs.map cellD) rfl ?_
  refine q_asg (P := fun e => ∃ S : List (List Nat), e = .own (S.map D.str) ∧ S.length ≤ 7 ∧ ∀ s ∈ S, RowV cs s) (e_call0 (ea_c (e_var rfl) (ea_c (e_var rfl) ea_nil)) ⟨cs, rfl, hcs, fun S h1 h2 => ⟨S, rfl, h1, h2⟩⟩) fun e ⟨S, e1, hSl, hS⟩ => ?_
  subst e1
  refine t_freeze (i := 3) (ds := S.map .str) rfl ?_
  have hCO : CsOk cs := ⟨hcs.1, fun c hc => (hcs.2 c hc).2, fun c hc => strs_ok (hnm c hc).2⟩
  have hLen : Len cs.length S := fun s hs => (hS s hs).1
  have hSO : SOk cs.length S := ⟨by omega, hLen, fun s hs => (rowV_tx hcs (hS s hs)).1⟩
  refine t_seq (M := fun _ => True) (t_for1 (iv_rngN (n := 5) (ea_c e_int ea_nil) (by decide)) (fun ds i ρ' => ∃ x4 x5 x6 x7 x8 x9 x10 : En, ρ' = [.dat (.scr K ns), .dat .bag, .dat (.lst (cs.map cellD)), .dat (.lst (S.map D.str)), x4, x5, x6, x7, x8, x9, x10]) (fun ds e => ⟨_, _, _, _, _, _, _, rfl⟩) (fun ds i d ρ' e hd inv => ?_) (fun ds ρ' e inv => trivial)) fun ρ' _ => t_ret1 e_bl q
  obtain ⟨x4, x5, x6, x7, x8, x9, x10, rfl⟩ := inv
  refine q_asgd (PD := fun d => ∃ r, d = .str r ∧ RowV cs r) (EV.ed (R := fun e => ∃ r, e = .dat (.str r) ∧ RowV cs r) (e_call0 (ea_c (e_var rfl) (ea_c (e_var rfl) (ea_c (e_var rfl) ea_nil))) ⟨cs, S, rfl, hcs, hc1, by omega, hS, fun r hr => ⟨r, rfl, hr⟩⟩) fun e ⟨r, e1, h⟩ => ⟨.str r, by rw [e1]; rfl, r, rfl, h⟩) fun d5 ⟨r, e5, hr⟩ => ?_
  subst e5
  have hCR := rowV_ok hcs hr
  have hrl := hr.1
  refine q_asg (P := fun e => ∃ L, e = .own L ∧ lookH cs S L = .non ∧ (∀ l ∈ L, LineOk l) ∧ L.length ≤ 200) (e_call0 (ea_c (e_var rfl) (ea_c (e_var rfl) (ea_c (e_var rfl) (ea_c (e_var rfl) ea_nil)))) ⟨cs, S, r, rfl, hcs, hnm, by omega, hS, hr, fun L h1 h2 h3 => ⟨L, rfl, h1, h2, h3⟩⟩) fun e ⟨L, e1, hg, hL, hLl⟩ => ?_
  subst e1
  refine t_freeze (i := 6) (ds := L) rfl ?_
  refine q_if1 (b := !true) (et_not1 (et_v1 (c_sm (d := .lst [.non, .non]) (EV.o1 (e_lst1 (ea_c ((e_look (e_var rfl) (e_var rfl) (e_var rfl) (.lst _) (.lst _) hCO hSO (pap_of hL (by omega))).is (show lookM cs S (.lst L) = .non from hg)) (ea_c (EV.d1 (e_callP (Rg := Rg_look) (R := fun e => e = .dat .non) (T := fun ds => ∃ L, ds = [.lst (cs.map cellD), .lst (S.map D.str), .lst L] ∧ lookH cs S L = .non ∧ (∀ l ∈ L, LineOk l) ∧ L.length ≤ 1000) (ea_cons (T' := fun _ => True) (P := fun d => d = .lst (cs.map cellD)) (e_var rfl) fun x hx => ea_cons (T' := fun _ => True) (P := fun d => d = .lst (S.map D.str)) (e_var rfl) fun y hy => (ea_1 (P := fun d => ∃ L, d = .lst L ∧ lookH cs S L = .non ∧ (∀ l ∈ L, LineOk l) ∧ L.length ≤ 1000) (EV.ed (R := fun e => ∃ L, e = .own L ∧ lookH cs S L = .non ∧ (∀ l ∈ L, LineOk l) ∧ L.length ≤ 1000) (e_call0 (Rg := Rg_come) (ea_c (e_var rfl) (ea_c (e_var rfl) (ea_c (e_var rfl) ea_nil))) ⟨_, _, cs, S, r, rfl, .lst _, .lst _, hCR, by omega, by rw [hrl]; exact hLen, fun tk t h1 h2 => ?_⟩) fun e ⟨L, e1, h⟩ => ⟨.lst L, by rw [e1]; rfl, L, rfl, h⟩)).imp fun ds ⟨z, ez, L, eL, h⟩ => ⟨L, by rw [hx, hy, ez, eL], h⟩) fun ds ⟨L, e, h1, h2, h3⟩ => ⟨_, _, cs, S, .lst L, e, .lst _, .lst _, hCO, hSO, pap_of h2 h3, by rw [show lookM cs S (.lst L) = .non from h1]⟩)) ea_nil)) (by simp))) (EV.o1 (e_lst1 (ea_c e_non (ea_c e_non ea_nil)) (by simp))) (by rfl)))) (fun e => nomatch e) fun _ => ?_
  · have hrun := h1.run
    obtain ⟨a, b⟩ := come_lines hcs hnm hr hS hrun h2
    have := run_dots (by rw [hrl]; exact hLen) hrun
    have := hcs.1
    exact ⟨_, rfl, come_good hCR hrun h2, a, by omega⟩
  refine t_seq (M := fun ρ' => ∃ (L : List D) (x6 x7 : En), ρ' = [.dat (.scr K ns), .dat .bag, .dat (.lst (cs.map cellD)), .dat (.lst (S.map D.str)), .dat d, .dat (.str r), x6, x7, x8, x9, x10] ∧ (x6 = .dat (.lst L) ∨ x6 = .own L) ∧ (∀ l ∈ L, LineOk l) ∧ L.length ≤ 300) (t_for1 (iv_rngP (T := fun n => n ≤ 3) ((ea_1 (P := fun d => ∃ j : Int, d = .int j ∧ 0 ≤ j ∧ j ≤ 3) ((e_of (e_var rfl) (EV.o1 (e_lst1 (ds := [.int 1, .int 1, .int 2, .int 3, .int 0]) (ea_c e_int (ea_c e_int (ea_c e_int (ea_c e_int (ea_c e_int ea_nil))))) (by simp))) (.lst _) (by simp) (by simp)).imp fun d hd => ?_)).imp fun ds ⟨x, e, j, ex, hj⟩ => ⟨j, by rw [e, ex], by omega, by omega, by omega⟩)) (fun ds i ρ' => ∃ (L : List D) (x6 x7 : En), ρ' = [.dat (.scr K ns), .dat .bag, .dat (.lst (cs.map cellD)), .dat (.lst (S.map D.str)), .dat d, .dat (.str r), x6, x7, x8, x9, x10] ∧ (x6 = .dat (.lst L) ∨ x6 = .own L) ∧ (∀ l ∈ L, LineOk l) ∧ L.length ≤ 200 + i) (fun ds e => ⟨L, _, _, rfl, .inl rfl, hL, hLl⟩) (fun ds i d7 ρ' e hd inv => ?_) (fun ds ρ' ⟨n, e, hn⟩ ⟨L, x6, x7, a, b, c, d⟩ => ⟨L, x6, x7, a, b, c, by
    have : ds.length ≤ 3 := by rw [e]; simp [ixs]; omega
    omega⟩)) fun ρ' m => ?_
  · simp only [List.mem_cons, List.not_mem_nil, or_false] at hd
    rcases hd with h | h | h | h | h <;> subst h <;> exact ⟨_, rfl, by decide, by decide⟩
  · obtain ⟨n, e, hn⟩ := e
    have hi3 : i < 3 := by
      have := (List.getElem?_eq_some_iff.mp hd).1
      rw [e] at this
      simp [ixs] at this
      omega
    obtain ⟨L, x6, x7, rfl, hx6, hL, hLl⟩ := inv
    refine t_fz (i := 6) (L := L) (ρ1 := [.dat (.scr K ns), .dat .bag, .dat (.lst (cs.map cellD)), .dat (.lst (S.map D.str)), .dat d, .dat (.str r), .dat (.lst L), .dat d7, x8, x9, x10]) (by rcases hx6 with h | h <;> subst h; exact .inl rfl; exact .inr ⟨rfl, rfl⟩) ?_
    exact t_asg (P := fun e => ∃ L', e = .own L' ∧ (∀ l ∈ L', LineOk l) ∧ L'.length ≤ L.length + 1) (e_call0 (ea_c (e_var rfl) (ea_c (e_var rfl) (ea_c (e_var rfl) (ea_c (e_var rfl) (ea_c (e_var rfl) ea_nil))))) ⟨cs, S, r, L, rfl, hcs, hc1, hnm, by omega, hS, hr, hL, by omega, fun L' h1 h2 => ⟨L', rfl, h1, h2⟩⟩) fun e ⟨L', e1, h1, h2⟩ => by rw [e1]; exact ⟨L', _, _, rfl, .inr rfl, h1, by omega⟩
  clear hg hL hLl
  obtain ⟨L, x6, x7, rfl, hx6, hL, hLl⟩ := m
  refine t_fz (i := 6) (L := L) (ρ1 := [.dat (.scr K ns), .dat .bag, .dat (.lst (cs.map cellD)), .dat (.lst (S.map D.str)), .dat d, .dat (.str r), .dat (.lst L), x7, x8, x9, x10]) (by rcases hx6 with h | h <;> subst h; exact .inl rfl; exact .inr ⟨rfl, rfl⟩) ?_
  have hP := pap_of hL (by omega)
  refine q_asgo (ds := L) (e_cb1 (ea_c (e_var rfl) ea_nil) cd_list) ?_
  refine t_freeze (i := 8) (ds := L) rfl ?_
  refine q_asg1 (d := lookM cs S (.lst L)) (e_jdg (e_var rfl) (e_var rfl) (e_var rfl) hCO hSO hP) ?_
  refine q_if1 (b := !true) (et_not1 (et_v1 (c_sm (d := .lst [lookM cs S (.lst L), lookM cs S (.lst L)]) (EV.o1 (e_lst1 (ea_c (e_look (e_var rfl) (e_var rfl) (e_var rfl) (.lst _) (.lst _) hCO hSO hP) (ea_c ((e_look (d := .tup L) (EV.d1 (e_cb1 (ea_c (e_var rfl) ea_nil) cd_tupL)) (EV.d1 (e_cb1 (ea_c (e_var rfl) ea_nil) cd_tupL)) (EV.d1 (e_cb1 (ea_c (e_var rfl) ea_nil) cd_tupL)) (.tup _) (.tup _) hCO hSO hP).is (show lookM cs S (.tup L) = lookM cs S (.lst L) from rfl)) ea_nil)) (by simp))) (EV.o1 (e_lst1 (ea_c (e_var rfl) (ea_c (e_var rfl) ea_nil)) (by simp))) ?_))) (fun e => nomatch e) fun _ => ?_
  · show ([_, _].all (D.sm 4) && _) = true
    rw [List.all_cons, List.all_cons, sc_sm (look_sc _)]
    rfl
  refine q_if1 (b := !true) (et_not1 (et_v1 (c_sm (d := .lst L) (e_var rfl) (e_var rfl) ?_))) (fun e => nomatch e) fun _ => ?_
  · show (L.all (D.sm 4) && decide (L.length ≤ 100000)) = true
    rw [decide_eq_true (by omega), Bool.and_true]
    exact List.all_eq_true.mpr fun l hl => (hL l hl).2
  refine q_asgd (PD := PapOk) (EV.ed (R := fun e => ∃ d, e = .dat d ∧ PapOk d) (e_call0 (Rg := Rg_law_odd) (ea_c (e_var rfl) (ea_c (EV.o1 (e_lst1 (ds := moreD L r) (ea_c (EV.o1 (e_lst1 (ea_c (e_var rfl) ea_nil) (by simp))) (ea_c (e_tup1 (ea_c (e_str (by decide +kernel)) (ea_c (e_var rfl) ea_nil)) (by simp)) (ea_c (e_var rfl) (ea_c (EV.o1 (e_lst1 (ea_c (e_tup1 (ea_c (e_str (by decide +kernel)) (ea_c (e_opd (e_var rfl) (e_str (s := [46]) (by decide +kernel)) (od_addS (by simp; omega))) ea_nil)) (by simp)) ea_nil) (by simp))) (ea_c (EV.o1 (e_lst1 (ea_c (EV.o1 (e_lst1 (ea_c (e_str (by decide +kernel)) (ea_c (e_var rfl) ea_nil)) (by simp))) ea_nil) (by simp))) (ea_c (EV.o1 (e_lst1 (ea_c (e_tup1 (ea_c (e_str (by decide +kernel)) (ea_c (e_var rfl) ea_nil)) (by simp)) ea_nil) (by simp))) (ea_c (e_dic1 (e_str (by decide +kernel)) (e_var rfl)) (ea_c (EV.o1 (e_lst1 (ea_c (e_tup1 (ea_c (e_str (by decide +kernel)) (ea_c e_non ea_nil)) (by simp)) ea_nil) (by simp))) (ea_c (EV.o1 (e_lst1 (ea_c (e_tup1 (ea_c (e_str (by decide +kernel)) (ea_c (EV.o1 (e_lst1 ea_nil (by simp))) ea_nil)) (by simp)) ea_nil) (by simp))) ea_nil))))))))) (by simp [moreD]))) ea_nil)) ⟨moreD L r, rfl, by simp [moreD], fun d hd => ⟨d, rfl, (List.mem_append.mp hd).elim (odds_pap d) (more_pap (rowV_tx hcs hr) (by omega) d)⟩⟩) fun e ⟨d, e1, h⟩ => ⟨d, by rw [e1]; rfl, h⟩) fun dd hdd => ?_
  exact t_if (T := fun b => b = !true) (et_not1 (et_v1 (c_sm (d := lookM cs S dd) (e_look (e_var rfl) (e_var rfl) (e_var rfl) (.lst _) (.lst _) hCO hSO hdd) (e_jdg (e_var rfl) (e_var rfl) (e_var rfl) hCO hSO hdd) (sc_sm (look_sc _) _)))) (fun e => nomatch e) (fun _ => t_next ⟨_, _, _, _, _, _, _, rfl⟩)

end
end Nt


namespace Nt
open PySem PySem.Spec PyProof.Rows L2

section
variable {P : Program} {w : World} {K : PySem.W.Frag} {mg : Str → Option Value} {base : Heap}
/-- every def keeps its promise -/
theorem all_ok (T : Txt K mg) (TDx : (∃ es n, KDict K w T.a_LINE_SIZES es n) ∧ ∀ z : Str, z ∉ (["row", "take", "made", "bar", "barred"] : List Str) → PySem.W.nsIn K T.a_LINE_SIZES z = some none) : FnOk P w K mg base CX0 7 T.a_law T.d_law ["_law_script"] (SpE (Rg_law K)) := by
  have H_is_row := ok_is_row (P := P) (w := w) (base := base) T
  have H_is_row2 := ok_is_row2 (P := P) (w := w) (base := base) T
  have H_over := ok_over (P := P) (w := w) (base := base) T 
  have H_lot_of := ok_lot_of (P := P) (w := w) (base := base) T 
  have H_blank := ok_blank (P := P) (w := w) (base := base) T 
  have H_outside := ok_outside (P := P) (w := w) (base := base) T 
  have H_word_of := ok_word_of (P := P) (w := w) (base := base) T TDx
  have H_law_bag := ok_law_bag (P := P) (w := w) (base := base) T
  have H_law_draw := ok_law_draw (P := P) (w := w) (base := base) T
  have H_law_lay := ok_law_lay (P := P) (w := w) (base := base) T 
  have H_law_lot := ok_law_lot (P := P) (w := w) (base := base) T 
  have H_law_join := ok_law_join (P := P) (w := w) (base := base) T 
  have H_law_blank := ok_law_blank (P := P) (w := w) (base := base) T 
  have H_law_is_row := ok_law_is_row (P := P) (w := w) (base := base) T 
  have H_law_fresh := ok_law_fresh (P := P) (w := w) (base := base) T 
  have H_union := ok_union (P := P) (w := w) (base := base) T H_over
  have H_barring := ok_barring (P := P) (w := w) (base := base) T H_outside
  have H_tellers_outside := ok_tellers_outside (P := P) (w := w) (base := base) T H_outside
  have H_law_of := ok_law_of (P := P) (w := w) (base := base) T H_law_draw
  have H_law_mixed := ok_law_mixed (P := P) (w := w) (base := base) T H_law_draw
  have H_law_row := ok_law_row (P := P) (w := w) (base := base) T H_law_draw
  have H_law_fits := ok_law_fits (P := P) (w := w) (base := base) T H_law_fresh
  have H_law_bar_next := ok_law_bar_next (P := P) (w := w) (base := base) T H_law_fresh
  have H_law_bar_good := ok_law_bar_good (P := P) (w := w) (base := base) T H_law_fresh
  have H_can_be_taken := ok_can_be_taken (P := P) (w := w) (base := base) T H_outside H_barring
  have H_bar_holds := ok_bar_holds (P := P) (w := w) (base := base) T H_barring H_word_of
  have H_law_title := ok_law_title (P := P) (w := w) (base := base) T H_law_draw H_law_of
  have H_law_size := ok_law_size (P := P) (w := w) (base := base) T H_law_of
  have H_law_odd := ok_law_odd (P := P) (w := w) (base := base) T H_law_of
  have H_law_loose := ok_law_loose (P := P) (w := w) (base := base) T H_law_draw H_law_of H_law_mixed H_law_row H_law_blank
  have H_law_wanted := ok_law_wanted (P := P) (w := w) (base := base) T H_law_draw H_law_of H_law_lay H_law_blank
  have H_law_free_lines := ok_law_free_lines (P := P) (w := w) (base := base) T H_law_of H_law_lot H_law_join H_law_fresh H_law_fits
  have H_law_line := ok_law_line (P := P) (w := w) (base := base) T H_law_of H_law_blank
  have H_law_judge := ok_law_judge (P := P) (w := w) (base := base) T H_law_lot H_law_join H_law_is_row H_law_fits H_law_bar_next H_law_bar_good
  have H_next_taken := ok_next_taken (P := P) (w := w) (base := base) T H_can_be_taken
  have H_follow_takes := ok_follow_takes (P := P) (w := w) (base := base) T H_lot_of H_blank H_union H_can_be_taken H_word_of
  have H_count_bars := ok_count_bars (P := P) (w := w) (base := base) T H_bar_holds
  have H_law_frame := ok_law_frame (P := P) (w := w) (base := base) T H_law_draw H_law_title
  have H_law_spoilt := ok_law_spoilt (P := P) (w := w) (base := base) T H_law_draw H_law_of H_law_line
  have H_taking := ok_taking (P := P) (w := w) (base := base) T H_lot_of H_blank H_union H_next_taken
  have H_look := ok_look (P := P) (w := w) (base := base) T H_is_row2 H_lot_of H_tellers_outside H_word_of H_follow_takes H_count_bars
  have H_come := ok_come (P := P) (w := w) (base := base) T H_is_row H_lot_of H_barring H_taking H_tellers_outside
  have H_law_same := ok_law_same (P := P) (w := w) (base := base) T
  exact ok_law T H_come H_look H_law_bag H_law_of H_law_same H_law_frame H_law_size H_law_odd H_law_loose H_law_wanted H_law_free_lines H_law_spoilt H_law_judge
end
/-! ### the top, by names -/
theorem fun_of {K : PySem.W.Frag} {x q : Str} {st : Stmt} {kws : List (Str × V)} {f : Addr} {fd : FuncData} (F : FunD K x q (defArgs st) (defBody st) (defScope st) [] kws f fd) : Fun K x q st f fd := by
  obtain ⟨⟨oc, od, dV, kV, doc, pm, an, cdv, ct, osl, e, l, c, dv, kw⟩, kp⟩ := F
  rcases dv with ⟨_, rfl⟩ | ⟨z, _⟩
  · exact ⟨⟨oc, od, kV, doc, pm, an, cdv, ct, osl, e, l, c⟩, kp⟩
  · exact absurd rfl z
def hFn0 : List He.DefD := [⟨("is_row", none), "is_row", "is_row", defArgs s_is_row, defBody s_is_row, defScope s_is_row, [], []⟩, ⟨("over", none), "over", "over", defArgs s_over, defBody s_over, defScope s_over, [], []⟩, ⟨("lot_of", none), "lot_of", "lot_of", defArgs s_lot_of, defBody s_lot_of, defScope s_lot_of, [], []⟩, ⟨("blank", none), "blank", "blank", defArgs s_blank, defBody s_blank, defScope s_blank, [], []⟩, ⟨("union", none), "union", "union", defArgs s_union, defBody s_union, defScope s_union, [], []⟩, ⟨("outside", none), "outside", "outside", defArgs s_outside, defBody s_outside, defScope s_outside, [], []⟩, ⟨("barring", none), "barring", "barring", defArgs s_barring, defBody s_barring, defScope s_barring, [], []⟩, ⟨("can_be_taken", none), "can_be_taken", "can_be_taken", defArgs s_can_be_taken, defBody s_can_be_taken, defScope s_can_be_taken, [], []⟩, ⟨("next_taken", none), "next_taken", "next_taken", defArgs s_next_taken, defBody s_next_taken, defScope s_next_taken, [], []⟩, ⟨("taking", none), "taking", "taking", defArgs s_taking, defBody s_taking, defScope s_taking, [], []⟩, ⟨("tellers_outside", none), "tellers_outside", "tellers_outside", defArgs s_tellers_outside, defBody s_tellers_outside, defScope s_tellers_outside, [], []⟩, ⟨("come", none), "come", "come", defArgs s_come, defBody s_come, defScope s_come, [], []⟩, ⟨("word_of", none), "word_of", "word_of", defArgs s_word_of, defBody s_word_of, defScope s_word_of, [], []⟩, ⟨("follow_takes", none), "follow_takes", "follow_takes", defArgs s_follow_takes, defBody s_follow_takes, defScope s_follow_takes, [], []⟩, ⟨("bar_holds", none), "bar_holds", "bar_holds", defArgs s_bar_holds, defBody s_bar_holds, defScope s_bar_holds, [], []⟩, ⟨("count_bars", none), "count_bars", "count_bars", defArgs s_count_bars, defBody s_count_bars, defScope s_count_bars, [], []⟩, ⟨("look", none), "look", "look", defArgs s_look, defBody s_look, defScope s_look, [], []⟩, ⟨("_law_bag", none), "_law_bag", "_law_bag", defArgs s_law_bag, defBody s_law_bag, defScope s_law_bag, [], []⟩, ⟨("_law_draw", none), "_law_draw", "_law_draw", defArgs s_law_draw, defBody s_law_draw, defScope s_law_draw, [], []⟩, ⟨("_law_of", none), "_law_of", "_law_of", defArgs s_law_of, defBody s_law_of, defScope s_law_of, [], []⟩]
def hFn1 : List He.DefD := [⟨("_law_mixed", none), "_law_mixed", "_law_mixed", defArgs s_law_mixed, defBody s_law_mixed, defScope s_law_mixed, [], []⟩, ⟨("_law_same", none), "_law_same", "_law_same", defArgs s_law_same, defBody s_law_same, defScope s_law_same, [], []⟩, ⟨("_law_title", none), "_law_title", "_law_title", defArgs s_law_title, defBody s_law_title, defScope s_law_title, [], []⟩, ⟨("_law_frame", none), "_law_frame", "_law_frame", defArgs s_law_frame, defBody s_law_frame, defScope s_law_frame, [], []⟩, ⟨("_law_row", none), "_law_row", "_law_row", defArgs s_law_row, defBody s_law_row, defScope s_law_row, [.int 2], []⟩, ⟨("_law_size", none), "_law_size", "_law_size", defArgs s_law_size, defBody s_law_size, defScope s_law_size, [], []⟩, ⟨("_law_lay", none), "_law_lay", "_law_lay", defArgs s_law_lay, defBody s_law_lay, defScope s_law_lay, [], []⟩, ⟨("_law_lot", none), "_law_lot", "_law_lot", defArgs s_law_lot, defBody s_law_lot, defScope s_law_lot, [], []⟩, ⟨("_law_join", none), "_law_join", "_law_join", defArgs s_law_join, defBody s_law_join, defScope s_law_join, [], []⟩, ⟨("_law_blank", none), "_law_blank", "_law_blank", defArgs s_law_blank, defBody s_law_blank, defScope s_law_blank, [], []⟩, ⟨("_law_is_row", none), "_law_is_row", "_law_is_row", defArgs s_law_is_row, defBody s_law_is_row, defScope s_law_is_row, [], []⟩, ⟨("_law_fresh", none), "_law_fresh", "_law_fresh", defArgs s_law_fresh, defBody s_law_fresh, defScope s_law_fresh, [], []⟩, ⟨("_law_fits", none), "_law_fits", "_law_fits", defArgs s_law_fits, defBody s_law_fits, defScope s_law_fits, [], []⟩, ⟨("_law_odd", none), "_law_odd", "_law_odd", defArgs s_law_odd, defBody s_law_odd, defScope s_law_odd, [], []⟩, ⟨("_law_loose", none), "_law_loose", "_law_loose", defArgs s_law_loose, defBody s_law_loose, defScope s_law_loose, [], []⟩, ⟨("_law_wanted", none), "_law_wanted", "_law_wanted", defArgs s_law_wanted, defBody s_law_wanted, defScope s_law_wanted, [], []⟩, ⟨("_law_free_lines", none), "_law_free_lines", "_law_free_lines", defArgs s_law_free_lines, defBody s_law_free_lines, defScope s_law_free_lines, [], []⟩, ⟨("_law_line", none), "_law_line", "_law_line", defArgs s_law_line, defBody s_law_line, defScope s_law_line, [], []⟩, ⟨("_law_spoilt", none), "_law_spoilt", "_law_spoilt", defArgs s_law_spoilt, defBody s_law_spoilt, defScope s_law_spoilt, [], []⟩, ⟨("_law_bar_next", none), "_law_bar_next", "_law_bar_next", defArgs s_law_bar_next, defBody s_law_bar_next, defScope s_law_bar_next, [], []⟩]
def hFn2 : List He.DefD := [⟨("_law_bar_good", none), "_law_bar_good", "_law_bar_good", defArgs s_law_bar_good, defBody s_law_bar_good, defScope s_law_bar_good, [], []⟩, ⟨("_law_judge", none), "_law_judge", "_law_judge", defArgs s_law_judge, defBody s_law_judge, defScope s_law_judge, [], []⟩, ⟨("law", none), "law", "law", defArgs s_law, defBody s_law, defScope s_law, [], []⟩]
def hFn : List He.DefD := hFn0 ++ hFn1 ++ hFn2
def hFa0 : List He.Fa := [.glo "is_row", .glo "over", .glo "lot_of", .glo "blank", .glo "union", .glo "outside", .glo "barring", .glo "can_be_taken", .glo "next_taken", .glo "taking", .glo "tellers_outside", .glo "come", .glo "word_of", .glo "follow_takes", .glo "bar_holds", .glo "count_bars", .glo "look", .glo "_law_bag", .glo "_law_draw", .glo "_law_of"]
def hFa1 : List He.Fa := [.glo "_law_mixed", .glo "_law_same", .glo "_law_title", .glo "_law_frame", .glo "_law_row", .glo "_law_size", .glo "_law_lay", .glo "_law_lot", .glo "_law_join", .glo "_law_blank", .glo "_law_is_row", .glo "_law_fresh", .glo "_law_fits", .glo "_law_odd", .glo "_law_loose", .glo "_law_wanted", .glo "_law_free_lines", .glo "_law_line", .glo "_law_spoilt", .glo "_law_bar_next"]
def hFa2 : List He.Fa := [.glo "_law_bar_good", .glo "_law_judge", .glo "law", .free "len", .free "all", .free "range", .free "zip", .free "enumerate", .free "isinstance", .free "list", .free "tuple", .free "dict", .free "str", .free "int", .free "bool", .free "abs", .free "max", .free "super", .str "DIGITS" "0123", .str "DOT" "."]
def hFa3 : List He.Fa := [.str "PLUS" "+", .glo "LINE_SIZES"]
def hFa : List He.Fa := hFa0 ++ hFa1 ++ hFa2 ++ hFa3
def hNames0 : List PySem.Str := ["TellsError", "BadRow", "DIGITS", "DOT", "PLUS", "is_row", "over", "lot_of", "blank", "union", "LINE_SIZES", "outside", "barring", "can_be_taken", "next_taken", "taking", "tellers_outside", "come", "word_of", "follow_takes"]
def hNames1 : List PySem.Str := ["bar_holds", "count_bars", "look", "_law_bag", "_law_draw", "_law_of", "_law_mixed", "_law_same", "_law_title", "_law_frame", "_law_row", "_law_size", "_law_lay", "_law_lot", "_law_join", "_law_blank", "_law_is_row", "_law_fresh", "_law_fits", "_law_odd"]
def hNames2 : List PySem.Str := ["_law_loose", "_law_wanted", "_law_free_lines", "_law_line", "_law_spoilt", "_law_bar_next", "_law_bar_good", "_law_judge"]
def hNames : List PySem.Str := hNames0 ++ hNames1 ++ hNames2
abbrev hR : PySem.W.OpenRow := PySem.W.OpenLaw.row PySem.Challenge.rw_newesttells_k07_whole_papers_looked_at
def hTs : List He.Tab := [((fun K => He.ga K "LINE_SIZES"), ["row", "take", "made", "bar", "barred"])]
def hVals_LINE_SIZES : List (PySem.Str × He.Dv) := [("row", .int 2), ("take", .int 2), ("made", .int 1), ("bar", .int 3), ("barred", .int 1)]
def hEx (K : PySem.W.Frag) : Bool := He.valsB K (He.ga K "LINE_SIZES") hVals_LINE_SIZES
theorem hV_LINE_SIZES {K : PySem.W.Frag} (mo : hEx K = true) : ∀ q ∈ ([("row", 2), ("take", 2), ("made", 1), ("bar", 3), ("barred", 1)] : List (PySem.Str × Int)), ∃ u, PySem.W.nsIn K (He.ga K "LINE_SIZES") q.1 = some (some u) ∧ RelV (.int q.2) u := by
  intro q hq
  have key : ∀ p ∈ hVals_LINE_SIZES, ∃ u, PySem.W.nsIn K (He.ga K "LINE_SIZES") p.1 = some (some u) ∧ RelV (p.2.v K) u := fun p hp => He.valsB_ok (show He.valsB K (He.ga K "LINE_SIZES") hVals_LINE_SIZES = true from mo) hp
  simp only [List.mem_cons, List.not_mem_nil, or_false] at hq
  rcases hq with h | h | h | h | h
  · rw [h]; exact key ("row", .int 2) (by simp [hVals_LINE_SIZES])
  · rw [h]; exact key ("take", .int 2) (by simp [hVals_LINE_SIZES])
  · rw [h]; exact key ("made", .int 1) (by simp [hVals_LINE_SIZES])
  · rw [h]; exact key ("bar", .int 3) (by simp [hVals_LINE_SIZES])
  · rw [h]; exact key ("barred", .int 1) (by simp [hVals_LINE_SIZES])
abbrev hHk : PySem.W.Hook := He.hookX 4 hFa hFn hTs [] hEx
def hOb (s : PySem.W.SharedT) : He.AlX := He.obsX 4 hFa hFn hTs [] hEx (HandSHeadRun.getT s)
theorem hOb_eq (s : PySem.W.SharedT) : hOb s = hHk.obs s.abs := He.obsX_eq (HandSHeadRun.getT_eq s)
def wF (w : World) (b : Bool) : World := { w with params := { w.params with followText := fun s => bif s == "special-get-raises" then b else w.params.followText s } }
theorem wF_eq (w : World) : wF w (w.params.followText "special-get-raises") = w := by
  have q : (fun s => bif s == "special-get-raises" then w.params.followText "special-get-raises" else w.params.followText s) = w.params.followText := by
    funext s
    by_cases e : s = "special-get-raises"
    · subst e; rfl
    · have : (s == "special-get-raises") = false := beq_eq_false_iff_ne.mpr e
      rw [this]; rfl
  show ({ w with params := { w.params with followText := (fun s => bif s == "special-get-raises" then w.params.followText "special-get-raises" else w.params.followText s) } } : World) = w
  rw [q]
theorem hRunT (w : World) : HandSHeadRun.RunEq hR (PySem.W.view hR.prog [52]) hHk hOb 4000 hNames (wF w true) := by
  intro os
  kernel_rfl
theorem hRunF (w : World) : HandSHeadRun.RunEq hR (PySem.W.view hR.prog [52]) hHk hOb 4000 hNames (wF w false) := by
  intro os
  kernel_rfl
theorem hRun (w : World) : HandSHeadRun.RunEq hR (PySem.W.view hR.prog [52]) hHk hOb 4000 hNames w := by
  have k : HandSHeadRun.RunEq hR (PySem.W.view hR.prog [52]) hHk hOb 4000 hNames (wF w (w.params.followText "special-get-raises")) := by
    cases w.params.followText "special-get-raises"
    · exact hRunF w
    · exact hRunT w
  rwa [wF_eq] at k
theorem hTxt {K : PySem.W.Frag} {h : Heap} {mg : Str → Option Value} (X : K.In h) (G : h.Ns mainGlobals mg) (c : He.SaysD hFa hFn K) (mo : hEx K = true) : ∃ T : Txt K mg, T.a_LINE_SIZES = He.ga K "LINE_SIZES" ∧ T.a_law = He.ga K "law" ∧ ∀ (s : Shared) (v : Value), BindsTo s T.d_law ⟨[v], []⟩ [("_law_script", v)] := by
  obtain ⟨d0, F0⟩ := c.def_ 0 rfl
  obtain ⟨d1, F1⟩ := c.def_ 1 rfl
  obtain ⟨d2, F2⟩ := c.def_ 2 rfl
  obtain ⟨d3, F3⟩ := c.def_ 3 rfl
  obtain ⟨d4, F4⟩ := c.def_ 4 rfl
  obtain ⟨d5, F5⟩ := c.def_ 5 rfl
  obtain ⟨d6, F6⟩ := c.def_ 6 rfl
  obtain ⟨d7, F7⟩ := c.def_ 7 rfl
  obtain ⟨d8, F8⟩ := c.def_ 8 rfl
  obtain ⟨d9, F9⟩ := c.def_ 9 rfl
  obtain ⟨d10, F10⟩ := c.def_ 10 rfl
  obtain ⟨d11, F11⟩ := c.def_ 11 rfl
  obtain ⟨d12, F12⟩ := c.def_ 12 rfl
  obtain ⟨d13, F13⟩ := c.def_ 13 rfl
  obtain ⟨d14, F14⟩ := c.def_ 14 rfl
  obtain ⟨d15, F15⟩ := c.def_ 15 rfl
  obtain ⟨d16, F16⟩ := c.def_ 16 rfl
  obtain ⟨d17, F17⟩ := c.def_ 17 rfl
  obtain ⟨d18, F18⟩ := c.def_ 18 rfl
  obtain ⟨d19, F19⟩ := c.def_ 19 rfl
  obtain ⟨d20, F20⟩ := c.def_ 20 rfl
  obtain ⟨d21, F21⟩ := c.def_ 21 rfl
  obtain ⟨d22, F22⟩ := c.def_ 22 rfl
  obtain ⟨d23, F23⟩ := c.def_ 23 rfl
  obtain ⟨d24, F24⟩ := c.def_ 24 rfl
  obtain ⟨d25, F25⟩ := c.def_ 25 rfl
  obtain ⟨d26, F26⟩ := c.def_ 26 rfl
  obtain ⟨d27, F27⟩ := c.def_ 27 rfl
  obtain ⟨d28, F28⟩ := c.def_ 28 rfl
  obtain ⟨d29, F29⟩ := c.def_ 29 rfl
  obtain ⟨d30, F30⟩ := c.def_ 30 rfl
  obtain ⟨d31, F31⟩ := c.def_ 31 rfl
  obtain ⟨d32, F32⟩ := c.def_ 32 rfl
  obtain ⟨d33, F33⟩ := c.def_ 33 rfl
  obtain ⟨d34, F34⟩ := c.def_ 34 rfl
  obtain ⟨d35, F35⟩ := c.def_ 35 rfl
  obtain ⟨d36, F36⟩ := c.def_ 36 rfl
  obtain ⟨d37, F37⟩ := c.def_ 37 rfl
  obtain ⟨d38, F38⟩ := c.def_ 38 rfl
  obtain ⟨d39, F39⟩ := c.def_ 39 rfl
  obtain ⟨d40, F40⟩ := c.def_ 40 rfl
  obtain ⟨d41, F41⟩ := c.def_ 41 rfl
  obtain ⟨d42, F42⟩ := c.def_ 42 rfl
  obtain ⟨t0, C0⟩ := He.str_ok X G (c.fact 58 (f := .str "DIGITS" "0123") rfl)
  obtain ⟨t1, C1⟩ := He.str_ok X G (c.fact 59 (f := .str "DOT" ".") rfl)
  obtain ⟨t2, C2⟩ := He.str_ok X G (c.fact 60 (f := .str "PLUS" "+") rfl)
  have b := FunD.bindsA (ps := ["_law_script"]) F42 fun _ _ _ _ _ _ us hl => match us, hl with | [_], _ => rfl
  exact ⟨⟨He.ga K "is_row", d0, He.ga K "over", d1, He.ga K "lot_of", d2, He.ga K "blank", d3,
    He.ga K "union", d4, He.ga K "outside", d5, He.ga K "barring", d6, He.ga K "can_be_taken", d7,
    He.ga K "next_taken", d8, He.ga K "taking", d9, He.ga K "tellers_outside", d10, He.ga K "come", d11,
    He.ga K "word_of", d12, He.ga K "follow_takes", d13, He.ga K "bar_holds", d14, He.ga K "count_bars", d15,
    He.ga K "look", d16, He.ga K "_law_bag", d17, He.ga K "_law_draw", d18, He.ga K "_law_of", d19,
    He.ga K "_law_mixed", d20, He.ga K "_law_same", d21, He.ga K "_law_title", d22, He.ga K "_law_frame", d23,
    He.ga K "_law_row", d24, He.ga K "_law_size", d25, He.ga K "_law_lay", d26, He.ga K "_law_lot", d27,
    He.ga K "_law_join", d28, He.ga K "_law_blank", d29, He.ga K "_law_is_row", d30, He.ga K "_law_fresh", d31,
    He.ga K "_law_fits", d32, He.ga K "_law_odd", d33, He.ga K "_law_loose", d34, He.ga K "_law_wanted", d35,
    He.ga K "_law_free_lines", d36, He.ga K "_law_line", d37, He.ga K "_law_spoilt", d38, He.ga K "_law_bar_next", d39,
    He.ga K "_law_bar_good", d40, He.ga K "_law_judge", d41, He.ga K "law", d42, fun_of F0, He.glo_ok X G (c.fact 0 rfl),
    fun_of F1, He.glo_ok X G (c.fact 1 rfl), fun_of F2, He.glo_ok X G (c.fact 2 rfl), fun_of F3, He.glo_ok X G (c.fact 3 rfl), fun_of F4, He.glo_ok X G (c.fact 4 rfl),
    fun_of F5, He.glo_ok X G (c.fact 5 rfl), fun_of F6, He.glo_ok X G (c.fact 6 rfl), fun_of F7, He.glo_ok X G (c.fact 7 rfl), fun_of F8, He.glo_ok X G (c.fact 8 rfl),
    fun_of F9, He.glo_ok X G (c.fact 9 rfl), fun_of F10, He.glo_ok X G (c.fact 10 rfl), fun_of F11, He.glo_ok X G (c.fact 11 rfl), fun_of F12, He.glo_ok X G (c.fact 12 rfl),
    fun_of F13, He.glo_ok X G (c.fact 13 rfl), fun_of F14, He.glo_ok X G (c.fact 14 rfl), fun_of F15, He.glo_ok X G (c.fact 15 rfl), fun_of F16, He.glo_ok X G (c.fact 16 rfl),
    fun_of F17, He.glo_ok X G (c.fact 17 rfl), fun_of F18, He.glo_ok X G (c.fact 18 rfl), fun_of F19, He.glo_ok X G (c.fact 19 rfl), fun_of F20, He.glo_ok X G (c.fact 20 rfl),
    fun_of F21, He.glo_ok X G (c.fact 21 rfl), fun_of F22, He.glo_ok X G (c.fact 22 rfl), fun_of F23, He.glo_ok X G (c.fact 23 rfl), F24, He.glo_ok X G (c.fact 24 rfl),
    fun_of F25, He.glo_ok X G (c.fact 25 rfl), fun_of F26, He.glo_ok X G (c.fact 26 rfl), fun_of F27, He.glo_ok X G (c.fact 27 rfl), fun_of F28, He.glo_ok X G (c.fact 28 rfl),
    fun_of F29, He.glo_ok X G (c.fact 29 rfl), fun_of F30, He.glo_ok X G (c.fact 30 rfl), fun_of F31, He.glo_ok X G (c.fact 31 rfl), fun_of F32, He.glo_ok X G (c.fact 32 rfl),
    fun_of F33, He.glo_ok X G (c.fact 33 rfl), fun_of F34, He.glo_ok X G (c.fact 34 rfl), fun_of F35, He.glo_ok X G (c.fact 35 rfl), fun_of F36, He.glo_ok X G (c.fact 36 rfl),
    fun_of F37, He.glo_ok X G (c.fact 37 rfl), fun_of F38, He.glo_ok X G (c.fact 38 rfl), fun_of F39, He.glo_ok X G (c.fact 39 rfl), fun_of F40, He.glo_ok X G (c.fact 40 rfl),
    fun_of F41, He.glo_ok X G (c.fact 41 rfl), fun_of F42, He.glo_ok X G (c.fact 42 rfl), He.ga K "LINE_SIZES", He.glo_ok X G (c.fact 61 rfl), hV_LINE_SIZES mo, He.free_ok X G (c.fact 43 rfl),
    He.free_ok X G (c.fact 44 rfl), He.free_ok X G (c.fact 45 rfl), He.free_ok X G (c.fact 46 rfl), He.free_ok X G (c.fact 47 rfl), He.free_ok X G (c.fact 48 rfl), He.free_ok X G (c.fact 49 rfl), He.free_ok X G (c.fact 50 rfl), He.free_ok X G (c.fact 51 rfl),
    He.free_ok X G (c.fact 52 rfl), He.free_ok X G (c.fact 53 rfl), He.free_ok X G (c.fact 54 rfl), He.free_ok X G (c.fact 55 rfl), He.free_ok X G (c.fact 56 rfl), He.free_ok X G (c.fact 57 rfl), t0, C0,
    t1, C1, t2, C2⟩, rfl, rfl, fun s v => b s [v] rfl⟩
theorem hFacts {P : Program} {w : World} {K : PySem.W.Frag} {h : Heap} {mg : Str → Option Value} {f : Addr} (X : K.In h) (G : h.Ns mainGlobals mg) (hfa : mg ("law" : Str) = some (.ref f)) (c : He.SaysX hFa hFn hTs [] hEx w h K) :
    ∃ fd : FuncData, (∀ (s : Shared) (v : Value), BindsTo s fd ⟨[v], []⟩ [("_law_script", v)]) ∧ ∀ base : Heap, K.In base → base.Ns mainGlobals mg → FnOk P w K mg base CX0 7 f fd ["_law_script"] (SpE (Rg_law K)) := by
  obtain ⟨T, e9, e0, hb⟩ := hTxt X G c.t.d c.more
  have e := hfa.symm.trans T.g_law
  cases e
  have td := c.t.tab 0
  exact ⟨T.d_law, hb, fun base _ _ => all_ok T (by rw [e9]; exact ⟨td, tab_none c.t 0 rfl⟩)⟩
theorem hSp {K : PySem.W.Frag} {H : Hp} {a : Addr} {ns : List Int} (hl : ns.length ≤ 63) (hS : SqL K H a (ns.map V.int)) : SpE (Rg_law K) [.ref a] H (fun v _ => v = .bl true) (fun _ _ _ => False) :=
  ⟨⟨H, H, Ex.rfl'⟩, [.scr K ns], fun e => e = .dat (.bl true), rfl, .cons (.scr hS) .nil, ⟨ns, rfl, hl, rfl⟩, fun v e W' _ r p => by subst p; cases r; rfl⟩
end Nt
open PySem PySem.W PySem.Calls PyProof.Rows
theorem PySem.Challenge.cw_newesttells_k07_whole_papers_looked_at_holds : PySem.Challenge.rw_newesttells_k07_whole_papers_looked_at.Holds := by
  w_on; o_law
  refine HandSHeadRun.head_any (r := OpenLaw.row PySem.Challenge.rw_newesttells_k07_whole_papers_looked_at) (q := view (OpenLaw.row PySem.Challenge.rw_newesttells_k07_whole_papers_looked_at).prog [52]) (H := Nt.hHk) (ob := Nt.hOb) (M := 4000) (loose := Nt.hNames) (d := HandSHeadRun.topDef (OpenLaw.row PySem.Challenge.rw_newesttells_k07_whole_papers_looked_at).prog 52) (kwd := []) Nt.hOb_eq
    (by kernel_rfl) (fun s => by kernel_rfl) Nt.hRun (by kernel_rfl) (by kernel_rfl) (by kernel_rfl) (by rfl) (by first | assumption | decide +kernel) (by decide +kernel) ⟨rfl, rfl, rfl, rfl, rfl, by decide +kernel⟩ ?hw ?hc
  case hw => w_witness2
  case hc =>
    refine L2.walk_ofE (l := PySem.Challenge.rw_newesttells_k07_whole_papers_looked_at) (n := 63) (k := 7) (x := "_law_script") (CX := L2.CX0) rfl (by decide) (by kernel_rfl) ⟨rfl, by decide, by decide⟩ ?F (fun _ _ _ _ z => z)
    intro w mg fa h Y G hmg0
    obtain ⟨K, KX, c⟩ := Y
    have hmg : mg ("law" : PySem.Str) = some (.ref fa) := by
      have e : (HandSHeadRun.topDef (OpenLaw.row PySem.Challenge.rw_newesttells_k07_whole_papers_looked_at).prog 52).name = ("law" : PySem.Str) := by kernel_rfl
      rw [← e]
      exact hmg0
    obtain ⟨fd, hb, hF⟩ := Nt.hFacts (P := (PySem.Challenge.rw_newesttells_k07_whole_papers_looked_at).prog) (w := w) KX G hmg c
    exact ⟨K, fd, Nt.SpE (Nt.Rg_law K), KX, hb, fun H a ns hl _ hS => Nt.hSp hl hS, hF⟩

