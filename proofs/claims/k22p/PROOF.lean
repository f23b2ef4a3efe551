import PyProof.Rows.All
import Wide.All
import OpenK.AllK
import Wide.FinOn
import HandS.ForMost
import HandS.ForExc
import HandS.Walk
import HandS.Zip
import HandS.CallSlots
import HandS.Conv
import HandS.TupAny
import HandS.TupMul
import HandS.Style
import KE.GoesNew
import KE.GoesMore
import KE.KDictZip
import KE.KItemsList
import KE.GoesEnum
import HandS.GenList
import HandS.IsInst
import HandS.TryMany
import HandS.Wide
import HandS.SortKw
import HandS.SortInts
import HandS.Lambda
import HandS.RaiseMore
import KE.KExcInit
import HandS.EndTab
import HandS.SetFor
import PyProof.TupleOfSeq
import KE.KTupSum
import KE.KMathG
import KE.KMathGC
import PyProof.StrOps2
import HandS.Property
import HandS.MakeKw
import HandS.WideBits
import HandS.Flt
import KE.DataMinMax
import HandS.NamedTupSort
import HandS.Strs
import PyProof.FactsAll.list_3
import PyProof.FactsAll.tuple_0
import PyProof.FactsAll.tuple_2
import HandS.OwnEq
import HandS.GenYield
import PyProof.P3In
import KE.RegKIsAll
import PySem.Challenge.RW_hookstrips_k22_errors_of_words
set_option Elab.async false
set_option linter.all false
set_option maxRecDepth 100000
set_option maxHeartbeats 4000000
/-! FL: tuples whose object is known (so that their methods can be called): what makes them. -/
namespace FM
open PySem PySem.Spec PyProof.Rows L2 RZ
/-- a tuple whose object is known, and has no dict -/
def StrT (H : Hp) (a : Addr) (vs : List V) : Prop := ∃ o : Obj, H a = some (.frz o (.tup vs)) ∧ o.dict = none
/-- the object of a new tuple -/
abbrev tObj (its : List Value) : Obj := { cls := .type "tuple", data := .seq its.toArray }
theorem StrT.sq {K : PySem.W.Frag} {H : Hp} {a : Addr} {vs : List V} (h : StrT H a vs) : SqT K H a vs := let ⟨o, e, _⟩ := h; .inl (.inr ⟨o, e⟩)
theorem ok_known {P : Program} {w : World} {H : Hp} {h : Heap} {a : Addr} {xs : List V} {its : List Value} (z : xs.length ≤ sizeLine) (r : Vals xs its) (e : h.get? a = some (tObj its)) : ObjOk P w H h a (.frz (tObj its) (.tup xs)) :=
  ⟨e, z, its, r, ⟨_, e, rfl, _, rfl⟩⟩
section
variable {X : Cx} {pins : List (Addr × Obj)} {σ : L2.St} {H : Hp} {s : Shared} {Q : VK}
/-- a new tuple at the heap's end -/
theorem ep_newT {its : List Value} {xs : List V} {tk : Nat} (I : L2.Inv X pins σ H s) (z : xs.length ≤ sizeLine) (r : Vals xs its) (q : ∀ p (o : Obj), H p = none → o.dict = none → Q (.ref p) (upd H p (.frz o (.tup xs)))) :
    EP X pins σ Q (.ref s.heap.objs.size) { s with heap := s.heap.push (tObj its), toks := tk } :=
  ⟨.ref s.heap.objs.size, _, I.laid (t' := tk) (o := .frz (tObj its) (.tup xs)) (fun b u e => Heap.get?_push_of_some _ e) (Nat.le_refl _) (ok_known z r (Heap.get?_push_size _ rfl)), rfl, q _ _ (I.hok.fresh (Nat.le_refl _)) rfl⟩
end
theorem vals_at : ∀ {xs : List V} {us : List Value} {i : Nat} {v : Value}, Vals xs us → us[i]? = some v → ∃ u, xs[i]? = some u ∧ RelV u v
  | [], us, i, v, r, h => by
    have : us = [] := List.eq_nil_of_length_eq_zero r.length.symm
    rw [this] at h
    simp at h
  | x :: xs, us, i, v, r, h => by
    cases r with
    | cons r1 r2 =>
      cases i with
      | zero => simp at h; subst h; exact ⟨x, rfl, r1⟩
      | succ i =>
        obtain ⟨u, h1, h2⟩ := vals_at (i := i) r2 (by simpa using h)
        exact ⟨u, by simpa using h1, h2⟩
section
variable {X : Cx} {es : List Expr} {t : TA} {pos : Pos}
def tTupZ (t : TA) : TE := fun σ H Q => t σ H fun xs H1 => xs.length ≤ sizeLine ∧ ∀ p (o : Obj), H1 p = none → o.dict = none → Q (.ref p) (upd H1 p (.frz o (.tup xs)))
theorem pe_tupZ {x1} (h : PA X es t) : PE X (.Tuple es x1 pos) (tTupZ t) := by
  refine ⟨fun pins s σ H Q I hq => ?_⟩
  exact wpAny_Tuple_spliced (thn (h.run pos pins s σ H _ I hq) fun us s1 ⟨xs, H1, I1, r, z, q⟩ => ⟨by rw [← r.length]; exact z, ep_newT (tk := s1.toks) I1 z r q⟩)
def rCatZ (K : PySem.W.Frag) : R2 := fun x y H Q => ∃ a b xs ys, x = .ref a ∧ y = .ref b ∧ SqT K H a xs ∧ SqT K H b ys ∧ xs.length + ys.length ≤ sizeLine ∧
  (xs = [] → Q (.ref b) H) ∧ (xs ≠ [] → ys = [] → Q (.ref a) H) ∧ (xs ≠ [] → ys ≠ [] → ∀ p (o : Obj), H p = none → o.dict = none → Q (.ref p) (upd H p (.frz o (.tup (xs ++ ys)))))
theorem op_catZ : OpR X (binaryOp .Add) (rCatZ X.K) := by
  intro pins s σ H x y v u Q I rx ry h
  obtain ⟨a, b, xs, ys, rfl, rfl, ha, hb, hz, q0, q1, q2⟩ := h
  by_cases hx : xs = []
  · subst hx
    cases rx
    cases ry
    obtain ⟨its, r1, p1, _⟩ := I.tuple ha
    obtain ⟨its2, r2, p2, _⟩ := I.tuple hb
    cases r1
    exact cat_tup0 p1 p2 ⟨.ref b, H, I, rfl, q0 rfl⟩
  · cases rx
    cases ry
    obtain ⟨its, r1, p1, _⟩ := I.tuple ha
    obtain ⟨its2, r2, p2, _⟩ := I.tuple hb
    refine HT.cat_tup p1 p2 (fun z => hx (r1.nil_iff.mp z)) (fun z => ⟨.ref a, H, I, rfl, q1 hx (r2.nil_iff.mp z)⟩) (fun z => ?_) (by rw [← r1.length, ← r2.length]; exact hz)
    exact ep_newT (tk := s.toks) I (by rw [List.length_append]; exact hz) (r1.append r2) (q2 hx fun w => z (r2.nil_iff.mpr w))
def rSlZ (K : PySem.W.Frag) : V → Option Int → Option Int → Hp → VK → Prop := fun x lo hi H Q => ∃ a xs, x = .ref a ∧ SqT K H a xs ∧
  (HT.sIx xs.length 0 lo = 0 ∧ HT.sIx xs.length xs.length hi = xs.length → Q (.ref a) H) ∧ (¬ (HT.sIx xs.length 0 lo = 0 ∧ HT.sIx xs.length xs.length hi = xs.length) → ∀ p (o : Obj), H p = none → o.dict = none → Q (.ref p) (upd H p (.frz o (.tup (cutV xs lo hi)))))
theorem sl_tupZ : SlR X (rSlZ X.K) := by
  intro pins s σ H x v vl vu lo hi sl Q I rx hs pl pu h
  obtain ⟨a, xs, rfl, hx, q1, q2⟩ := h
  cases rx
  obtain ⟨its, r, ht, hz⟩ := I.tuple hx
  have hlen : its.toArray.size = xs.length := by rw [List.size_toArray]; exact r.length.symm
  refine ⟨"tuple", _, PyProof.Rows.slot_tuple_getitem.lookup, ht.typeIs, ?_⟩
  by_cases hw : HT.sIx xs.length 0 lo = 0 ∧ HT.sIx xs.length xs.length hi = xs.length
  · exact getItem_tuple_whole ht hs pl pu (by rw [hlen]; exact hw) ⟨.ref a, H, I, rfl, q1 hw⟩
  · refine HT.getItem_tuple_cut ht hs pl pu (by rw [hlen]; exact hw) ?_ (by rw [hlen]; exact hz)
    rw [hlen]
    exact ep_newT (tk := s.toks) I (Nat.le_trans (cutV_length xs lo hi) hz) ((r.drop (HT.sIx xs.length 0 lo)).take (HT.sIx xs.length xs.length hi - HT.sIx xs.length 0 lo)) (q2 hw)
def rRepZ (K : PySem.W.Frag) : R2 := fun x y H Q => ∃ l k xs, x = .ref l ∧ y = .int k ∧ SqT K H l xs ∧ xs ≠ [] ∧ 2 ≤ k ∧ k ≤ 1000 ∧ xs.length ≤ 1000 ∧ ∀ p (o : Obj), H p = none → o.dict = none → Q (.ref p) (upd H p (.frz o (.tup (List.replicate k.toNat xs).flatten)))
theorem op_repZ : OpR X (binaryOp .Mult) (rRepZ X.K) := by
  intro pins s σ H x y v u Q I rx ry h
  obtain ⟨l, k, xs, rfl, rfl, hT, hne, h1, h2, hz, q⟩ := h
  cases rx
  obtain ⟨t, rfl⟩ := ry
  obtain ⟨its, r, ⟨⟨cls, dd, data, sl⟩, ho, hc, n, hd⟩, hs⟩ := I.tuple hT
  simp only at hc hd
  subst hc hd
  have hle : its.length = xs.length := r.length.symm
  have hn : its ≠ [] := fun e => hne (by
    rw [e] at hle
    exact List.eq_nil_of_length_eq_zero hle.symm)
  have hi : its.toArray.isEmpty = false := by
    cases its with
    | nil => exact absurd rfl hn
    | cons a b => rfl
  have hsz0 : its.toArray.size = xs.length := by rw [List.size_toArray, hle]
  have hm : ((its.toArray.size : Nat) : Int) * k ≤ 1000000 := by
    rw [hsz0]
    have a1 : ((xs.length : Nat) : Int) * k ≤ 1000 * k := Int.mul_le_mul_of_nonneg_right (by omega) (by omega)
    omega
  have flen : (List.replicate k.toNat its).flatten.length ≤ sizeLine := by
    rw [PyProof.Rows.lm_len_rep_flat, hle, sizeLine_eq]
    have a1 : k.toNat * xs.length ≤ 1000 * 1000 := Nat.mul_le_mul (by omega) hz
    omega
  have c0 : (decide (k < -(2 ^ 63)) || decide (k ≥ 2 ^ 63)) = false := by
    rw [decide_eq_false (by omega), decide_eq_false (by omega)] <;> rfl
  have c1 : (its.toArray.isEmpty || k == 1) = false := by
    rw [hi, Bool.false_or]
    exact beq_eq_false_iff_ne.mpr (by omega)
  have c2 : (decide (k ≤ 0) || its.toArray.isEmpty) = false := by
    rw [hi, Bool.or_false]
    exact decide_eq_false (by omega)
  have c4 : Builtin.Tuple.tupleTooMany (((its.toArray.size : Nat) : Int) * k) = false := by
    unfold Builtin.Tuple.tupleTooMany
    rw [sizeLine_eq]
    exact decide_eq_false (by omega)
  refine wpAny_binaryOp_repeat_ref (T := "tuple") (U := "int") (by decide) ⟨_, ho, rfl⟩ (fun s' => typeIs_int s' k t) noFill_tuple_mul F.fills_int_mul F.slot_int_rmul repeat_tuple F.slot_int_index.lookup
    (call_meets F.slot_int_rmul (typeIs_int s k t) F.entry_int_rmul (F.args_int_rmul_2 _ _) (int_rmul_tuple k t l its.toArray n dd sl)
      ⟨ho, rfl, ⟨_, ho, rfl⟩, call_meets F.slot_tuple_mul ⟨_, ho, rfl⟩ F.entry_tuple_mul (F.args_tuple_mul_2 _ _) (tuple_mulW l its.toArray n dd sl k t c0 c1 c2 (by omega) c4 (by rw [size_rep, List.size_toArray]; exact flen)) ⟨ho, ?_⟩⟩)
  rw [size_rep]
  exact ep_newT (tk := s.toks) I (by rw [PyProof.Rows.lm_len_rep_flat, sizeLine_eq]; have a1 : k.toNat * xs.length ≤ 1000 * 1000 := Nat.mul_le_mul (by omega) hz; omega) (r.rep k.toNat) q
theorem call_tupleZ : CallR X (.type "tuple") (fun xs H Q => ∃ p ys, xs = [.ref p] ∧ ((SqL X.K H p ys ∧ ∀ l (o : Obj), H l = none → o.dict = none → Q (.ref l) (upd H l (.frz o (.tup ys)))) ∨ (SqT X.K H p ys ∧ Q (.ref p) H))) := by
  intro pins s σ H xs us Q I r h
  obtain ⟨p, ys, rfl, h⟩ := h
  obtain ⟨u, rfl, rx⟩ := vals1 r
  cases rx
  rcases h with ⟨hq, q⟩ | ⟨hq, q⟩
  · obtain ⟨its, r', pl, hz⟩ := I.list hq
    have hlen := r'.length
    refine call_tuple_list pl.isList (fun h' kp => ?_) (by simp only [List.size_toArray] <;> omega)
    have I1 : L2.Inv X pins σ H { s with heap := h' } := I.kept (t' := s.toks) kp
    exact ep_newT (tk := s.toks) I1 hz r' q
  · obtain ⟨its, r', pl, hz⟩ := I.tuple hq
    exact call_tuple_same pl ⟨.ref p, H, I, rfl, q⟩
end
/-! ### methods of texts, lists and such tuples by one name -/
def tyZ (K : PySem.W.Frag) (T : String) (x : V) (H : Hp) : Prop := tyV K T x H ∨ (T = "tuple" ∧ ∃ p vs, x = .ref p ∧ StrT H p vs)
theorem tyZ_is {X : Cx} {pins : List (Addr × Obj)} {σ : L2.St} {H : Hp} {s : Shared} {T : String} {x : V} {v : Value} (I : L2.Inv X pins σ H s) (r : RelV x v) (ty : tyZ X.K T x H) : s.TypeIs v T ∧ ∀ a, v = .ref a → ∃ ob, s.heap.get? a = some ob ∧ ob.dict = none := by
  rcases ty with ty | ⟨rfl, p, vs, rfl, o, e, d⟩
  · exact tyV_is I r ty
  · cases r
    obtain ⟨e2, _, its, _, ob, e3, c, _⟩ := I.hok p _ e
    rw [e2] at e3
    cases e3
    refine ⟨⟨o, e2, c⟩, fun a q => ?_⟩
    cases q
    exact ⟨o, e2, d⟩
/-- a method's name, as one of these types has it -/
def MtOf (X : Cx) (name : Str) (T : String) (r : V → List V → Hp → VK → Prop) : Prop := ∃ id, PlainAttrs T ∧ Slot T name id ∧ typeOf (.builtin id) = pure (.type "method_descriptor") ∧ MtR X id r
def tBMZ (X : Cx) (name : Str) (to : TE) (t : TA) : TE := fun σ H Q => to σ H fun x H1 => ∃ T r, MtOf X name T r ∧ tyZ X.K T x H1 ∧ t σ H1 fun xs H2 => r x xs H2 Q
theorem pe_bmZ {X : Cx} {o e : Expr} {es : List Expr} {to : TE} {t : TA} {name : Str} {apos cpos : Pos} (ho : PE X o to) (ha : PA X (e :: es) t)
    (hbase : attributeBase o name X.env (eval o X.env) = eval o X.env := by rfl)
    (hfew : ((backTo cpos (starEach (e :: es) X.env)).all (fun x => !x.1) && (backToKw cpos (keywordEach [] X.env)).all (fun x => x.1.isSome)
      && decide ((e :: es).length + ([] : List Keyword).length + (if ([] : List Keyword).isEmpty then 0 else 1) < 30)) = true := by rfl)
    (hline : (apos.endLine == cpos.line) = true := by rfl) (hs : starEach (e :: es) X.env = (false, eval e X.env) :: starEach es X.env := by rfl) (hplain : (backTo cpos (starEach es X.env)).any (·.1) = false := by rfl) :
    PE X (.Call (.Attribute o name apos) (e :: es) [] cpos) (tBMZ X name to t) := by
  refine ⟨fun pins s σ H Q I h => ?_⟩
  refine wpAny_Call_method_late hbase hfew hline rfl (thn (ho.run pins s σ H _ I h) fun v s1 ⟨x, H1, I1, r1, T, r, ⟨id, pa, slot, hty, hm⟩, ty, q1⟩ => ?_)
  obtain ⟨h1, h2⟩ := tyZ_is I1 r1 ty
  refine ⟨T, id, pa, slot, hty, h1, h2, ?_⟩
  have hA := ha.run cpos pins s1 σ H1 _ I1 q1
  rw [hs] at hA ⊢
  refine Calls.callWith_builtin (by show (false || (backTo cpos (starEach es X.env)).any (·.1)) = false; rw [hplain] <;> rfl) (Calls.evalArgs_plain ?_)
  exact thn hA fun us s2 ⟨vs, H2, I2, r2, q2⟩ => hm pins s2 σ H2 x vs v us Q I2 r1 r2 q2
/-! ### zip of any two of lists and tuples -/
def SqB (K : PySem.W.Frag) (b : Bool) (H : Hp) (a : Addr) (xs : List V) : Prop := match b with
  | true => SqT K H a xs
  | false => SqL K H a xs
/-- a walk over one of these: its object, its state -/
def itObj (b : Bool) (a : Addr) (i : Nat) : Obj := match b with
  | true => { cls := .type "tuple_iterator", data := .fields #[.ref a, .int i 0] }
  | false => { cls := .type "list_iterator", data := .fields #[.ref a, .int i 0] }
def IterB (b : Bool) (h : Heap) (it a : Addr) (i : Nat) : Prop := match b with
  | true => h.IsTupleIter it a i
  | false => h.IsListIter it a i
def ItemsB (b : Bool) (h : Heap) (a : Addr) (its : Array Value) : Prop := match b with
  | true => h.IsTuple a its
  | false => h.IsList a its
theorem drawsB {prog : Program} {w : World} {A : Around} (b : Bool) (hh : A.handled = none) (it a : Addr) (hne : a ≠ it) (its : Array Value) : Draws prog w A it [it, a] its.size (fun i v => its[i]? = some v) (fun i h => IterB b h it a i ∧ ItemsB b h a its) := by
  cases b
  · exact Draws.list hh it a hne its
  · exact Draws.tuple hh it a hne its
theorem beginsB (b : Bool) (a : Addr) (its : Array Value) : Begins (.ref a) (itObj b a 0) fun h => ItemsB b h a its := by
  cases b
  · exact begins_list a its
  · exact begins_tuple a its
theorem iterB_at {b : Bool} {h h' : Heap} {it a : Addr} {i : Nat} (x : IterB b h it a i) (k : ∀ o, h.get? it = some o → h'.get? it = some o) : IterB b h' it a i := by
  cases b
  · exact Heap.IsListIter.at x k
  · exact Heap.IsTupleIter.at x k
theorem iterB_obj {b : Bool} {h : Heap} {it a : Addr} {i : Nat} (x : IterB b h it a i) : ∃ o, h.get? it = some o ∧ ∀ v, o.data ≠ .cell v := by
  cases b
  · obtain ⟨o, e, _, d⟩ := (x : h.IsListIter it a i)
    exact ⟨o, e, fun v q => by rw [d] at q; cases q⟩
  · obtain ⟨o, e, _, d⟩ := (x : h.IsTupleIter it a i)
    exact ⟨o, e, fun v q => by rw [d] at q; cases q⟩
theorem iterB_new {b : Bool} {h : Heap} {it a : Addr} (e : h.get? it = some (itObj b a 0)) : IterB b h it a 0 := by
  cases b
  · exact ⟨_, e, rfl, rfl⟩
  · exact ⟨_, e, rfl, rfl⟩
theorem itemsB_of {X : Cx} {pins : List (Addr × Obj)} {σ : L2.St} {H : Hp} {s : Shared} {b : Bool} {a : Addr} {xs : List V} (I : L2.Inv X pins σ H s) (h : SqB X.K b H a xs) : ∃ its : List Value, Vals xs its ∧ ItemsB b s.heap a its.toArray ∧ ∃ o, s.heap.get? a = some o := by
  cases b
  · obtain ⟨its, r, p, _⟩ := I.list h
    obtain ⟨o, e, _⟩ := id p.isList
    exact ⟨its, r, p.isList, o, e⟩
  · obtain ⟨its, r, p, _⟩ := I.tuple h
    obtain ⟨o, e, _⟩ := id p
    exact ⟨its, r, p, o, e⟩
theorem sqB_inj {X : Cx} {pins : List (Addr × Obj)} {σ : L2.St} {H : Hp} {s : Shared} {b : Bool} {a : Addr} {xs ys : List V} (I : L2.Inv X pins σ H s) (h : SqB X.K b H a xs) (h' : SqB X.K b H a ys) : xs = ys := by
  cases b
  · exact I.list_inj h h'
  · exact I.tuple_inj h h'
def ItzB (K : PySem.W.Frag) (p q : Bool) (a b : Addr) : It :=
  ⟨fun i H => ∃ (xs ys : List V), SqB K p H a xs ∧ SqB K q H b ys ∧ i < min xs.length ys.length,
    fun i H v H' => ∃ T x y, ∃ o : Obj, v = .ref T ∧ H T = none ∧ o.dict = none ∧ H' = upd H T (.frz o (.tup [x, y])) ∧ (∀ xs, SqB K p H a xs → xs[i]? = some x) ∧ ∀ ys, SqB K q H b ys → ys[i]? = some y,
    fun i H => ∃ xs ys : List V, SqB K p H a xs ∧ SqB K q H b ys ∧ i = min xs.length ys.length⟩
structure ZipFar (z TI TO i1 i2 a b : Addr) : Prop where
  sep : ZipSep2 z TI TO i1 i2 [i1, a] [i2, b]
  ai : a ≠ i1
  bi : b ≠ i2
theorem turn_zipB {P : Program} {w : World} {K : PySem.W.Frag} {elts : List Expr} {kk : Nat} {tpos : Pos} {p q : Bool} {a b z TI TO i1 i2 : Addr} (D : ZipFar z TI TO i1 i2 a b) :
    Turn P w K (.Tuple elts kk tpos) (ItzB K p q a b) [z, TI, TO, i1, i2] z (fun i h => IsZip h z TI TO .none ∧ IsTupOf2 h TI (.ref i1) (.ref i2) ∧ (∃ x y, IsTupOf2 h TO x y) ∧ IterB p h i1 a i ∧ IterB q h i2 b i) where
  mem := by simp
  obj := fun i h st c hc => by
    obtain ⟨hz, hTI, ⟨x, y, hTO⟩, h1, h2⟩ := st
    have e' : c = z ∨ c = TI ∨ c = TO ∨ c = i1 ∨ c = i2 := by simpa using hc
    rcases e' with e | e | e | e | e
    · rw [e]; exact ⟨_, hz, fun v r => nomatch r⟩
    · rw [e]; exact ⟨_, hTI, fun v r => nomatch r⟩
    · rw [e]; exact ⟨_, hTO, fun v r => nomatch r⟩
    · rw [e]; exact iterB_obj h1
    · rw [e]; exact iterB_obj h2
  keep := fun i h h' st k => by
    obtain ⟨hz, hTI, ⟨x, y, hTO⟩, h1, h2⟩ := st
    exact ⟨k z (by simp) _ hz, k TI (by simp) _ hTI, ⟨x, y, k TO (by simp) _ hTO⟩, iterB_at h1 fun o r => k i1 (by simp) o r, iterB_at h2 fun o r => k i2 (by simp) o r⟩
  item := by
    intro X hP hw hK hc i pins s σ H E I hf st hg
    subst hP hw hK
    obtain ⟨hz, hTI, ⟨x0, y0, hTO⟩, h1, h2⟩ := st
    obtain ⟨xs, ys, hx, hy, hi⟩ := hg
    obtain ⟨us, rv, ps, o1, ho1⟩ := itemsB_of I hx
    obtain ⟨ws, rw2, qs, o2, ho2⟩ := itemsB_of I hy
    have S := D.sep
    have D1 := drawsB (prog := X.prog) (w := X.w) (A := X.A.in1) p (I.ok.hd hc) i1 a D.ai us.toArray
    have D2 := drawsB (prog := X.prog) (w := X.w) (A := X.A.in1) q (I.ok.hd hc) i2 b D.bi ws.toArray
    have li : i < us.toArray.size := by rw [List.size_toArray, ← rv.length]; omega
    have li2 : i < ws.toArray.size := by rw [List.size_toArray, ← rw2.length]; omega
    refine wpAny_pyNext_zipD2_item S D1 D2 hz hTI hTO ⟨h1, ps⟩ ⟨h2, qs⟩ li li2 fun u u2 h' tk e1 e2 b1 b2 d1 d2 hT hsz hk => ?_
    obtain ⟨x, hx1, ru⟩ := vals_at rv (by simpa using e1)
    obtain ⟨y, hy1, ru2⟩ := vals_at rw2 (by simpa using e2)
    have lz : z < s.heap.objs.size := Heap.lt_size hz
    have lTI : TI < s.heap.objs.size := Heap.lt_size hTI
    have lTO : TO < s.heap.objs.size := Heap.lt_size hTO
    have l1 : i1 < s.heap.objs.size := by obtain ⟨_, e, _⟩ := iterB_obj h1; exact Heap.lt_size e
    have l2 : i2 < s.heap.objs.size := by obtain ⟨_, e, _⟩ := iterB_obj h2; exact Heap.lt_size e
    refine ⟨_, rfl, wpAny_letOwnedTupleGo_zip (s := { s with heap := h', toks := tk }) b1 fun h2' hz' sb => ?_⟩
    have hT2 : h2'.get? s.heap.objs.size = some (tObj [u, u2]) := (sb.2 _ (Nat.ne_of_gt lz)).trans hT
    have new : ObjOk X.prog X.w (upd H s.heap.objs.size (.frz (tObj [u, u2]) (.tup [x, y]))) h2' s.heap.objs.size (.frz (tObj [u, u2]) (.tup [x, y])) :=
      ok_known (by show 2 ≤ sizeLine; decide) (.cons ru (.cons ru2 .nil)) hT2
    have hkk : ∀ c o, c ∉ [z, TI, TO, i1, i2] → s.heap.get? c = some o → h2'.get? c = some o := fun c o hb r => by
      have hb' : c ≠ z ∧ c ≠ TI ∧ c ≠ TO ∧ c ≠ i1 ∧ c ≠ i2 := by simpa using hb
      exact (sb.2 c hb'.1).trans (hk c o hb'.1 hb'.2.2.1 hb'.2.2.2.1 hb'.2.2.2.2 r)
    have I1 : L2.Inv X pins σ (upd H s.heap.objs.size (.frz (tObj [u, u2]) (.tup [x, y]))) { s with heap := h2', toks := tk } :=
      I.turnedNew (t' := tk) (ch := [z, TI, TO, i1, i2]) hkk hf (Nat.le_refl _) new
    refine ⟨.ref s.heap.objs.size, _, I1, rfl, ⟨_, x, y, _, rfl, I.hok.fresh (Nat.le_refl _), rfl, rfl, fun l hl => by rw [sqB_inj I hl hx]; exact hx1, fun l hl => by rw [sqB_inj I hl hy]; exact hy1⟩, ⟨hz', ?_, ⟨_, _, (sb.2 _ S.TOz).trans b2⟩, iterB_at d1.1 fun o r => (sb.2 _ S.zi1.symm).trans r, iterB_at d2.1 fun o r => (sb.2 _ S.zi2.symm).trans r⟩, fun c hcm => ?_⟩
    · exact (sb.2 _ S.TIz).trans (hk _ _ S.TIz S.TITO S.TIi1 S.TIi2 hTI)
    · have lt : c < s.heap.objs.size := by
        have e' : c = z ∨ c = TI ∨ c = TO ∨ c = i1 ∨ c = i2 := by simpa using hcm
        rcases e' with r | r | r | r | r <;> rw [r] <;> assumption
      rw [upd_ne (Nat.ne_of_lt lt)]
      exact (hf c hcm).1
  done := by
    intro X hP hw hK hc i pins s σ H E I hf st hg
    subst hP hw hK
    obtain ⟨hz, hTI, hTO, h1, h2⟩ := st
    obtain ⟨xs, ys, hx, hy, hi⟩ := hg
    obtain ⟨us, rv, ps, o1, ho1⟩ := itemsB_of I hx
    obtain ⟨ws, rw2, qs, o2, ho2⟩ := itemsB_of I hy
    have W := GoesN.zip2 (elts := elts) (x1 := kk) (pos := tpos) D.sep (drawsB (prog := X.prog) (w := X.w) (A := X.A.in1) p (I.ok.hd hc) i1 a D.ai us.toArray) (drawsB (prog := X.prog) (w := X.w) (A := X.A.in1) q (I.ok.hd hc) i2 b D.bi ws.toArray)
    have hn : i = min us.toArray.size ws.toArray.size := by rw [List.size_toArray, List.size_toArray, ← rv.length, ← rw2.length]; exact hi
    rw [hn] at h1 h2
    refine W.stops s _ _ ⟨hz, hTI, hTO, ⟨h1, ps⟩, ⟨h2, qs⟩⟩ fun h' tk hk htk => ?_
    exact I.turnedL (t' := tk) (ch := [z, TI, TO, i1, i2]) (fun c o hb r => hk c o (fun m => hb (by
        have m : c = z ∨ c = TO ∨ c = i1 ∨ c = i2 := by simpa using m
        rcases m with m | m | m | m <;> simp [m])) r) hf
  self := fun A i s Q E st h => wpAny_pyIter_zip st.1 h
/-! ### enumerate -/
def ItnB (K : PySem.W.Frag) (p : Bool) (a : Addr) : It :=
  ⟨fun i H => ∃ xs : List V, SqB K p H a xs ∧ i < xs.length,
    fun i H v H' => ∃ T x, ∃ o : Obj, v = .ref T ∧ H T = none ∧ o.dict = none ∧ H' = upd H T (.frz o (.tup [.int (i : Nat), x])) ∧ ∀ xs, SqB K p H a xs → xs[i]? = some x,
    fun i H => ∃ xs : List V, SqB K p H a xs ∧ i = xs.length⟩
theorem turn_enumB {P : Program} {w : World} {K : PySem.W.Frag} {elts : List Expr} {kk : Nat} {tpos : Pos} {p : Bool} (a e it : Addr) :
    Turn P w K (.Tuple elts kk tpos) (ItnB K p a) [e, it] e (fun i h => (∃ old, IsEnum h e it ((i : Nat) : Int) old) ∧ IterB p h it a i ∧ e ≠ it ∧ e ≠ a ∧ a ≠ it) where
  mem := by simp
  obj := fun i h st b hb => by
    obtain ⟨⟨old, he⟩, h1, _⟩ := st
    have e' : b = e ∨ b = it := by simpa using hb
    rcases e' with z | z
    · rw [z]; exact ⟨_, he, fun v q => nomatch q⟩
    · rw [z]; exact iterB_obj h1
  keep := fun i h h' st k => let ⟨⟨old, he⟩, hi, hne⟩ := st; ⟨⟨old, k e (by simp) _ he⟩, iterB_at hi fun o q => k it (by simp) o q, hne⟩
  item := by
    intro X hP hw hK hc i pins s σ H E I hf st hg
    subst hP hw hK
    obtain ⟨⟨old, he⟩, hit, hne, hea, hai⟩ := st
    obtain ⟨xs, hq, hi⟩ := hg
    obtain ⟨us, rv, ps, o1, ho1⟩ := itemsB_of I hq
    have hel : e < s.heap.objs.size := Heap.lt_size he
    have hil : it < s.heap.objs.size := by obtain ⟨_, q, _⟩ := iterB_obj hit; exact Heap.lt_size q
    have hlt : i < us.toArray.size := by rw [List.size_toArray, ← rv.length]; exact hi
    refine wpAny_pyNext_enum_itemC (drawsB (prog := X.prog) (w := X.w) (A := X.A.in1) p (I.ok.hd hc) it a hai us.toArray) he ⟨hit, ps⟩ hlt hne (by simp [hne, hea]) fun y h' tk hy ho st' hT hsz hk => ?_
    obtain ⟨x, hx, ru⟩ := vals_at rv (by simpa using hy)
    refine ⟨_, rfl, wpAny_letOwnedTupleGo_enum (s := { s with heap := h', toks := tk + 1 }) ho fun h'' he' sb => ?_⟩
    have hT2 : h''.get? s.heap.objs.size = some (tObj [.int (i : Nat) tk, y]) := (sb.2 _ (Nat.ne_of_gt hel)).trans hT
    have new : ObjOk X.prog X.w (upd H s.heap.objs.size (.frz (tObj [.int (i : Nat) tk, y]) (.tup [.int (i : Nat), x]))) h'' s.heap.objs.size (.frz (tObj [.int (i : Nat) tk, y]) (.tup [.int (i : Nat), x])) :=
      ok_known (by show 2 ≤ sizeLine; decide) (.cons ⟨_, rfl⟩ (.cons ru .nil)) hT2
    have I1 : L2.Inv X pins σ (upd H s.heap.objs.size (.frz (tObj [.int (i : Nat) tk, y]) (.tup [.int (i : Nat), x]))) { s with heap := h'', toks := tk + 1 } :=
      I.turnedNew (ch := [e, it]) (fun b ob hb q => (sb.2 b (fun z => hb (by simp [z]))).trans (hk b ob (fun z => hb (by simp [z])) (fun z => hb (by simp [z])) q)) hf (Nat.le_refl _) new
    refine ⟨.ref s.heap.objs.size, _, I1, rfl, ⟨_, x, _, rfl, I.hok.fresh (Nat.le_refl _), rfl, rfl, fun ys hy => by rw [sqB_inj I hy hq]; exact hx⟩, ⟨⟨y, ?_⟩, iterB_at st'.1 fun o q => (sb.2 it (Ne.symm hne)).trans q, hne, hea, hai⟩, fun b hb => ?_⟩
    · have e1 : ((i + 1 : Nat) : Int) = (i : Int) + 1 := by omega
      rw [e1]; exact he'
    · have hb' : b < s.heap.objs.size := by
        have e' : b = e ∨ b = it := by simpa using hb
        rcases e' with z | z
        · rw [z]; exact hel
        · rw [z]; exact hil
      rw [upd_ne (Nat.ne_of_lt hb')]
      exact (hf b hb).1
  done := by
    intro X hP hw hK hc i pins s σ H E I hf st hg
    subst hP hw hK
    obtain ⟨⟨old, he⟩, hit, hne, hea, hai⟩ := st
    obtain ⟨xs, hq, hi⟩ := hg
    obtain ⟨us, rv, ps, o1, ho1⟩ := itemsB_of I hq
    have W := GoesN.enumFrom (elts := elts) (x1 := kk) (pos := tpos) 0 (drawsB (prog := X.prog) (w := X.w) (A := X.A.in1) p (I.ok.hd hc) it a hai us.toArray) e hne (by simp [hne, hea]) (by simp)
    have hn : i = us.toArray.size := by rw [List.size_toArray, ← rv.length]; exact hi
    subst hn
    refine W.stops s _ _ ⟨⟨old, by rw [Int.zero_add]; exact he⟩, hit, ps⟩ fun h' tk hk htk => ?_
    exact I.turnedL (t' := tk) (ch := [e, it]) (fun c o hb r => hk c o hb r) hf
  self := fun A i s Q E st h => let ⟨⟨_, he⟩, _⟩ := st; wpAny_pyIter_enum he h
theorem meets_enum_B {v : Value} {o : Obj} {H : Heap → Prop} (B : Begins v o H) :
    Meets (Builtin.«enumerate.__new__» ⟨[.type "enumerate", v], []⟩) (fun _ R s => H s.heap ∧
      R (.ok (.ret (.ref (s.heap.push o).objs.size))) { s with heap := (s.heap.push o).push { cls := .type "enumerate", data := .fields #[.none, .bool false, .ref s.heap.objs.size, rawInt 0, .none, .none] } }) :=
  .of_wp fun prog w A R s h => by
    obtain ⟨hp, g, d, tk, os⟩ := s; obtain ⟨h1, h⟩ := h
    have hsub := sub_enumerate
    have q1 : ∀ {A' : Around} {E : Value → Shared → Prop} {Q : Value → Shared → Prop}, Q (.ref hp.objs.size) ⟨hp.push o, g, d, tk, os⟩ → wpAny (model prog w) A' (pyIter v) Q E ⟨hp, g, d, tk, os⟩ :=
      fun q => B.iter prog w _ _ ⟨hp, g, d, tk, os⟩ _ h1 q
    wp_walk using q1
    refine wpAny_stack_any fun st => wpAny_pure ?_
    split
    · rename_i c _ _ _ _ _
      cases (c == Value.type "enumerate")
      · wp_walk using q1
        exact ⟨_, rfl, h⟩
      · wp_walk using q1
        exact ⟨_, rfl, h⟩
    · wp_walk using q1
      exact ⟨_, rfl, h⟩
section
variable {prog : Program} {w : World} {A : Around} {E : Value → Shared → Prop} {s : Shared}
theorem call_enum_B {v : Value} {o : Obj} {H : Heap → Prop} {Q : Value → Shared → Prop} (B : Begins v o H) (h1 : H s.heap)
    (h : ∀ h', IsEnum h' (s.heap.objs.size + 1) s.heap.objs.size 0 .none → h'.get? s.heap.objs.size = some o → h'.objs.size = s.heap.objs.size + 2 →
      (∀ b o, s.heap.get? b = some o → h'.get? b = some o) → Q (.ref (s.heap.objs.size + 1)) { s with heap := h' }) :
    wpAny (model prog w) A (call (.type "enumerate") [v]) Q E s := by
  refine callType_new F.called_enumerate (by decide) (F.typeCall_enumerate_1 _) (F.newCall_enumerate_1 _) (fun obj => F.args_object_init_2 obj _) F.entry_enumerate_new
    (meets_enum_B B) ⟨h1, ?_⟩
  have hz : (s.heap.push o).objs.size = s.heap.objs.size + 1 := Heap.size_push ..
  show _ ∧ _
  rw [hz]
  have he : IsEnum ((s.heap.push o).push { cls := .type "enumerate", data := .fields #[.none, .bool false, .ref s.heap.objs.size, rawInt 0, .none, .none] }) (s.heap.objs.size + 1) s.heap.objs.size 0 .none := by
    have := Heap.get?_push_size (s.heap.push o) (o := { cls := .type "enumerate", data := .fields #[.none, .bool false, .ref s.heap.objs.size, rawInt 0, .none, .none] }) rfl
    rw [hz] at this; exact this
  refine ⟨⟨_, he, rfl⟩, h _ he (Heap.get?_push_of_some _ (Heap.get?_push_size _ B.free)) (by rw [Heap.size_push, hz]) fun b o x => Heap.get?_push_of_some _ (Heap.get?_push_of_some _ x)⟩
end
def iEnumB (K : PySem.W.Frag) (ta : TA) : TI := fun σ H R => ta σ H fun vs H1 => ∃ p a xs, vs = [.ref a] ∧ SqB K p H1 a xs ∧ R (ItnB K p a) H1
theorem pi_enumB {X : Cx} {e : Expr} {ta : TA} {p pos tpos : Pos} {elts : List Expr} {kk : Nat} (hg : Gl X "enumerate") (hm : X.mg "enumerate" = none) (ha : PA X [e] ta) (hs : starEach [e] X.env = [(false, eval e X.env)] := by rfl) :
    PI X (.Tuple elts kk tpos) (.Call (.Name "enumerate" p) [e] [] pos) (iEnumB X.K ta) := by
  refine ⟨fun pins s σ H R I h => ?_⟩
  refine Call_ (ld_blt I hg hm boot_enumerate (PyProof.Rows.callWith_type1 (thn (ha.run pos pins s σ H _ I h) fun us s1 ⟨vs, H1, I1, r1, q1⟩ => ?_) hs rfl))
  obtain ⟨p0, a, xs, ex, hq, q⟩ := q1
  subst ex
  cases r1 with
  | cons r rr =>
    cases rr
    cases r
    obtain ⟨us', rv, ps, o1, ho1⟩ := itemsB_of I1 hq
    have hal : a < s1.heap.objs.size := Heap.lt_size ho1
    refine call_enum_B (beginsB p0 a us'.toArray) ps fun h' he hit hsz hk => wpAny_pyIter_enum he ?_
    have I2 : L2.Inv X pins σ H1 { s1 with heap := h' } := I1.kept (t' := s1.toks) hk
    refine ⟨s1.heap.objs.size + 1, [s1.heap.objs.size + 1, s1.heap.objs.size], _, _, H1, rfl, I2, turn_enumB a (s1.heap.objs.size + 1) s1.heap.objs.size, ⟨⟨.none, he⟩, iterB_new hit, Nat.succ_ne_self _, Nat.ne_of_gt (Nat.lt_succ_of_lt hal), Nat.ne_of_lt hal⟩, fun b hb => ?_, q⟩
    have e' : b = s1.heap.objs.size + 1 ∨ b = s1.heap.objs.size := by simpa using hb
    have hle : s1.heap.objs.size ≤ b := by
      rcases e' with z | z
      · rw [z]; exact Nat.le_add_right _ _
      · rw [z]; exact Nat.le_refl _
    exact I1.fpOk hle (I1.hok.fresh hle)
def iZipB (K : PySem.W.Frag) (ta : TA) : TI := fun σ H R => ta σ H fun vs H1 => ∃ p q a b xs ys, vs = [.ref a, .ref b] ∧ SqB K p H1 a xs ∧ SqB K q H1 b ys ∧ R (ItzB K p q a b) H1
theorem pi_zipB {X : Cx} {e e2 : Expr} {ta : TA} {p pos tpos : Pos} {elts : List Expr} {kk : Nat} (hg : Gl X "zip") (hm : X.mg "zip" = none) (ha : PA X [e, e2] ta)
    (hs : starEach [e, e2] X.env = (false, eval e X.env) :: starEach [e2] X.env := by rfl) (hpl : (backTo pos (starEach [e2] X.env)).any (·.1) = false := by rfl) :
    PI X (.Tuple elts kk tpos) (.Call (.Name "zip" p) [e, e2] [] pos) (iZipB X.K ta) := by
  refine ⟨fun pins s σ H R I h => ?_⟩
  refine Call_ (ld_blt I hg hm PyProof.Rows.boot_zip (PyProof.Rows.callWith_type1 (thn (ha.run pos pins s σ H _ I h) fun us s1 ⟨vs, H1, I1, r1, q1⟩ => ?_) hs hpl))
  obtain ⟨p1, q2, a, b, xs, ys, ex, hx, hy, q⟩ := q1
  subst ex
  cases r1 with
  | cons r rr =>
    cases rr with
    | cons r' rr =>
      cases rr
      cases r
      cases r'
      obtain ⟨us, rv, ps, o1, ho1⟩ := itemsB_of I1 hx
      obtain ⟨ws, rw2, qs, o2, ho2⟩ := itemsB_of I1 hy
      have la := Heap.lt_size ho1
      have lb := Heap.lt_size ho2
      refine zip_begins2 (beginsB p1 a us.toArray) (beginsB q2 b ws.toArray) ps qs fun h' hz hTI hTO g1 g2 hsz hk => wpAny_pyIter_zip hz ?_
      have I2 : L2.Inv X pins σ H1 { s1 with heap := h' } := I1.kept (t' := s1.toks) hk
      have far : ZipFar (s1.heap.objs.size + 4) (s1.heap.objs.size + 2) (s1.heap.objs.size + 3) s1.heap.objs.size (s1.heap.objs.size + 1) a b :=
        ⟨zip_sep2 (N := s1.heap.objs.size) (fp1 := [a]) (fp2 := [b]) (fun c hc => by rw [List.mem_singleton] at hc; rw [hc]; exact la) (fun c hc => by rw [List.mem_singleton] at hc; rw [hc]; exact lb), Nat.ne_of_lt la, Nat.ne_of_lt (Nat.lt_succ_of_lt lb)⟩
      refine ⟨s1.heap.objs.size + 4, [s1.heap.objs.size + 4, s1.heap.objs.size + 2, s1.heap.objs.size + 3, s1.heap.objs.size, s1.heap.objs.size + 1], _, _, H1, rfl, I2, turn_zipB far, ⟨hz, hTI, ⟨_, _, hTO⟩, iterB_new g1, iterB_new g2⟩, fun c hcm => ?_, q⟩
      have e' : c = s1.heap.objs.size + 4 ∨ c = s1.heap.objs.size + 2 ∨ c = s1.heap.objs.size + 3 ∨ c = s1.heap.objs.size ∨ c = s1.heap.objs.size + 1 := by simpa using hcm
      have hle : s1.heap.objs.size ≤ c := by
        rcases e' with z | z | z | z | z
        · rw [z]; exact Nat.le_add_right _ _
        · rw [z]; exact Nat.le_add_right _ _
        · rw [z]; exact Nat.le_add_right _ _
        · rw [z]; exact Nat.le_refl _
        · rw [z]; exact Nat.le_add_right _ _
      exact I1.fpOk hle (I1.hok.fresh hle)
end FM

/-! FL2: zip inside of enumerate and list: its pair is kept by somebody else, or gone. -/
namespace FM
open PySem PySem.Spec PyProof.Rows L2 RZ
/-- a zip, whatever became of the pair that it gave last -/
def ZipAt (h : Heap) (z TI TO : Addr) : Prop := ∃ (f0 : Value) (f : Bool), (f0 = .none ∨ ∃ T : Nat, f0 = rawInt (T : Int)) ∧
  h.get? z = some { cls := .type "zip", dict := none, data := .fields #[f0, .bool f, .bool false, .ref TI, .ref TO], slots := #[] }
section
variable {prog : Program} {w : World} {A : Around} {E : Value → Shared → Prop} {s : Shared}
theorem look_alive {a : Addr} {Q : Option Obj → Shared → Prop} (h : Q (s.heap.get? a) s) : wpAny (model prog w) A (loadIfAlive a) Q E s := fun _ _ _ => h
theorem zip_free {z TI TO : Addr} {f0 : Value} {f : Bool} {Q : Bool → Shared → Prop} (h0 : f0 = .none ∨ ∃ T : Nat, f0 = rawInt (T : Int))
    (hz : s.heap.get? z = some { cls := .type "zip", dict := none, data := .fields #[f0, .bool f, .bool false, .ref TI, .ref TO], slots := #[] }) (yes : Q true s) (no : ∀ h', ZipAt h' z TI TO → Heap.SameBut z s.heap h' → Q false { s with heap := h' }) :
    wpAny (model prog w) A (Builtin.SmallTypes.ownedTupleIsFree (.ref z)) Q E s := by
  unfold Builtin.SmallTypes.ownedTupleIsFree
  rcases h0 with rfl | ⟨T, rfl⟩
  · exact wpAny_bind (wpAny_field hz rfl (x := .none) rfl (wpAny_pure yes))
  · refine wpAny_bind (wpAny_field hz rfl (x := rawInt T) rfl ?_)
    show wpAny _ _ (loadIfAlive ((T : Int).toNat) >>= _) _ _ _
    refine wpAny_bind (look_alive ?_)
    cases hT : s.heap.get? ((T : Int).toNat) with
    | none => exact wpAny_pure yes
    | some o =>
      simp only [Option.isNone_some, Bool.false_eq_true, if_false]
      refine wpAny_bind (wpAny_field hz rfl (x := .bool f) rfl ?_)
      cases f with
      | true =>
        rw [if_neg (show ¬ ((Value.bool true != Value.bool true) = true) from Bool.false_ne_true)]
        exact wpAny_pure (no s.heap ⟨_, _, .inr ⟨T, rfl⟩, hz⟩ (Heap.SameBut.refl _ _))
      | false =>
        rw [if_pos (show (Value.bool false != Value.bool true) = true from rfl)]
        exact wpAny_bind (wpAny_setField_rec hz (by simp) fun h1 hz1 hs1 => wpAny_pure (no h1 ⟨_, _, .inr ⟨T, rfl⟩, hz1⟩ hs1))
variable {z TI TO i1 i2 : Addr} {fp1 fp2 : List Addr} {n1 n2 i : Nat} {P1 P2 : Nat → Value → Prop} {St1 St2 : Nat → Heap → Prop}
theorem zip_turn {Q : Value → Shared → Prop} (S : ZipSep2 z TI TO i1 i2 fp1 fp2) (D1 : Draws prog w A i1 fp1 n1 P1 St1) (D2 : Draws prog w A i2 fp2 n2 P2 St2) (hz : ZipAt s.heap z TI TO) (hTI : IsTupOf2 s.heap TI (.ref i1) (.ref i2)) (hTO : ∃ x y, IsTupOf2 s.heap TO x y)
    (st1 : St1 i s.heap) (st2 : St2 i s.heap) (l1 : i < n1) (l2 : i < n2)
    (hQ : ∀ x y h' tk, P1 i x → P2 i y → ZipAt h' z TI TO → (∃ x y, IsTupOf2 h' TO x y) → St1 (i + 1) h' → St2 (i + 1) h' → IsTupOf2 h' s.heap.objs.size x y → h'.objs.size = s.heap.objs.size + 1 →
      (∀ c o, c ≠ z → c ≠ TO → c ≠ i1 → c ≠ i2 → s.heap.get? c = some o → h'.get? c = some o) → Q (.ref s.heap.objs.size) { s with heap := h', toks := tk }) :
    wpAny (model prog w) A (Builtin.«zip.__next__» ⟨[.ref z], []⟩) (fun fin s' => ∃ v, fin = .done (.ret v) ∧ Q v s') E s := by
  obtain ⟨hp, g, d, tk0, os⟩ := s
  obtain ⟨f0, f, h0, hz⟩ := hz
  obtain ⟨a1, a2, hTO⟩ := hTO
  show wpAny _ _ (field (.ref z) 2 >>= _) _ _ _
  refine wpAny_bind (wpAny_field hz rfl (x := .bool false) rfl ?_)
  show wpAny _ _ (field (.ref z) 3 >>= _) _ _ _
  refine wpAny_bind (wpAny_field hz rfl (x := .ref TI) rfl ?_)
  refine wpAny_bind (wpAny_seqItems hTI rfl ?_)
  show wpAny _ _ (Builtin.SmallTypes.ownedTupleIsFree (.ref z) >>= _) _ _ _
  refine wpAny_bind (zip_free h0 hz ?_ fun h1 hz1 hs1 => ?_)
  · simp only [if_true]
    refine wpAny_bind (wpAny_rule ?_)
    refine wpAny_bind (wpAny_field hz rfl (x := .ref TO) rfl ?_)
    refine wpAny_bind (wpAny_setField_rec hz (by simp) fun g0 hz0 hs0 => ?_)
    replace hs0 : Heap.SameBut z hp g0 := hs0
    refine wpAny_bind ?_
    simp only [List.zipIdx_cons, List.zipIdx_nil, List.forIn_cons, List.forIn_nil]
    refine wpAny_bind (wpAny_bind (wpAny_onRaise ?_))
    show wpAny _ _ (Builtin.SmallTypes.nextOf (.ref i1) >>= _) _ _ ⟨g0, g, d, tk0, os⟩
    refine wpAny_bind (D1.item i _ _ _ l1 (D1.over st1 hs0 S.zf1) fun x p1 tk1 hx sn1 hp1 => wpAny_pure ?_)
    replace hp1 : Heap.SameBut i1 g0 p1 := hp1
    have t1 : IsTupOf2 p1 TO a1 a2 := hp1.extBut _ _ S.Ti1 (hs0.extBut _ _ S.TOz hTO)
    refine wpAny_bind (wpAny_seqItems (s := ⟨p1, g, d, tk1, os⟩) t1 rfl ?_)
    refine wpAny_bind (updateSeq_IsTupOf2 (s := ⟨p1, g, d, tk1, os⟩) t1 fun g1 u1 hs1 => ?_)
    replace u1 : IsTupOf2 g1 TO x a2 := u1
    replace hs1 : Heap.SameBut TO p1 g1 := hs1
    refine wpAny_bind (wpAny_letGo (wpAny_pure ?_))
    refine wpAny_bind (wpAny_bind (wpAny_onRaise ?_))
    show wpAny _ _ (Builtin.SmallTypes.nextOf (.ref i2) >>= _) _ _ ⟨g1, g, d, tk1, os⟩
    refine wpAny_bind (D2.item i _ _ _ l2 (D2.over (D2.over (D2.over st2 hs0 S.zf2) hp1 S.sep1_2) hs1 S.Tf2) fun y p2 tk2 hy sn2 hp2 => wpAny_pure ?_)
    replace hp2 : Heap.SameBut i2 g1 p2 := hp2
    have t2 : IsTupOf2 p2 TO x a2 := hp2.extBut _ _ S.Ti2 u1
    refine wpAny_bind (wpAny_seqItems (s := ⟨p2, g, d, tk2, os⟩) t2 rfl ?_)
    refine wpAny_bind (updateSeq_IsTupOf2 (s := ⟨p2, g, d, tk2, os⟩) t2 fun g2 u2 hs2 => ?_)
    replace u2 : IsTupOf2 g2 TO x y := u2
    replace hs2 : Heap.SameBut TO p2 g2 := hs2
    refine wpAny_bind (wpAny_letGo (wpAny_pure (wpAny_pure ?_)))
    refine wpAny_bind (wpAny_seqItems (s := ⟨g2, g, d, tk2, os⟩) u2 rfl ?_)
    refine wpAny_bind (wpAny_newTuple ?_)
    have hsz : g2.objs.size = hp.objs.size := by rw [hs2.1, hp2.1, hs1.1, hp1.1, hs0.1]
    have hz2 := hs2.extBut _ _ S.TOz.symm (hp2.extBut _ _ S.zi2 (hs1.extBut _ _ S.TOz.symm (hp1.extBut _ _ S.zi1 hz0)))
    have hk2 : ∀ c o, c ≠ z → c ≠ TO → c ≠ i1 → c ≠ i2 → hp.get? c = some o → g2.get? c = some o := fun c o cz cT c1 c2 e =>
      hs2.extBut _ _ cT (hp2.extBut _ _ c2 (hs1.extBut _ _ cT (hp1.extBut _ _ c1 (hs0.extBut _ _ cz e))))
    have j1 : St1 (i + 1) g2 := D1.over (D1.over (D1.over sn1 hs1 S.Tf1) hp2 S.sep2_1) hs2 S.Tf1
    have j2 : St2 (i + 1) g2 := D2.over sn2 hs2 S.Tf2
    have lz : z < g2.objs.size := Heap.lt_size hz2
    show wpAny _ _ (Builtin.SmallTypes.ownedTupleHandOut (.ref z) (.ref g2.objs.size) >>= _) _ _ ⟨g2.push (tObj [x, y]), g, d, tk2, os⟩
    refine wpAny_bind ?_
    unfold Builtin.SmallTypes.ownedTupleHandOut
    refine wpAny_bind (wpAny_setField_rec (Heap.get?_push_of_some _ hz2) (by simp) fun h3 hz3 hs3 => ?_)
    replace hs3 : Heap.SameBut z (g2.push (tObj [x, y])) h3 := hs3
    refine wpAny_setField_rec hz3 (by simp) fun h4 hz4 hs4 => ?_
    replace hs4 : Heap.SameBut z h3 h4 := hs4
    have up : ∀ c o, c ≠ z → g2.get? c = some o → h4.get? c = some o := fun c o c1 e => hs4.extBut _ _ c1 (hs3.extBut _ _ c1 (Heap.get?_push_of_some _ e))
    have t4 : IsTupOf2 h4 g2.objs.size x y := hs4.extBut _ _ (Nat.ne_of_gt lz) (hs3.extBut _ _ (Nat.ne_of_gt lz) (Heap.get?_push_size _ rfl))
    have s4 : h4.objs.size = g2.objs.size + 1 := by rw [hs4.1, hs3.1, Heap.size_push]
    refine wpAny_pure ⟨_, rfl, ?_⟩
    show Q (.ref g2.objs.size) ⟨h4, g, d, tk2, os⟩
    rw [hsz] at t4 s4 ⊢
    exact hQ x y h4 tk2 hx hy ⟨rawInt (g2.objs.size : Nat), false, .inr ⟨_, rfl⟩, hz4⟩ ⟨_, _, up _ _ S.TOz u2⟩ (D1.frame _ _ _ j1 fun b hb o e => up b o (fun q => S.zf1 (q ▸ hb)) e) (D2.frame _ _ _ j2 fun b hb o e => up b o (fun q => S.zf2 (q ▸ hb)) e) t4 s4 fun c o cz cT c1 c2 e => up c o cz (hk2 c o cz cT c1 c2 e)
  · replace hs1 : Heap.SameBut z hp h1 := hs1
    simp only [Bool.false_eq_true, if_false]
    refine wpAny_bind ?_
    rw [← Array.forIn_toList]
    simp only [List.forIn_cons, List.forIn_nil]
    refine wpAny_bind (wpAny_bind (wpAny_holding ?_))
    show wpAny _ _ (Builtin.SmallTypes.nextOf (.ref i1) >>= _) _ _ _
    refine wpAny_bind (D1.item i _ _ _ l1 (D1.over st1 hs1 S.zf1) fun x p1 tk1 hx sn1 hp1 => wpAny_pure ?_)
    replace hp1 : Heap.SameBut i1 h1 p1 := hp1
    refine wpAny_pure ?_
    refine wpAny_bind (wpAny_bind (wpAny_holding ?_))
    show wpAny _ _ (Builtin.SmallTypes.nextOf (.ref i2) >>= _) _ _ _
    refine wpAny_bind (D2.item i _ _ _ l2 (D2.over (D2.over st2 hs1 S.zf2) hp1 S.sep1_2) fun y p2 tk2 hy sn2 hp2 => wpAny_pure ?_)
    replace hp2 : Heap.SameBut i2 p1 p2 := hp2
    refine wpAny_pure (wpAny_pure ?_)
    show wpAny _ _ (newTuple [x, y] >>= _) _ _ _
    refine wpAny_bind (wpAny_newTuple ?_)
    have hsz : p2.objs.size = hp.objs.size := by rw [hp2.1, hp1.1, hs1.1]
    have up : ∀ c o, p2.get? c = some o → (p2.push (tObj [x, y])).get? c = some o := fun c o e => Heap.get?_push_of_some _ e
    have hk : ∀ c o, c ≠ z → c ≠ i1 → c ≠ i2 → hp.get? c = some o → p2.get? c = some o := fun c o c1 c2 c3 e => hp2.extBut _ _ c3 (hp1.extBut _ _ c2 (hs1.extBut _ _ c1 e))
    obtain ⟨e0, e1, e2, hz1⟩ := hz1
    have hz2 := up _ _ (hp2.extBut _ _ S.zi2 (hp1.extBut _ _ S.zi1 hz1))
    have t4 : IsTupOf2 (p2.push (tObj [x, y])) p2.objs.size x y := Heap.get?_push_size _ rfl
    have s4 : (p2.push (tObj [x, y])).objs.size = p2.objs.size + 1 := Heap.size_push ..
    refine wpAny_pure ⟨_, rfl, ?_⟩
    show Q (.ref p2.objs.size) ⟨p2.push (tObj [x, y]), g, d, tk2, os⟩
    rw [hsz] at t4 s4 ⊢
    exact hQ x y _ tk2 hx hy ⟨e0, e1, e2, hz2⟩ ⟨_, _, up _ _ (hk _ _ S.TOz S.Ti1 S.Ti2 hTO)⟩ (D1.frame _ _ _ (D1.over sn1 hp2 S.sep2_1) fun b hb o e => up b o e) (D2.frame _ _ _ sn2 fun b hb o e => up b o e) t4 s4 fun c o cz cT c1 c2 e => up c o (hk c o cz c1 c2 e)
theorem zip_stop {Q : PySem.Fin → Shared → Prop} (S : ZipSep2 z TI TO i1 i2 fp1 fp2) (D1 : Draws prog w A i1 fp1 n1 P1 St1) (D2 : Draws prog w A i2 fp2 n2 P2 St2) (hz : ZipAt s.heap z TI TO) (hTI : IsTupOf2 s.heap TI (.ref i1) (.ref i2)) (hTO : ∃ x y, IsTupOf2 s.heap TO x y)
    (st1 : St1 i s.heap) (st2 : St2 i s.heap) (l1 : i ≤ n1) (l2 : i ≤ n2) (hend : i = n1 ∨ i = n2)
    (hE : ∀ h' tk e, (∀ c o, c ≠ z → c ≠ TO → c ≠ i1 → c ≠ i2 → s.heap.get? c = some o → h'.get? c = some o) → (∃ o, h'.get? e = some o ∧ o.cls = .type "StopIteration") → E (.ref e) { s with heap := h', toks := tk }) :
    wpAny (model prog w) A (Builtin.«zip.__next__» ⟨[.ref z], []⟩) Q E s := by
  obtain ⟨hp, g, d, tk0, os⟩ := s
  obtain ⟨f0, f, h0, hz⟩ := hz
  obtain ⟨a1, a2, hTO⟩ := hTO
  show wpAny _ _ (field (.ref z) 2 >>= _) _ _ _
  refine wpAny_bind (wpAny_field hz rfl (x := .bool false) rfl ?_)
  show wpAny _ _ (field (.ref z) 3 >>= _) _ _ _
  refine wpAny_bind (wpAny_field hz rfl (x := .ref TI) rfl ?_)
  refine wpAny_bind (wpAny_seqItems hTI rfl ?_)
  show wpAny _ _ (Builtin.SmallTypes.ownedTupleIsFree (.ref z) >>= _) _ _ _
  refine wpAny_bind (zip_free h0 hz ?_ fun h1 hz1 hs1 => ?_)
  · simp only [if_true]
    refine wpAny_bind (wpAny_rule ?_)
    refine wpAny_bind (wpAny_field hz rfl (x := .ref TO) rfl ?_)
    refine wpAny_bind (wpAny_setField_rec hz (by simp) fun g0 hz0 hs0 => ?_)
    replace hs0 : Heap.SameBut z hp g0 := hs0
    refine wpAny_bind ?_
    simp only [List.zipIdx_cons, List.zipIdx_nil, List.forIn_cons, List.forIn_nil]
    have leave : ∀ {q : Heap} {tk : Nat} {e : Addr} {zo : Obj} {vs : Array Value}, q.get? z = some { cls := .type "zip", dict := none, data := .fields vs, slots := #[] } → 0 < vs.size → (∃ o, q.get? e = some o ∧ o.cls = .type "StopIteration") →
        (∀ c o, c ≠ z → c ≠ TO → c ≠ i1 → c ≠ i2 → hp.get? c = some o → q.get? c = some o) → wpAny (model prog w) A (setField (.ref z) 0 .none) (fun _ s' => E (.ref e) s') E ⟨q, g, d, tk, os⟩ := by
      intro q tk e zo vs hq hv ⟨oe, he, hc⟩ hk
      have ez : e ≠ z := fun x => by subst x; rw [hq] at he; cases he; simp at hc
      refine wpAny_setField_rec (s := ⟨q, g, d, tk, os⟩) hq hv fun q' _ hs => ?_
      replace hs : Heap.SameBut z q q' := hs
      exact hE q' tk e (fun c o cz cT c1 c2 x => hs.extBut _ _ cz (hk c o cz cT c1 c2 x)) ⟨oe, hs.extBut _ _ ez he, hc⟩
    refine wpAny_bind (wpAny_bind (wpAny_onRaise ?_))
    show wpAny _ _ (Builtin.SmallTypes.nextOf (.ref i1) >>= _) _ _ ⟨g0, g, d, tk0, os⟩
    by_cases lt1 : i < n1
    · refine wpAny_bind (D1.item i _ _ _ lt1 (D1.over st1 hs0 S.zf1) fun x p1 tk1 hx sn1 hp1 => wpAny_pure ?_)
      replace hp1 : Heap.SameBut i1 g0 p1 := hp1
      have t1 : IsTupOf2 p1 TO a1 a2 := hp1.extBut _ _ S.Ti1 (hs0.extBut _ _ S.TOz hTO)
      refine wpAny_bind (wpAny_seqItems (s := ⟨p1, g, d, tk1, os⟩) t1 rfl ?_)
      refine wpAny_bind (updateSeq_IsTupOf2 (s := ⟨p1, g, d, tk1, os⟩) t1 fun g1 u1 hs1 => ?_)
      replace u1 : IsTupOf2 g1 TO x a2 := u1
      replace hs1 : Heap.SameBut TO p1 g1 := hs1
      refine wpAny_bind (wpAny_letGo (wpAny_pure ?_))
      have hi2 : i = n2 := by omega
      refine wpAny_bind (wpAny_bind (wpAny_onRaise ?_))
      show wpAny _ _ (Builtin.SmallTypes.nextOf (.ref i2) >>= _) _ _ ⟨g1, g, d, tk1, os⟩
      refine wpAny_bind (D2.done ⟨g1, g, d, tk1, os⟩ _ _ (by rw [← hi2]; exact D2.over (D2.over (D2.over st2 hs0 S.zf2) hp1 S.sep1_2) hs1 S.Tf2) fun q e hq he => ?_)
      replace hq : Heap.ExtBut i2 g1 q := hq
      exact leave (zo := default) (hq _ _ S.zi2 (hs1.extBut _ _ S.TOz.symm (hp1.extBut _ _ S.zi1 hz0))) (by simp) he fun c o cz cT c1 c2 x => hq _ _ c2 (hs1.extBut _ _ cT (hp1.extBut _ _ c1 (hs0.extBut _ _ cz x)))
    · have hi1 : i = n1 := by omega
      refine wpAny_bind (D1.done ⟨g0, g, d, tk0, os⟩ _ _ (by rw [← hi1]; exact D1.over st1 hs0 S.zf1) fun q e hq he => ?_)
      replace hq : Heap.ExtBut i1 g0 q := hq
      exact leave (zo := default) (hq _ _ S.zi1 hz0) (by simp) he fun c o cz cT c1 c2 x => hq _ _ c1 (hs0.extBut _ _ cz x)
  · replace hs1 : Heap.SameBut z hp h1 := hs1
    simp only [Bool.false_eq_true, if_false]
    refine wpAny_bind ?_
    rw [← Array.forIn_toList]
    simp only [List.forIn_cons, List.forIn_nil]
    refine wpAny_bind (wpAny_bind (wpAny_holding ?_))
    show wpAny _ _ (Builtin.SmallTypes.nextOf (.ref i1) >>= _) _ _ _
    by_cases lt1 : i < n1
    · refine wpAny_bind (D1.item i _ _ _ lt1 (D1.over st1 hs1 S.zf1) fun x p1 tk1 hx sn1 hp1 => wpAny_pure ?_)
      replace hp1 : Heap.SameBut i1 h1 p1 := hp1
      refine wpAny_pure ?_
      have hi2 : i = n2 := by omega
      refine wpAny_bind (wpAny_bind (wpAny_holding ?_))
      show wpAny _ _ (Builtin.SmallTypes.nextOf (.ref i2) >>= _) _ _ _
      refine wpAny_bind (D2.done ⟨p1, g, d, tk1, os⟩ _ _ (by rw [← hi2]; exact D2.over (D2.over st2 hs1 S.zf2) hp1 S.sep1_2) fun q e hq he => ?_)
      replace hq : Heap.ExtBut i2 p1 q := hq
      exact hE q tk1 e (fun c o cz cT c1 c2 x => hq _ _ c2 (hp1.extBut _ _ c1 (hs1.extBut _ _ cz x))) he
    · have hi1 : i = n1 := by omega
      refine wpAny_bind (D1.done ⟨h1, g, d, tk0, os⟩ _ _ (by rw [← hi1]; exact D1.over st1 hs1 S.zf1) fun q e hq he => ?_)
      replace hq : Heap.ExtBut i1 h1 q := hq
      exact hE q tk0 e (fun c o cz cT c1 c2 x => hq _ _ c1 (hs1.extBut _ _ cz x)) he
/-- a call of the zip's next, in whatever form it is asked -/
theorem zip_call {Q : Option Value → Shared → Prop} (hT : s.TypeIs (.ref z) "zip") (h : wpAny (model prog w) A.in1 (Builtin.«zip.__next__» ⟨[.ref z], []⟩) (fun fin s' => ∃ v, fin = .done (.ret v) ∧ Q (some v) s') E s) :
    wpAny (model prog w) A (callSpecial? (.ref z) "__next__") Q E s :=
  wpAny_callSpecial?_slot (name := Str.ofString "__next__") hT F.slot_zip_next (wpAny_call_entry F.slot_zip_next hT F.entry_zip_next h (F.args_zip_next_1 _))
theorem ZipAt.ty (h : ZipAt s.heap z TI TO) : s.TypeIs (.ref z) "zip" := let ⟨_, _, _, e⟩ := h; ⟨_, e, rfl⟩
end
/-- all that a zip of two stands on -/
structure ZipOn (h : Heap) (p q : Bool) (z TI TO i1 i2 a b : Addr) (i : Nat) : Prop where
  z : ZipAt h z TI TO
  ti : IsTupOf2 h TI (.ref i1) (.ref i2)
  to : ∃ x y, IsTupOf2 h TO x y
  one : IterB p h i1 a i
  two : IterB q h i2 b i
section
variable {prog : Program} {w : World} {A : Around} {E : Value → Shared → Prop} {s : Shared} {p q : Bool} {z TI TO i1 i2 a b : Addr} {i : Nat} {us ws : Array Value}
theorem ZipOn.keep {h h' : Heap} (x : ZipOn h p q z TI TO i1 i2 a b i) (k : ∀ c ∈ [z, TI, TO, i1, i2], ∀ o, h.get? c = some o → h'.get? c = some o) : ZipOn h' p q z TI TO i1 i2 a b i := by
  obtain ⟨⟨f0, f, h0, hz⟩, hTI, ⟨u, v, hTO⟩, h1, h2⟩ := x
  exact ⟨⟨f0, f, h0, k z (by simp) _ hz⟩, k TI (by simp) _ hTI, ⟨u, v, k TO (by simp) _ hTO⟩, iterB_at h1 fun o r => k i1 (by simp) o r, iterB_at h2 fun o r => k i2 (by simp) o r⟩
theorem ZipOn.objs {h : Heap} (x : ZipOn h p q z TI TO i1 i2 a b i) : ∀ c ∈ [z, TI, TO, i1, i2], ∃ o, h.get? c = some o ∧ ∀ v, o.data ≠ .cell v := by
  obtain ⟨⟨f0, f, h0, hz⟩, hTI, ⟨u, v, hTO⟩, h1, h2⟩ := x
  intro c hc
  have e' : c = z ∨ c = TI ∨ c = TO ∨ c = i1 ∨ c = i2 := by simpa using hc
  rcases e' with e | e | e | e | e
  · rw [e]; exact ⟨_, hz, fun v r => nomatch r⟩
  · rw [e]; exact ⟨_, hTI, fun v r => nomatch r⟩
  · rw [e]; exact ⟨_, hTO, fun v r => nomatch r⟩
  · rw [e]; exact iterB_obj h1
  · rw [e]; exact iterB_obj h2
theorem zipon_item {Q : Option Value → Shared → Prop} (hh : A.handled = none) (D : ZipFar z TI TO i1 i2 a b) (x : ZipOn s.heap p q z TI TO i1 i2 a b i) (ia : ItemsB p s.heap a us) (ib : ItemsB q s.heap b ws) (l1 : i < us.size) (l2 : i < ws.size)
    (hQ : ∀ x y h' tk, us[i]? = some x → ws[i]? = some y → ZipOn h' p q z TI TO i1 i2 a b (i + 1) → IsTupOf2 h' s.heap.objs.size x y → h'.objs.size = s.heap.objs.size + 1 → (∀ c o, c ∉ [z, TI, TO, i1, i2] → s.heap.get? c = some o → h'.get? c = some o) → Q (some (.ref s.heap.objs.size)) { s with heap := h', toks := tk }) :
    wpAny (model prog w) A (callSpecial? (.ref z) "__next__") Q E s := by
  have S := D.sep
  refine zip_call x.z.ty (zip_turn S (drawsB p (by exact hh) i1 a D.ai us) (drawsB q (by exact hh) i2 b D.bi ws) x.z x.ti x.to ⟨x.one, ia⟩ ⟨x.two, ib⟩ l1 l2 fun u v h' tk e1 e2 b1 b2 d1 d2 t hsz hk => ?_)
  exact hQ u v h' tk e1 e2 ⟨b1, hk _ _ S.TIz S.TITO S.TIi1 S.TIi2 x.ti, b2, d1.1, d2.1⟩ t hsz fun c o hb r => by
    have hb' : c ≠ z ∧ c ≠ TI ∧ c ≠ TO ∧ c ≠ i1 ∧ c ≠ i2 := by simpa using hb
    exact hk c o hb'.1 hb'.2.2.1 hb'.2.2.2.1 hb'.2.2.2.2 r
theorem zipon_stop {Q : Option Value → Shared → Prop} (hh : A.handled = none) (D : ZipFar z TI TO i1 i2 a b) (x : ZipOn s.heap p q z TI TO i1 i2 a b i) (ia : ItemsB p s.heap a us) (ib : ItemsB q s.heap b ws) (hi : i = min us.size ws.size)
    (hE : ∀ h' tk e, (∀ c o, c ∉ [z, TI, TO, i1, i2] → s.heap.get? c = some o → h'.get? c = some o) → (∃ o, h'.get? e = some o ∧ o.cls = .type "StopIteration") → E (.ref e) { s with heap := h', toks := tk }) :
    wpAny (model prog w) A (callSpecial? (.ref z) "__next__") Q E s := by
  refine zip_call x.z.ty (zip_stop D.sep (drawsB p (by exact hh) i1 a D.ai us) (drawsB q (by exact hh) i2 b D.bi ws) x.z x.ti x.to ⟨x.one, ia⟩ ⟨x.two, ib⟩ (by omega) (by omega) (by omega) fun h' tk e hk he => ?_)
  exact hE h' tk e (fun c o hb r => by
    have hb' : c ≠ z ∧ c ≠ TI ∧ c ≠ TO ∧ c ≠ i1 ∧ c ≠ i2 := by simpa using hb
    exact hk c o hb'.1 hb'.2.2.1 hb'.2.2.2.1 hb'.2.2.2.2 r) he
end
/-! ### enumerate(zip(..), k) -/
section
variable {prog : Program} {w : World} {A : Around} {E : Value → Shared → Prop} {s : Shared} {p q : Bool} {e z TI TO i1 i2 a b : Addr} {i : Nat} {us ws : Array Value} {k : Int} {old : Value}
theorem enumz_item {Q : Option Value → Shared → Prop} (hh : A.handled = none) (D : ZipFar z TI TO i1 i2 a b) (he : IsEnum s.heap e z k old) (ne : e ∉ [z, TI, TO, i1, i2]) (x : ZipOn s.heap p q z TI TO i1 i2 a b i) (ia : ItemsB p s.heap a us) (ib : ItemsB q s.heap b ws) (l1 : i < us.size) (l2 : i < ws.size)
    (hQ : ∀ x y h' tk, us[i]? = some x → ws[i]? = some y → IsEnumOut h' e z (k + 1) (.ref s.heap.objs.size) (s.heap.objs.size + 1) → ZipOn h' p q z TI TO i1 i2 a b (i + 1) → IsTupOf2 h' s.heap.objs.size x y → h'.get? (s.heap.objs.size + 1) = some (tObj [.int k tk, .ref s.heap.objs.size]) →
      (∃ h1, (∀ c o, c ∉ [z, TI, TO, i1, i2] → s.heap.get? c = some o → h1.get? c = some o) ∧ h1.objs.size = s.heap.objs.size + 1 ∧ IsTupOf2 h1 s.heap.objs.size x y ∧ ∀ c o, c ≠ e → h1.get? c = some o → h'.get? c = some o) → Q (some (.ref (s.heap.objs.size + 1))) { s with heap := h', toks := tk + 1 }) :
    wpAny (model prog w) A (pyNext (.ref e)) Q E s := by
  have hT : s.TypeIs (.ref e) "enumerate" := ⟨_, he, rfl⟩
  unfold pyNext
  refine wpAny_bind (wpAny_attempt (wpAny_callSpecial?_slot (name := Str.ofString "__next__") hT F.slot_enumerate_next (wpAny_call_entry F.slot_enumerate_next hT F.entry_enumerate_next ?_ (F.args_enumerate_next_1 _))))
  have nez : e ≠ z := fun r => ne (by simp [r])
  have nl : ∀ c ∈ [z, TI, TO, i1, i2], c ≠ e := fun c hc r => ne (r ▸ hc)
  have lts : ∀ c ∈ [z, TI, TO, i1, i2], c < s.heap.objs.size := fun c hc => let ⟨_, g, _⟩ := x.objs c hc; Heap.lt_size g
  have hel : e < s.heap.objs.size := Heap.lt_size he
  show wpAny _ _ (field (.ref e) 2 >>= _) _ _ _
  refine wpAny_bind (wpAny_field he rfl (x := .ref z) rfl ?_)
  refine wpAny_bind ?_
  unfold Builtin.SmallTypes.nextOf
  refine wpAny_bind (zipon_item (by exact hh) D x ia ib l1 l2 fun u v h1 tk e1 e2 x1 t1 sz1 hk1 => wpAny_pure ?_)
  have he1 : IsEnum h1 e z k old := hk1 _ _ ne he
  show wpAny _ _ (field (.ref e) 3 >>= _) _ _ { s with heap := h1, toks := tk }
  refine wpAny_bind (wpAny_field he1 rfl (x := rawInt k) rfl ?_)
  show wpAny _ _ (field (.ref e) 4 >>= _) _ _ { s with heap := h1, toks := tk }
  refine wpAny_bind (wpAny_field he1 rfl (x := .none) rfl ?_)
  show wpAny _ _ (mkInt k >>= _) _ _ { s with heap := h1, toks := tk }
  refine wpAny_bind (wpAny_mkInt ?_)
  show wpAny _ _ (setField (.ref e) 3 (rawInt (k + 1)) >>= _) _ _ { s with heap := h1, toks := tk + 1 }
  refine wpAny_bind (wpAny_setField_rec he1 (by simp) fun h2 he2 hs2 => ?_)
  replace hs2 : Heap.SameBut e h1 h2 := hs2
  replace he2 : IsEnum h2 e z (k + 1) old := he2
  show wpAny _ _ (setField (.ref e) 4 .none >>= _) _ _ { s with heap := h2, toks := tk + 1 }
  refine wpAny_bind (wpAny_setField_rec he2 (by simp) fun h3 he3 hs3 => ?_)
  replace hs3 : Heap.SameBut e h2 h3 := hs3
  replace he3 : IsEnum h3 e z (k + 1) old := he3
  show wpAny _ _ (newTuple [.int k tk, .ref s.heap.objs.size] >>= _) _ _ { s with heap := h3, toks := tk + 1 }
  refine wpAny_bind (wpAny_newTuple ?_)
  have sz3 : h3.objs.size = s.heap.objs.size + 1 := by rw [hs3.1, hs2.1, sz1]
  have he4 : IsEnum (h3.push (tObj [.int k tk, .ref s.heap.objs.size])) e z (k + 1) old := Heap.get?_push_of_some _ he3
  have t4 : (h3.push (tObj [.int k tk, .ref s.heap.objs.size])).get? (s.heap.objs.size + 1) = some (tObj [.int k tk, .ref s.heap.objs.size]) := by rw [← sz3]; exact Heap.get?_push_size _ rfl
  have up : ∀ c o, c ≠ e → h1.get? c = some o → (h3.push (tObj [.int k tk, .ref s.heap.objs.size])).get? c = some o := fun c o hc r => Heap.get?_push_of_some _ (hs3.extBut _ _ hc (hs2.extBut _ _ hc r))
  show wpAny _ _ (Builtin.SmallTypes.ownedTupleIsFree (.ref e) >>= _) _ _ { s with heap := h3.push (tObj [.int k tk, .ref s.heap.objs.size]), toks := tk + 1 }
  rw [sz3]
  generalize h3.push (tObj [.int k tk, .ref s.heap.objs.size]) = h4 at he4 t4 up
  refine wpAny_bind ?_
  unfold Builtin.SmallTypes.ownedTupleIsFree
  refine wpAny_bind (wpAny_field he4 rfl (x := .none) rfl (wpAny_pure ?_))
  simp only [if_true]
  refine wpAny_bind (wpAny_rule ?_)
  refine wpAny_bind (wpAny_field he4 rfl (x := old) rfl ?_)
  refine wpAny_bind (wpAny_setField_rec he4 (by simp) fun h5 he5 hs5 => ?_)
  replace hs5 : Heap.SameBut e h4 h5 := hs5
  replace he5 : IsEnum h5 e z (k + 1) (.ref s.heap.objs.size) := he5
  show wpAny _ _ (Builtin.SmallTypes.ownedTupleHandOut (.ref e) (.ref (s.heap.objs.size + 1)) >>= _) _ _ { s with heap := h5, toks := tk + 1 }
  refine wpAny_bind ?_
  unfold Builtin.SmallTypes.ownedTupleHandOut
  refine wpAny_bind (wpAny_setField_rec he5 (by simp) fun h6 he6 hs6 => ?_)
  replace hs6 : Heap.SameBut e h5 h6 := hs6
  replace he6 : IsEnumOut h6 e z (k + 1) (.ref s.heap.objs.size) (s.heap.objs.size + 1) := he6
  refine wpAny_setField_rec he6 (by simp) fun h7 he7 hs7 => ?_
  replace hs7 : Heap.SameBut e h6 h7 := hs7
  have up7 : ∀ c o, c ≠ e → h4.get? c = some o → h7.get? c = some o := fun c o hc r => hs7.extBut _ _ hc (hs6.extBut _ _ hc (hs5.extBut _ _ hc r))
  refine wpAny_bind (wpAny_letGo (wpAny_pure ⟨_, rfl, wpAny_pure ?_⟩))
  refine hQ u v h7 tk e1 e2 he7 (x1.keep fun c hc o r => up7 c o (nl c hc) (up c o (nl c hc) r)) (up7 _ _ (Nat.ne_of_gt hel) (up _ _ (Nat.ne_of_gt hel) t1)) (up7 _ _ (Nat.ne_of_gt (Nat.lt_succ_of_lt hel)) t4) ⟨h1, hk1, sz1, t1, fun c o hc r => up7 _ _ hc (up _ _ hc r)⟩
theorem enumz_stop {Q : Option Value → Shared → Prop} (hh : A.handled = none) (D : ZipFar z TI TO i1 i2 a b) (he : IsEnum s.heap e z k old) (x : ZipOn s.heap p q z TI TO i1 i2 a b i) (ia : ItemsB p s.heap a us) (ib : ItemsB q s.heap b ws) (hi : i = min us.size ws.size)
    (hQ : ∀ h' tk, (∀ c o, c ∉ [z, TI, TO, i1, i2] → s.heap.get? c = some o → h'.get? c = some o) → Q none { s with heap := h', toks := tk }) :
    wpAny (model prog w) A (pyNext (.ref e)) Q E s := by
  have hT : s.TypeIs (.ref e) "enumerate" := ⟨_, he, rfl⟩
  unfold pyNext
  refine wpAny_bind (wpAny_attempt (wpAny_callSpecial?_slot (name := Str.ofString "__next__") hT F.slot_enumerate_next (wpAny_call_entry F.slot_enumerate_next hT F.entry_enumerate_next ?_ (F.args_enumerate_next_1 _))))
  show wpAny _ _ (field (.ref e) 2 >>= _) _ _ _
  refine wpAny_bind (wpAny_field he rfl (x := .ref z) rfl ?_)
  refine wpAny_bind ?_
  unfold Builtin.SmallTypes.nextOf
  refine wpAny_bind (zipon_stop (by exact hh) D x ia ib hi fun h1 tk x hk hx => ?_)
  obtain ⟨o, ho, hc⟩ := hx
  refine wpAny_bind (wpAny_isInstance (T := "StopIteration") (b := true) ⟨o, ho, hc⟩ isSubtype_stop ?_)
  exact wpAny_pure (hQ h1 tk hk)
end
def ItezB (K : PySem.W.Frag) (p q : Bool) (a b : Addr) (k : Int) : It :=
  ⟨fun i H => ∃ (xs ys : List V), SqB K p H a xs ∧ SqB K q H b ys ∧ i < min xs.length ys.length,
    fun i H v H' => ∃ T U x y, ∃ o o2 : Obj, v = .ref U ∧ H T = none ∧ (upd H T (.frz o (.tup [x, y]))) U = none ∧ o.dict = none ∧ o2.dict = none ∧ H' = upd (upd H T (.frz o (.tup [x, y]))) U (.frz o2 (.tup [.int (k + (i : Int)), .ref T])) ∧ (∀ xs, SqB K p H a xs → xs[i]? = some x) ∧ ∀ ys, SqB K q H b ys → ys[i]? = some y,
    fun i H => ∃ xs ys : List V, SqB K p H a xs ∧ SqB K q H b ys ∧ i = min xs.length ys.length⟩
theorem turn_enumz {P : Program} {w : World} {K : PySem.W.Frag} {elts : List Expr} {kk : Nat} {tpos : Pos} {p q : Bool} {a b e z TI TO i1 i2 : Addr} {k : Int} (D : ZipFar z TI TO i1 i2 a b) (ne : e ∉ [z, TI, TO, i1, i2]) :
    Turn P w K (.Tuple elts kk tpos) (ItezB K p q a b k) [e, z, TI, TO, i1, i2] e (fun i h => (∃ old, IsEnum h e z (k + (i : Int)) old) ∧ ZipOn h p q z TI TO i1 i2 a b i) where
  mem := by simp
  obj := fun i h ⟨⟨old, he⟩, x⟩ c hc => by
    rcases List.mem_cons.mp hc with r | r
    · rw [r]; exact ⟨_, he, fun v r => nomatch r⟩
    · exact x.objs c r
  keep := fun i h h' ⟨⟨old, he⟩, x⟩ kk => ⟨⟨old, kk e (by simp) _ he⟩, x.keep fun c hc o r => kk c (List.mem_cons_of_mem _ hc) o r⟩
  item := by
    intro X hP hw hK hc i pins s σ H E I hf st hg
    subst hP hw hK
    obtain ⟨⟨old, he⟩, x⟩ := st
    obtain ⟨xs, ys, hx, hy, hi⟩ := hg
    obtain ⟨us, rv, ps, o1, ho1⟩ := itemsB_of I hx
    obtain ⟨ws, rw2, qs, o2, ho2⟩ := itemsB_of I hy
    have hel : e < s.heap.objs.size := Heap.lt_size he
    refine enumz_item (I.ok.hd hc) D he ne x ps qs (by rw [List.size_toArray, ← rv.length]; omega) (by rw [List.size_toArray, ← rw2.length]; omega) fun u v h' tk e1 e2 he1 x1 t1 t2 ⟨h1, hk1, sz1, T1, hk2⟩ => ?_
    obtain ⟨m, hm1, rm⟩ := vals_at rv (by simpa using e1)
    obtain ⟨n, hn1, rn⟩ := vals_at rw2 (by simpa using e2)
    refine ⟨_, rfl, wpAny_letOwnedTupleGo_enum (s := { s with heap := h', toks := tk + 1 }) he1 fun h2 he2 sb => ?_⟩
    have T2 : h2.get? (s.heap.objs.size + 1) = some (tObj [.int (k + (i : Int)) tk, .ref s.heap.objs.size]) := (sb.2 _ (Nat.ne_of_gt (Nat.lt_succ_of_lt hel))).trans t2
    have hf1 : ∀ c ∈ [z, TI, TO, i1, i2], FpOk X pins H c := fun c hc => hf c (List.mem_cons_of_mem _ hc)
    have lts : ∀ c ∈ [e, z, TI, TO, i1, i2], c < s.heap.objs.size := fun c hc => by
      rcases List.mem_cons.mp hc with r | r
      · rw [r]; exact hel
      · obtain ⟨_, g, _⟩ := x.objs c r; exact Heap.lt_size g
    have hn0 : H s.heap.objs.size = none := I.hok.fresh (Nat.le_refl _)
    have I1 : L2.Inv X pins σ (upd H s.heap.objs.size (.frz (tObj [u, v]) (.tup [m, n]))) { s with heap := h1, toks := tk + 1 } :=
      I.turnedNew (t' := tk + 1) (ch := [z, TI, TO, i1, i2]) (fun c o hb r => hk1 c o hb r) hf1 (Nat.le_refl _) (ok_known (by show 2 ≤ sizeLine; decide) (.cons rm (.cons rn .nil)) T1)
    have hf2 : ∀ c ∈ [e], FpOk X pins (upd H s.heap.objs.size (.frz (tObj [u, v]) (.tup [m, n]))) c := fun c hc => by
      have hc' : c ∈ [e, z, TI, TO, i1, i2] := by rw [List.mem_singleton.mp hc]; simp
      obtain ⟨f0, f1⟩ := hf c hc'
      exact ⟨by rw [upd_ne (Nat.ne_of_lt (lts c hc'))]; exact f0, f1⟩
    have hn1' : (upd H s.heap.objs.size (.frz (tObj [u, v]) (.tup [m, n]))) (s.heap.objs.size + 1) = none := I1.hok.fresh (by show h1.objs.size ≤ _; rw [sz1]; exact Nat.le_refl _)
    have I2 : L2.Inv X pins σ (upd (upd H s.heap.objs.size (.frz (tObj [u, v]) (.tup [m, n]))) (s.heap.objs.size + 1) (.frz (tObj [.int (k + (i : Int)) tk, .ref s.heap.objs.size]) (.tup [.int (k + (i : Int)), .ref s.heap.objs.size]))) { s with heap := h2, toks := tk + 1 } :=
      I1.turnedNew (t' := tk + 1) (ch := [e]) (fun c o hb r => (sb.2 c (by simpa using hb)).trans (hk2 c o (by simpa using hb) r)) hf2 (by show h1.objs.size ≤ _; rw [sz1]; exact Nat.le_refl _) (ok_known (by show 2 ≤ sizeLine; decide) (.cons ⟨_, rfl⟩ (.cons rfl .nil)) T2)
    refine ⟨.ref (s.heap.objs.size + 1), _, I2, rfl, ⟨_, _, m, n, tObj [u, v], tObj [.int (k + (i : Int)) tk, .ref s.heap.objs.size], rfl, hn0, hn1', rfl, rfl, rfl, fun l hl => by rw [sqB_inj I hl hx]; exact hm1, fun l hl => by rw [sqB_inj I hl hy]; exact hn1⟩, ⟨⟨.ref s.heap.objs.size, ?_⟩, x1.keep fun c hc o r => (sb.2 c fun r => ne (r ▸ hc)).trans r⟩, fun c hc => ?_⟩
    · have e1 : k + ((i + 1 : Nat) : Int) = k + (i : Int) + 1 := by omega
      rw [e1]; exact he2
    · rw [upd_ne (Nat.ne_of_lt (Nat.lt_succ_of_lt (lts c hc))), upd_ne (Nat.ne_of_lt (lts c hc))]
      exact (hf c hc).1
  done := by
    intro X hP hw hK hc i pins s σ H E I hf st hg
    subst hP hw hK
    obtain ⟨⟨old, he⟩, x⟩ := st
    obtain ⟨xs, ys, hx, hy, hi⟩ := hg
    obtain ⟨us, rv, ps, o1, ho1⟩ := itemsB_of I hx
    obtain ⟨ws, rw2, qs, o2, ho2⟩ := itemsB_of I hy
    refine enumz_stop (I.ok.hd hc) D he x ps qs (by rw [List.size_toArray, List.size_toArray, ← rv.length, ← rw2.length]; exact hi) fun h' tk hk => ⟨rfl, ?_⟩
    exact I.turnedL (t' := tk) (ch := [e, z, TI, TO, i1, i2]) (fun c o hb r => hk c o (fun m => hb (List.mem_cons_of_mem _ m)) r) hf
  self := fun A i s Q E st h => let ⟨⟨_, he⟩, _⟩ := st; wpAny_pyIter_enum he h
/-! ### enumerate of what iterates by itself -/
theorem meets_enum_self {v : Value} {H : Heap → Prop} (it : ∀ (prog : Program) (w : World) (A : Around) (E : Value → Shared → Prop) (s : Shared) (Q : Value → Shared → Prop), H s.heap → Q v s → wpAny (model prog w) A (pyIter v) Q E s) (k : Int) (t : Tok) (hfit : Builtin.SmallTypes.fitsIndex k = true) :
    Meets (Builtin.«enumerate.__new__» ⟨[.type "enumerate", v, .int k t], []⟩) (fun _ R s => H s.heap ∧
      R (.ok (.ret (.ref s.heap.objs.size))) { s with heap := s.heap.push { cls := .type "enumerate", data := .fields #[.none, .bool false, v, rawInt k, .none, .none] } }) :=
  .of_wp fun prog w A R s h => by
    obtain ⟨hp, g, d, tk, os⟩ := s; obtain ⟨h1, h⟩ := h
    have hsub := sub_enumerate
    have hnf : (!Builtin.SmallTypes.fitsIndex k) = false := by rw [hfit]; rfl
    have q1 : ∀ {A' : Around} {E : Value → Shared → Prop} {Q : Value → Shared → Prop}, Q v ⟨hp, g, d, tk, os⟩ → wpAny (model prog w) A' (pyIter v) Q E ⟨hp, g, d, tk, os⟩ := fun q => it prog w _ _ ⟨hp, g, d, tk, os⟩ _ h1 q
    wp_walk using q1
    refine wpAny_stack_any fun st => wpAny_pure ?_
    split
    · rename_i c _ _ _ _ _
      cases (c == Value.type "enumerate")
      · wp_walk using q1
        exact ⟨_, rfl, h⟩
      · wp_walk using q1
        exact ⟨_, rfl, h⟩
    · wp_walk using q1
      exact ⟨_, rfl, h⟩
theorem call_enum_self {prog : Program} {w : World} {A : Around} {E : Value → Shared → Prop} {s : Shared} {v : Addr} {H : Heap → Prop} {k : Int} {t : Tok} {Q : Value → Shared → Prop} (it : ∀ (prog : Program) (w : World) (A : Around) (E : Value → Shared → Prop) (s : Shared) (Q : Value → Shared → Prop), H s.heap → Q (.ref v) s → wpAny (model prog w) A (pyIter (.ref v)) Q E s) (h1 : H s.heap) (hk : -(2 ^ 63) ≤ k ∧ k < 2 ^ 63)
    (h : ∀ h', IsEnum h' s.heap.objs.size v k .none → h'.objs.size = s.heap.objs.size + 1 → (∀ b o, s.heap.get? b = some o → h'.get? b = some o) → Q (.ref s.heap.objs.size) { s with heap := h' }) :
    wpAny (model prog w) A (call (.type "enumerate") [.ref v, .int k t]) Q E s := by
  refine callType_new F.called_enumerate (by decide) (F.typeCall_enumerate_2 _ _) (F.newCall_enumerate_2 _ _) (fun obj => F.args_object_init_3 obj _ _) F.entry_enumerate_new (meets_enum_self it k t (fits_start hk.1 hk.2)) ⟨h1, ?_⟩
  have he : IsEnum (s.heap.push { cls := .type "enumerate", data := .fields #[.none, .bool false, .ref v, rawInt k, .none, .none] }) s.heap.objs.size v k .none := Heap.get?_push_size _ rfl
  exact ⟨⟨_, he, rfl⟩, h _ he (Heap.size_push ..) fun b o x => Heap.get?_push_of_some _ x⟩
def iEnumZ (K : PySem.W.Frag) (k : Int) (ta : TA) : TI := fun σ H R => ta σ H fun vs H1 => ∃ p q a b xs ys, vs = [.ref a, .ref b] ∧ SqB K p H1 a xs ∧ SqB K q H1 b ys ∧ R (ItezB K p q a b k) H1
theorem pi_enumZ {X : Cx} {e e2 : Expr} {ta : TA} {p p2 p3 pos pos2 tpos : Pos} {elts : List Expr} {kk j : Nat} {k : Int} (hg : Gl X "enumerate") (hm : X.mg "enumerate" = none) (hgz : Gl X "zip") (hmz : X.mg "zip" = none) (hk : -(2 ^ 63) ≤ k ∧ k < 2 ^ 63) (ha : PA X [e, e2] ta)
    (hs : starEach [e, e2] X.env = (false, eval e X.env) :: starEach [e2] X.env := by rfl) (hpl : (backTo pos2 (starEach [e2] X.env)).any (·.1) = false := by rfl) :
    PI X (.Tuple elts kk tpos) (.Call (.Name "enumerate" p) [.Call (.Name "zip" p2) [e, e2] [] pos2, .Constant (.int k) j p3] [] pos) (iEnumZ X.K k ta) := by
  refine ⟨fun pins s σ H R I h => ?_⟩
  refine Call_ (ld_blt I hg hm boot_enumerate (PyProof.Rows.callWith_type1 ?_ rfl rfl))
  show wpAny _ _ (spliced [(false, eval (.Call (.Name "zip" p2) [e, e2] [] pos2) X.env), (false, eval (.Constant (.int k) j p3) X.env)]) _ _ s
  refine Calls.spliced_cons ?_
  refine Call_ (ld_blt I hgz hmz PyProof.Rows.boot_zip (PyProof.Rows.callWith_type1 (thn (ha.run pos2 pins s σ H _ I h) fun us s1 ⟨vs, H1, I1, r1, q1⟩ => ?_) hs hpl))
  obtain ⟨p1, q2, a, b, xs, ys, ex, hx, hy, q⟩ := q1
  subst ex
  cases r1 with
  | cons r rr =>
    cases rr with
    | cons r' rr =>
      cases rr
      cases r
      cases r'
      obtain ⟨us, rv, ps, o1, ho1⟩ := itemsB_of I1 hx
      obtain ⟨ws, rw2, qs, o2, ho2⟩ := itemsB_of I1 hy
      have la := Heap.lt_size ho1
      have lb := Heap.lt_size ho2
      refine zip_begins2 (beginsB p1 a us.toArray) (beginsB q2 b ws.toArray) ps qs fun h' hz hTI hTO g1 g2 hsz hkp => ?_
      have far : ZipFar (s1.heap.objs.size + 4) (s1.heap.objs.size + 2) (s1.heap.objs.size + 3) s1.heap.objs.size (s1.heap.objs.size + 1) a b :=
        ⟨zip_sep2 (N := s1.heap.objs.size) (fp1 := [a]) (fp2 := [b]) (fun c hc => by rw [List.mem_singleton] at hc; rw [hc]; exact la) (fun c hc => by rw [List.mem_singleton] at hc; rw [hc]; exact lb), Nat.ne_of_lt la, Nat.ne_of_lt (Nat.lt_succ_of_lt lb)⟩
      have on : ZipOn h' p1 q2 (s1.heap.objs.size + 4) (s1.heap.objs.size + 2) (s1.heap.objs.size + 3) s1.heap.objs.size (s1.heap.objs.size + 1) a b 0 := ⟨⟨_, _, .inl rfl, hz⟩, hTI, ⟨_, _, hTO⟩, iterB_new g1, iterB_new g2⟩
      refine Calls.spliced_cons (wpAny_Constant_int ?_)
      refine Calls.spliced_nil ?_
      refine call_enum_self (H := fun h => h.get? (s1.heap.objs.size + 4) = h'.get? (s1.heap.objs.size + 4)) (fun prog w A E s Q hh hQ => wpAny_pyIter_zip (hh.trans hz) hQ) rfl hk fun h2 he hsz2 hk2 => wpAny_pyIter_enum he ?_
      replace hsz2 : h2.objs.size = h'.objs.size + 1 := hsz2
      have hk3 : ∀ b o, s1.heap.get? b = some o → h2.get? b = some o := fun b o r => hk2 b o (hkp b o r)
      have I2 : L2.Inv X pins σ H1 { s1 with heap := h2, toks := s1.toks + 1 } := I1.kept (t' := s1.toks + 1) hk3
      have ne : h'.objs.size ∉ [s1.heap.objs.size + 4, s1.heap.objs.size + 2, s1.heap.objs.size + 3, s1.heap.objs.size, s1.heap.objs.size + 1] := by
        rw [hsz]
        intro m
        have : s1.heap.objs.size + 5 = s1.heap.objs.size + 4 ∨ s1.heap.objs.size + 5 = s1.heap.objs.size + 2 ∨ s1.heap.objs.size + 5 = s1.heap.objs.size + 3 ∨ s1.heap.objs.size + 5 = s1.heap.objs.size ∨ s1.heap.objs.size + 5 = s1.heap.objs.size + 1 := by simpa using m
        omega
      refine ⟨h'.objs.size, [h'.objs.size, s1.heap.objs.size + 4, s1.heap.objs.size + 2, s1.heap.objs.size + 3, s1.heap.objs.size, s1.heap.objs.size + 1], _, _, H1, rfl, I2, turn_enumz far ne, ⟨⟨.none, ?_⟩, on.keep fun c hc o r => hk2 c o r⟩, fun c hcm => ?_, q⟩
      · have e0 : k + ((0 : Nat) : Int) = k := by omega
        rw [e0]; exact he
      have hle : s1.heap.objs.size ≤ c := by
        have e' : c = h'.objs.size ∨ c = s1.heap.objs.size + 4 ∨ c = s1.heap.objs.size + 2 ∨ c = s1.heap.objs.size + 3 ∨ c = s1.heap.objs.size ∨ c = s1.heap.objs.size + 1 := by simpa using hcm
        rcases e' with z | z | z | z | z | z
        · rw [z, hsz]; exact Nat.le_add_right _ _
        · rw [z]; exact Nat.le_add_right _ _
        · rw [z]; exact Nat.le_add_right _ _
        · rw [z]; exact Nat.le_add_right _ _
        · rw [z]; exact Nat.le_refl _
        · rw [z]; exact Nat.le_add_right _ _
      exact I1.fpOk hle (I1.hok.fresh hle)
end FM

/-! FL3: list(zip(a, b)): many new pairs at once. -/
namespace FM
open PySem PySem.Spec PyProof.Rows L2 RZ
/-- the pairs that were given so far -/
structure PairsG (us ws : Array Value) (S : Addr) (h : Heap) (as : List Addr) : Prop where
  rise : as.Pairwise (· < ·)
  above : ∀ a ∈ as, S < a
  at_ : ∀ (j : Nat) (a : Addr), as[j]? = some a → ∃ u v, us[j]? = some u ∧ ws[j]? = some v ∧ h.get? a = some (tObj [u, v])
theorem PairsG.up {us ws : Array Value} {S : Addr} {h h' : Heap} {as : List Addr} (g : PairsG us ws S h as) (k : ∀ a ∈ as, ∀ o, h.get? a = some o → h'.get? a = some o) : PairsG us ws S h' as :=
  ⟨g.rise, g.above, fun j a e => let ⟨u, v, e1, e2, e3⟩ := g.at_ j a e; ⟨u, v, e1, e2, k a (List.mem_of_getElem? e) _ e3⟩⟩
theorem itemsB_at {b : Bool} {h h' : Heap} {a : Addr} {its : Array Value} (x : ItemsB b h a its) (k : ∀ o, h.get? a = some o → h'.get? a = some o) : ItemsB b h' a its := by
  cases b
  · exact Heap.IsList.at x k
  · exact Heap.IsTuple.at x k
theorem nolen_zip : typeLookup (.type "zip") "__len__" = pure none := am_miss_of_fast (by decide +kernel)
theorem nohint_zip : typeLookup (.type "zip") "__length_hint__" = pure none := am_miss_of_fast (by decide +kernel)
section
variable {prog : Program} {w : World} {A : Around} {E : Value → Shared → Prop} {s : Shared} {R : Result → Shared → Prop} {p q : Bool} {z TI TO i1 i2 a b S : Addr} {us ws : Array Value}
theorem zl_loop (hh : A.handled = none) (D : ZipFar z TI TO i1 i2 a b) (lt : ∀ c ∈ [z, TI, TO, i1, i2], c < S) (la : a < S) (lb : b < S) (az : a ∉ [z, TI, TO, i1, i2]) (bz : b ∉ [z, TI, TO, i1, i2]) (hn : min us.size ws.size ≤ sizeLine) (res : Value)
    (hR : ∀ h' tk acc c as, (∀ c o, c < S → c ∉ [z, TI, TO, i1, i2] → s.heap.get? c = some o → h'.get? c = some o) → h'.get? S = some { cls := .type "list", dict := none, data := .seq acc c, slots := #[] } → as.length = min us.size ws.size → PairsG us ws S h' as →
      acc.toList = as.map Value.ref → R (.ok (.ret res)) { s with heap := h', toks := tk }) :
    ∀ (k i : Nat) (h : Heap) (tk c : Nat) (acc : Array Value) (as : List Addr), min us.size ws.size - i = k → i ≤ min us.size ws.size → ZipOn h p q z TI TO i1 i2 a b i → ItemsB p h a us → ItemsB q h b ws → (∀ c o, c < S → c ∉ [z, TI, TO, i1, i2] → s.heap.get? c = some o → h.get? c = some o) →
      h.get? S = some { cls := .type "list", dict := none, data := .seq acc c, slots := #[] } → acc.toList = as.map Value.ref → as.length = i → PairsG us ws S h as →
      codeAny (model prog w) A (.builtin "list.extend.loop" ⟨[.ref S, .ref z, res], []⟩) R { s with heap := h, toks := tk } := by
  intro k
  induction k with
  | zero =>
    intro i h tk c acc as hk hi x ia ib keep hS hacc hl hG
    have hin : i = min us.size ws.size := by omega
    refine codeAny_builtin F.entry_extend_loop ?_
    rw [Around.under_plainId F.plain_extend_loop _]
    show wpAny _ A.in1 (pyNext (.ref z) >>= _) _ _ _
    unfold pyNext
    refine wpAny_bind (wpAny_bind (wpAny_attempt (zipon_stop (s := { s with heap := h, toks := tk }) (by exact hh) D x ia ib hin fun h' tk' e hk' he => ?_)))
    obtain ⟨o, ho, hc⟩ := he
    refine wpAny_bind (wpAny_isInstance (T := "StopIteration") (b := true) ⟨o, ho, hc⟩ isSubtype_stop ?_)
    refine wpAny_pure (wpAny_pure ?_)
    have nS : S ∉ [z, TI, TO, i1, i2] := fun m => Nat.lt_irrefl _ (lt S m)
    exact hR h' tk' acc c as (fun c o h1 h2 e => hk' c o h2 (keep c o h1 h2 e)) (hk' S _ nS hS) (by omega) (hG.up fun a ha o e => hk' a o (fun m => Nat.lt_asymm (lt a m) (hG.above a ha)) e) hacc
  | succ k ih =>
    intro i h tk c acc as hk hi x ia ib keep hS hacc hl hG
    have hlt : i < min us.size ws.size := by omega
    have hsz : acc.size = i := by rw [← Array.length_toList, hacc, List.length_map, hl]
    have nS : S ∉ [z, TI, TO, i1, i2] := fun m => Nat.lt_irrefl _ (lt S m)
    have hSl : S < h.objs.size := Heap.lt_size hS
    refine codeAny_builtin F.entry_extend_loop ?_
    rw [Around.under_plainId F.plain_extend_loop _]
    show wpAny _ A.in1 (pyNext (.ref z) >>= _) _ _ _
    unfold pyNext
    refine wpAny_bind (wpAny_bind (wpAny_attempt (zipon_item (s := { s with heap := h, toks := tk }) (by exact hh) D x ia ib (by omega) (by omega) fun u v h' tk' e1 e2 x1 t1 sz1 hk' => wpAny_pure ?_)))
    dsimp only at t1 sz1 hk' ⊢
    have hS' := hk' S _ nS hS
    have up : ∀ b o, b ≠ S → h'.get? b = some o → (h'.update S (Obj.mapSeq (·.push (Value.ref h.objs.size)))).get? b = some o := fun b o hb e => (Heap.get?_update_other _ _ (Ne.symm hb)).trans e
    show wpAny _ A.in1 (updateSeq S (·.push (Value.ref h.objs.size)) >>= _) _ _ _
    refine wpAny_bind ?_
    refine wpAny_updateSeq hS' rfl (wpAny_pure ⟨plainId_quiet F.plain_extend_loop _, ih (i + 1) _ tk' _ (acc.push (Value.ref h.objs.size)) (as ++ [h.objs.size]) (by omega) hlt (x1.keep fun c hc o e => up c o (Nat.ne_of_lt (lt c hc)) e)
      (itemsB_at ia fun o e => up a o (Nat.ne_of_lt la) (hk' a o az e)) (itemsB_at ib fun o e => up b o (Nat.ne_of_lt lb) (hk' b o bz e)) (fun c o h1 h2 e => up c o (Nat.ne_of_lt h1) (hk' c o h2 (keep c o h1 h2 e))) (Heap.get?_update_self _ hS' rfl)
      (by rw [Array.toList_push, hacc, List.map_append]; rfl) (by rw [List.length_append, hl]; rfl) ⟨?_, ?_, ?_⟩⟩) (by rw [hsz]; omega) (by show (acc.push (Value.ref h.objs.size)).size ≤ sizeLine + 1; rw [Array.size_push, hsz]; omega)
    · refine List.pairwise_append.mpr ⟨hG.rise, List.pairwise_singleton _ _, fun a ha b hb => ?_⟩
      rw [List.mem_singleton.mp hb]
      obtain ⟨j, hj⟩ := List.mem_iff_getElem?.mp ha
      obtain ⟨_, _, _, _, e⟩ := hG.at_ j a hj
      exact Heap.lt_size e
    · intro a ha
      rcases List.mem_append.mp ha with ha | ha
      · exact hG.above a ha
      · rw [List.mem_singleton.mp ha]; exact hSl
    · intro j b hj
      rcases Nat.lt_trichotomy j as.length with h1 | h1 | h1
      · rw [List.getElem?_append_left h1] at hj
        obtain ⟨u0, v0, g1, g2, g3⟩ := hG.at_ j b hj
        have hb := hG.above b (List.mem_of_getElem? hj)
        exact ⟨u0, v0, g1, g2, up b _ (Nat.ne_of_gt hb) (hk' b _ (fun m => Nat.lt_asymm (lt b m) hb) g3)⟩
      · subst h1
        have hb : h.objs.size = b := by simpa using hj
        subst hb
        exact ⟨u, v, by rw [hl]; exact e1, by rw [hl]; exact e2, up _ _ (Nat.ne_of_gt hSl) t1⟩
      · have hnone : (as ++ [h.objs.size])[j]? = none := List.getElem?_eq_none (by rw [List.length_append, List.length_singleton]; omega)
        rw [hnone] at hj; cases hj
/-- list(z) of a new zip -/
theorem zl_call {Q : Value → Shared → Prop} (hh : A.handled = none) (D : ZipFar z TI TO i1 i2 a b) (hz : IsZip s.heap z TI TO .none) (x : ZipOn s.heap p q z TI TO i1 i2 a b 0) (ia : ItemsB p s.heap a us) (ib : ItemsB q s.heap b ws) (az : a ∉ [z, TI, TO, i1, i2]) (bz : b ∉ [z, TI, TO, i1, i2]) (la : a < s.heap.objs.size) (lb : b < s.heap.objs.size)
    (hn : min us.size ws.size ≤ sizeLine)
    (hQ : ∀ h' tk acc c as, (∀ c o, c ∉ [z, TI, TO, i1, i2] → s.heap.get? c = some o → h'.get? c = some o) → h'.get? s.heap.objs.size = some { cls := .type "list", dict := none, data := .seq acc c, slots := #[] } → as.length = min us.size ws.size → PairsG us ws s.heap.objs.size h' as →
      acc.toList = as.map Value.ref → Q (.ref s.heap.objs.size) { s with heap := h', toks := tk }) :
    wpAny (model prog w) A (call (.type "list") [.ref z]) Q E s := by
  have lts : ∀ c ∈ [z, TI, TO, i1, i2], c < s.heap.objs.size := fun c hc => let ⟨_, g, _⟩ := x.objs c hc; Heap.lt_size g
  have lz : z < s.heap.objs.size := lts z (by simp)
  refine callType_codes (Q₁ := fun obj s₁ => obj = .ref s.heap.objs.size ∧ s₁ = { s with heap := s.heap.push { cls := .type "list", data := .seq #[] } }) F.called_list (F.typeCall_list_1 _) F.entry_list_init (code_list_new _ ⟨rfl, rfl⟩) fun obj s₁ h₁ => ?_
  obtain ⟨rfl, rfl⟩ := h₁
  have hS : (s.heap.push { cls := .type "list", data := .seq #[] }).get? s.heap.objs.size = some { cls := .type "list", data := .seq #[] } := Heap.get?_push_size _ rfl
  refine ⟨⟨_, hS, rfl⟩, F.args_list_init_2 _ _, ?_⟩
  show wpAny _ A.in1.in1 (do let old ← Builtin.List.listItems (.ref s.heap.objs.size); Builtin.List.listUpdate (.ref s.heap.objs.size) (fun _ => #[]); letGo old.toList.reverse; Builtin.List.listExtendWith (.ref s.heap.objs.size) (.ref z) .none) _ _ _
  refine wpAny_bind ?_
  unfold Builtin.List.listItems
  refine wpAny_bind (wpAny_seqItems hS rfl (wpAny_pure ?_))
  show wpAny _ A.in1.in1 (updateSeq s.heap.objs.size (fun _ => #[]) >>= fun _ => letGo (#[] : Array Value).toList.reverse >>= fun _ => Builtin.List.listExtendWith (.ref s.heap.objs.size) (.ref z) .none) _ _ _
  refine wpAny_bind (wpAny_updateSeq hS rfl ?_)
  have hS2 := Heap.get?_update_self (Obj.mapSeq (fun _ => (#[] : Array Value))) hS rfl
  refine wpAny_bind (wpAny_letGo ?_)
  unfold Builtin.List.listExtendWith
  have up : ∀ (h : Heap) (f : Obj → Obj), (∀ b o, s.heap.get? b = some o → h.get? b = some o) → ∀ b o, s.heap.get? b = some o → (h.update s.heap.objs.size f).get? b = some o := fun h f q b o e =>
    (Heap.get?_update_other _ _ (Ne.symm (Nat.ne_of_lt (Heap.lt_size e)))).trans (q b o e)
  have k1 : ∀ b o, s.heap.get? b = some o → (s.heap.push { cls := .type "list", data := .seq #[] }).get? b = some o := fun b o e => Heap.get?_push_of_some _ e
  have k2 := up _ (Obj.mapSeq (fun _ => (#[] : Array Value))) k1
  have zty : ∀ {h : Heap} {tk : Nat}, (∀ b o, s.heap.get? b = some o → h.get? b = some o) → ({ s with heap := h, toks := tk } : Shared).TypeIs (.ref z) "zip" := fun {h tk} k => (x.z.ty (s := s)).elim fun o ho => ⟨o, k z o ho.1, ho.2⟩
  refine wpAny_bind (wpAny_typeOf (zty k2) ?_)
  have h1 : Builtin.List.listSameRef (.ref s.heap.objs.size) (.ref z) = false := by simp [Builtin.List.listSameRef, Nat.ne_of_gt lz]
  have h2 : (Value.type "zip" == Value.type "list") = false := by decide
  have h3 : (Value.type "zip" == Value.type "tuple") = false := by decide
  simp only [h1, h2, h3, Bool.or_false, Bool.false_eq_true, if_false]
  refine wpAny_bind (wpAny_pyIter_zip (f0 := .none) (k2 _ _ hz) ?_)
  refine wpAny_bind (wpAny_holding ?_)
  unfold Builtin.List.listLengthHint
  refine wpAny_bind (wpAny_specialOf (zty k2) nolen_zip ?_)
  show wpAny _ A.in1.in1 (specialOf (Value.ref z) (Str.ofString "__length_hint__") >>= _) _ _ _
  refine wpAny_bind (wpAny_specialOf (zty k2) nohint_zip ?_)
  refine wpAny_pure ?_
  have fin : ∀ (h : Heap) (c : Nat), (∀ c o, s.heap.get? c = some o → h.get? c = some o) → h.get? s.heap.objs.size = some { cls := .type "list", dict := none, data := .seq #[] c, slots := #[] } →
      codeAny (model prog w) A.in1 (.builtin "list.extend.loop" ⟨[.ref s.heap.objs.size, .ref z, .none], []⟩) (wants (fun r s' => r = .none ∧ Q (.ref s.heap.objs.size) s') E) { s with heap := h, toks := s.toks } := fun h c kk hS4 =>
    zl_loop (A := A.in1) (p := p) (q := q) (us := us) (ws := ws) (by exact hh) D lts la lb az bz hn .none (fun h' tk acc c as k hS' hl hG hacc => ⟨rfl, hQ h' tk acc c as (fun c o hc e => k c o (Heap.lt_size e) hc e) hS' hl hG hacc⟩)
      _ 0 h s.toks c #[] [] rfl (Nat.zero_le _) (x.keep fun c _ o e => kk c o e) (itemsB_at ia fun o e => kk a o e) (itemsB_at ib fun o e => kk b o e) (fun c o _ _ e => kk c o e) hS4 rfl rfl ⟨List.Pairwise.nil, (fun _ h => nomatch h), (fun j a e => by simp at e)⟩
  show wpAny _ A.in1.in1 (rule "list.extend.makes-room" >>= fun _ => Builtin.List.listTouch (.ref s.heap.objs.size) >>= fun _ => again (.builtin "list.extend.loop" ⟨[.ref s.heap.objs.size, .ref z, .none], []⟩)) _ _ _
  refine wpAny_bind (wpAny_rule ?_)
  refine wpAny_bind ?_
  show wpAny _ A.in1.in1 (updateSeq s.heap.objs.size (·.push .none) >>= fun _ => updateSeq s.heap.objs.size (·.pop)) _ _ _
  refine wpAny_bind (wpAny_updateSeq hS2 rfl ?_)
  have hS3 := Heap.get?_update_self (Obj.mapSeq (·.push Value.none)) hS2 rfl
  refine wpAny_updateSeq (hz := by seq_fits) hS3 rfl ?_
  have hS4 := Heap.get?_update_self (Obj.mapSeq (·.pop)) hS3 rfl
  have k4 := up _ (Obj.mapSeq (·.pop)) (up _ (Obj.mapSeq (·.push Value.none)) k2)
  exact wpAny_pure ⟨plainId_quiet F.plain_extend_loop _, fin _ _ k4 hS4⟩
end
/-! ### many new tuples are tracked at once -/
def updM (H : Hp) : List (Addr × HO) → Hp
  | [] => H
  | (a, o) :: r => updM (upd H a o) r
theorem updM_ne : ∀ {ps : List (Addr × HO)} {H : Hp} {b : Addr}, (∀ p ∈ ps, p.1 ≠ b) → updM H ps b = H b
  | [], _, _, _ => rfl
  | (a, o) :: r, H, b, h => by
    show updM (upd H a o) r b = H b
    rw [updM_ne fun p hp => h p (List.mem_cons_of_mem _ hp), upd_ne (Ne.symm (h (a, o) (List.mem_cons_self ..)))]
theorem updM_at : ∀ {ps : List (Addr × HO)} {H : Hp}, (ps.map (·.1)).Nodup → ∀ p ∈ ps, updM H ps p.1 = some p.2
  | [], _, _, p, hp => nomatch hp
  | (a, o) :: r, H, nd, p, hp => by
    rw [List.map_cons, List.nodup_cons] at nd
    rcases List.mem_cons.mp hp with e | hp
    · subst e
      show updM (upd H a o) r a = some o
      rw [updM_ne fun p hp e => nd.1 (List.mem_map.mpr ⟨p, hp, e⟩), upd_same]
    · exact updM_at (H := upd H a o) nd.2 p hp
theorem updM_old {ps : List (Addr × HO)} {H : Hp} {b : Addr} {u : HO} (h : updM H ps b = some u) : (b, u) ∈ ps ∨ H b = some u := by
  induction ps generalizing H with
  | nil => exact .inr h
  | cons p r ih =>
    obtain ⟨a, o⟩ := p
    rcases ih h with m | m
    · exact .inl (List.mem_cons_of_mem _ m)
    · by_cases e : b = a
      · subst e; rw [upd_same] at m; cases m; exact .inl (List.mem_cons_self ..)
      · rw [upd_ne e] at m; exact .inr m
theorem inv_many {X : Cx} {pins : List (Addr × Obj)} {σ : L2.St} {H : Hp} {s : Shared} {h' : Heap} {tk : Nat} {ch : List Addr} {ps : List (Addr × HO)} (I : L2.Inv X pins σ H s) (k : ∀ b o, b ∉ ch → s.heap.get? b = some o → h'.get? b = some o) (hf : ∀ b ∈ ch, FpOk X pins H b)
    (far : ∀ p ∈ ps, s.heap.objs.size ≤ p.1) (new : ∀ p ∈ ps, ∀ H' : Hp, ObjOk X.prog X.w H' h' p.1 p.2) : L2.Inv X pins σ (updM H ps) { s with heap := h', toks := tk } := by
  have nit : ∀ b u, H b = some u → b ∉ ch := fun b u e z => by
    have q := (hf b z).1
    rw [q] at e; cases e
  have low : ∀ b o, s.heap.get? b = some o → updM H ps b = H b := fun b o e => updM_ne fun p hp z => absurd (Heap.lt_size e) (by rw [← z]; exact Nat.not_lt.mpr (far p hp))
  have low2 : ∀ b u, H b = some u → updM H ps b = some u := fun b u e => by
    rw [updM_ne fun p hp z => absurd (I.hok.lt e) (by rw [← z]; exact Nat.not_lt.mpr (far p hp))]; exact e
  refine I.step (g' := s.gens) (d' := s.drawn) (ch := ch) (fun b hb => ⟨(hf b hb).2.2.2.1, (hf b hb).2.1, (hf b hb).2.2.2.2.1, (hf b hb).2.2.2.2.2⟩) (fun b o _ _ hc e _ => k b o hc e) (fun b o _ _ hc e _ => ⟨o.slots, k b o hc e⟩)
    (fun b o _ e n => by rw [low b o e]; exact n) (fun b o hc e => ⟨o, k b o hc e⟩) (fun b xs e => low2 b _ e) (fun b o u e => low2 b _ e) (fun b ps e => ⟨#[], by rw [low2 b _ e]; simp⟩) (fun m hm => ?_) (fun b u e => ?_) I.bare
  · obtain ⟨o, es, ep, ho, r⟩ := hm
    exact ⟨o, es, ep, k _ o (fun z => (hf _ z).2.1 rfl) ho, r⟩
  · rcases updM_old e with m | m
    · exact new _ m _
    · refine (I.hok b u m).stay (fun c v hc q => k c v ?_ q) (fun c q => low2 c _ q) fun c xs q => low2 c _ q
      rcases hc with z | z
      · rw [z]; exact nit b u m
      · exact nit c _ z
theorem updM_append {H : Hp} {qs : List (Addr × HO)} : ∀ {ps : List (Addr × HO)} {H : Hp}, updM H (ps ++ qs) = updM (updM H ps) qs
  | [], _ => rfl
  | (a, o) :: r, H => updM_append (H := upd H a o) (ps := r)
/-- the new pairs of two lists -/
def pairHO : List (Addr × Obj) → List V → List V → List (Addr × HO)
  | p :: r, x :: xs, y :: ys => (p.1, .frz p.2 (.tup [x, y])) :: pairHO r xs ys
  | _, _, _ => []
theorem pairHO_fst : ∀ {as : List (Addr × Obj)} {xs ys : List V}, ∀ p ∈ pairHO as xs ys, ∃ q ∈ as, p.1 = q.1
  | [], _, _, p, h => by simp [pairHO] at h
  | q :: r, [], _, p, h => by simp [pairHO] at h
  | q :: r, x :: xs, [], p, h => by simp [pairHO] at h
  | q :: r, x :: xs, y :: ys, p, h => by
    rcases List.mem_cons.mp h with e | h
    · exact ⟨q, List.mem_cons_self .., by rw [e]⟩
    · obtain ⟨q', h1, h2⟩ := pairHO_fst p h
      exact ⟨q', List.mem_cons_of_mem _ h1, h2⟩
/-- the objects of these pairs -/
def pairObj : List Addr → List Value → List Value → List (Addr × Obj)
  | a :: r, u :: us, v :: vs => (a, tObj [u, v]) :: pairObj r us vs
  | _, _, _ => []
theorem pairObj_map : ∀ {as : List Addr} {us vs : List Value}, as.length = min us.length vs.length → (pairObj as us vs).map (·.1) = as
  | [], _, _, _ => rfl
  | a :: r, [], _, h => by simp at h
  | a :: r, u :: us, [], h => by simp at h
  | a :: r, u :: us, v :: vs, h => by
    show a :: (pairObj r us vs).map (·.1) = a :: r
    rw [pairObj_map (by simp only [List.length_cons] at h; omega)]
theorem pairObj_dict : ∀ {as : List Addr} {us vs : List Value}, ∀ p ∈ pairObj as us vs, p.1 ∈ as ∧ p.2.dict = none
  | [], _, _, p, h => by simp [pairObj] at h
  | a :: r, [], _, p, h => by simp [pairObj] at h
  | a :: r, u :: us, [], p, h => by simp [pairObj] at h
  | a :: r, u :: us, v :: vs, p, h => by
    rcases List.mem_cons.mp h with e | h
    · rw [e]; exact ⟨List.mem_cons_self .., rfl⟩
    · obtain ⟨h1, h2⟩ := pairObj_dict p h
      exact ⟨List.mem_cons_of_mem _ h1, h2⟩
theorem pair_ok {P : Program} {w : World} {h : Heap} : ∀ {as : List Addr} {us vs : List Value} {xs ys : List V}, Vals xs us → Vals ys vs → (∀ (j : Nat) (a : Addr), as[j]? = some a → ∃ u v, us[j]? = some u ∧ vs[j]? = some v ∧ h.get? a = some (tObj [u, v])) →
    ∀ p ∈ pairHO (pairObj as us vs) xs ys, ∀ H' : Hp, ObjOk P w H' h p.1 p.2
  | [], _, _, _, _, _, _, _, p, hp => by simp [pairObj, pairHO] at hp
  | a :: r, _, _, _, _, .nil, _, _, p, hp => by simp [pairObj, pairHO] at hp
  | a :: r, _, _, _, _, .cons _ _, .nil, _, p, hp => by simp [pairObj, pairHO] at hp
  | a :: r, u :: us, v :: vs, x :: xs, y :: ys, .cons rx rxs, .cons ry rys, g, p, hp => by
    rcases List.mem_cons.mp hp with e | hp
    · intro H'
      obtain ⟨u', v', e1, e2, e3⟩ := g 0 a rfl
      cases e1; cases e2
      rw [e]
      exact ok_known (by show 2 ≤ sizeLine; decide) (.cons rx (.cons ry .nil)) e3
    · exact pair_ok rxs rys (fun j a e => g (j + 1) a e) p hp
def tListZip (K : PySem.W.Frag) (ta : TA) : TE := fun σ H Q => ta σ H fun vs H1 => ∃ p q a b xs ys, vs = [.ref a, .ref b] ∧ SqB K p H1 a xs ∧ SqB K q H1 b ys ∧ min xs.length ys.length ≤ sizeLine ∧
  ∀ (S : Addr) (as : List (Addr × Obj)), as.length = min xs.length ys.length → (∀ p ∈ as, H1 p.1 = none ∧ p.2.dict = none) → H1 S = none → (S :: as.map (·.1)).Nodup → Q (.ref S) (upd (updM H1 (pairHO as xs ys)) S (.lst (as.map fun p => .ref p.1)))
theorem vals_refs : ∀ {as : List Addr}, Vals (as.map V.ref) (as.map Value.ref)
  | [] => .nil
  | a :: r => .cons rfl vals_refs
theorem pe_listZip {X : Cx} {e e2 : Expr} {ta : TA} {p p2 pos pos2 : Pos} (hc : X.calm = true) (hgl : Gl X "list") (hml : X.mg "list" = none) (hgz : Gl X "zip") (hmz : X.mg "zip" = none) (ha : PA X [e, e2] ta)
    (hs : starEach [e, e2] X.env = (false, eval e X.env) :: starEach [e2] X.env := by rfl) (hpl : (backTo pos2 (starEach [e2] X.env)).any (·.1) = false := by rfl) :
    PE X (.Call (.Name "list" p) [.Call (.Name "zip" p2) [e, e2] [] pos2] [] pos) (tListZip X.K ta) := by
  refine ⟨fun pins s σ H Q I h => ?_⟩
  refine Call_ (ld_blt I hgl hml boot_list (PyProof.Rows.callWith_type1 ?_ rfl rfl))
  show wpAny _ _ (spliced [(false, eval (.Call (.Name "zip" p2) [e, e2] [] pos2) X.env)]) _ _ s
  refine Calls.spliced_cons ?_
  refine Call_ (ld_blt I hgz hmz PyProof.Rows.boot_zip (PyProof.Rows.callWith_type1 (thn (ha.run pos2 pins s σ H _ I h) fun us s1 ⟨vs, H1, I1, r1, q1⟩ => ?_) hs hpl))
  obtain ⟨p1, q2, a, b, xs, ys, ex, hx, hy, hz0, q⟩ := q1
  subst ex
  cases r1 with
  | cons r rr =>
    cases rr with
    | cons r' rr =>
      cases rr
      cases r
      cases r'
      obtain ⟨us, rv, ps, o1, ho1⟩ := itemsB_of I1 hx
      obtain ⟨ws, rw2, qs, o2, ho2⟩ := itemsB_of I1 hy
      have la := Heap.lt_size ho1
      have lb := Heap.lt_size ho2
      refine zip_begins2 (beginsB p1 a us.toArray) (beginsB q2 b ws.toArray) ps qs fun h' hz hTI hTO g1 g2 hsz hkp => ?_
      have far : ZipFar (s1.heap.objs.size + 4) (s1.heap.objs.size + 2) (s1.heap.objs.size + 3) s1.heap.objs.size (s1.heap.objs.size + 1) a b :=
        ⟨zip_sep2 (N := s1.heap.objs.size) (fp1 := [a]) (fp2 := [b]) (fun c hc => by rw [List.mem_singleton] at hc; rw [hc]; exact la) (fun c hc => by rw [List.mem_singleton] at hc; rw [hc]; exact lb), Nat.ne_of_lt la, Nat.ne_of_lt (Nat.lt_succ_of_lt lb)⟩
      have on : ZipOn h' p1 q2 (s1.heap.objs.size + 4) (s1.heap.objs.size + 2) (s1.heap.objs.size + 3) s1.heap.objs.size (s1.heap.objs.size + 1) a b 0 := ⟨⟨_, _, .inl rfl, hz⟩, hTI, ⟨_, _, hTO⟩, iterB_new g1, iterB_new g2⟩
      have memb : ∀ c ∈ [s1.heap.objs.size + 4, s1.heap.objs.size + 2, s1.heap.objs.size + 3, s1.heap.objs.size, s1.heap.objs.size + 1], s1.heap.objs.size ≤ c := fun c hcm => by
        have e' : c = s1.heap.objs.size + 4 ∨ c = s1.heap.objs.size + 2 ∨ c = s1.heap.objs.size + 3 ∨ c = s1.heap.objs.size ∨ c = s1.heap.objs.size + 1 := by simpa using hcm
        omega
      refine Calls.spliced_nil ?_
      have I2 : L2.Inv X pins σ H1 { s1 with heap := h' } := I1.kept (t' := s1.toks) hkp
      refine zl_call (s := { s1 with heap := h' }) (p := p1) (q := q2) (us := us.toArray) (ws := ws.toArray) (I.ok.hd hc) far hz on (itemsB_at ps fun o e => hkp a o e) (itemsB_at qs fun o e => hkp b o e) (fun m => absurd (memb a m) (Nat.not_le.mpr la)) (fun m => absurd (memb b m) (Nat.not_le.mpr lb)) (by show a < h'.objs.size; rw [hsz]; exact Nat.lt_add_right _ la) (by show b < h'.objs.size; rw [hsz]; exact Nat.lt_add_right _ lb)
        (by rw [List.size_toArray, List.size_toArray, ← rv.length, ← rw2.length]; exact hz0) fun h2 tk acc c as hk hS hl hG hacc => ?_
      dsimp only at hk hS hG ⊢
      have hll : as.length = min us.length ws.length := by rw [hl, List.size_toArray, List.size_toArray]
      have far2 : ∀ a ∈ as, s1.heap.objs.size ≤ a := fun a ha => Nat.le_trans (by rw [hsz]; exact Nat.le_add_right _ _) (Nat.le_of_lt (hG.above a ha))
      have nd : (h'.objs.size :: as).Nodup := by
        rw [List.nodup_cons]
        refine ⟨fun m => Nat.lt_irrefl _ (hG.above _ m), ?_⟩
        exact List.Pairwise.imp (fun h => Nat.ne_of_lt h) hG.rise
      have oks := pair_ok (P := X.prog) (w := X.w) (as := as) rv rw2 fun j a e => by
        obtain ⟨u, v, e1, e2, e3⟩ := hG.at_ j a e
        exact ⟨u, v, by simpa using e1, by simpa using e2, e3⟩
      have hlen2 : (pairObj as us ws).length = min xs.length ys.length := by
        have := congrArg List.length (pairObj_map hll)
        rw [List.length_map] at this
        rw [this, hll, ← rv.length, ← rw2.length]
      have I3 : L2.Inv X pins σ (updM H1 (pairHO (pairObj as us ws) xs ys ++ [(h'.objs.size, .lst (as.map V.ref))])) { s1 with heap := h2, toks := tk } := by
        refine inv_many (s := { s1 with heap := h' }) (tk := tk) (ch := [s1.heap.objs.size + 4, s1.heap.objs.size + 2, s1.heap.objs.size + 3, s1.heap.objs.size, s1.heap.objs.size + 1]) I2 (fun b o hb e => hk b o hb e) (fun b hb => I1.fpOk (memb b hb) (I1.hok.fresh (memb b hb))) (fun r hr => ?_) fun r hr H' => ?_
        · show h'.objs.size ≤ r.1
          rcases List.mem_append.mp hr with hr | hr
          · obtain ⟨o, h1, h2⟩ := pairHO_fst r hr
            rw [h2]
            exact Nat.le_of_lt (hG.above _ (pairObj_dict o h1).1)
          · rw [List.mem_singleton.mp hr]; exact Nat.le_refl _
        · rcases List.mem_append.mp hr with hr | hr
          · exact oks r hr H'
          · rw [List.mem_singleton.mp hr]
            exact ⟨by rw [List.length_map, hll, ← rv.length, ← rw2.length]; exact hz0, _, c, by rw [hacc]; exact vals_refs, hS⟩
      rw [updM_append (H := H1)] at I3
      have em : as.map V.ref = (pairObj as us ws).map fun p => V.ref p.1 := by
        rw [← pairObj_map hll, List.map_map]
        rw [pairObj_map hll]
        rfl
      have q' := q h'.objs.size (pairObj as us ws) hlen2 (fun r hr => ⟨I1.hok.fresh (far2 _ (pairObj_dict r hr).1), (pairObj_dict r hr).2⟩) (I1.hok.fresh (by rw [hsz]; exact Nat.le_add_right _ _)) (by rw [pairObj_map hll]; exact nd)
      rw [← em] at q'
      exact ⟨.ref h'.objs.size, _, I3, rfl, q'⟩
end FM

/-! FM: a plain machine over the hand layer. A def's body is read as a total function over plain values (A) and a few cells (lists that are written); the rules say that the program's text does what this function tells. -/
namespace FM
open PySem PySem.Spec PyProof.Rows L2

/-- a plain value: tuples and lists that nobody writes are trees; a list that is written stands in a cell -/
inductive A where
  | non | bl (b : Bool) | int (i : Int) | str (x : Str) | tup (xs : List A) | lst (xs : List A) | kl (xs : List A) | dk0 | fn (n : Nat) | loc (n : Nat) | opq (v : V) | kn (n : Nat) | ob (c : Nat) (ns : List Str) (xs : List A)
abbrev Cs := List (List A)
abbrev En := List (Option A)
inductive R (α : Type) where
  | ok (a : α) (C : Cs) | ex (c : Nat) (p : Option A) (C : Cs) | bad
def R.bind {α β : Type} (r : R α) (f : α → Cs → R β) : R β := match r with
  | .ok a C => f a C
  | .ex c p C => .ex c p C
  | .bad => .bad
@[simp] theorem R.bind_ok {α β : Type} (a : α) (C : Cs) (f : α → Cs → R β) : (R.ok a C).bind f = f a C := rfl
@[simp] theorem R.bind_ex {α β : Type} (c : Nat) (p : Option A) (C : Cs) (f : α → Cs → R β) : (R.ex (α := α) c p C).bind f = .ex c p C := rfl
@[simp] theorem R.bind_bad {α β : Type} (f : α → Cs → R β) : (R.bad (α := α)).bind f = .bad := rfl

/-- what stays the same meanwhile: what is kept aside (lists in the making), the tables of code objects, objects and values that are known -/
structure Fx where
  hd : List Addr
  T : List (Addr × Str)
  kp : List (Addr × HO)
  pv : List (A × V)
  fa : Nat → Addr
/-- the errors' classes by number: where each stands, the name of its one field, which is below which; what is known of what stays -/
structure XC where
  cl : Nat → Addr
  fld : Nat → Str
  sub : Nat → Nat → Bool
  G : List (Addr × Str) → (Nat → Addr) → List (Addr × HO) → List (A × V) → Prop
/-- where the cells stand -/
structure Lay where
  cs : List Addr
  fx : Fx
abbrev Lay.hd (ι : Lay) : List Addr := ι.fx.hd
def Lay.Out (ι : Lay) (a : Addr) : Prop := a ∉ ι.cs ∧ a ∉ ι.hd
def noTbl (o : HO) : Prop := ∀ ps, o ≠ .tbl ps
/-- what may be kept aside: a list, an object in the making -/
inductive HidO : HO → Prop
  | lst (xs : List V) : HidO (.lst xs)
  | ins (C d : Addr) (fs : List (Str × V)) : HidO (.ins C d fs)
theorem HidO.nt {o : HO} (h : HidO o) : noTbl o := fun _ z => by cases h <;> cases z
section
variable (K : PySem.W.Frag)
def FrT (_ : PySem.W.Frag) (ι : Lay) (H : Hp) (a : Addr) (vs : List V) : Prop := StrT H a vs ∧ ι.Out a
def FrK (ι : Lay) (H : Hp) (a : Addr) (vs : List V) : Prop := (Rd H a (.lst vs) ∧ ι.Out a) ∨ SqL K (fun _ => none) a vs
mutual
inductive Rp (ι : Lay) (H : Hp) : A → V → Prop
  | non : Rp ι H .non .non
  | bl (b : Bool) : Rp ι H (.bl b) (.bl b)
  | int (i : Int) : Rp ι H (.int i) (.int i)
  | str (x : Str) : Rp ι H (.str x) (.str x)
  | tup {xs : List A} {vs : List V} {a : Addr} : FrT K ι H a vs → Rps ι H xs vs → Rp ι H (.tup xs) (.ref a)
  | lst {xs : List A} {vs : List V} {a : Addr} : H a = some (.lst vs) → ι.Out a → Rps ι H xs vs → Rp ι H (.lst xs) (.ref a)
  | kl {xs : List A} {vs : List V} {a : Addr} : FrK K ι H a vs → Rps ι H xs vs → Rp ι H (.kl xs) (.ref a)
  | dk0 {a : Addr} : H a = some (.dK []) → ι.Out a → Rp ι H .dk0 (.ref a)
  | fn (n : Nat) : Rp ι H (.fn n) (.ref (ι.fx.fa n))
  | loc {n : Nat} {a : Addr} : ι.cs[n]? = some a → Rp ι H (.loc n) (.ref a)
  | opq (v : V) : Rp ι H (.opq v) v
  | kn {n : Nat} {q : A × V} : ι.fx.pv[n]? = some q → Rp ι H (.kn n) q.2
  | ob {c : Nat} {ns : List Str} {xs : List A} {vs : List V} {a dx : Addr} : H a = some (.ins (ι.fx.fa c) dx (ns.zip vs)) → ι.Out a → xs.length = ns.length → Rps ι H xs vs → Rp ι H (.ob c ns xs) (.ref a)
inductive Rps (ι : Lay) (H : Hp) : List A → List V → Prop
  | nil : Rps ι H [] []
  | cons {x : A} {v : V} {xs : List A} {vs : List V} : Rp ι H x v → Rps ι H xs vs → Rps ι H (x :: xs) (v :: vs)
end
structure Side (ι : Lay) (H : Hp) : Prop where
  hid : ∀ b ∈ ι.hd, b ∉ ι.cs ∧ ∃ o, H b = some o ∧ HidO o
  tabs : LamX.Tabs ι.fx.T H
  kp : ∀ p ∈ ι.fx.kp, H p.1 = some p.2 ∧ p.1 ∉ ι.cs ∧ noTbl p.2 ∧ p.1 ∉ ι.hd
  pv : ∀ p ∈ ι.fx.pv, Rp K ι H p.1 p.2
structure RC (xc : XC) (ι : Lay) (H : Hp) (C : Cs) : Prop where
  len : ι.cs.length = C.length
  nd : ι.cs.Nodup
  at_ : ∀ (n : Nat) (xs : List A) (a : Addr), C[n]? = some xs → ι.cs[n]? = some a → ∃ vs, H a = some (.lst vs) ∧ Rps K ι H xs vs
  side : Side K ι H
  g : xc.G ι.fx.T ι.fx.fa ι.fx.kp ι.fx.pv
def RS (ι : Lay) (H : Hp) (s : En) (σ : L2.St) : Prop := s.length = σ.length ∧ ∀ (i : Nat) (a : A), s[i]? = some (some a) → ∃ v, σ[i]? = some (some v) ∧ Rp K ι H a v
end
/-- what is read of plain values stands -/
structure Mv (ι : Lay) (H : Hp) (ι' : Lay) (H' : Hp) : Prop where
  pre : ∃ t, ι'.cs = ι.cs ++ t
  pv : ∀ (n : Nat) (q : A × V), ι.fx.pv[n]? = some q → ι'.fx.pv[n]? = some q
  fa : ι'.fx.fa = ι.fx.fa
  keep : ∀ (b : Addr) (o : HO), H b = some o → noTbl o → ι.Out b → H' b = some o ∧ ι'.Out b
/-- what stood stands, but for what the cells hold and the tables -/
structure Ext (ι : Lay) (H : Hp) (ι' : Lay) (H' : Hp) : Prop where
  pre : ∃ t, ι'.cs = ι.cs ++ t
  fx : ι'.fx = ι.fx
  keep : ∀ (b : Addr) (o : HO), H b = some o → noTbl o → b ∉ ι.cs → H' b = some o ∧ b ∉ ι'.cs
  tabs : LamX.Tabs ι.fx.T H → LamX.Tabs ι.fx.T H'
theorem Ext.hd {ι ι' : Lay} {H H' : Hp} (e : Ext ι H ι' H') : ι'.hd = ι.hd := congrArg Fx.hd e.fx
theorem Ext.mv {ι ι' : Lay} {H H' : Hp} (e : Ext ι H ι' H') : Mv ι H ι' H' := ⟨e.pre, fun n q h => by rw [e.fx]; exact h, by rw [e.fx], fun b o h t n => let ⟨h1, h2⟩ := e.keep b o h t n.1; ⟨h1, h2, by rw [e.hd]; exact n.2⟩⟩
theorem Ext.refl (ι : Lay) (H : Hp) : Ext ι H ι H := ⟨⟨[], by simp⟩, rfl, fun _ _ h _ n => ⟨h, n⟩, fun h => h⟩
theorem Ext.trans {ι ι1 ι2 : Lay} {H H1 H2 : Hp} (a : Ext ι H ι1 H1) (b : Ext ι1 H1 ι2 H2) : Ext ι H ι2 H2 := by
  obtain ⟨⟨t, e1⟩, d, k, m⟩ := a
  obtain ⟨⟨u, e2⟩, d2, k2, m2⟩ := b
  exact ⟨⟨t ++ u, by rw [e2, e1]; simp⟩, d2.trans d, fun b o h t n => let ⟨h1, n1⟩ := k b o h t n; k2 b o h1 t n1, fun h => by rw [d] at m2; exact m2 (m h)⟩
/-- all that was tracked stands -/
theorem Ext.same {ι : Lay} {H H' : Hp} (k : ∀ b o, H b = some o → b ∉ ι.cs → H' b = some o) (t : ∀ b o, H b = some o → (∃ ps, o = .tbl ps) ∨ (∃ φ, o = .ext φ) → H' b = some o) : Ext ι H ι H' :=
  ⟨⟨[], by simp⟩, rfl, fun b o h _ n => ⟨k b o h n, n⟩, fun T p hp => by
    obtain ⟨ps, h1, h2, h3⟩ := T p hp
    exact ⟨ps, t _ _ h1 (.inl ⟨ps, rfl⟩), h2, fun pos cv hc => let ⟨c, e1, e2⟩ := h3 pos cv hc; ⟨c, e1, t _ _ e2 (.inr ⟨_, rfl⟩)⟩⟩⟩
section
variable {K : PySem.W.Frag} {xc : XC} {ι ι' : Lay} {H H' : Hp}
theorem Mv.rd (e : Mv ι H ι' H') {a : Addr} {u : HO} (nt : noTbl u) (h : Rd H a u) (n : ι.Out a) : Rd H' a u ∧ ι'.Out a := by
  rcases h with h | ⟨o, h⟩
  · exact ⟨.inl (e.keep a _ h nt n).1, (e.keep a _ h nt n).2⟩
  · exact ⟨.inr ⟨o, (e.keep a _ h (fun _ z => by cases z) n).1⟩, (e.keep a _ h (fun _ z => by cases z) n).2⟩
theorem frz_nt {o : Obj} {u : HO} : noTbl (.frz o u) := fun _ z => by cases z
theorem tup_nt {xs : List V} : noTbl (.tup xs) := fun _ z => by cases z
theorem lst_nt {xs : List V} : noTbl (.lst xs) := fun _ z => by cases z
theorem dk_nt : noTbl (.dK []) := fun _ z => by cases z
theorem ins_nt {C d : Addr} {fs : List (Str × V)} : noTbl (.ins C d fs) := fun _ z => by cases z
mutual
theorem Rp.mv (e : Mv ι H ι' H') : ∀ {x : A} {v : V}, Rp K ι H x v → Rp K ι' H' x v
  | _, _, .non => .non
  | _, _, .bl b => .bl b
  | _, _, .int i => .int i
  | _, _, .str x => .str x
  | _, _, .tup f r => .tup (by
      obtain ⟨⟨o, h, d⟩, n⟩ := f
      exact ⟨⟨o, (e.keep _ _ h frz_nt n).1, d⟩, (e.keep _ _ h frz_nt n).2⟩) (Rps.mv e r)
  | _, _, .lst h n r => .lst (e.keep _ _ h lst_nt n).1 (e.keep _ _ h lst_nt n).2 (Rps.mv e r)
  | _, _, .kl f r => .kl (by
      rcases f with ⟨h, n⟩ | h
      · exact .inl (e.rd lst_nt h n)
      · exact .inr h) (Rps.mv e r)
  | _, _, .dk0 h n => .dk0 (e.keep _ _ h dk_nt n).1 (e.keep _ _ h dk_nt n).2
  | _, _, .fn n => by rw [← e.fa]; exact .fn n
  | _, _, .loc h => .loc (by
      obtain ⟨t, e⟩ := e.pre
      rw [e, List.getElem?_append_left (List.getElem?_eq_some_iff.mp h).1]
      exact h)
  | _, _, .opq v => .opq v
  | _, _, .kn h => .kn (e.pv _ _ h)
  | _, _, .ob h n l r => .ob (by rw [e.fa]; exact (e.keep _ _ h ins_nt n).1) (e.keep _ _ h ins_nt n).2 l (Rps.mv e r)
theorem Rps.mv (e : Mv ι H ι' H') : ∀ {xs : List A} {vs : List V}, Rps K ι H xs vs → Rps K ι' H' xs vs
  | _, _, .nil => .nil
  | _, _, .cons r t => .cons (Rp.mv e r) (Rps.mv e t)
end
theorem Rp.ext (e : Ext ι H ι' H') {x : A} {v : V} (r : Rp K ι H x v) : Rp K ι' H' x v := r.mv e.mv
theorem Rps.ext (e : Ext ι H ι' H') {xs : List A} {vs : List V} (r : Rps K ι H xs vs) : Rps K ι' H' xs vs := r.mv e.mv
theorem RS.mv {s : En} {σ : L2.St} (e : Mv ι H ι' H') (h : RS K ι H s σ) : RS K ι' H' s σ :=
  ⟨h.1, fun i a q => let ⟨v, q1, q2⟩ := h.2 i a q; ⟨v, q1, q2.mv e⟩⟩
theorem RS.ext {s : En} {σ : L2.St} (e : Ext ι H ι' H') (h : RS K ι H s σ) : RS K ι' H' s σ := h.mv e.mv
theorem Rps.length : ∀ {xs : List A} {vs : List V}, Rps K ι H xs vs → xs.length = vs.length
  | _, _, .nil => rfl
  | _, _, .cons _ t => by simp [Rps.length t]
theorem Rps.get : ∀ {xs : List A} {vs : List V} {i : Nat} {x : A}, Rps K ι H xs vs → xs[i]? = some x → ∃ v, vs[i]? = some v ∧ Rp K ι H x v
  | _, _, _, _, .nil, e => by simp at e
  | _, _, 0, _, .cons r _, e => by simp at e; subst e; exact ⟨_, rfl, r⟩
  | _, _, i + 1, x, .cons _ t, e => by
    obtain ⟨v, h1, h2⟩ := Rps.get (i := i) (x := x) t (by simpa using e)
    exact ⟨v, by simpa using h1, h2⟩
theorem Rps.get' : ∀ {xs : List A} {vs : List V} {i : Nat} {v : V}, Rps K ι H xs vs → vs[i]? = some v → ∃ x, xs[i]? = some x ∧ Rp K ι H x v
  | _, _, _, _, .nil, e => by simp at e
  | _, _, 0, _, .cons r _, e => by simp at e; subst e; exact ⟨_, rfl, r⟩
  | _, _, i + 1, v, .cons _ t, e => by
    obtain ⟨x, h1, h2⟩ := Rps.get' (i := i) (v := v) t (by simpa using e)
    exact ⟨x, by simpa using h1, h2⟩
theorem Rps.append : ∀ {xs ys : List A} {vs ws : List V}, Rps K ι H xs vs → Rps K ι H ys ws → Rps K ι H (xs ++ ys) (vs ++ ws)
  | _, _, _, _, .nil, s => s
  | _, _, _, _, .cons r t, s => .cons r (Rps.append t s)
theorem Rps.take : ∀ {xs : List A} {vs : List V} (n : Nat), Rps K ι H xs vs → Rps K ι H (xs.take n) (vs.take n)
  | _, _, 0, _ => .nil
  | _, _, _ + 1, .nil => .nil
  | _, _, n + 1, .cons r t => .cons r (Rps.take n t)
theorem Rps.drop : ∀ {xs : List A} {vs : List V} (n : Nat), Rps K ι H xs vs → Rps K ι H (xs.drop n) (vs.drop n)
  | _, _, 0, r => r
  | _, _, _ + 1, .nil => .nil
  | _, _, n + 1, .cons _ t => Rps.drop n t
theorem Rps.set {x : A} {v : V} (r : Rp K ι H x v) : ∀ {xs : List A} {vs : List V} (i : Nat), Rps K ι H xs vs → Rps K ι H (xs.set i x) (vs.set i v)
  | _, _, _, .nil => .nil
  | _, _, 0, .cons _ t => .cons r t
  | _, _, i + 1, .cons q t => .cons q (Rps.set r i t)
theorem Rps.eraseIdx : ∀ {xs : List A} {vs : List V} (i : Nat), Rps K ι H xs vs → Rps K ι H (xs.eraseIdx i) (vs.eraseIdx i)
  | _, _, _, .nil => .nil
  | _, _, 0, .cons _ t => t
  | _, _, i + 1, .cons q t => .cons q (Rps.eraseIdx i t)
theorem Rps.reverse {xs : List A} {vs : List V} (h : Rps K ι H xs vs) : Rps K ι H xs.reverse vs.reverse := by
  induction xs generalizing vs with
  | nil => cases h; exact .nil
  | cons x xs ih =>
    cases h with
    | cons r t =>
      simp only [List.reverse_cons]
      exact (ih t).append (.cons r .nil)
theorem Rps.rep {xs : List A} {vs : List V} (h : Rps K ι H xs vs) : ∀ k : Nat, Rps K ι H (List.replicate k xs).flatten (List.replicate k vs).flatten
  | 0 => .nil
  | k + 1 => by
    simp only [List.replicate_succ, List.flatten_cons]
    exact h.append (Rps.rep h k)

theorem FrT.sq {a : Addr} {vs : List V} (f : FrT K ι H a vs) : SqT K H a vs := f.1.sq
theorem FrK.sq {a : Addr} {vs : List V} (f : FrK K ι H a vs) : SqL K H a vs := by
  rcases f with ⟨h, _⟩ | (h | h)
  · exact .inl h
  · rcases h with h | ⟨o, h⟩ <;> cases h
  · exact .inr h
theorem FrK.mv (e : Mv ι H ι' H') {a : Addr} {vs : List V} (f : FrK K ι H a vs) : FrK K ι' H' a vs := by
  rcases f with ⟨h, n⟩ | h
  · exact .inl (e.rd lst_nt h n)
  · exact .inr h
theorem FrT.mv (e : Mv ι H ι' H') {a : Addr} {vs : List V} (f : FrT K ι H a vs) : FrT K ι' H' a vs := by
  obtain ⟨⟨o, h, d⟩, n⟩ := f
  exact ⟨⟨o, (e.keep _ _ h frz_nt n).1, d⟩, (e.keep _ _ h frz_nt n).2⟩
theorem RC.ne_none {C : Cs} (c : RC K xc ι H C) {a : Addr} (h : H a = none) : ι.Out a := by
  refine ⟨fun m => ?_, fun m => ?_⟩
  · obtain ⟨n, hn, e⟩ := List.mem_iff_getElem.mp m
    have hn' : n < C.length := by rw [← c.len]; exact hn
    obtain ⟨vs, q, _⟩ := c.at_ n C[n] a (by simp) (by rw [List.getElem?_eq_getElem hn, e])
    rw [h] at q; cases q
  · obtain ⟨_, vs, q, _⟩ := c.side.hid a m
    rw [h] at q; cases q
theorem Side.ext (c : Side K ι H) (e : Ext ι H ι' H') : Side K ι' H' :=
  ⟨fun b hb => by
    rw [e.hd] at hb
    obtain ⟨n, o, q, nt⟩ := c.hid b hb
    obtain ⟨q1, q2⟩ := e.keep b _ q nt.nt n
    exact ⟨q2, o, q1, nt⟩, by rw [e.fx]; exact e.tabs c.tabs, fun p hp => by
    rw [e.fx] at hp
    obtain ⟨h, n, t, nh⟩ := c.kp p hp
    obtain ⟨q1, q2⟩ := e.keep _ _ h t n
    exact ⟨q1, q2, t, by rw [e.hd]; exact nh⟩, fun p hp => by
    rw [e.fx] at hp
    exact (c.pv p hp).ext e⟩
/-- a new object of ours that no cell holds -/
theorem ext_new {C : Cs} (c : RC K xc ι H C) {p : Addr} (hp : H p = none) (o : HO) : Ext ι H ι (upd H p o) :=
  .same (fun b u h _ => by rw [upd_ne (ne_of_none h hp)]; exact h) fun b u h _ => by rw [upd_ne (ne_of_none h hp)]; exact h
theorem RC.ext0 {C : Cs} (c : RC K xc ι H C) (e : Ext ι H ι H') (k : ∀ a ∈ ι.cs, H' a = H a) : RC K xc ι H' C :=
  ⟨c.len, c.nd, fun n xs a h1 h2 => let ⟨vs, q, r⟩ := c.at_ n xs a h1 h2; ⟨vs, (k a (List.mem_of_getElem? h2)).trans q, r.ext e⟩, c.side.ext e, by rw [e.fx]; exact c.g⟩
theorem RC.new {C : Cs} (c : RC K xc ι H C) {p : Addr} (hp : H p = none) (o : HO) : RC K xc ι (upd H p o) C :=
  c.ext0 (ext_new c hp o) fun a m => upd_ne fun e => (c.ne_none hp).1 (e ▸ m)
/-- a new cell -/
theorem ext_cell {C : Cs} (c : RC K xc ι H C) {p : Addr} (hp : H p = none) (vs : List V) : Ext ι H ⟨ι.cs ++ [p], ι.fx⟩ (upd H p (.lst vs)) :=
  ⟨⟨[p], rfl⟩, rfl, fun b u h _ n => ⟨by rw [upd_ne (ne_of_none h hp)]; exact h, by
    show b ∉ ι.cs ++ [p]
    rw [List.mem_append]
    rintro (m | m)
    · exact n m
    · rw [List.mem_singleton] at m
      rw [m, hp] at h; cases h⟩, fun T => T.ext fun b o h => by rw [upd_ne (ne_of_none h hp)]; exact h⟩
theorem RC.cell {C : Cs} (c : RC K xc ι H C) {p : Addr} (hp : H p = none) {xs : List A} {vs : List V} (r : Rps K ι H xs vs) : RC K xc ⟨ι.cs ++ [p], ι.fx⟩ (upd H p (.lst vs)) (C ++ [xs]) := by
  have e := ext_cell c hp vs
  have np := (c.ne_none hp).1
  refine ⟨by simp [c.len], ?_, fun n ys a h1 h2 => ?_, c.side.ext e, by rw [e.fx]; exact c.g⟩
  · show (ι.cs ++ [p]).Nodup
    rw [List.nodup_append]
    exact ⟨c.nd, by simp, fun x hx y hy e => by rw [List.mem_singleton] at hy; exact np (by rw [← hy, ← e]; exact hx)⟩
  · have h2 : (ι.cs ++ [p])[n]? = some a := h2
    by_cases hn : n < C.length
    · rw [List.getElem?_append_left hn] at h1
      rw [List.getElem?_append_left (by rw [c.len]; exact hn)] at h2
      obtain ⟨ws, q, r'⟩ := c.at_ n ys a h1 h2
      refine ⟨ws, ?_, r'.ext e⟩
      have na : a ≠ p := fun z => np (by rw [← z]; exact List.mem_of_getElem? h2)
      rw [upd_ne na]
      exact q
    · rw [List.getElem?_append_right (by omega)] at h1
      rw [List.getElem?_append_right (by rw [c.len]; omega), c.len] at h2
      have h0 : n - C.length = 0 := by
        rcases Nat.eq_zero_or_pos (n - C.length) with z | z
        · exact z
        · rw [List.getElem?_eq_none (by simp; omega)] at h1; cases h1
      rw [h0] at h1 h2
      simp at h1 h2
      subst h1; subst h2
      exact ⟨vs, upd_same, r.ext e⟩
/-- a cell written -/
theorem ext_set {C : Cs} (c : RC K xc ι H C) {n : Nat} {a : Addr} (h : ι.cs[n]? = some a) (vs : List V) : Ext ι H ι (upd H a (.lst vs)) := by
  obtain ⟨ws, hw⟩ : ∃ ws, H a = some (.lst ws) := by
    have hn : n < C.length := by rw [← c.len]; exact (List.getElem?_eq_some_iff.mp h).1
    obtain ⟨ws, q, _⟩ := c.at_ n C[n] a (by simp) h
    exact ⟨ws, q⟩
  refine .same (fun b u q nb => by rw [upd_ne (fun e => nb (by rw [e]; exact List.mem_of_getElem? h))]; exact q) fun b u q k => ?_
  rw [upd_ne]
  · exact q
  · rintro rfl
    rw [hw] at q
    cases q
    rcases k with ⟨_, k⟩ | ⟨_, k⟩ <;> cases k
theorem RC.set {C : Cs} (c : RC K xc ι H C) {n : Nat} {a : Addr} (h : ι.cs[n]? = some a) {xs : List A} {vs : List V} (r : Rps K ι H xs vs) : RC K xc ι (upd H a (.lst vs)) (C.set n xs) := by
  have e := ext_set c h vs
  refine ⟨by simp [c.len], c.nd, fun m ys b h1 h2 => ?_, c.side.ext e, by rw [e.fx]; exact c.g⟩
  by_cases hm : n = m
  · subst hm
    rw [h] at h2; cases h2
    have hl : n < C.length := by rw [← c.len]; exact (List.getElem?_eq_some_iff.mp h).1
    rw [List.getElem?_set_self hl] at h1
    cases h1
    exact ⟨vs, upd_same, r.ext e⟩
  · rw [List.getElem?_set_ne hm] at h1
    obtain ⟨ws, q, r'⟩ := c.at_ m ys b h1 h2
    refine ⟨ws, ?_, r'.ext e⟩
    rw [upd_ne]
    · exact q
    · rintro rfl
      obtain ⟨l1, e1⟩ := List.getElem?_eq_some_iff.mp h
      obtain ⟨l2, e2⟩ := List.getElem?_eq_some_iff.mp h2
      exact hm ((List.getElem_inj c.nd).mp (e1.trans e2.symm))
end

/-! ### what is wanted of a result -/
def RX (K : PySem.W.Frag) (xc : XC) (ι : Lay) (H : Hp) (c : Nat) (p : Option A) (d : Option Addr) : Prop := match p with
  | none => d = none
  | some a => ∃ (dx : Addr) (v : V), d = some dx ∧ H dx = some (.xd [(xc.fld c, v)]) ∧ Rp K ι H a v
section
variable {α β : Type}
abbrev Rel (α β : Type) := Lay → Hp → α → β → Prop
def Post (K : PySem.W.Frag) (xc : XC) (W : WX) (rel : Rel α β) (ι : Lay) (H : Hp) (σ : L2.St) (r : R α) (Q : β → Hp → Prop) : Prop := match r with
  | .ok v C' => ∀ (ι' : Lay) (H' : Hp) (x : β), Ext ι H ι' H' → RC K xc ι' H' C' → rel ι' H' v x → Q x H'
  | .ex c p C' => ∀ (ι' : Lay) (H' : Hp) (d : Option Addr), Ext ι H ι' H' → RC K xc ι' H' C' → RX K xc ι' H' c p d → W (.ref (xc.cl c)) d σ H'
  | .bad => False
def Dn (K : PySem.W.Frag) (xc : XC) (W : WX) (rel : Rel α β) (f : En → Cs → R α) : L2.St → Hp → (β → Hp → Prop) → Prop := fun σ H Q => ∃ ι s C, RC K xc ι H C ∧ RS K ι H s σ ∧ Post K xc W rel ι H σ (f s C) Q
variable {K : PySem.W.Frag} {xc : XC} {W : WX} {rel : Rel α β} {ι : Lay} {H : Hp} {σ : L2.St} {s : En} {C : Cs} {Q : β → Hp → Prop}
theorem Post.fin {v : α} {x : β} (p : Post K xc W rel ι H σ (.ok v C) Q) (c : RC K xc ι H C) (r : rel ι H v x) : Q x H := p ι H x (Ext.refl _ _) c r
theorem Post.to {ι' : Lay} {H' : Hp} {v : α} {x : β} (p : Post K xc W rel ι H σ (.ok v C) Q) (e : Ext ι H ι' H') (c : RC K xc ι' H' C) (r : rel ι' H' v x) : Q x H' := p ι' H' x e c r
/-- from a later place -/
theorem Post.later {ι' : Lay} {H' : Hp} {r : R α} (p : Post K xc W rel ι H σ r Q) (e : Ext ι H ι' H') : Post K xc W rel ι' H' σ r Q := by
  cases r with
  | ok v C => exact fun ι2 H2 x e2 c q => p ι2 H2 x (e.trans e2) c q
  | ex c p' C => exact fun ι2 H2 d e2 c q => p ι2 H2 d (e.trans e2) c q
  | bad => exact p
theorem Post.mono {r : R α} {Q' : β → Hp → Prop} (p : Post K xc W rel ι H σ r Q) (h : ∀ x H', Q x H' → Q' x H') : Post K xc W rel ι H σ r Q' := by
  cases r with
  | ok v C => exact fun ι2 H2 x e2 c q => h _ _ (p ι2 H2 x e2 c q)
  | ex c p' C => exact p
  | bad => exact p
/-- the first of two -/
theorem Dn.step {α' β' : Type} {rel' : Rel α' β'} {f : En → Cs → R α} {g : α → Cs → R α'} {Q' : β' → Hp → Prop} (c : RC K xc ι H C) (r : RS K ι H s σ) (p : Post K xc W rel' ι H σ ((f s C).bind g) Q')
    (h : ∀ ι1 H1 C1 v x, Ext ι H ι1 H1 → RC K xc ι1 H1 C1 → RS K ι1 H1 s σ → rel ι1 H1 v x → Post K xc W rel' ι1 H1 σ (g v C1) Q' → Q x H1) : Dn K xc W rel f σ H Q := by
  refine ⟨ι, s, C, c, r, ?_⟩
  cases e : f s C with
  | ok v C1 =>
    rw [e] at p
    exact fun ι1 H1 x e1 c1 r1 => h ι1 H1 C1 v x e1 c1 (r.ext e1) r1 (Post.later (r := g v C1) p e1)
  | ex cc pp C1 =>
    rw [e] at p
    exact p
  | bad =>
    rw [e] at p
    exact p
end
abbrev xD (K : PySem.W.Frag) (xc : XC) (W : WX) (f : En → Cs → R A) : TE := Dn K xc W (Rp K) f
abbrev tD (K : PySem.W.Frag) (xc : XC) (W : WX) (f : En → Cs → R Bool) : TT := Dn K xc W (fun _ _ a b => a = b) f
abbrev aD (K : PySem.W.Frag) (xc : XC) (W : WX) (f : En → Cs → R (List A)) : TA := Dn K xc W (Rps K) f
theorem PE.imp {X : Cx} {e : Expr} {t t' : TE} (h : PE X e t) (i : ∀ σ H Q, t' σ H Q → t σ H Q) : PE X e t' := ⟨fun pins s σ H Q I q => h.run pins s σ H Q I (i σ H Q q)⟩
theorem PT.imp {X : Cx} {e : Expr} {t t' : TT} (h : PT X e t) (i : ∀ σ H Q, t' σ H Q → t σ H Q) : PT X e t' := ⟨fun pins s σ H Q I q => h.run pins s σ H Q I (i σ H Q q)⟩
theorem PA.imp {X : Cx} {es : List Expr} {t t' : TA} (h : PA X es t) (i : ∀ σ H Q, t' σ H Q → t σ H Q) : PA X es t' := ⟨fun pos pins s σ H Q I q => h.run pos pins s σ H Q I (i σ H Q q)⟩
theorem PS.imp {X : Cx} {st : Stmt} {t t' : TS} (h : PS X st t) (i : ∀ D σ H, t' D σ H → t D σ H) : PS X st t' := ⟨fun pins s σ H D I q => h.run pins s σ H D I (i D σ H q)⟩
theorem PSs.imp {X : Cx} {st : List Stmt} {t t' : TS} (h : PSs X st t) (i : ∀ D σ H, t' D σ H → t D σ H) : PSs X st t' := ⟨fun pins s σ H D I q => h.run pins s σ H D I (i D σ H q)⟩

/-! ### expressions -/
def xC (v : A) : En → Cs → R A := fun _ C => .ok v C
def xVar (i : Nat) : En → Cs → R A := fun s C => match s[i]? with
  | some (some v) => .ok v C
  | _ => .bad
def aNil : En → Cs → R (List A) := fun _ C => .ok [] C
def aCons (f : En → Cs → R A) (g : En → Cs → R (List A)) : En → Cs → R (List A) := fun s C => (f s C).bind fun v C1 => (g s C1).bind fun vs C2 => .ok (v :: vs) C2
def xOp (g : A → A → Cs → R A) (f1 f2 : En → Cs → R A) : En → Cs → R A := fun s C => (f1 s C).bind fun v C1 => (f2 s C1).bind fun w C2 => g v w C2
def xUn (g : A → Cs → R A) (f : En → Cs → R A) : En → Cs → R A := fun s C => (f s C).bind g
def xAp (g : List A → Cs → R A) (fs : En → Cs → R (List A)) : En → Cs → R A := fun s C => (fs s C).bind g
def xMt (g : A → List A → Cs → R A) (f : En → Cs → R A) (fs : En → Cs → R (List A)) : En → Cs → R A := fun s C => (f s C).bind fun v C1 => (fs s C1).bind fun vs C2 => g v vs C2
section
variable {X : Cx} {xc : XC} {W : WX} {pos : Pos}
theorem r_C {e : Expr} {a : A} {v : V} (h : PE X e (tC v)) (r : ∀ ι H, Rp X.K ι H a v) : PE X e (xD X.K xc W (xC a)) := PE.imp h fun σ H Q ⟨ι, s, C, c, _, p⟩ => p.fin c (r ι H)
theorem r_non {j pos} : PE X (.Constant .none j pos) (xD X.K xc W (xC .non)) := r_C pe_non fun _ _ => .non
theorem r_bl {b j pos} : PE X (.Constant (.bool b) j pos) (xD X.K xc W (xC (.bl b))) := r_C pe_bl fun _ _ => .bl b
theorem r_int {i j pos} : PE X (.Constant (.int i) j pos) (xD X.K xc W (xC (.int i))) := r_C pe_int fun _ _ => .int i
theorem r_str {x j pos} : PE X (.Constant (.str x) j pos) (xD X.K xc W (xC (.str x))) := r_C pe_str fun _ _ => .str x
theorem r_var {e : Expr} {i : Nat} (h : PE X e (tVar i)) : PE X e (xD X.K xc W (xVar i)) := by
  refine PE.imp h fun σ H Q ⟨ι, s, C, c, r, p⟩ => ?_
  unfold xVar at p
  split at p
  · rename_i v e
    obtain ⟨x, e1, rx⟩ := r.2 i v e
    exact ⟨x, e1, p.fin c rx⟩
  · exact p.elim
theorem r_aNil : PA X [] (aD X.K xc W aNil) := PA.imp pa_nil fun σ H Q ⟨ι, s, C, c, _, p⟩ => p.fin c .nil
theorem r_aCons {e : Expr} {es : List Expr} {f : En → Cs → R A} {g : En → Cs → R (List A)} (he : PE X e (xD X.K xc W f)) (hs : PA X es (aD X.K xc W g)) (hst : starEach (e :: es) X.env = (false, eval e X.env) :: starEach es X.env := by rfl) :
    PA X (e :: es) (aD X.K xc W (aCons f g)) := by
  refine PA.imp (pa_cons he hs hst) fun σ H Q ⟨ι, s, C, c, r, p⟩ => ?_
  refine Dn.step c r p fun ι1 H1 C1 v x e1 c1 r1 q1 p1 => ?_
  refine Dn.step c1 r1 p1 fun ι2 H2 C2 vs xs e2 c2 r2 q2 p2 => ?_
  exact p2.fin c2 (.cons (q1.ext e2) q2)
/-- what a rule by values must bear -/
def Adq2 (K : PySem.W.Frag) (xc : XC) (g : A → A → Cs → R A) (r : R2) : Prop := ∀ (W : WX) (ι : Lay) (H : Hp) (σ : L2.St) (C : Cs) (v w : A) (x y : V) (Q : VK), RC K xc ι H C → Rp K ι H v x → Rp K ι H w y → Post K xc W (Rp K) ι H σ (g v w C) Q → r x y H Q
def Adq1 (K : PySem.W.Frag) (xc : XC) (g : A → Cs → R A) (r : V → Hp → VK → Prop) : Prop := ∀ (W : WX) (ι : Lay) (H : Hp) (σ : L2.St) (C : Cs) (v : A) (x : V) (Q : VK), RC K xc ι H C → Rp K ι H v x → Post K xc W (Rp K) ι H σ (g v C) Q → r x H Q
def AdqN (K : PySem.W.Frag) (xc : XC) (g : List A → Cs → R A) (r : List V → Hp → VK → Prop) : Prop := ∀ (W : WX) (ι : Lay) (H : Hp) (σ : L2.St) (C : Cs) (vs : List A) (xs : List V) (Q : VK), RC K xc ι H C → Rps K ι H vs xs → Post K xc W (Rp K) ι H σ (g vs C) Q → r xs H Q
def AdqM (K : PySem.W.Frag) (xc : XC) (g : A → List A → Cs → R A) (r : V → List V → Hp → VK → Prop) : Prop := ∀ (W : WX) (ι : Lay) (H : Hp) (σ : L2.St) (C : Cs) (v : A) (vs : List A) (x : V) (xs : List V) (Q : VK), RC K xc ι H C → Rp K ι H v x → Rps K ι H vs xs → Post K xc W (Rp K) ι H σ (g v vs C) Q → r x xs H Q
theorem use2 {r : R2} {g : A → A → Cs → R A} {f1 f2 : En → Cs → R A} (ad : Adq2 X.K xc g r) {σ : L2.St} {H : Hp} {Q : VK} (h : xD X.K xc W (xOp g f1 f2) σ H Q) : tOp r (xD X.K xc W f1) (xD X.K xc W f2) σ H Q := by
  obtain ⟨ι, s, C, c, r, p⟩ := h
  refine Dn.step c r p fun ι1 H1 C1 v x e1 c1 r1 q1 p1 => ?_
  refine Dn.step c1 r1 p1 fun ι2 H2 C2 w y e2 c2 r2 q2 p2 => ?_
  exact ad W ι2 H2 σ C2 v w x y Q c2 (q1.ext e2) q2 p2
theorem r_op {op : Operator} {r : R2} {g : A → A → Cs → R A} {a b : Expr} {f1 f2 : En → Cs → R A} (ho : OpR X (binaryOp op) r) (ad : Adq2 X.K xc g r) (ha : PE X a (xD X.K xc W f1)) (hb : PE X b (xD X.K xc W f2)) :
    PE X (.BinOp a op b pos) (xD X.K xc W (xOp g f1 f2)) := PE.imp (pe_op ho ha hb) fun _ _ _ h => use2 ad h
theorem r_cmp {op : CmpOp} {r : R2} {g : A → A → Cs → R A} {a b : Expr} {f1 f2 : En → Cs → R A} (ho : OpR X (compareOp op) r) (ad : Adq2 X.K xc g r) (ha : PE X a (xD X.K xc W f1)) (hb : PE X b (xD X.K xc W f2)) (hm : behindInMarks op b = false) :
    PE X (.Compare a [op] [b] pos) (xD X.K xc W (xOp g f1 f2)) := PE.imp (pe_cmpR ho ha hb hm) fun _ _ _ h => use2 ad h
theorem r_ix {r : R2} {g : A → A → Cs → R A} {a b : Expr} {f1 f2 : En → Cs → R A} (ho : IxR X r) (ad : Adq2 X.K xc g r) (ha : PE X a (xD X.K xc W f1)) (hb : PE X b (xD X.K xc W f2)) (hs : PlainIx b := by exact fun _ _ => rfl) :
    PE X (.Subscript a b pos) (xD X.K xc W (xOp g f1 f2)) := PE.imp (pe_ix ho ha hb hs) fun _ _ _ h => use2 ad h
theorem r_un {op : UnaryOp} {r : V → Hp → VK → Prop} {g : A → Cs → R A} {a : Expr} {f : En → Cs → R A} (ho : UnR X (unaryOp op) r) (ad : Adq1 X.K xc g r) (ha : PE X a (xD X.K xc W f)) : PE X (.UnaryOp op a pos) (xD X.K xc W (xUn g f)) := by
  refine PE.imp (pe_un ho ha) fun σ H Q ⟨ι, s, C, c, r, p⟩ => ?_
  refine Dn.step c r p fun ι1 H1 C1 v x e1 c1 r1 q1 p1 => ?_
  exact ad W ι1 H1 σ C1 v x Q c1 q1 p1
theorem useN {r : List V → Hp → VK → Prop} {g : List A → Cs → R A} {fs : En → Cs → R (List A)} (ad : AdqN X.K xc g r) {σ : L2.St} {H : Hp} {Q : VK} (h : xD X.K xc W (xAp g fs) σ H Q) : tCB r (aD X.K xc W fs) σ H Q := by
  obtain ⟨ι, s, C, c, r, p⟩ := h
  refine Dn.step c r p fun ι1 H1 C1 vs xs e1 c1 r1 q1 p1 => ?_
  exact ad W ι1 H1 σ C1 vs xs Q c1 q1 p1
theorem r_callB {id : String} {x : Str} {r : List V → Hp → VK → Prop} {g : List A → Cs → R A} {e : Expr} {es : List Expr} {fs : En → Cs → R (List A)} {p : Pos} (hc : CallR X (.builtin id) r) (ad : AdqN X.K xc g r) (hg : Gl X x) (hm : X.mg x = none)
    (hv : bootBuiltins x = some (.builtin id)) (ha : PA X (e :: es) (aD X.K xc W fs)) (hn : x ≠ "__name__" := by decide) (hdb : (x == ("__debug__" : Str)) = false := by decide)
    (he : starEach (e :: es) X.env = (false, eval e X.env) :: starEach es X.env := by rfl) (hpl : (backTo pos (starEach es X.env)).any (·.1) = false := by rfl) : PE X (.Call (.Name x p) (e :: es) [] pos) (xD X.K xc W (xAp g fs)) :=
  PE.imp (pe_callB hc hg hm hv ha hn hdb he hpl) fun _ _ _ h => useN ad h
theorem r_callTy {T : String} {x : Str} {r : List V → Hp → VK → Prop} {g : List A → Cs → R A} {e : Expr} {es : List Expr} {fs : En → Cs → R (List A)} {p : Pos} (hc : CallR X (.type T) r) (ad : AdqN X.K xc g r) (hg : Gl X x) (hm : X.mg x = none)
    (hv : bootBuiltins x = some (.type T)) (ha : PA X (e :: es) (aD X.K xc W fs)) (hn : x ≠ "__name__" := by decide) (hdb : (x == ("__debug__" : Str)) = false := by decide)
    (he : starEach (e :: es) X.env = (false, eval e X.env) :: starEach es X.env := by rfl) (hpl : (backTo pos (starEach es X.env)).any (·.1) = false := by rfl) : PE X (.Call (.Name x p) (e :: es) [] pos) (xD X.K xc W (xAp g fs)) :=
  PE.imp (pe_callTy hc hg hm hv ha hn hdb he hpl) fun _ _ _ h => useN ad h
end
end FM

namespace FM
open PySem PySem.Spec PyProof.Rows L2
/-! ### tests -/
def tVal (f : En → Cs → R A) : En → Cs → R Bool := fun s C => (f s C).bind fun v C1 => match v with
  | .bl b => .ok b C1
  | _ => .bad
def tNotF (f : En → Cs → R Bool) : En → Cs → R Bool := fun s C => (f s C).bind fun b C1 => .ok (!b) C1
def tAndF (f g : En → Cs → R Bool) : En → Cs → R Bool := fun s C => (f s C).bind fun b C1 => if b = true then g s C1 else .ok false C1
def tOrF (f g : En → Cs → R Bool) : En → Cs → R Bool := fun s C => (f s C).bind fun b C1 => if b = true then .ok true C1 else g s C1
def xIf (t : En → Cs → R Bool) (f g : En → Cs → R A) : En → Cs → R A := fun s C => (t s C).bind fun b C1 => if b = true then f s C1 else g s C1
def xAndV (f g : En → Cs → R A) : En → Cs → R A := fun s C => (f s C).bind fun v C1 => match v with
  | .bl b => if b = true then g s C1 else .ok (.bl false) C1
  | _ => .bad
def xOrV (f g : En → Cs → R A) : En → Cs → R A := fun s C => (f s C).bind fun v C1 => match v with
  | .bl b => if b = true then .ok (.bl true) C1 else g s C1
  | _ => .bad
def xNotV (f : En → Cs → R A) : En → Cs → R A := fun s C => (f s C).bind fun v C1 => match v with
  | .bl b => .ok (.bl (!b)) C1
  | _ => .bad
/-- a op b op' c -/
def xChain (g1 g2 : A → A → Cs → R A) (fa fb fc : En → Cs → R A) : En → Cs → R A := fun s C => (fa s C).bind fun v C1 => (fb s C1).bind fun w C2 => (g1 v w C2).bind fun z C3 => match z with
  | .bl k => if k = true then (fc s C3).bind fun u C4 => g2 w u C4 else .ok (.bl false) C3
  | _ => .bad
section
variable {X : Cx} {xc : XC} {W : WX} {pos : Pos}
theorem Rp.of_bl {K : PySem.W.Frag} {ι : Lay} {H : Hp} {b : Bool} {x : V} (r : Rp K ι H (.bl b) x) : x = .bl b := by cases r; rfl
theorem Rp.of_int {K : PySem.W.Frag} {ι : Lay} {H : Hp} {i : Int} {x : V} (r : Rp K ι H (.int i) x) : x = .int i := by cases r; rfl
theorem Rp.of_str {K : PySem.W.Frag} {ι : Lay} {H : Hp} {i : Str} {x : V} (r : Rp K ι H (.str i) x) : x = .str i := by cases r; rfl
theorem Rp.of_non {K : PySem.W.Frag} {ι : Lay} {H : Hp} {x : V} (r : Rp K ι H .non x) : x = .non := by cases r; rfl
theorem useVal {f : En → Cs → R A} {σ : L2.St} {H : Hp} {Q : Bool → Hp → Prop} (h : tD X.K xc W (tVal f) σ H Q) : tTest (xD X.K xc W f) σ H Q := by
  obtain ⟨ι, s, C, c, r, p⟩ := h
  refine Dn.step c r p fun ι1 H1 C1 v x e1 c1 r1 q1 p1 => ?_
  cases v with
  | bl b => exact ⟨b, q1.of_bl, p1.fin c1 rfl⟩
  | _ => exact p1.elim
theorem r_tval {e : Expr} {f : En → Cs → R A} (h : PE X e (xD X.K xc W f)) (he : ∀ whole, isTrue e X.env whole = (do let v ← whole; standAt e.pos; holding [v] (truthy v)) := by intro _; rfl) : PT X e (tD X.K xc W (tVal f)) :=
  PT.imp (pt_val h he) fun _ _ _ h => useVal h
theorem r_tcmp {op : CmpOp} {r : R2} {g : A → A → Cs → R A} {a b : Expr} {f1 f2 : En → Cs → R A} (ho : OpR X (compareOp op) r) (ad : Adq2 X.K xc g r) (ha : PE X a (xD X.K xc W f1)) (hb : PE X b (xD X.K xc W f2)) (hm : behindInMarks op b = false) :
    PT X (.Compare a [op] [b] pos) (tD X.K xc W (tVal (xOp g f1 f2))) := by
  refine PT.imp (pt_cmpR ho ha hb hm) fun σ H Q ⟨ι, s, C, c, r, p⟩ => ?_
  have h : xD X.K xc W (xOp g f1 f2) σ H (fun x H' => ∃ k, x = .bl k ∧ Q k H') := by
    refine ⟨ι, s, C, c, r, ?_⟩
    unfold tVal at p
    cases e : xOp g f1 f2 s C with
    | ok v C1 =>
      rw [e] at p
      cases v with
      | bl b => exact fun ι1 H1 x e1 c1 r1 => ⟨b, r1.of_bl, p ι1 H1 b e1 c1 rfl⟩
      | _ => exact (show False from p).elim
    | ex cc pp C1 => rw [e] at p; exact p
    | bad => rw [e] at p; exact p
  exact use2 ad h
theorem r_tnot {a : Expr} {f : En → Cs → R Bool} (ha : PT X a (tD X.K xc W f)) : PT X (.UnaryOp .Not a pos) (tD X.K xc W (tNotF f)) := by
  refine PT.imp (pt_not ha) fun σ H Q ⟨ι, s, C, c, r, p⟩ => ?_
  refine Dn.step c r p fun ι1 H1 C1 v x e1 c1 r1 q1 p1 => ?_
  cases q1
  exact p1.fin c1 rfl
theorem PW.imp {X : Cx} {e : Expr} {t t' : TT} (h : PW X e t) (i : ∀ σ H Q, t' σ H Q → t σ H Q) : PW X e t' := ⟨fun wh pins s σ H Q I q => h.run wh pins s σ H Q I (i σ H Q q)⟩
theorem r_tand {a b : Expr} {rest : List Expr} {f g : En → Cs → R Bool} (ha : PT X a (tD X.K xc W f)) (hb : PW X (.BoolOp .And (b :: rest) pos) (tD X.K xc W g)) : PW X (.BoolOp .And (a :: b :: rest) pos) (tD X.K xc W (tAndF f g)) := by
  refine PW.imp (pw_and ha hb) fun σ H Q ⟨ι, s, C, c, r, p⟩ => ?_
  refine Dn.step c r p fun ι1 H1 C1 v x e1 c1 r1 q1 p1 => ?_
  cases q1
  cases v with
  | true => exact ⟨ι1, s, C1, c1, r1, p1⟩
  | false => exact p1.fin c1 rfl
theorem r_tor {a b : Expr} {rest : List Expr} {f g : En → Cs → R Bool} (ha : PT X a (tD X.K xc W f)) (hb : PW X (.BoolOp .Or (b :: rest) pos) (tD X.K xc W g)) : PW X (.BoolOp .Or (a :: b :: rest) pos) (tD X.K xc W (tOrF f g)) := by
  refine PW.imp (pw_or ha hb) fun σ H Q ⟨ι, s, C, c, r, p⟩ => ?_
  refine Dn.step c r p fun ι1 H1 C1 v x e1 c1 r1 q1 p1 => ?_
  cases q1
  cases v with
  | true => exact p1.fin c1 rfl
  | false => exact ⟨ι1, s, C1, c1, r1, p1⟩
theorem r_if {c a b : Expr} {t : En → Cs → R Bool} {f g : En → Cs → R A} (hc : PT X c (tD X.K xc W t)) (ha : PE X a (xD X.K xc W f)) (hb : PE X b (xD X.K xc W g)) : PE X (.IfExp c a b pos) (xD X.K xc W (xIf t f g)) := by
  refine PE.imp (pe_ifExp hc ha hb) fun σ H Q ⟨ι, s, C, c, r, p⟩ => ?_
  refine Dn.step c r p fun ι1 H1 C1 v x e1 c1 r1 q1 p1 => ?_
  cases q1
  cases v with
  | true => exact ⟨ι1, s, C1, c1, r1, p1⟩
  | false => exact ⟨ι1, s, C1, c1, r1, p1⟩
theorem r_and {a b : Expr} {rest : List Expr} {f g : En → Cs → R A} (ha : PE X a (xD X.K xc W f)) (hb : PE X (.BoolOp .And (b :: rest) pos) (xD X.K xc W g)) : PE X (.BoolOp .And (a :: b :: rest) pos) (xD X.K xc W (xAndV f g)) := by
  refine PE.imp (pe_and ha hb) fun σ H Q ⟨ι, s, C, c, r, p⟩ => ?_
  refine Dn.step c r p fun ι1 H1 C1 v x e1 c1 r1 q1 p1 => ?_
  cases v with
  | bl b =>
    refine ⟨b, q1.of_bl, ?_⟩
    cases b with
    | true => exact ⟨ι1, s, C1, c1, r1, p1⟩
    | false => exact p1.fin c1 (.bl false)
  | _ => exact p1.elim
theorem r_or {a b : Expr} {rest : List Expr} {f g : En → Cs → R A} (ha : PE X a (xD X.K xc W f)) (hb : PE X (.BoolOp .Or (b :: rest) pos) (xD X.K xc W g)) : PE X (.BoolOp .Or (a :: b :: rest) pos) (xD X.K xc W (xOrV f g)) := by
  refine PE.imp (pe_or ha hb) fun σ H Q ⟨ι, s, C, c, r, p⟩ => ?_
  refine Dn.step c r p fun ι1 H1 C1 v x e1 c1 r1 q1 p1 => ?_
  cases v with
  | bl b =>
    refine ⟨b, q1.of_bl, ?_⟩
    cases b with
    | true => exact p1.fin c1 (.bl true)
    | false => exact ⟨ι1, s, C1, c1, r1, p1⟩
  | _ => exact p1.elim
theorem r_not {a : Expr} {f : En → Cs → R A} (ha : PE X a (xD X.K xc W f)) : PE X (.UnaryOp .Not a pos) (xD X.K xc W (xNotV f)) := by
  refine PE.imp (pe_not ha) fun σ H Q ⟨ι, s, C, c, r, p⟩ => ?_
  refine Dn.step c r p fun ι1 H1 C1 v x e1 c1 r1 q1 p1 => ?_
  cases v with
  | bl b => exact ⟨b, q1.of_bl, p1.fin c1 (.bl _)⟩
  | _ => exact p1.elim
theorem useChain {r r' : R2} {g1 g2 : A → A → Cs → R A} {fa fb fc : En → Cs → R A} (ad : Adq2 X.K xc g1 r) (ad' : Adq2 X.K xc g2 r') (np : ∀ v w C, (∃ k, g1 v w C = .ok (.bl k) C) ∨ g1 v w C = .bad) {σ : L2.St} {H : Hp} {Q : VK} (h : xD X.K xc W (xChain g1 g2 fa fb fc) σ H Q) :
    tChain r r' (xD X.K xc W fa) (xD X.K xc W fb) (xD X.K xc W fc) σ H Q := by
  obtain ⟨ι, s, C, c, rs, p⟩ := h
  refine Dn.step c rs p fun ι1 H1 C1 v x e1 c1 r1 q1 p1 => ?_
  refine Dn.step c1 r1 p1 fun ι2 H2 C2 w y e2 c2 r2 q2 p2 => ?_
  refine ad W ι2 H2 σ C2 v w x y _ c2 (q1.ext e2) q2 ?_
  rcases np v w C2 with ⟨k, e⟩ | e
  · rw [e] at p2 ⊢
    refine fun ι3 H3 z e3 c3 r3 => ⟨k, r3.of_bl, ?_⟩
    have p3 : Post X.K xc W (Rp X.K) ι2 H2 σ (if k = true then (fc s C2).bind fun u C4 => g2 w u C4 else .ok (.bl false) C2) Q := p2
    cases k with
    | true =>
      have p4 : Post X.K xc W (Rp X.K) ι3 H3 σ ((fc s C2).bind fun u C4 => g2 w u C4) Q := Post.later p3 e3
      refine Dn.step c3 (r2.ext e3) p4 fun ι5 H5 C5 u zz e5 c5 r5 q5 p5 => ?_
      exact ad' W ι5 H5 σ C5 w u y zz Q c5 ((q2.ext e3).ext e5) q5 p5
    | false => exact (Post.later p3 e3 : Post X.K xc W (Rp X.K) ι3 H3 σ (.ok (.bl false) C2) Q).fin c3 (.bl false)
  · rw [e] at p2
    exact (show False from p2).elim
theorem r_chain {op op' : CmpOp} {r r' : R2} {g1 g2 : A → A → Cs → R A} {a b c : Expr} {fa fb fc : En → Cs → R A} (ho : OpR X (compareOp op) r) (ho' : OpR X (compareOp op') r') (ad : Adq2 X.K xc g1 r) (ad' : Adq2 X.K xc g2 r')
    (np : ∀ v w C, (∃ k, g1 v w C = .ok (.bl k) C) ∨ g1 v w C = .bad) (ha : PE X a (xD X.K xc W fa)) (hb : PE X b (xD X.K xc W fb)) (hc : PE X c (xD X.K xc W fc)) (hm : lastMarks [op, op'] [b, c] = false := by rfl) :
    PE X (.Compare a [op, op'] [b, c] pos) (xD X.K xc W (xChain g1 g2 fa fb fc)) := PE.imp (pe_chain ho ho' ha hb hc hm) fun _ _ _ h => useChain ad ad' np h
theorem useTest {t : TE} {f : En → Cs → R A} (i : ∀ σ H Q, xD X.K xc W f σ H Q → t σ H Q) {σ : L2.St} {H : Hp} {Q : Bool → Hp → Prop} (h : tD X.K xc W (tVal f) σ H Q) : tTest t σ H Q := by
  obtain ⟨ι, s, C, c, r, p⟩ := h
  refine i σ H _ ⟨ι, s, C, c, r, ?_⟩
  unfold tVal at p
  cases e : f s C with
  | ok v C1 =>
    rw [e] at p
    cases v with
    | bl b => exact fun ι1 H1 x e1 c1 r1 => ⟨b, r1.of_bl, p ι1 H1 b e1 c1 rfl⟩
    | _ => exact (show False from p).elim
  | ex cc pp C1 => rw [e] at p; exact p
  | bad => rw [e] at p; exact p
theorem r_tchain {op op' : CmpOp} {r r' : R2} {g1 g2 : A → A → Cs → R A} {a b c : Expr} {fa fb fc : En → Cs → R A} (ho : OpR X (compareOp op) r) (ho' : OpR X (compareOp op') r') (ad : Adq2 X.K xc g1 r) (ad' : Adq2 X.K xc g2 r')
    (np : ∀ v w C, (∃ k, g1 v w C = .ok (.bl k) C) ∨ g1 v w C = .bad) (ha : PE X a (xD X.K xc W fa)) (hb : PE X b (xD X.K xc W fb)) (hc : PE X c (xD X.K xc W fc)) (hm : lastMarks [op, op'] [b, c] = false := by rfl) :
    PT X (.Compare a [op, op'] [b, c] pos) (tD X.K xc W (tVal (xChain g1 g2 fa fb fc))) := PT.imp (pt_chain ho ho' ha hb hc hm) fun _ _ _ h => useTest (fun _ _ _ h => useChain ad ad' np h) h
end
/-! ### statements -/
inductive SR where
  | nx (s : En) (C : Cs) | rt (v : A) (C : Cs) | bk (s : En) (C : Cs) | ct (s : En) (C : Cs) | ex (c : Nat) (p : Option A) (s : En) (C : Cs) | bad
def PostS (K : PySem.W.Frag) (xc : XC) (W : WX) (ι : Lay) (H : Hp) (D : Ends) : SR → Prop
  | .nx s C => ∀ ι' H' σ', Ext ι H ι' H' → RC K xc ι' H' C → RS K ι' H' s σ' → D.nx σ' H'
  | .bk s C => ∀ ι' H' σ', Ext ι H ι' H' → RC K xc ι' H' C → RS K ι' H' s σ' → D.bk σ' H'
  | .ct s C => ∀ ι' H' σ', Ext ι H ι' H' → RC K xc ι' H' C → RS K ι' H' s σ' → D.ct σ' H'
  | .rt v C => ∀ ι' H' x, Ext ι H ι' H' → RC K xc ι' H' C → Rp K ι' H' v x → D.rt x H'
  | .ex c p s C => ∀ ι' H' σ' d, Ext ι H ι' H' → RC K xc ι' H' C → RS K ι' H' s σ' → RX K xc ι' H' c p d → W (.ref (xc.cl c)) d σ' H'
  | .bad => False
def sD (K : PySem.W.Frag) (xc : XC) (W : WX) (g : En → Cs → SR) : TS := fun D σ H => ∃ ι s C, RC K xc ι H C ∧ RS K ι H s σ ∧ PostS K xc W ι H D (g s C)
def R.toS {α : Type} (r : R α) (s : En) (f : α → Cs → SR) : SR := match r with
  | .ok v C => f v C
  | .ex c p C => .ex c p s C
  | .bad => .bad
@[simp] theorem R.toS_ok {α : Type} (a : α) (C : Cs) (s : En) (f : α → Cs → SR) : (R.ok a C).toS s f = f a C := rfl
@[simp] theorem R.toS_ex {α : Type} (c : Nat) (p : Option A) (C : Cs) (s : En) (f : α → Cs → SR) : (R.ex (α := α) c p C).toS s f = .ex c p s C := rfl
@[simp] theorem R.toS_bad {α : Type} (s : En) (f : α → Cs → SR) : (R.bad (α := α)).toS s f = .bad := rfl
def SR.then (r : SR) (f : En → Cs → SR) : SR := match r with
  | .nx s C => f s C
  | r => r
def sNext : En → Cs → SR := fun s C => .nx s C
def sBad : En → Cs → SR := fun _ _ => .bad
def sSeq (f g : En → Cs → SR) : En → Cs → SR := fun s C => (f s C).then g
def sSet (i : Nat) (f : En → Cs → R A) : En → Cs → SR := fun s C => (f s C).toS s fun v C1 => .nx (s.set i (some v)) C1
def sExp (f : En → Cs → R A) : En → Cs → SR := fun s C => (f s C).toS s fun _ C1 => .nx s C1
def sRet (f : En → Cs → R A) : En → Cs → SR := fun s C => (f s C).toS s fun v C1 => .rt v C1
def sIf (t : En → Cs → R Bool) (f g : En → Cs → SR) : En → Cs → SR := fun s C => (t s C).toS s fun b C1 => if b = true then f s C1 else g s C1
section
variable {K : PySem.W.Frag} {xc : XC} {W : WX} {ι ι' : Lay} {H H' : Hp} {D : Ends}
theorem PostS.later {r : SR} (p : PostS K xc W ι H D r) (e : Ext ι H ι' H') : PostS K xc W ι' H' D r := by
  cases r with
  | nx s C => exact fun ι2 H2 σ2 e2 c q => p ι2 H2 σ2 (e.trans e2) c q
  | bk s C => exact fun ι2 H2 σ2 e2 c q => p ι2 H2 σ2 (e.trans e2) c q
  | ct s C => exact fun ι2 H2 σ2 e2 c q => p ι2 H2 σ2 (e.trans e2) c q
  | rt v C => exact fun ι2 H2 x e2 c q => p ι2 H2 x (e.trans e2) c q
  | ex cc pp s C => exact fun ι2 H2 σ2 d e2 c q1 q => p ι2 H2 σ2 d (e.trans e2) c q1 q
  | bad => exact p
theorem RS.set {s : En} {σ : L2.St} {a : A} {v : V} (r : RS K ι H s σ) (q : Rp K ι H a v) (i : Nat) : RS K ι H (s.set i (some a)) (σ.set i (some v)) := by
  refine ⟨by simp [r.1], fun j b e => ?_⟩
  by_cases h : i = j
  · subst h
    by_cases hl : i < s.length
    · rw [List.getElem?_set_self hl] at e
      cases e
      exact ⟨v, by rw [List.getElem?_set_self (by rw [← r.1]; exact hl)], q⟩
    · rw [List.getElem?_eq_none (by simpa using hl)] at e; cases e
  · rw [List.getElem?_set_ne h] at e
    obtain ⟨w, e1, q1⟩ := r.2 j b e
    exact ⟨w, by rw [List.getElem?_set_ne h]; exact e1, q1⟩
/-- an expression, then a statement -/
theorem Dn.stepS {α β : Type} {rel : Rel α β} {f : En → Cs → R α} {g : α → Cs → SR} {σ : L2.St} {s : En} {C : Cs} {Q : β → Hp → Prop} (c : RC K xc ι H C) (r : RS K ι H s σ) (p : PostS K xc W ι H D ((f s C).toS s g))
    (h : ∀ ι1 H1 C1 v x, Ext ι H ι1 H1 → RC K xc ι1 H1 C1 → RS K ι1 H1 s σ → rel ι1 H1 v x → PostS K xc W ι1 H1 D (g v C1) → Q x H1) : Dn K xc W rel f σ H Q := by
  refine ⟨ι, s, C, c, r, ?_⟩
  cases e : f s C with
  | ok v C1 =>
    rw [e] at p
    exact fun ι1 H1 x e1 c1 r1 => h ι1 H1 C1 v x e1 c1 (r.ext e1) r1 (PostS.later (r := g v C1) p e1)
  | ex cc pp C1 =>
    rw [e] at p
    exact fun ι1 H1 d e1 c1 rx => p ι1 H1 σ d e1 c1 (r.ext e1) rx
  | bad =>
    rw [e] at p
    exact p
end
section
variable {X : Cx} {xc : XC} {W : WX} {pos : Pos}
theorem r_nil : PSs X [] (sD X.K xc W sNext) := PSs.imp pss_nil fun D σ H ⟨ι, s, C, c, r, p⟩ => p ι H σ (Ext.refl _ _) c r
theorem r_pass : PS X (.Pass pos) (sD X.K xc W sNext) := PS.imp ps_pass fun D σ H ⟨ι, s, C, c, r, p⟩ => p ι H σ (Ext.refl _ _) c r
theorem r_never {st : Stmt} : PS X st (sD X.K xc W sBad) := PS.imp ps_never fun D σ H ⟨ι, s, C, c, r, p⟩ => p
theorem r_cons {st : Stmt} {rest : List Stmt} {f g : En → Cs → SR} (h1 : PS X st (sD X.K xc W f)) (h2 : PSs X rest (sD X.K xc W g)) : PSs X (st :: rest) (sD X.K xc W (sSeq f g)) := by
  refine PSs.imp (pss_cons h1 h2) fun D σ H ⟨ι, s, C, c, r, p⟩ => ⟨ι, s, C, c, r, ?_⟩
  unfold sSeq SR.then at p
  cases e : f s C with
  | nx s1 C1 =>
    rw [e] at p
    exact fun ι1 H1 σ1 e1 c1 r1 => ⟨ι1, s1, C1, c1, r1, PostS.later p e1⟩
  | bk s1 C1 => rw [e] at p; exact p
  | ct s1 C1 => rw [e] at p; exact p
  | rt v C1 => rw [e] at p; exact p
  | ex cc pp s1 C1 => rw [e] at p; exact p
  | bad => rw [e] at p; exact p
theorem r_one {st : Stmt} {f : En → Cs → SR} (h1 : PS X st (sD X.K xc W f)) : PSs X [st] (sD X.K xc W f) := pss_one h1
theorem r_set {i : Nat} {x : Str} {e : Expr} {f : En → Cs → R A} {pos' : Pos} (hN : X.N.Nodup) (hi : X.N[i]? = some x) (hx : Loc X.env.scope x) (he : PE X e (xD X.K xc W f)) (hs : swapsWith e (some (.Name x pos')) pos.line X.env = pure false := by rfl)
    (hf : X.fn x = true ∨ X.env.scope.names.lookup x = some .local := by first | exact .inl rfl | exact .inr rfl | assumption) : PS X (.Assign [.Name x pos'] e pos) (sD X.K xc W (sSet i f)) := by
  refine PS.imp (ps_set hN hi hx he hs hf) fun D σ H ⟨ι, s, C, c, r, p⟩ => ?_
  refine Dn.stepS c r p fun ι1 H1 C1 v y e1 c1 r1 q1 p1 => ?_
  exact p1 ι1 H1 _ (Ext.refl _ _) c1 (r1.set q1 i)
theorem r_expr {e : Expr} {f : En → Cs → R A} (he : PE X e (xD X.K xc W f)) (hs : swapsWith e none pos.line X.env = pure false := by rfl) : PS X (.Expr e pos) (sD X.K xc W (sExp f)) := by
  refine PS.imp (ps_expr he hs) fun D σ H ⟨ι, s, C, c, r, p⟩ => ?_
  refine Dn.stepS c r p fun ι1 H1 C1 v y e1 c1 r1 q1 p1 => ?_
  exact p1 ι1 H1 _ (Ext.refl _ _) c1 r1
theorem r_ret {e : Expr} {f : En → Cs → R A} (he : PE X e (xD X.K xc W f)) : PS X (.Return (some e) pos) (sD X.K xc W (sRet f)) := by
  refine PS.imp (ps_ret he) fun D σ H ⟨ι, s, C, c, r, p⟩ => ?_
  refine Dn.stepS c r p fun ι1 H1 C1 v y e1 c1 r1 q1 p1 => ?_
  exact p1 ι1 H1 y (Ext.refl _ _) c1 q1
theorem r_ifS {c : Expr} {a b : List Stmt} {t : En → Cs → R Bool} {f g : En → Cs → SR} (hc : PT X c (tD X.K xc W t)) (ha : PSs X a (sD X.K xc W f)) (hb : PSs X b (sD X.K xc W g)) : PS X (.If c a b pos) (sD X.K xc W (sIf t f g)) := by
  refine PS.imp (ps_if hc ha hb) fun D σ H ⟨ι, s, C, c, r, p⟩ => ?_
  refine Dn.stepS c r p fun ι1 H1 C1 v y e1 c1 r1 q1 p1 => ?_
  cases q1
  cases v with
  | true => exact ⟨ι1, s, C1, c1, r1, p1⟩
  | false => exact ⟨ι1, s, C1, c1, r1, p1⟩
/-- calls of own defs -/
def runF (n : Nat) (b : En → Cs → SR) (as : List A) (C : Cs) : R A := match b (as.map some ++ List.replicate n none) C with
  | .nx _ C1 => .ok .non C1
  | .rt v C1 => .ok v C1
  | .ex c p _ C1 => .ex c p C1
  | _ => .bad
def spD (K : PySem.W.Frag) (xc : XC) (np : Nat) (m : List A → Cs → R A) : Sp := fun vs H Q E => ∃ ι as C, RC K xc ι H C ∧ Rps K ι H as vs ∧ vs.length = np ∧ Post K xc (fun c d _ H' => E c d H') (Rp K) ι H [] (m as C) Q
theorem r_call {k : Nat} {f : Addr} {fd : FuncData} {ps : List Str} {np : Nat} {m : List A → Cs → R A} {x : Str} {p : Pos} {e : Expr} {es : List Expr} {fs : En → Cs → R (List A)} (F : FnOk X.prog X.w X.K X.mg X.base (L2.CX X.prog X.w) k f fd ps (spD X.K xc np m)) (hr : Room k X.A)
    (tk : Takes X W) (hg : Gl X x) (hm : X.mg x = some (.ref f)) (hk : PySem.W.keepIn X.K (.ref f) = true) (hb : Binds X.K fd ps []) (ha : PA X (e :: es) (aD X.K xc W fs)) (hl : es.length + 1 = np) (hdb : (x == ("__debug__" : Str)) = false := by decide)
    (he : starEach (e :: es) X.env = (false, eval e X.env) :: starEach es X.env := by rfl) (hpl : (backTo pos (starEach es X.env)).any (·.1) = false := by rfl) (hal : ∀ s C vs C', fs s C = .ok vs C' → vs.length = np) :
    PE X (.Call (.Name x p) (e :: es) [] pos) (xD X.K xc W (xAp m fs)) := by
  refine PE.imp (pe_callSD (dvs := []) (ds := []) (E := WE W) F hr hg hm hk hb .nil (fun σ => passAt tk σ) ha hdb he hpl) fun σ H Q ⟨ι, s, C, c, r, p⟩ => ?_
  unfold xAp at p
  refine ⟨ι, s, C, c, r, ?_⟩
  cases e : fs s C with
  | ok vs C1 =>
    rw [e] at p
    intro ι1 H1 xs e1 c1 r1
    rw [List.append_nil]
    exact ⟨ι1, vs, C1, c1, r1, by rw [← r1.length]; exact hal s C vs C1 e, by
      have p' := Post.later (r := m vs C1) p e1
      cases e2 : m vs C1 with
      | ok v C2 => rw [e2] at p'; exact p'
      | ex cc pp C2 => rw [e2] at p'; exact p'
      | bad => rw [e2] at p'; exact p'⟩
  | ex cc pp C1 => rw [e] at p; exact p
  | bad => rw [e] at p; exact p
end
theorem RS.start {K : PySem.W.Frag} {ι : Lay} {H : Hp} {N : List Str} : ∀ {as : List A} {vs : List V}, Rps K ι H as vs → RS K ι H (as.map some ++ List.replicate (N.length - vs.length) none) (L2.start N vs) := by
  intro as vs r
  have hl := r.length
  refine ⟨by simp [L2.start, hl], fun i a e => ?_⟩
  unfold L2.start
  by_cases hi : i < as.length
  · rw [List.getElem?_append_left (by simpa using hi), List.getElem?_map] at e
    cases q : as[i]? with
    | none => rw [q] at e; cases e
    | some b =>
      rw [q] at e
      have e' : b = a := by simpa using e
      subst e'
      obtain ⟨v, e1, r1⟩ := r.get q
      refine ⟨v, ?_, r1⟩
      rw [List.getElem?_append_left (by rw [List.length_map, ← hl]; exact hi), List.getElem?_map, e1]
      rfl
  · rw [List.getElem?_append_right (by simpa using hi)] at e
    obtain ⟨h1, h2⟩ := List.getElem?_eq_some_iff.mp e
    simp at h2
section
variable {P : Program} {w : World} {K : PySem.W.Frag} {mg : Str → Option Value} {base : Heap} {xc : XC}
/-- a def of the text does what its reading tells -/
theorem fn_ok {x qual : Str} {st : Stmt} {f : Addr} {fd : FuncData} {N ps : List Str} {k : Nat} {b : En → Cs → SR} (F : Fun K x qual st f fd) (S : FnScope N ps (defScope st))
    (hbody : ∀ (cdv : Value) (A : Around) (outer : List Env) (s : Shared) (H : Hp) (E : XK), Room k (A.deeper (envOfC qual (defScope st) s.heap.objs.size f cdv)) →
      Takes (cxOf (L2.CX P w) P w K mg base N qual (defScope st) f cdv A outer s H E) (fun c d _ H => E c d H) →
      PassesOwn (model P w) (A.deeper (envOfC qual (defScope st) s.heap.objs.size f cdv)) (envOfC qual (defScope st) s.heap.objs.size f cdv) (cxOf (L2.CX P w) P w K mg base N qual (defScope st) f cdv A outer s H E).xe →
      PSs (cxOf (L2.CX P w) P w K mg base N qual (defScope st) f cdv A outer s H E) (defBody st) (sD K xc (fun c d _ H => E c d H) b)) :
    FnOk P w K mg base (L2.CX P w) (k + 1) f fd ps (spD K xc ps.length (runF (N.length - ps.length) b)) := by
  refine F.okX S (fun vs H Q E ⟨_, _, _, _, _, h, _⟩ => h) fun cdv A outer s H vs Q E hr ⟨ι, as, C, c, ra, hl, p⟩ => ?_
  refine ⟨_, hbody cdv A outer s H E hr (takes_of rfl rfl rfl rfl) (passes_of rfl), ?_⟩
  refine ⟨ι, as.map some ++ List.replicate (N.length - vs.length) none, C, c, RS.start ra, ?_⟩
  rw [hl]
  unfold runF at p
  generalize b (List.map some as ++ List.replicate (N.length - ps.length) none) C = r at p ⊢
  cases r with
  | nx s1 C1 => exact fun ι1 H1 σ1 e1 c1 r1 => p ι1 H1 .non e1 c1 .non
  | bk s1 C1 => exact (show False from p).elim
  | ct s1 C1 => exact (show False from p).elim
  | rt v C1 => exact fun ι1 H1 x e1 c1 r1 => p ι1 H1 x e1 c1 r1
  | ex cc pp s1 C1 => exact fun ι1 H1 σ1 d e1 c1 r1 rx => p ι1 H1 d e1 c1 rx
  | bad => exact p
end
end FM

namespace FM
open PySem PySem.Spec PyProof.Rows L2
/-! ### equal values -/
mutual
def beqA : A → A → Bool
  | .non, .non => true
  | .bl a, .bl b => a == b
  | .int a, .int b => a == b
  | .str a, .str b => decide (a = b)
  | .tup a, .tup b => beqAs a b
  | .lst a, .lst b => beqAs a b
  | .kl a, .kl b => beqAs a b
  | .dk0, .dk0 => true
  | .fn a, .fn b => a == b
  | .loc a, .loc b => a == b
  | .opq a, .opq b => decide (a = b)
  | .kn a, .kn b => a == b
  | .ob a m xs, .ob b n ys => a == b && (decide (m = n) && beqAs xs ys)
  | _, _ => false
def beqAs : List A → List A → Bool
  | [], [] => true
  | x :: xs, y :: ys => beqA x y && beqAs xs ys
  | _, _ => false
end
mutual
theorem beqA_eq : ∀ {a b : A}, beqA a b = true → a = b
  | .non, b, h => by cases b <;> simp [beqA] at h <;> rfl
  | .bl x, b, h => by cases b <;> simp [beqA] at h; rw [h]
  | .int x, b, h => by cases b <;> simp [beqA] at h; rw [h]
  | .str x, b, h => by cases b <;> simp [beqA] at h; rw [h]
  | .tup x, b, h => by cases b <;> simp [beqA] at h; rw [beqAs_eq h]
  | .lst x, b, h => by cases b <;> simp [beqA] at h; rw [beqAs_eq h]
  | .kl x, b, h => by cases b <;> simp [beqA] at h; rw [beqAs_eq h]
  | .dk0, b, h => by cases b <;> simp [beqA] at h <;> rfl
  | .fn x, b, h => by cases b <;> simp [beqA] at h; rw [h]
  | .loc x, b, h => by cases b <;> simp [beqA] at h; rw [h]
  | .opq x, b, h => by cases b <;> simp [beqA] at h; rw [h]
  | .kn x, b, h => by cases b <;> simp [beqA] at h; rw [h]
  | .ob c m x, b, h => by cases b <;> simp [beqA] at h; rw [h.1, h.2.1, beqAs_eq h.2.2]
theorem beqAs_eq : ∀ {a b : List A}, beqAs a b = true → a = b
  | [], b, h => by cases b <;> simp [beqAs] at h <;> rfl
  | x :: xs, b, h => by
    cases b with
    | nil => simp [beqAs] at h
    | cons y ys =>
      simp only [beqAs, Bool.and_eq_true] at h
      rw [beqA_eq h.1, beqAs_eq h.2]
end
mutual
theorem beqA_refl : ∀ a : A, beqA a a = true
  | .non => rfl
  | .bl x => by simp [beqA]
  | .int x => by simp [beqA]
  | .str x => by simp [beqA]
  | .tup x => by simp [beqA, beqAs_refl x]
  | .lst x => by simp [beqA, beqAs_refl x]
  | .kl x => by simp [beqA, beqAs_refl x]
  | .dk0 => rfl
  | .fn x => by simp [beqA]
  | .loc x => by simp [beqA]
  | .opq x => by simp [beqA]
  | .kn x => by simp [beqA]
  | .ob c m x => by simp [beqA, beqAs_refl x]
theorem beqAs_refl : ∀ a : List A, beqAs a a = true
  | [] => rfl
  | x :: xs => by simp [beqAs, beqA_refl x, beqAs_refl xs]
end
/-- the cell n holds xs -/
def holds (n : Nat) (xs : List A) (C : Cs) : Bool := match C[n]? with
  | some ys => beqAs ys xs
  | none => false
theorem holds_eq {n : Nat} {xs : List A} {C : Cs} (h : holds n xs C = true) : C[n]? = some xs := by
  unfold holds at h
  split at h
  · rename_i ys e
    rw [e, beqAs_eq h]
  · cases h
theorem holds_of {n : Nat} {xs : List A} {C : Cs} (h : C[n]? = some xs) : holds n xs C = true := by
  unfold holds
  rw [h]
  exact beqAs_refl xs

/-! ### what is walked -/
abbrev Wk := List A × (Cs → Bool)
def IsW (K : PySem.W.Frag) (xc : XC) (ι : Lay) (H : Hp) (J : It) (items : Wk) : Prop := ∃ (G : Hp → Prop) (Y : Nat → Hp → V → Hp → Prop), Walk J items.1.length G Y ∧
  (∀ ι2 H2 C2, Mv ι H ι2 H2 → RC K xc ι2 H2 C2 → items.2 C2 = true → G H2) ∧
  ∀ ι2 H2 C2 i x H3, Mv ι H ι2 H2 → RC K xc ι2 H2 C2 → items.2 C2 = true → i < items.1.length → Y i H2 x H3 → ∃ a, items.1[i]? = some a ∧ Ext ι2 H2 ι2 H3 ∧ RC K xc ι2 H3 C2 ∧ Rp K ι2 H3 a x
abbrev iD (K : PySem.W.Frag) (xc : XC) (W : WX) (f : En → Cs → R Wk) : TI := Dn K xc W (fun ι H a J => IsW K xc ι H J a) f
theorem PI.imp {X : Cx} {tg e : Expr} {t t' : TI} (h : PI X tg e t) (i : ∀ σ H Q, t' σ H Q → t σ H Q) : PI X tg e t' := ⟨fun pins s σ H Q I q => h.run pins s σ H Q I (i σ H Q q)⟩

/-! ### targets -/
inductive Tgt where
  | nm (i : Nat) | tp2 (a b : Tgt) | tp3 (a b c : Tgt) | tp4 (a b c d : Tgt)
def tupOf : A → Option (List A)
  | .tup xs => some xs
  | _ => none
def Tgt.upd : Tgt → A → Option (List (Nat × A))
  | .nm i, v => some [(i, v)]
  | .tp2 a b, v => match tupOf v with
    | some [x, y] => match a.upd x, b.upd y with
      | some p, some q => some (p ++ q)
      | _, _ => none
    | _ => none
  | .tp3 a b c, v => match tupOf v with
    | some [x, y, z] => match a.upd x, b.upd y, c.upd z with
      | some p, some q, some r => some (p ++ (q ++ r))
      | _, _, _ => none
    | _ => none
  | .tp4 a b c d, v => match tupOf v with
    | some [x, y, z, w] => match a.upd x, b.upd y, c.upd z, d.upd w with
      | some p, some q, some r, some o => some (p ++ (q ++ (r ++ o)))
      | _, _, _, _ => none
    | _ => none
def Tgt.slots : Tgt → List Nat
  | .nm i => [i]
  | .tp2 a b => a.slots ++ b.slots
  | .tp3 a b c => a.slots ++ (b.slots ++ c.slots)
  | .tp4 a b c d => a.slots ++ (b.slots ++ (c.slots ++ d.slots))
def setAll {α : Type} : List (Nat × α) → List (Option α) → List (Option α)
  | [], s => s
  | (i, v) :: r, s => setAll r (s.set i (some v))
theorem setAll_append {α : Type} : ∀ (p q : List (Nat × α)) (s : List (Option α)), setAll (p ++ q) s = setAll q (setAll p s)
  | [], q, s => rfl
  | (i, v) :: r, q, s => setAll_append r q _
abbrev Ups (K : PySem.W.Frag) (ι : Lay) (H : Hp) : List (Nat × A) → List (Nat × V) → Prop := Paired fun p q => p.1 = q.1 ∧ Rp K ι H p.2 q.2
theorem Ups.append {K : PySem.W.Frag} {ι : Lay} {H : Hp} : ∀ {p q : List (Nat × A)} {p' q' : List (Nat × V)}, Ups K ι H p p' → Ups K ι H q q' → Ups K ι H (p ++ q) (p' ++ q')
  | _, _, _, _, .nil, s => s
  | _, _, _, _, .cons r t, s => .cons r (Ups.append t s)
theorem RS.upds {K : PySem.W.Frag} {ι : Lay} {H : Hp} : ∀ {p : List (Nat × A)} {p' : List (Nat × V)} {s : En} {σ : L2.St}, Ups K ι H p p' → RS K ι H s σ → RS K ι H (setAll p s) (setAll p' σ)
  | _, _, _, _, .nil, r => r
  | (i, a) :: p, (j, v) :: p', s, σ, .cons h t, r => by
    obtain ⟨e, q⟩ := h
    have e' : i = j := e
    subst e'
    have h := RS.upds t (r.set q i)
    exact h
def gD (K : PySem.W.Frag) (xc : XC) (T : Tgt) : TG := fun v σ H Q => ∃ ι C a us, RC K xc ι H C ∧ Rp K ι H a v ∧ T.upd a = some us ∧ ∀ ws, Ups K ι H us ws → (∀ p ∈ ws, p.1 ∈ T.slots) → Q (FM.setAll ws σ) H
/-- the target T is given v -/
structure PT1 (X : Cx) (xc : XC) (tg : Expr) (T : Tgt) : Prop where
  pg : PG X tg (gD X.K xc T)
section
variable {X : Cx} {xc : XC} {W : WX} {pos : Pos}
theorem r_gn {i : Nat} {x : Str} (hN : X.N.Nodup) (hi : X.N[i]? = some x) (hx : Loc X.env.scope x) (hf : X.fn x = true ∨ X.env.scope.names.lookup x = some .local := by first | exact .inl rfl | exact .inr rfl | assumption) : PT1 X xc (.Name x pos) (.nm i) := by
  refine ⟨⟨fun pins s σ H v u Q I r h => ?_⟩⟩
  obtain ⟨ι, C, a, us, c, ra, e, k⟩ := h
  cases e
  exact (pg_name hN hi hx hf).run pins s σ H v u Q I r (k [(i, v)] (.cons ⟨rfl, ra⟩ .nil) (by simp [Tgt.slots]))
theorem Rp.tup_inv {K : PySem.W.Frag} {ι : Lay} {H : Hp} {xs : List A} {x : V} (r : Rp K ι H (.tup xs) x) : ∃ a vs, x = .ref a ∧ FrT K ι H a vs ∧ Rps K ι H xs vs := by
  cases r with
  | tup f r => exact ⟨_, _, rfl, f, r⟩
theorem Rps.two {K : PySem.W.Frag} {ι : Lay} {H : Hp} {x y : A} {vs : List V} (r : Rps K ι H [x, y] vs) : ∃ u w, vs = [u, w] ∧ Rp K ι H x u ∧ Rp K ι H y w := by
  cases r with
  | cons r t =>
    cases t with
    | cons r' t' => cases t'; exact ⟨_, _, rfl, r, r'⟩
theorem Rps.three {K : PySem.W.Frag} {ι : Lay} {H : Hp} {x y z : A} {vs : List V} (r : Rps K ι H [x, y, z] vs) : ∃ u w o, vs = [u, w, o] ∧ Rp K ι H x u ∧ Rp K ι H y w ∧ Rp K ι H z o := by
  cases r with
  | cons r t =>
    obtain ⟨w, o, rfl, r1, r2⟩ := t.two
    exact ⟨_, _, _, rfl, r, r1, r2⟩
theorem Rps.one {K : PySem.W.Frag} {ι : Lay} {H : Hp} {x : A} {vs : List V} (r : Rps K ι H [x] vs) : ∃ u, vs = [u] ∧ Rp K ι H x u := by
  cases r with
  | cons r t => cases t; exact ⟨_, rfl, r⟩
theorem Rps.none {K : PySem.W.Frag} {ι : Lay} {H : Hp} {vs : List V} (r : Rps K ι H [] vs) : vs = [] := by cases r; rfl
theorem r_g2 {a b : Expr} {k : Nat} {ta tb : Tgt} (hc : X.calm = true) (ha : PT1 X xc a ta) (hb : PT1 X xc b tb) (hn : (assignEach [a, b] X.env).length = 2 := by rfl) (hst : (assignEach [a, b] X.env).findIdx? (·.1) = none := by rfl)
    (h1 : (assignEach [a, b] X.env).map (·.2) = assign a X.env :: (assignEach [b] X.env).map (·.2) := by rfl) (h2 : (assignEach [b] X.env).map (·.2) = assign b X.env :: (assignEach [] X.env).map (·.2) := by rfl) : PT1 X xc (.Tuple [a, b] k pos) (.tp2 ta tb) := by
  refine ⟨⟨fun pins s σ H v u Q I r h => ?_⟩⟩
  refine (pg_tup hc (pgs_cons ha.pg (pgs_cons hb.pg pgs_nil h2) h1) hn hst).run pins s σ H v u Q I r ?_
  obtain ⟨ι, C, w, us, c, ra, e, kk⟩ := h
  unfold Tgt.upd at e
  split at e
  · rename_i x y et
    cases w with
    | tup xs =>
      obtain rfl : xs = [x, y] := Option.some.inj et
      obtain ⟨p, vs, rfl, f, rs⟩ := ra.tup_inv
      obtain ⟨v1, v2, rfl, q1, q2⟩ := rs.two
      split at e
      · rename_i u1 u2 e1 e2
        obtain rfl := Option.some.inj e
        refine ⟨p, _, rfl, f.sq, rfl, _, _, rfl, ι, C, x, u1, c, q1, e1, fun ws1 W1 S1 => ⟨_, _, rfl, ι, C, y, u2, c, q2, e2, fun ws2 W2 S2 => ⟨rfl, ?_⟩⟩⟩
        have := kk (ws1 ++ ws2) (Ups.append W1 W2) (fun p hp => by
          rcases List.mem_append.mp hp with h | h
          · exact List.mem_append_left _ (S1 p h)
          · exact List.mem_append_right _ (S2 p h))
        rw [setAll_append] at this
        exact this
      · cases e
    | _ => cases et
  · cases e
theorem r_g3 {a b c : Expr} {k : Nat} {ta tb tc : Tgt} (hc : X.calm = true) (ha : PT1 X xc a ta) (hb : PT1 X xc b tb) (hcc : PT1 X xc c tc) (hn : (assignEach [a, b, c] X.env).length = 3 := by rfl) (hst : (assignEach [a, b, c] X.env).findIdx? (·.1) = none := by rfl)
    (h1 : (assignEach [a, b, c] X.env).map (·.2) = assign a X.env :: (assignEach [b, c] X.env).map (·.2) := by rfl) (h2 : (assignEach [b, c] X.env).map (·.2) = assign b X.env :: (assignEach [c] X.env).map (·.2) := by rfl)
    (h3 : (assignEach [c] X.env).map (·.2) = assign c X.env :: (assignEach [] X.env).map (·.2) := by rfl) : PT1 X xc (.Tuple [a, b, c] k pos) (.tp3 ta tb tc) := by
  refine ⟨⟨fun pins s σ H v u Q I r h => ?_⟩⟩
  refine (pg_tup hc (pgs_cons ha.pg (pgs_cons hb.pg (pgs_cons hcc.pg pgs_nil h3) h2) h1) hn hst).run pins s σ H v u Q I r ?_
  obtain ⟨ι, C, w, us, c, ra, e, kk⟩ := h
  unfold Tgt.upd at e
  split at e
  · rename_i x y z et
    cases w with
    | tup xs =>
      obtain rfl : xs = [x, y, z] := Option.some.inj et
      obtain ⟨p, vs, rfl, f, rs⟩ := ra.tup_inv
      obtain ⟨v1, v2, v3, rfl, q1, q2, q3⟩ := rs.three
      split at e
      · rename_i u1 u2 u3 e1 e2 e3
        obtain rfl := Option.some.inj e
        refine ⟨p, _, rfl, f.sq, rfl, _, _, rfl, ι, C, x, u1, c, q1, e1, fun ws1 W1 S1 => ⟨_, _, rfl, ι, C, y, u2, c, q2, e2, fun ws2 W2 S2 => ⟨_, _, rfl, ι, C, z, u3, c, q3, e3, fun ws3 W3 S3 => ⟨rfl, ?_⟩⟩⟩⟩
        have := kk (ws1 ++ (ws2 ++ ws3)) (Ups.append W1 (Ups.append W2 W3)) (fun p hp => by
          rcases List.mem_append.mp hp with h | h
          · exact List.mem_append_left _ (S1 p h)
          · rcases List.mem_append.mp h with h | h
            · exact List.mem_append_right _ (List.mem_append_left _ (S2 p h))
            · exact List.mem_append_right _ (List.mem_append_right _ (S3 p h)))
        rw [setAll_append, setAll_append] at this
        exact this
      · cases e
    | _ => cases et
  · cases e
theorem Rps.four {K : PySem.W.Frag} {ι : Lay} {H : Hp} {x y z t : A} {vs : List V} (r : Rps K ι H [x, y, z, t] vs) : ∃ u w o n, vs = [u, w, o, n] ∧ Rp K ι H x u ∧ Rp K ι H y w ∧ Rp K ι H z o ∧ Rp K ι H t n := by
  cases r with
  | cons r t =>
    obtain ⟨w, o, n, rfl, r1, r2, r3⟩ := t.three
    exact ⟨_, _, _, _, rfl, r, r1, r2, r3⟩
theorem r_g4 {a b c d : Expr} {k : Nat} {ta tb tc td : Tgt} (hc : X.calm = true) (ha : PT1 X xc a ta) (hb : PT1 X xc b tb) (hcc : PT1 X xc c tc) (hdd : PT1 X xc d td) (hn : (assignEach [a, b, c, d] X.env).length = 4 := by rfl) (hst : (assignEach [a, b, c, d] X.env).findIdx? (·.1) = none := by rfl)
    (h1 : (assignEach [a, b, c, d] X.env).map (·.2) = assign a X.env :: (assignEach [b, c, d] X.env).map (·.2) := by rfl) (h2 : (assignEach [b, c, d] X.env).map (·.2) = assign b X.env :: (assignEach [c, d] X.env).map (·.2) := by rfl)
    (h3 : (assignEach [c, d] X.env).map (·.2) = assign c X.env :: (assignEach [d] X.env).map (·.2) := by rfl) (h4 : (assignEach [d] X.env).map (·.2) = assign d X.env :: (assignEach [] X.env).map (·.2) := by rfl) : PT1 X xc (.Tuple [a, b, c, d] k pos) (.tp4 ta tb tc td) := by
  refine ⟨⟨fun pins s σ H v u Q I r h => ?_⟩⟩
  refine (pg_tup hc (pgs_cons ha.pg (pgs_cons hb.pg (pgs_cons hcc.pg (pgs_cons hdd.pg pgs_nil h4) h3) h2) h1) hn hst).run pins s σ H v u Q I r ?_
  obtain ⟨ι, C, w, us, c, ra, e, kk⟩ := h
  unfold Tgt.upd at e
  split at e
  · rename_i x y z o et
    cases w with
    | tup xs =>
      obtain rfl : xs = [x, y, z, o] := Option.some.inj et
      obtain ⟨p, vs, rfl, f, rs⟩ := ra.tup_inv
      obtain ⟨v1, v2, v3, v4, rfl, q1, q2, q3, q4⟩ := rs.four
      split at e
      · rename_i u1 u2 u3 u4 e1 e2 e3 e4
        obtain rfl := Option.some.inj e
        refine ⟨p, _, rfl, f.sq, rfl, _, _, rfl, ι, C, x, u1, c, q1, e1, fun ws1 W1 S1 => ⟨_, _, rfl, ι, C, y, u2, c, q2, e2, fun ws2 W2 S2 => ⟨_, _, rfl, ι, C, z, u3, c, q3, e3, fun ws3 W3 S3 => ⟨_, _, rfl, ι, C, o, u4, c, q4, e4, fun ws4 W4 S4 => ⟨rfl, ?_⟩⟩⟩⟩⟩
        have := kk (ws1 ++ (ws2 ++ (ws3 ++ ws4))) (Ups.append W1 (Ups.append W2 (Ups.append W3 W4))) (fun p hp => by
          rcases List.mem_append.mp hp with h | h
          · exact List.mem_append_left _ (S1 p h)
          · rcases List.mem_append.mp h with h | h
            · exact List.mem_append_right _ (List.mem_append_left _ (S2 p h))
            · rcases List.mem_append.mp h with h | h
              · exact List.mem_append_right _ (List.mem_append_right _ (List.mem_append_left _ (S3 p h)))
              · exact List.mem_append_right _ (List.mem_append_right _ (List.mem_append_right _ (S4 p h))))
        rw [setAll_append, setAll_append, setAll_append] at this
        exact this
      · cases e
    | _ => cases et
  · cases e
def sAsg (T : Tgt) (f : En → Cs → R A) : En → Cs → SR := fun s C => (f s C).toS s fun v C1 => match T.upd v with
  | some us => .nx (setAll us s) C1
  | none => .bad
theorem r_asg {tg e : Expr} {T : Tgt} {f : En → Cs → R A} (he : PE X e (xD X.K xc W f)) (hg : PT1 X xc tg T) (hs : swapsWithSole [tg] e pos.line X.env = pure false := by rfl) (hw : swappedStores [tg] e X.env = pure none := by rfl)
    (h1 : (assignEach [tg] X.env).map (·.2) = [assign tg X.env] := by rfl) : PS X (.Assign [tg] e pos) (sD X.K xc W (sAsg T f)) := by
  refine PS.imp (ps_asg he hg.pg hs hw h1) fun D σ H ⟨ι, s, C, c, r, p⟩ => ?_
  refine Dn.stepS c r p fun ι1 H1 C1 v y e1 c1 r1 q1 p1 => ?_
  split at p1
  · rename_i us e
    exact ⟨ι1, C1, v, us, c1, q1, e, fun ws W1 _ => p1 ι1 H1 _ (Ext.refl _ _) c1 (RS.upds W1 r1)⟩
  · exact p1.elim
/-- a, b = x, y of plain locals -/
def sPar (i j : Nat) (fs : En → Cs → R (List A)) : En → Cs → SR := fun s C => (fs s C).toS s fun vs C1 => match vs with
  | [v, w] => .nx ((s.set i (some v)).set j (some w)) C1
  | _ => .bad
theorem r_par {i j : Nat} {x y : Str} {a b : Expr} {fs : En → Cs → R (List A)} {px py pt : Pos} {kt k2 pt2} (hc : X.calm = true) (hN : X.N.Nodup) (hi : X.N[i]? = some x) (hj : X.N[j]? = some y) (hij : i ≠ j)
    (hx : X.env.scope.names.lookup x = some .local) (hy : X.env.scope.names.lookup y = some .local) (ha : PA X [a, b] (aD X.K xc W fs))
    (hw : swappedStores [.Tuple [.Name x px, .Name y py] kt pt] (.Tuple [a, b] k2 pt2) X.env = pure (some [x, y]) := by rfl)
    (hs : swapsWithSole [.Tuple [.Name x px, .Name y py] kt pt] (.Tuple [a, b] k2 pt2) pos.line X.env = pure false := by rfl) :
    PS X (.Assign [.Tuple [.Name x px, .Name y py] kt pt] (.Tuple [a, b] k2 pt2) pos) (sD X.K xc W (sPar i j fs)) := by
  refine PS.imp (ps_par hc hN hi hj hij hx hy ha hw hs) fun D σ H ⟨ι, s, C, c, r, p⟩ => ?_
  refine Dn.stepS c r p fun ι1 H1 C1 vs ys e1 c1 r1 q1 p1 => ?_
  split at p1
  · rename_i v w
    obtain ⟨v1, w1, rfl, a1, a2⟩ := q1.two
    exact ⟨_, _, rfl, p1 ι1 H1 _ (Ext.refl _ _) c1 ((r1.set a1 i).set a2 j)⟩
  · exact p1.elim
def sPar3 (i j l : Nat) (fs : En → Cs → R (List A)) : En → Cs → SR := fun s C => (fs s C).toS s fun vs C1 => match vs with
  | [v, w, u] => .nx (((s.set i (some v)).set j (some w)).set l (some u)) C1
  | _ => .bad
end
/-! ### for -/
def forF (T : Tgt) (body : En → Cs → SR) (chk : Cs → Bool) : List A → En → Cs → SR
  | [], s, C => if chk C = true then .nx s C else .bad
  | x :: xs, s, C => if chk C = true then match T.upd x with
      | none => .bad
      | some us => match body (setAll us s) C with
        | .nx s2 C2 => forF T body chk xs s2 C2
        | .ct s2 C2 => forF T body chk xs s2 C2
        | .bk s2 C2 => .nx s2 C2
        | r => r
    else .bad
def sFor (T : Tgt) (it : En → Cs → R Wk) (body : En → Cs → SR) : En → Cs → SR := fun s C => (it s C).toS s fun i C1 => forF T body i.2 i.1 s C1
section
variable {X : Cx} {xc : XC} {W : WX} {pos : Pos}
theorem r_for {tg iter : Expr} {body : List Stmt} {T : Tgt} {it : En → Cs → R Wk} {g : En → Cs → SR} (hp : PassesOwn (model X.prog X.w) X.A X.env X.xe) (hc : X.calm = true) (hi : PI X tg iter (iD X.K xc W it)) (hg : PT1 X xc tg T) (hb : PSs X body (sD X.K xc W g))
    (hs : ∀ x, foldedSetIterable iter X.env x = pure x := by intro _; rfl) : PS X (.For tg iter body [] pos) (sD X.K xc W (sFor T it g)) := by
  refine PS.imp (ps_for hp hc hi hg.pg hb hs) fun D σ H ⟨ι, s, C, c, r, p⟩ => ?_
  refine Dn.stepS c r p fun ι1 H1 C1 its J e1 c1 r1 q1 p1 => ?_
  obtain ⟨items, chk⟩ := its
  obtain ⟨G, Y, w, hG, hY⟩ := q1
  simp only at w hG hY p1
  refine for_it (D := D) (g := gD X.K xc T) (tb := sD X.K xc W g) w (fun i σ H => ∃ ι2 s2 C2, Ext ι1 H1 ι2 H ∧ RC X.K xc ι2 H C2 ∧ RS X.K ι2 H s2 σ ∧ PostS X.K xc W ι2 H D (forF T g chk (items.drop i) s2 C2)) ⟨ι1, s, C1, Ext.refl _ _, c1, r1, by simpa using p1⟩ ?_ ?_ ?_
  · rintro i σ2 H2 hi ⟨ι2, s2, C2, e2, c2, r2, p2⟩
    refine hG ι2 H2 C2 e2.mv c2 ?_
    cases ed : items.drop i with
    | nil =>
      rw [ed] at p2
      unfold forF at p2
      split at p2
      · assumption
      · exact p2.elim
    | cons x xs =>
      rw [ed] at p2
      unfold forF at p2
      split at p2
      · assumption
      · exact p2.elim
  · rintro i x σ2 H2 H3 hi ⟨ι2, s2, C2, e2, c2, r2, p2⟩ y
    have hck : chk C2 = true := by
      cases ed : items.drop i with
      | nil =>
        rw [ed] at p2
        unfold forF at p2
        split at p2
        · assumption
        · exact p2.elim
      | cons x xs =>
        rw [ed] at p2
        unfold forF at p2
        split at p2
        · assumption
        · exact p2.elim
    obtain ⟨a, ea, e3, c3, ra⟩ := hY ι2 H2 C2 i x H3 e2.mv c2 hck hi y
    have ed : items.drop i = a :: items.drop (i + 1) := by
      obtain ⟨hlt, e⟩ := List.getElem?_eq_some_iff.mp ea
      rw [List.drop_eq_getElem_cons hlt, e]
    rw [ed] at p2
    unfold forF at p2
    rw [if_pos hck] at p2
    cases eu : T.upd a with
    | none =>
      rw [eu] at p2
      exact (show False from p2).elim
    | some us =>
      rw [eu] at p2
      refine ⟨ι2, C2, a, us, c3, ra, eu, fun ws W1 _ => ?_⟩
      have r3 := RS.upds W1 (r2.ext e3)
      refine ⟨ι2, setAll us s2, C2, c3, r3, ?_⟩
      have p3 := PostS.later p2 e3
      simp only at p3
      revert p3
      generalize g (setAll us s2) C2 = rr
      intro p3
      cases rr with
      | nx s4 C4 => exact fun ι4 H4 σ4 e4 c4 r4 => ⟨ι4, s4, C4, e2.trans (e3.trans e4), c4, r4, PostS.later p3 e4⟩
      | ct s4 C4 => exact fun ι4 H4 σ4 e4 c4 r4 => ⟨ι4, s4, C4, e2.trans (e3.trans e4), c4, r4, PostS.later p3 e4⟩
      | bk s4 C4 => exact p3
      | rt v C4 => exact p3
      | ex cc pp s4 C4 => exact p3
      | bad => exact p3
  · rintro σ2 H2 ⟨ι2, s2, C2, e2, c2, r2, p2⟩
    rw [List.drop_length] at p2
    unfold forF at p2
    split at p2
    · exact p2 ι2 H2 σ2 (Ext.refl _ _) c2 r2
    · exact p2.elim
end
/-! ### while -/
def whileF (t : En → Cs → R Bool) (body : En → Cs → SR) : Nat → En → Cs → SR
  | 0, _, _ => .bad
  | n + 1, s, C => (t s C).toS s fun b C1 => if b = true then match body s C1 with
      | .nx s2 C2 => whileF t body n s2 C2
      | .ct s2 C2 => whileF t body n s2 C2
      | .bk s2 C2 => .nx s2 C2
      | r => r
    else .nx s C1
def sWhile (n : Nat) (t : En → Cs → R Bool) (body : En → Cs → SR) : En → Cs → SR := whileF t body n
section
variable {X : Cx} {xc : XC} {W : WX} {pos : Pos}
theorem r_while (n : Nat) {c : Expr} {body : List Stmt} {t : En → Cs → R Bool} {g : En → Cs → SR} (hp : PassesOwn (model X.prog X.w) X.A X.env X.xe) (hc : PT X c (tD X.K xc W t)) (hb : PSs X body (sD X.K xc W g)) : PS X (.While c body [] pos) (sD X.K xc W (sWhile n t g)) := by
  refine PS.imp (ps_while hp hc hb) fun D σ H ⟨ι, s, C, c, r, p⟩ => ?_
  refine ⟨fun m σ H => ∃ ι s C, RC X.K xc ι H C ∧ RS X.K ι H s σ ∧ PostS X.K xc W ι H D (whileF t g m s C), ⟨n, ι, s, C, c, r, p⟩, ?_⟩
  rintro m σ H ⟨ι, s, C, c, r, p⟩
  cases m with
  | zero => exact (show False from p).elim
  | succ m =>
    refine Dn.stepS c r p fun ι1 H1 C1 v x e1 c1 r1 q1 p1 => ?_
    cases q1
    cases v with
    | false => exact p1 ι1 H1 σ (Ext.refl _ _) c1 r1
    | true =>
      simp only [if_true] at p1 ⊢
      refine ⟨fun σ' H' => ∃ ι s C, RC X.K xc ι H' C ∧ RS X.K ι H' s σ' ∧ PostS X.K xc W ι H' D (whileF t g m s C), fun σ' H' h => ⟨m, Nat.lt_succ_self m, h⟩, ι1, s, C1, c1, r1, ?_⟩
      revert p1
      generalize g s C1 = rr
      intro p1
      cases rr with
      | nx s4 C4 => exact fun ι4 H4 σ4 e4 c4 r4 => ⟨ι4, s4, C4, c4, r4, PostS.later p1 e4⟩
      | ct s4 C4 => exact fun ι4 H4 σ4 e4 c4 r4 => ⟨ι4, s4, C4, c4, r4, PostS.later p1 e4⟩
      | bk s4 C4 => exact p1
      | rt v C4 => exact p1
      | ex cc pp s4 C4 => exact p1
      | bad => exact p1
end
/-! ### displays -/
def xTup (fs : En → Cs → R (List A)) : En → Cs → R A := xAp (fun vs C => if vs.length ≤ 1000 then .ok (.tup vs) C else .bad) fs
def xLst (fs : En → Cs → R (List A)) : En → Cs → R A := xAp (fun vs C => if vs.length ≤ 1000 then .ok (.lst vs) C else .bad) fs
def xLstM (fs : En → Cs → R (List A)) : En → Cs → R A := xAp (fun vs C => if vs.length ≤ 1000 then .ok (.loc C.length) (C ++ [vs]) else .bad) fs
theorem line1000 {n : Nat} (h : n ≤ 1000) : n ≤ sizeLine := Nat.le_of_lt (small1000 h)
section
variable {K : PySem.W.Frag} {xc : XC} {ι : Lay} {H : Hp} {C : Cs}
theorem FrT.new {p : Addr} {o : Obj} {vs : List V} (c : RC K xc ι H C) (hp : H p = none) (d : o.dict = none) : FrT K ι (upd H p (.frz o (.tup vs))) p vs := ⟨⟨o, upd_same, d⟩, c.ne_none hp⟩
variable {X : Cx} {xc : XC} {W : WX} {pos : Pos} {es : List Expr} {fs : En → Cs → R (List A)}
theorem mk_tup {Q : VK} {σ : L2.St} {vs : List A} {xs : List V} (c : RC K xc ι H C) (r : Rps K ι H vs xs) (p : Post K xc W (Rp K) ι H σ (.ok (.tup vs) C) Q) : ∀ a (o : Obj), H a = none → o.dict = none → Q (.ref a) (upd H a (.frz o (.tup xs))) := fun a o ha d =>
  p.to (ext_new c ha _) (c.new ha _) (.tup (FrT.new c ha d) (r.ext (ext_new c ha _)))
theorem mk_lst {Q : VK} {σ : L2.St} {vs : List A} {xs : List V} (c : RC K xc ι H C) (r : Rps K ι H vs xs) (p : Post K xc W (Rp K) ι H σ (.ok (.lst vs) C) Q) : ∀ a, H a = none → Q (.ref a) (upd H a (.lst xs)) := fun a ha =>
  p.to (ext_new c ha _) (c.new ha _) (.lst upd_same (c.ne_none ha) (r.ext (ext_new c ha _)))
theorem mk_loc {Q : VK} {σ : L2.St} {vs : List A} {xs : List V} (c : RC K xc ι H C) (r : Rps K ι H vs xs) (p : Post K xc W (Rp K) ι H σ (.ok (.loc C.length) (C ++ [vs])) Q) : ∀ a, H a = none → Q (.ref a) (upd H a (.lst xs)) := fun a ha =>
  p.to (ext_cell c ha _) (c.cell ha r) (.loc (by rw [← c.len]; simp))
theorem r_tup {x1} (h : PA X es (aD X.K xc W fs)) : PE X (.Tuple es x1 pos) (xD X.K xc W (xTup fs)) := by
  refine PE.imp (pe_tupZ h) fun σ H Q ⟨ι, s, C, c, r, p⟩ => ?_
  refine Dn.step c r p fun ι1 H1 C1 vs xs e1 c1 r1 q1 p1 => ?_
  split at p1
  · rename_i hl
    exact ⟨line1000 (by rw [← q1.length]; exact hl), mk_tup c1 q1 p1⟩
  · exact p1.elim
theorem r_lst (h : PA X es (aD X.K xc W fs)) : PE X (.List es pos) (xD X.K xc W (xLst fs)) := by
  refine PE.imp (pe_lst h) fun σ H Q ⟨ι, s, C, c, r, p⟩ => ?_
  refine Dn.step c r p fun ι1 H1 C1 vs xs e1 c1 r1 q1 p1 => ?_
  split at p1
  · rename_i hl
    exact ⟨line1000 (by rw [← q1.length]; exact hl), mk_lst c1 q1 p1⟩
  · exact p1.elim
theorem r_lstM (h : PA X es (aD X.K xc W fs)) : PE X (.List es pos) (xD X.K xc W (xLstM fs)) := by
  refine PE.imp (pe_lst h) fun σ H Q ⟨ι, s, C, c, r, p⟩ => ?_
  refine Dn.step c r p fun ι1 H1 C1 vs xs e1 c1 r1 q1 p1 => ?_
  split at p1
  · rename_i hl
    exact ⟨line1000 (by rw [← q1.length]; exact hl), mk_loc c1 q1 p1⟩
  · exact p1.elim
end
end FM

namespace FM
open PySem PySem.Spec PyProof.Rows L2 RZ
/-! ### what is walked: a list, a tuple, a text -/
def seqOf (v : A) (C : Cs) : Option (List A) := match v with
  | .tup xs => some xs
  | .lst xs => some xs
  | .kl xs => some xs
  | .loc n => C[n]?
  | _ => none
def signs (z : Str) : List A := z.cps.toList.map fun c => .str ⟨#[c]⟩
def itOf (v : A) (C : Cs) : R Wk := match v with
  | .tup xs => .ok (xs, fun _ => true) C
  | .lst xs => .ok (xs, fun _ => true) C
  | .kl xs => .ok (xs, fun _ => true) C
  | .str z => .ok (signs z, fun _ => true) C
  | .loc n => match C[n]? with
    | some xs => .ok (xs, holds n xs) C
    | none => .bad
  | _ => .bad
def itSeq (f : En → Cs → R A) : En → Cs → R Wk := fun s C => (f s C).bind itOf
section
variable {K : PySem.W.Frag} {xc : XC} {ι : Lay} {H : Hp} {C : Cs}
theorem isw_list {a : Addr} {xs : List A} {vs : List V} (f : FrK K ι H a vs) (r : Rps K ι H xs vs) : IsW K xc ι H (Itl K a) (xs, fun _ => true) := by
  refine ⟨_, _, by rw [show (xs, fun _ => true).1.length = vs.length from r.length]; exact walk_list, fun ι2 H2 C2 e c _ => (f.mv e).sq, fun ι2 H2 C2 i x H3 e c hck hi y => ?_⟩
  obtain ⟨rfl, hx⟩ := y
  obtain ⟨q, h1, h2⟩ := (r.mv e).get' hx
  exact ⟨q, h1, Ext.refl _ _, c, h2⟩
theorem isw_tup {a : Addr} {xs : List A} {vs : List V} (f : FrT K ι H a vs) (r : Rps K ι H xs vs) : IsW K xc ι H (Itt K a) (xs, fun _ => true) := by
  refine ⟨_, _, by rw [show (xs, fun _ => true).1.length = vs.length from r.length]; exact walk_tup, fun ι2 H2 C2 e c _ => (f.mv e).sq, fun ι2 H2 C2 i x H3 e c hck hi y => ?_⟩
  obtain ⟨rfl, hx⟩ := y
  obtain ⟨q, h1, h2⟩ := (r.mv e).get' hx
  exact ⟨q, h1, Ext.refl _ _, c, h2⟩
theorem isw_str {z : Str} : IsW K xc ι H (Its z) (signs z, fun _ => true) := by
  refine ⟨_, _, by rw [show (signs z, fun _ => true).1.length = z.cps.size by simp [signs]]; exact walk_str, fun _ _ _ _ _ _ => True.intro, fun ι2 H2 C2 i x H3 e c hck hi y => ?_⟩
  obtain ⟨rfl, k, hk, rfl⟩ := y
  exact ⟨.str ⟨#[k]⟩, by simp [signs, hk], Ext.refl _ _, c, .str _⟩
/-- a cell that is not written meanwhile -/
theorem isw_loc {n : Nat} {a : Addr} {xs : List A} (c : RC K xc ι H C) (ha : ι.cs[n]? = some a) (hx : C[n]? = some xs) : IsW K xc ι H (Itl K a) (xs, holds n xs) := by
  obtain ⟨vs0, h0, r0⟩ := c.at_ n xs a hx ha
  refine ⟨fun H2 => ∃ vs ι2, SqL K H2 a vs ∧ Rps K ι2 H2 xs vs ∧ H2 a = some (.lst vs), fun i H2 x H3 => H3 = H2 ∧ ∃ vs, H2 a = some (.lst vs) ∧ vs.length = xs.length ∧ vs[i]? = some x, ?_, ?_, ?_⟩
  · refine ⟨fun i H2 hi ⟨vs, ι2, q, r, _⟩ => ?_, fun H2 ⟨vs, ι2, q, r, _⟩ => ?_, fun i H2 x H3 hi ⟨vs, ι2, q, r, q2⟩ y => ?_⟩
    · have hl := r.length
      have hi' : i < xs.length := hi
      exact ⟨vs, vs[i]'(by omega), q, by simp [show i < vs.length by omega]⟩
    · have hl := r.length
      exact ⟨vs, q, by show vs.length ≤ xs.length; omega⟩
    · exact ⟨y.1, vs, q2, r.length.symm, y.2 vs q⟩
  · intro ι2 H2 C2 e c2 hc
    have hx2 := holds_eq hc
    have ha2 : ι2.cs[n]? = some a := by
      obtain ⟨t, et⟩ := e.pre
      rw [et, List.getElem?_append_left (List.getElem?_eq_some_iff.mp ha).1]
      exact ha
    obtain ⟨vs, q, r⟩ := c2.at_ n xs a hx2 ha2
    exact ⟨vs, ι2, SqL.of q, r, q⟩
  · intro ι2 H2 C2 i x H3 e c2 hc hi y
    obtain ⟨rfl, vs, q, hl, hv⟩ := y
    have ha2 : ι2.cs[n]? = some a := by
      obtain ⟨t, et⟩ := e.pre
      rw [et, List.getElem?_append_left (List.getElem?_eq_some_iff.mp ha).1]
      exact ha
    obtain ⟨ws, q2, r⟩ := c2.at_ n xs a (holds_eq hc) ha2
    rw [q] at q2
    cases q2
    obtain ⟨y, h1, h2⟩ := r.get' hv
    exact ⟨y, h1, Ext.refl _ _, c2, h2⟩
end
section
variable {X : Cx} {xc : XC} {W : WX} {pos : Pos} {tg : Expr}
/-- any of the three, as the value is -/
theorem pi_any {l : Expr} {tl : TE} (hl : PE X l tl) : PI X tg l (fun σ H R => tl σ H fun x H1 => (∃ a, x = .ref a ∧ (∃ xs, SqL X.K H1 a xs) ∧ R (Itl X.K a) H1) ∨ (∃ a, x = .ref a ∧ (∃ xs, SqT X.K H1 a xs) ∧ R (Itt X.K a) H1) ∨ ∃ z, x = .str z ∧ R (Its z) H1) := by
  refine ⟨fun pins s σ H R I h => ?_⟩
  refine thn (hl.run pins s σ H _ I h) fun v s1 ⟨x, H1, I1, r1, q1⟩ => ?_
  rcases q1 with ⟨a, rfl, ⟨xs, hq⟩, q⟩ | ⟨a, rfl, ⟨xs, hq⟩, q⟩ | ⟨z, rfl, q⟩
  · cases r1
    obtain ⟨its, rv, p, hz⟩ := I1.list hq
    refine wpAny_pyIter_list p.isList ?_
    refine ⟨s1.heap.objs.size, [s1.heap.objs.size], _, _, H1, rfl, I1.kept (t' := s1.toks) fun b o e => Heap.get?_push_of_some _ e, turn_list a _, ⟨_, Heap.get?_push_size _ rfl, rfl, rfl⟩, fun b hb => ?_, q⟩
    have e : b = s1.heap.objs.size := by simpa using hb
    subst e
    exact I1.fpOk (Nat.le_refl _) (I1.hok.fresh (Nat.le_refl _))
  · cases r1
    obtain ⟨its, rv, p, hz⟩ := I1.tuple hq
    refine wpAny_pyIter_tuple (show s1.heap.IsTuple a its.toArray from p) ?_
    refine ⟨s1.heap.objs.size, [s1.heap.objs.size], _, _, H1, rfl, I1.kept (t' := s1.toks) fun b o e => Heap.get?_push_of_some _ e, turn_tuple a _, ⟨_, Heap.get?_push_size _ rfl, rfl, rfl⟩, fun b hb => ?_, q⟩
    have e : b = s1.heap.objs.size := by simpa using hb
    subst e
    exact I1.fpOk (Nat.le_refl _) (I1.hok.fresh (Nat.le_refl _))
  · obtain ⟨t, rfl⟩ := r1
    cases ha : z.cps.all (· < 128)
    · exact wpAny_pyIter_wide ha (pi_one (tk := s1.toks) I1 _ (turn_str _ z t "str_iterator" (.inr rfl)) ⟨_, Heap.get?_push_size _ rfl, rfl, rfl⟩ q)
    · exact wpAny_pyIter_ascii ha (pi_one (tk := s1.toks) I1 _ (turn_str _ z t "str_ascii_iterator" (.inl rfl)) ⟨_, Heap.get?_push_size _ rfl, rfl, rfl⟩ q)
theorem i_seq {l : Expr} {f : En → Cs → R A} (hl : PE X l (xD X.K xc W f)) : PI X tg l (iD X.K xc W (itSeq f)) := by
  refine PI.imp (pi_any hl) fun σ H R ⟨ι, s, C, c, r, p⟩ => ?_
  refine Dn.step c r p fun ι1 H1 C1 v x e1 c1 r1 q1 p1 => ?_
  cases q1 with
  | tup f q => exact .inr (.inl ⟨_, rfl, ⟨_, f.sq⟩, p1.fin c1 (isw_tup f q)⟩)
  | lst h n q => exact .inl ⟨_, rfl, ⟨_, SqL.of h⟩, p1.fin c1 (isw_list (.inl ⟨.inl h, n⟩) q)⟩
  | kl f q => exact .inl ⟨_, rfl, ⟨_, f.sq⟩, p1.fin c1 (isw_list f q)⟩
  | str z => exact .inr (.inr ⟨_, rfl, p1.fin c1 isw_str⟩)
  | @loc n a h =>
    unfold itOf at p1
    simp only at p1
    split at p1
    · rename_i xs hx
      obtain ⟨vs, h0, r0⟩ := c1.at_ n xs a hx h
      exact .inl ⟨_, rfl, ⟨_, SqL.of h0⟩, p1.fin c1 (isw_loc c1 h hx)⟩
    · exact p1.elim
  | _ => exact p1.elim
/-! ### ranges -/
def upto (lo : Int) (n : Nat) : List A := (List.range n).map fun (i : Nat) => .int (lo + i)
def downto (lo : Int) (n : Nat) : List A := (List.range n).map fun (i : Nat) => .int (lo - i)
def Line62 (i : Int) : Prop := -(2 ^ 62) ≤ i ∧ i < 2 ^ 62
instance (i : Int) : Decidable (Line62 i) := by unfold Line62; infer_instance
def itRange (fs : En → Cs → R (List A)) : En → Cs → R Wk := fun s C => (fs s C).bind fun vs C1 => match vs with
  | [.int j] => if Line62 j then .ok (upto 0 j.toNat, fun _ => true) C1 else .bad
  | [.int i, .int j] => if Line62 i ∧ Line62 j then .ok (upto i (j - i).toNat, fun _ => true) C1 else .bad
  | [.int i, .int j, .int k] => if Line62 i ∧ Line62 j ∧ k = -1 then .ok (downto i (i - j).toNat, fun _ => true) C1 else .bad
  | _ => .bad
theorem isw_range {K : PySem.W.Frag} {xc : XC} {ι : Lay} {H : Hp} {lo : Int} {n : Nat} : IsW K xc ι H (Itr lo n) (upto lo n, fun _ => true) := by
  refine ⟨_, _, by rw [show (upto lo n, fun (_ : Cs) => true).1.length = n by simp [upto]]; exact walk_range, fun _ _ _ _ _ _ => True.intro, fun ι2 H2 C2 i x H3 e c hck hi y => ?_⟩
  obtain ⟨rfl, rfl⟩ := y
  have hi' : i < n := by simpa [upto] using hi
  exact ⟨.int (lo + i), by simp [upto, hi'], Ext.refl _ _, c, .int _⟩
theorem isw_down {K : PySem.W.Frag} {xc : XC} {ι : Lay} {H : Hp} {lo : Int} {n : Nat} : IsW K xc ι H (Itc lo (-1) n) (downto lo n, fun _ => true) := by
  refine ⟨_, _, by rw [show (downto lo n, fun (_ : Cs) => true).1.length = n by simp [downto]]; exact walk_rangeC, fun _ _ _ _ _ _ => True.intro, fun ι2 H2 C2 i x H3 e c hck hi y => ?_⟩
  obtain ⟨rfl, rfl⟩ := y
  have hi' : i < n := by simpa [downto] using hi
  exact ⟨.int (lo - i), by simp [downto, hi'], Ext.refl _ _, c, by
    show Rp K ι2 H3 (.int (lo - i)) (.int (lo + (i : Int) * -1))
    rw [show lo + (i : Int) * -1 = lo - i by omega]
    exact .int _⟩
theorem Rps.int1 {K : PySem.W.Frag} {ι : Lay} {H : Hp} {j : Int} {vs : List V} (r : Rps K ι H [.int j] vs) : vs = [.int j] := by
  obtain ⟨u, rfl, h⟩ := r.one
  rw [h.of_int]
theorem Rps.int2 {K : PySem.W.Frag} {ι : Lay} {H : Hp} {i j : Int} {vs : List V} (r : Rps K ι H [.int i, .int j] vs) : vs = [.int i, .int j] := by
  obtain ⟨u, w, rfl, h, h'⟩ := r.two
  rw [h.of_int, h'.of_int]
theorem Rps.int3 {K : PySem.W.Frag} {ι : Lay} {H : Hp} {i j k : Int} {vs : List V} (r : Rps K ι H [.int i, .int j, .int k] vs) : vs = [.int i, .int j, .int k] := by
  obtain ⟨u, w, o, rfl, h, h', h''⟩ := r.three
  rw [h.of_int, h'.of_int, h''.of_int]
/-- so many arguments -/
def ALen (fs : En → Cs → R (List A)) (n : Nat) : Prop := ∀ s C vs C', fs s C = .ok vs C' → vs.length = n
theorem alen_nil : ALen aNil 0 := fun s C vs C' h => by
  cases h
  rfl
theorem alen_cons {f : En → Cs → R A} {g : En → Cs → R (List A)} {n : Nat} (h : ALen g n) : ALen (aCons f g) (n + 1) := fun s C vs C' e => by
  unfold aCons at e
  cases e1 : f s C with
  | ok v C1 =>
    rw [e1] at e
    simp only [R.bind_ok] at e
    cases e2 : g s C1 with
    | ok ws C2 =>
      rw [e2] at e
      simp only [R.bind_ok] at e
      cases e
      simp [h s C1 ws _ e2]
    | ex cc pp C2 => rw [e2] at e; cases e
    | bad => rw [e2] at e; cases e
  | ex cc pp C1 => rw [e1] at e; cases e
  | bad => rw [e1] at e; cases e
theorem Dn.stepA {rel' : Rel Wk It} {fs : En → Cs → R (List A)} {n : Nat} {g : List A → Cs → R Wk} {ι : Lay} {H : Hp} {s : En} {σ : L2.St} {C : Cs} {Q : List V → Hp → Prop} {Q' : It → Hp → Prop} (c : RC X.K xc ι H C) (r : RS X.K ι H s σ) (al : ALen fs n) (p : Post X.K xc W rel' ι H σ ((fs s C).bind g) Q')
    (h : ∀ ι1 H1 C1 v x, Ext ι H ι1 H1 → RC X.K xc ι1 H1 C1 → v.length = n → Rps X.K ι1 H1 v x → Post X.K xc W rel' ι1 H1 σ (g v C1) Q' → Q x H1) : aD X.K xc W fs σ H Q := by
  refine ⟨ι, s, C, c, r, ?_⟩
  cases e : fs s C with
  | ok v C1 =>
    rw [e] at p
    exact fun ι1 H1 x e1 c1 r1 => h ι1 H1 C1 v x e1 c1 (al s C v C1 e) r1 (Post.later (r := g v C1) p e1)
  | ex cc pp C1 =>
    rw [e] at p
    exact p
  | bad =>
    rw [e] at p
    exact p
theorem i_range1 {a : Expr} {p : Pos} {fs : En → Cs → R (List A)} (hg : Gl X "range") (hm : X.mg "range" = none) (ha : PA X [a] (aD X.K xc W fs)) (al : ALen fs 1) (hs : starEach [a] X.env = [(false, eval a X.env)] := by rfl) :
    PI X tg (.Call (.Name "range" p) [a] [] pos) (iD X.K xc W (itRange fs)) := by
  refine PI.imp (pi_range1 hg hm ha hs) fun σ H Q ⟨ι, s, C, c, r, p⟩ => ?_
  refine Dn.stepA c r al p fun ι1 H1 C1 v x e1 c1 hl q1 p1 => ?_
  split at p1
  · rename_i j
    split at p1
    · rename_i hj
      exact ⟨j, q1.int1, hj.1, hj.2, p1.fin c1 isw_range⟩
    · exact p1.elim
  · simp at hl
  · simp at hl
  · exact p1.elim
theorem i_range2 {a b : Expr} {p : Pos} {fs : En → Cs → R (List A)} (hg : Gl X "range") (hm : X.mg "range" = none) (ha : PA X [a, b] (aD X.K xc W fs)) (al : ALen fs 2) (hs : starEach [a, b] X.env = [(false, eval a X.env), (false, eval b X.env)] := by rfl) (hs2 : starEach [b] X.env = [(false, eval b X.env)] := by rfl) :
    PI X tg (.Call (.Name "range" p) [a, b] [] pos) (iD X.K xc W (itRange fs)) := by
  refine PI.imp (pi_range2 hg hm ha hs hs2) fun σ H Q ⟨ι, s, C, c, r, p⟩ => ?_
  refine Dn.stepA c r al p fun ι1 H1 C1 v x e1 c1 hl q1 p1 => ?_
  split at p1
  · simp at hl
  · rename_i i j
    split at p1
    · rename_i hj
      exact ⟨i, j, q1.int2, ⟨hj.1.1, hj.1.2, hj.2.1, hj.2.2⟩, p1.fin c1 isw_range⟩
    · exact p1.elim
  · simp at hl
  · exact p1.elim
theorem i_range3 {a b d : Expr} {p : Pos} {fs : En → Cs → R (List A)} (hg : Gl X "range") (hm : X.mg "range" = none) (ha : PA X [a, b, d] (aD X.K xc W fs)) (al : ALen fs 3) (hs : starEach [a, b, d] X.env = (false, eval a X.env) :: starEach [b, d] X.env := by rfl)
    (hs2 : ((backTo pos (starEach [b, d] X.env)).any fun x => x.1) = false := by rfl) : PI X tg (.Call (.Name "range" p) [a, b, d] [] pos) (iD X.K xc W (itRange fs)) := by
  refine PI.imp (pi_range3 hg hm ha hs hs2) fun σ H Q ⟨ι, s, C, c, r, p⟩ => ?_
  refine Dn.stepA c r al p fun ι1 H1 C1 v x e1 c1 hl q1 p1 => ?_
  split at p1
  · simp at hl
  · simp at hl
  · rename_i i j k
    split at p1
    · rename_i hj
      obtain ⟨h1, h2, rfl⟩ := hj
      exact ⟨i, j, -1, (i - j).toNat, q1.int3, RgC.neg h1.1 h1.2 h2.1 h2.2, p1.fin c1 isw_down⟩
    · exact p1.elim
  · exact p1.elim
/-! ### zip, enumerate -/
def pairsOf (xs ys : List A) : List A := List.zipWith (fun x y => .tup [x, y]) xs ys
def numbered (xs : List A) : List A := pairsOf ((List.range xs.length).map fun (i : Nat) => .int i) xs
theorem pair_new {K : PySem.W.Frag} {xc : XC} {ι : Lay} {H : Hp} {C : Cs} {T : Addr} {o : Obj} {x y : A} {u v : V} (c : RC K xc ι H C) (hT : H T = none) (d : o.dict = none) (r1 : Rp K ι H x u) (r2 : Rp K ι H y v) :
    Ext ι H ι (upd H T (.frz o (.tup [u, v]))) ∧ RC K xc ι (upd H T (.frz o (.tup [u, v]))) C ∧ Rp K ι (upd H T (.frz o (.tup [u, v]))) (.tup [x, y]) (.ref T) :=
  ⟨ext_new c hT _, c.new hT _, .tup ⟨⟨o, upd_same, d⟩, c.ne_none hT⟩ (.cons (r1.ext (ext_new c hT _)) (.cons (r2.ext (ext_new c hT _)) .nil))⟩
theorem pairs_get {xs ys : List A} {i : Nat} {x y : A} (hx : xs[i]? = some x) (hy : ys[i]? = some y) : (pairsOf xs ys)[i]? = some (.tup [x, y]) := by
  unfold pairsOf
  rw [List.getElem?_zipWith, hx, hy]
theorem pairs_len (xs ys : List A) : (pairsOf xs ys).length = min xs.length ys.length := by simp [pairsOf]
end
/-! ### comprehensions -/
def compF (T : Tgt) (tst : En → Cs → R Bool) (elt : En → Cs → R A) (chk : Cs → Bool) (s : En) : List A → Cs → R (List A)
  | [], C => if chk C = true then .ok [] C else .bad
  | x :: xs, C => if chk C = true then match T.upd x with
      | none => .bad
      | some us => match tst (setAll us s) C with
        | .ok true C1 => match elt (setAll us s) C1 with
          | .ok v C2 => match compF T tst elt chk s xs C2 with
            | .ok vs C3 => .ok (v :: vs) C3
            | _ => .bad
          | _ => .bad
        | .ok false C1 => compF T tst elt chk s xs C1
        | _ => .bad
    else .bad
def tYesF : En → Cs → R Bool := fun _ C => .ok true C
def wipeE (own : List Nat) (s : En) : En := own.foldr (fun v s => s.set v none) s
def xLc (own : List Nat) (T : Tgt) (it : En → Cs → R Wk) (tst : En → Cs → R Bool) (elt : En → Cs → R A) : En → Cs → R A := fun s C => (it s C).bind fun i C1 => match compF T tst elt i.2 (wipeE own s) i.1 C1 with
  | .ok vs C2 => if vs.length ≤ 100000 then .ok (.lst vs) C2 else .bad
  | _ => .bad
theorem wipe_set {σ : L2.St} {v : V} : ∀ {l : List Nat} {i : Nat}, i ∈ l → wipe (σ.set i (some v)) l = wipe σ l
  | [], i, h => by simp at h
  | j :: l, i, h => by
    unfold wipe
    by_cases e : i ∈ l
    · rw [wipe_set e]
    · have e' : i = j := by rcases List.mem_cons.mp h with h | h; exact h; exact absurd h e
      subst e'
      clear h
      have go : ∀ (l : List Nat) (τ : L2.St), i ∉ l → (wipe (τ.set i (some v)) l).set i none = (wipe τ l).set i none := by
        intro l
        induction l with
        | nil => intro τ _; simp [wipe]
        | cons k l ih =>
          intro τ hk
          have hk' : i ≠ k := fun z => hk (by simp [z])
          unfold wipe
          rw [List.set_comm _ _ (Ne.symm hk'), List.set_comm _ _ (Ne.symm hk'), ih τ fun z => hk (by simp [z])]
      exact go l σ e
theorem wipe_all {l : List Nat} : ∀ {ws : List (Nat × V)} {σ : L2.St}, (∀ p ∈ ws, p.1 ∈ l) → wipe (setAll ws σ) l = wipe σ l
  | [], _, _ => rfl
  | (i, v) :: r, σ, h => by
    have h1 := wipe_all (l := l) (ws := r) (σ := σ.set i (some v)) fun p hp => h p (by simp [hp])
    rw [show setAll ((i, v) :: r) σ = setAll r (σ.set i (some v)) from rfl, h1, wipe_set (h (i, v) (by simp))]
theorem RS.wipe {K : PySem.W.Frag} {ι : Lay} {H : Hp} {s : En} {σ : L2.St} (r : RS K ι H s σ) : ∀ (l : List Nat), RS K ι H (wipeE l s) (L2.wipe σ l)
  | [] => r
  | v :: l => by
    have ih := RS.wipe r l
    unfold wipeE at ih ⊢
    refine ⟨by simp [L2.wipe, ih.1], fun i a e => ?_⟩
    simp only [List.foldr_cons] at e
    by_cases h : v = i
    · subst h
      by_cases hl : v < (List.foldr (fun v s => s.set v none) s l).length
      · rw [List.getElem?_set_self hl] at e; cases e
      · rw [List.getElem?_eq_none (by simpa using hl)] at e; cases e
    · rw [List.getElem?_set_ne h] at e
      obtain ⟨w, e1, q⟩ := ih.2 i a e
      exact ⟨w, by unfold L2.wipe; rw [List.getElem?_set_ne h]; exact e1, q⟩
def mapT (own : List (Str × Nat)) : List Nat := own.map (·.2)
theorem compF_chk {T : Tgt} {tst : En → Cs → R Bool} {elt : En → Cs → R A} {chk : Cs → Bool} {s : En} {l : List A} {C : Cs} {vs : List A} {C' : Cs} (h : compF T tst elt chk s l C = .ok vs C') : chk C = true := by
  cases l with
  | nil => unfold compF at h; split at h; assumption; cases h
  | cons x xs => unfold compF at h; split at h; assumption; cases h
section
variable {X : Cx} {xc : XC} {W : WX} {pos : Pos}
theorem wipe_wipe {σ : L2.St} (l : List Nat) : wipe (wipe σ l) l = wipe σ l := by
  refine List.ext_getElem? fun i => ?_
  by_cases hi : i ∈ l
  · have go : ∀ (l : List Nat) (τ : L2.St), i ∈ l → (wipe τ l)[i]? = if i < τ.length then some none else none := by
      intro l
      induction l with
      | nil => intro τ h; simp at h
      | cons k l ih =>
        intro τ h
        unfold wipe
        by_cases e : k = i
        · subst e
          rw [List.getElem?_set_self']
          by_cases hl : k < τ.length
          · have : k < (wipe τ l).length := by rw [wipe_length]; exact hl
            simp [hl, this]
          · have : ¬ k < (wipe τ l).length := by rw [wipe_length]; exact hl
            simp [hl, this]
        · rw [List.getElem?_set_ne e]
          exact ih τ (by rcases List.mem_cons.mp h with h | h; exact absurd h.symm e; exact h)
    rw [go l _ hi, go l _ hi, wipe_length]
  · have go : ∀ (l : List Nat) (τ : L2.St), i ∉ l → (wipe τ l)[i]? = τ[i]? := by
      intro l
      induction l with
      | nil => intro τ _; rfl
      | cons k l ih =>
        intro τ h
        unfold wipe
        rw [List.getElem?_set_ne fun e => h (by simp [e])]
        exact ih τ fun z => h (by simp [z])
    rw [go l _ hi]
/-- what is kept aside is written -/
theorem mv_aside {ι : Lay} {H : Hp} {D : Addr} (h : D ∈ ι.hd) (o : HO) : Mv ι H ι (upd H D o) := ⟨⟨[], by simp⟩, fun _ _ h => h, rfl, fun b u q _ n => ⟨by rw [upd_ne (fun e => n.2 (by rw [e]; exact h))]; exact q, n⟩⟩
theorem RC.aside {K : PySem.W.Frag} {xc : XC} {ι : Lay} {H : Hp} {C : Cs} {D : Addr} {ws vs : List V} (c : RC K xc ι H C) (h : D ∈ ι.hd) (hw : H D = some (.lst ws)) : RC K xc ι (upd H D (.lst vs)) C := by
  obtain ⟨hn, _⟩ := c.side.hid D h
  refine ⟨c.len, c.nd, fun n xs a h1 h2 => let ⟨vs, q, r⟩ := c.at_ n xs a h1 h2; ⟨vs, by rw [upd_ne fun e => hn (by rw [← e]; exact List.mem_of_getElem? h2)]; exact q, r.mv (mv_aside h _)⟩, ⟨fun b hb => ?_, fun p hp => ?_, fun p hp => ?_, fun p hp => (c.side.pv p hp).mv (mv_aside h _)⟩, c.g⟩
  · by_cases e : b = D
    · rw [e]; exact ⟨hn, _, upd_same, .lst _⟩
    · rw [upd_ne e]; exact c.side.hid b hb
  · obtain ⟨ps, h1, h2, h3⟩ := c.side.tabs p hp
    exact ⟨ps, by rw [upd_ne (ne_of h1 hw (by intro z; cases z))]; exact h1, h2, fun pos cv hc => let ⟨q, e1, e2⟩ := h3 pos cv hc; ⟨q, e1, by rw [upd_ne (ne_of e2 hw (by intro z; unfold LamX.CodeO at z; cases z))]; exact e2⟩⟩
  · obtain ⟨q1, q2, q3, q4⟩ := c.side.kp p hp
    exact ⟨by rw [upd_ne fun e => q4 (by rw [e]; exact h)]; exact q1, q2, q3, q4⟩
/-- D is kept aside meanwhile -/
structure ExtD (D : Addr) (ι : Lay) (H : Hp) (ι' : Lay) (H' : Hp) : Prop where
  pre : ∃ t, ι'.cs = ι.cs ++ t
  fx : ι'.fx = ⟨D :: ι.fx.hd, ι.fx.T, ι.fx.kp, ι.fx.pv, ι.fx.fa⟩
  keep : ∀ (b : Addr) (o : HO), H b = some o → noTbl o → b ∉ ι.cs → H' b = some o ∧ b ∉ ι'.cs
section
variable {K : PySem.W.Frag} {xc : XC} {D : Addr} {ι ι' ι2 : Lay} {H H' H2 : Hp} {C C' : Cs}
theorem ExtD.hd (e : ExtD D ι H ι' H') : ι'.hd = D :: ι.hd := congrArg Fx.hd e.fx
theorem ExtD.mem (e : ExtD D ι H ι' H') : D ∈ ι'.hd := by rw [e.hd]; exact List.mem_cons_self
theorem ExtD.mv (e : ExtD D ι H ι' H') (hD : H D = none) : Mv ι H ι' H' :=
  ⟨e.pre, fun n q h => by rw [e.fx]; exact h, by rw [e.fx], fun b o h t n => ⟨(e.keep b o h t n.1).1, (e.keep b o h t n.1).2, fun m => by
    rw [e.hd] at m
    rcases List.mem_cons.mp m with z | z
    · rw [z, hD] at h; cases h
    · exact n.2 z⟩⟩
theorem ExtD.more (e : ExtD D ι H ι' H') (e2 : Ext ι' H' ι2 H2) : ExtD D ι H ι2 H2 := by
  obtain ⟨t, et⟩ := e.pre
  obtain ⟨u, eu⟩ := e2.pre
  exact ⟨⟨t ++ u, by rw [eu, et]; simp⟩, e2.fx.trans e.fx, fun b o h t n => let ⟨q1, q2⟩ := e.keep b o h t n; e2.keep b o q1 t q2⟩
theorem ExtD.write (e : ExtD D ι H ι' H') (hD : H D = none) (o : HO) : ExtD D ι H ι' (upd H' D o) :=
  ⟨e.pre, e.fx, fun b u h t n => ⟨by rw [upd_ne (ne_of_none h hD)]; exact (e.keep b u h t n).1, (e.keep b u h t n).2⟩⟩
theorem ExtD.new (c : RC K xc ι H C) (hD : H D = none) : ExtD D ι H ⟨ι.cs, ⟨D :: ι.fx.hd, ι.fx.T, ι.fx.kp, ι.fx.pv, ι.fx.fa⟩⟩ (upd H D (.lst [])) ∧ RC K xc ⟨ι.cs, ⟨D :: ι.fx.hd, ι.fx.T, ι.fx.kp, ι.fx.pv, ι.fx.fa⟩⟩ (upd H D (.lst [])) C := by
  have oD := c.ne_none hD
  have e : ExtD D ι H ⟨ι.cs, ⟨D :: ι.fx.hd, ι.fx.T, ι.fx.kp, ι.fx.pv, ι.fx.fa⟩⟩ (upd H D (.lst [])) := ⟨⟨[], by simp⟩, rfl, fun b o h _ n => ⟨by rw [upd_ne (ne_of_none h hD)]; exact h, n⟩⟩
  refine ⟨e, c.len, c.nd, fun n xs a h1 h2 => ?_, ⟨fun b hb => ?_, c.side.tabs.ext fun b o h => by rw [upd_ne (ne_of_none h hD)]; exact h, fun p hp => ?_, fun p hp => (c.side.pv p hp).mv (e.mv hD)⟩, c.g⟩
  · obtain ⟨vs, q, r⟩ := c.at_ n xs a h1 h2
    exact ⟨vs, by rw [upd_ne (ne_of_none q hD)]; exact q, r.mv (e.mv hD)⟩
  · rcases List.mem_cons.mp hb with z | z
    · rw [z]; exact ⟨oD.1, _, upd_same, .lst _⟩
    · obtain ⟨n, o, q, nt⟩ := c.side.hid b z
      exact ⟨n, o, by rw [upd_ne (ne_of_none q hD)]; exact q, nt⟩
  · obtain ⟨q1, q2, q3, q4⟩ := c.side.kp p hp
    refine ⟨by rw [upd_ne (ne_of_none q1 hD)]; exact q1, q2, q3, fun m => ?_⟩
    rcases List.mem_cons.mp m with z | z
    · rw [z, hD] at q1; cases q1
    · exact q4 z
theorem ExtD.out (e : ExtD D ι H ι' H') (c : RC K xc ι' H' C') : Mv ι' H' ⟨ι'.cs, ι.fx⟩ H' ∧ Ext ι H ⟨ι'.cs, ι.fx⟩ H' ∧ RC K xc ⟨ι'.cs, ι.fx⟩ H' C' := by
  have m : Mv ι' H' ⟨ι'.cs, ι.fx⟩ H' := ⟨⟨[], by simp⟩, fun n q h => by rw [e.fx] at h; exact h, by rw [e.fx], fun b o h _ n => ⟨h, n.1, fun z => n.2 (by rw [e.hd]; exact List.mem_cons_of_mem _ z)⟩⟩
  have tb : LamX.Tabs ι.fx.T H' := by
    have := c.side.tabs
    rw [e.fx] at this
    exact this
  refine ⟨m, ⟨e.pre, rfl, e.keep, fun _ => tb⟩, c.len, c.nd, fun n xs a h1 h2 => let ⟨vs, q, r⟩ := c.at_ n xs a h1 h2; ⟨vs, q, r.mv m⟩, ⟨fun b hb => c.side.hid b (by rw [e.hd]; exact List.mem_cons_of_mem _ hb), tb, fun p hp => ?_, fun p hp => ?_⟩, ?_⟩
  · obtain ⟨q1, q2, q3, q4⟩ := c.side.kp p (by rw [e.fx]; exact hp)
    exact ⟨q1, q2, q3, fun z => q4 (by rw [e.hd]; exact List.mem_cons_of_mem _ z)⟩
  · exact (c.side.pv p (by rw [e.fx]; exact hp)).mv m
  · have := c.g
    rw [e.fx] at this
    exact this
end
theorem useLc {own : List (Str × Nat)} {T : Tgt} {it : En → Cs → R Wk} {ft : En → Cs → R Bool} {fe : En → Cs → R A} (hT : ∀ i ∈ T.slots, i ∈ own.map (·.2)) {σ : L2.St} {H : Hp} {Q : VK} (h : xD X.K xc W (xLc (own.map (·.2)) T it ft fe) σ H Q) :
    tLc (iD X.K xc W it) (gD X.K xc T) (tD X.K xc (fun _ _ _ _ => False) ft) (xD X.K xc (fun _ _ _ _ => False) fe) (own.map (·.2)) σ H Q := by
  obtain ⟨ι, s, C, c, r, p⟩ := h
  refine Dn.step c r p fun ι1 H1 C1 its J e1 c1 r1 q1 p1 => ?_
  intro D hD
  obtain ⟨items, chk⟩ := its
  obtain ⟨G, Y, w, hG, hY⟩ := q1
  simp only at w hG hY p1
  cases ec : compF T ft fe chk (wipeE (own.map (·.2)) s) items C1 with
  | ex cc pp C2 => rw [ec] at p1; exact (show False from p1).elim
  | bad => rw [ec] at p1; exact (show False from p1).elim
  | ok total Ce =>
    rw [ec] at p1
    simp only at p1
    by_cases hlen : total.length ≤ 100000
    · rw [if_pos hlen] at p1
      have r1w := r1.wipe (own.map (·.2))
      refine lc_it (g := gD X.K xc T) (tt := tD X.K xc (fun _ _ _ _ => False) ft) (te := xD X.K xc (fun _ _ _ _ => False) fe) w
        (fun i H2 => ∃ ι2 C2 acc accA vs, ExtD D ι1 H1 ι2 H2 ∧ RC X.K xc ι2 H2 C2 ∧ H2 D = some (.lst acc) ∧
          Rps X.K ι2 H2 accA acc ∧ compF T ft fe chk (wipeE (own.map (·.2)) s) (items.drop i) C2 = .ok vs Ce ∧ accA ++ vs = total) ?_ ?_ ?_ ?_
      · obtain ⟨d0, k0⟩ := ExtD.new c1 hD
        exact ⟨_, C1, [], [], total, d0, k0, upd_same, .nil, by simpa using ec, by simp⟩
      · rintro i H2 hi ⟨ι2, C2, acc, accA, vs, d2, c2, hDa, ra, ecf, etot⟩
        exact hG ι2 H2 C2 (d2.mv hD) c2 (compF_chk ecf)
      · rintro i x H2 H3 hi ⟨ι2, C2, acc, accA, vs, d2, c2, hDa, ra, ecf, etot⟩ y
        have hck := compF_chk ecf
        obtain ⟨a, ea, e3, c3, rx⟩ := hY ι2 H2 C2 i x H3 (d2.mv hD) c2 hck hi y
        have ed : items.drop i = a :: items.drop (i + 1) := by
          obtain ⟨hlt, e⟩ := List.getElem?_eq_some_iff.mp ea
          rw [List.drop_eq_getElem_cons hlt, e]
        rw [ed] at ecf
        unfold compF at ecf
        rw [if_pos hck] at ecf
        have r2 : RS X.K ι2 H3 (wipeE (own.map (·.2)) s) (wipe σ (own.map (·.2))) := (r1w.mv (d2.mv hD)).ext e3
        have nD := (c2.side.hid D d2.mem).1
        cases eu : T.upd a with
        | none => rw [eu] at ecf; cases ecf
        | some us =>
          rw [eu] at ecf
          simp only at ecf
          refine ⟨ι2, C2, a, us, c3, rx, eu, fun ws W1 S1 => ⟨?_, ι2, setAll us (wipeE (own.map (·.2)) s), C2, c3, RS.upds W1 r2, ?_⟩⟩
          · rw [wipe_all fun p hp => hT _ (S1 p hp), wipe_wipe]
          · cases et : ft (setAll us (wipeE (own.map (·.2)) s)) C2 with
            | ex cc pp C4 => rw [et] at ecf; cases ecf
            | bad => rw [et] at ecf; cases ecf
            | ok bb C4 =>
              rw [et] at ecf
              intro ι4 H4 b e4 c4 eb
              subst eb
              cases bb with
              | false =>
                simp only [Bool.false_eq_true, if_false] at ecf ⊢
                have e24 := e3.trans e4
                exact ⟨ι4, C4, acc, accA, vs, d2.more e24, c4, (e24.keep D _ hDa lst_nt nD).1, ra.ext e24, ecf, etot⟩
              | true =>
                simp only [if_true] at ecf ⊢
                refine ⟨ι4, setAll us (wipeE (own.map (·.2)) s), C4, c4, (RS.upds W1 r2).ext e4, ?_⟩
                cases ee : fe (setAll us (wipeE (own.map (·.2)) s)) C4 with
                | ex cc pp C5 => rw [ee] at ecf; cases ecf
                | bad => rw [ee] at ecf; cases ecf
                | ok v C5 =>
                  rw [ee] at ecf
                  simp only at ecf
                  intro ι5 H5 y5 e5 c5 r5
                  have e25 := (e3.trans e4).trans e5
                  have k5 := (e25.keep D _ hDa lst_nt nD).1
                  have k7 := ra.ext e25
                  have d5 := d2.more e25
                  cases er : compF T ft fe chk (wipeE (own.map (·.2)) s) (List.drop (i + 1) items) C5 with
                  | ex cc pp C6 => rw [er] at ecf; cases ecf
                  | bad => rw [er] at ecf; cases ecf
                  | ok vs2 C6 =>
                    rw [er] at ecf
                    simp only at ecf
                    cases ecf
                    refine ⟨acc, k5, ?_, ι5, C5, acc ++ [y5], accA ++ [v], vs2, d5.write hD _, c5.aside d5.mem k5, upd_same, ?_, er, ?_⟩
                    · have h1 := k7.length
                      have h2 : accA.length ≤ total.length := by rw [← etot]; simp
                      exact Nat.lt_of_le_of_lt (by omega : acc.length ≤ 100000) (by decide)
                    · exact (k7.append (.cons r5 .nil)).mv (mv_aside d5.mem _)
                    · rw [← etot]; simp
      · rintro H2 ⟨ι2, C2, acc, accA, vs, d2, c2, hDa, ra, ecf, etot⟩
        rw [List.drop_length] at ecf
        unfold compF at ecf
        rw [if_pos (by split at ecf; assumption; cases ecf)] at ecf
        cases ecf
        obtain ⟨m2, e2, k2⟩ := d2.out c2
        rw [List.append_nil] at etot
        subst etot
        exact p1 ⟨ι2.cs, ι1.fx⟩ H2 _ e2 k2 (.lst hDa ⟨(c2.side.hid D d2.mem).1, (c1.ne_none hD).2⟩ (ra.mv m2))
    · rw [if_neg hlen] at p1
      exact (show False from p1).elim
/-- [elt for T in it if tst]: a list that nobody writes -/
theorem r_lc {elt tg iter : Expr} {ifs : List Expr} {scope : Scope} {own : List (Str × Nat)} {T : Tgt} {it : En → Cs → R Wk} {ft : En → Cs → R Bool} {fe : En → Cs → R A} (hc : X.calm = true) (hN : X.N.Nodup) (hi : PI X tg iter (iD X.K xc W it)) (ok : BlkOk X.N X.env.scope scope own)
    (hT : ∀ i ∈ T.slots, i ∈ own.map (·.2))
    (hg : ∀ (s : Shared) (H : Hp) (C : Addr) (cl : List (Str × Addr)) (fp : List Addr), PT1 (X.blk s H scope (compEnvC scope cl C X.env) fp) xc tg T)
    (ht : ∀ (s : Shared) (H : Hp) (C : Addr) (cl : List (Str × Addr)) (fp : List Addr), PTs (X.blk s H scope (compEnvC scope cl C X.env) fp) ifs (tD X.K xc (fun _ _ _ _ => False) ft))
    (he : ∀ (s : Shared) (H : Hp) (C : Addr) (cl : List (Str × Addr)) (fp : List Addr), PE (X.blk s H scope (compEnvC scope cl C X.env) fp) elt (xD X.K xc (fun _ _ _ _ => False) fe))
    (hs : ∀ x, foldedSetIterable iter X.env x = pure x := by intro _; rfl) : PE X (.ListComp elt [⟨tg, iter, ifs, 0⟩] scope pos) (xD X.K xc W (xLc (own.map (·.2)) T it ft fe)) := PE.imp (pe_lc (g := gD X.K xc T) hc hN hi ok (fun s H C cl fp => (hg s H C cl fp).pg) ht he hs) fun _ _ _ h => useLc hT h
/-- name = [..] on one line, the name a plain local -/
theorem r_setLc {i : Nat} {y : Str} {py : Pos} {spos : Pos} {elt tg iter : Expr} {ifs : List Expr} {scope : Scope} {own : List (Str × Nat)} {T : Tgt} {it : En → Cs → R Wk} {ft : En → Cs → R Bool} {fe : En → Cs → R A} (hc : X.calm = true) (hN : X.N.Nodup) (hy : X.N[i]? = some y) (hyl : X.env.scope.names.lookup y = some .local)
    (hsw : swapsWith (.ListComp elt [⟨tg, iter, ifs, 0⟩] scope pos) (some (.Name y py)) spos.line X.env = pure true) (hi : PI X tg iter (iD X.K xc W it)) (ok : BlkOk X.N X.env.scope scope own)
    (hT : ∀ i ∈ T.slots, i ∈ own.map (·.2))
    (hg : ∀ (s : Shared) (H : Hp) (C : Addr) (cl : List (Str × Addr)) (fp : List Addr), PT1 (X.blk s H scope (compEnvC scope cl C X.env) fp) xc tg T)
    (ht : ∀ (s : Shared) (H : Hp) (C : Addr) (cl : List (Str × Addr)) (fp : List Addr), PTs (X.blk s H scope (compEnvC scope cl C X.env) fp) ifs (tD X.K xc (fun _ _ _ _ => False) ft))
    (he : ∀ (s : Shared) (H : Hp) (C : Addr) (cl : List (Str × Addr)) (fp : List Addr), PE (X.blk s H scope (compEnvC scope cl C X.env) fp) elt (xD X.K xc (fun _ _ _ _ => False) fe))
    (hs : ∀ x, foldedSetIterable iter X.env x = pure x := by intro _; rfl) : PS X (.Assign [.Name y py] (.ListComp elt [⟨tg, iter, ifs, 0⟩] scope pos) spos) (sD X.K xc W (sSet i (xLc (own.map (·.2)) T it ft fe))) := by
  refine PS.imp (ps_setLc (g := gD X.K xc T) hc hN hy hyl hsw hi ok (fun s H C cl fp => (hg s H C cl fp).pg) ht he hs) fun D σ H ⟨ι, s, C, c, r, p⟩ => ?_
  refine useLc (W := W) hT ?_
  refine Dn.stepS c r p fun ι1 H1 C1 v x e1 c1 r1 q1 p1 => ?_
  exact p1 ι1 H1 _ (Ext.refl _ _) c1 (r1.set q1 i)
end
end FM

namespace FM
open PySem PySem.Spec PyProof.Rows L2 RZ
/-! ### operators by values -/
def gI (h : Int → Int → A) : A → A → Cs → R A := fun v w C => match v, w with
  | .int i, .int j => .ok (h i j) C
  | _, _ => .bad
def gIc (p : Int → Int → Bool) (h : Int → Int → A) : A → A → Cs → R A := fun v w C => match v, w with
  | .int i, .int j => if p i j = true then .ok (h i j) C else .bad
  | _, _ => .bad
def gAdd := gI fun i j => .int (i + j)
def gSub := gI fun i j => .int (i - j)
def gLt := gI fun i j => .bl (decide (i < j))
def gLe := gI fun i j => .bl (decide (i ≤ j))
def gGt := gI fun i j => .bl (decide (j < i))
def gGe := gI fun i j => .bl (decide (j ≤ i))
def mulOk (i j : Int) : Bool := decide (-(2 ^ 64) < i ∧ i < 2 ^ 64) || decide (-(2 ^ 64) < j ∧ j < 2 ^ 64) || decide (i.natAbs.log2 + j.natAbs.log2 < 1000000)
def gMul := gIc mulOk fun i j => .int (i * j)
def divOk (_ j : Int) : Bool := decide (0 < j ∧ j.natAbs.log2 < 9000)
def gDiv := gIc divOk fun i j => .int (i / j)
def modOk (_ j : Int) : Bool := decide (0 < j)
def gMod := gIc modOk fun i j => .int (i % j)
def powOk (i j : Int) : Bool := decide (0 ≤ j ∧ j ≤ 1000000 ∧ i.natAbs < 2 ^ 64)
def gPow := gIc powOk fun i j => .int (i ^ j.toNat)
section
variable {K : PySem.W.Frag} {xc : XC}
theorem ad_I {f : Int → Int → V} {h : Int → Int → A} (hh : ∀ ι H i j, Rp K ι H (h i j) (f i j)) : Adq2 K xc (gI h) (rI0 f) := by
  intro W ι H σ C v w x y Q c r1 r2 p
  unfold gI at p
  split at p
  · rename_i i j
    exact ⟨i, j, r1.of_int, r2.of_int, p.fin c (hh ι H i j)⟩
  · exact p.elim
theorem ad_Ic {q : Int → Int → Bool} {P : Int → Int → Prop} {f : Int → Int → V} {h : Int → Int → A} (hp : ∀ i j, q i j = true → P i j) (hh : ∀ ι H i j, Rp K ι H (h i j) (f i j)) : Adq2 K xc (gIc q h) (rI P f) := by
  intro W ι H σ C v w x y Q c r1 r2 p
  unfold gIc at p
  split at p
  · rename_i i j
    split at p
    · rename_i hq
      exact ⟨i, j, r1.of_int, r2.of_int, hp i j hq, p.fin c (hh ι H i j)⟩
    · exact p.elim
  · exact p.elim
theorem ad_add : Adq2 K xc gAdd (rI0 fun i j => .int (i + j)) := ad_I fun _ _ _ _ => .int _
theorem ad_sub : Adq2 K xc gSub (rI0 fun i j => .int (i - j)) := ad_I fun _ _ _ _ => .int _
theorem ad_lt : Adq2 K xc gLt (rI0 fun i j => .bl (decide (i < j))) := ad_I fun _ _ _ _ => .bl _
theorem ad_le : Adq2 K xc gLe (rI0 fun i j => .bl (decide (i ≤ j))) := ad_I fun _ _ _ _ => .bl _
theorem ad_gt : Adq2 K xc gGt (rI0 fun i j => .bl (decide (j < i))) := ad_I fun _ _ _ _ => .bl _
theorem ad_ge : Adq2 K xc gGe (rI0 fun i j => .bl (decide (j ≤ i))) := ad_I fun _ _ _ _ => .bl _
theorem np_I (h : Int → Int → Bool) : ∀ v w C, (∃ k, gI (fun i j => .bl (h i j)) v w C = .ok (.bl k) C) ∨ gI (fun i j => .bl (h i j)) v w C = .bad := by
  intro v w C
  unfold gI
  split
  · exact .inl ⟨_, rfl⟩
  · exact .inr rfl
def MulP (i j : Int) : Prop := CMul i j ∨ CMulW i j
theorem mulOk_P {i j : Int} (h : mulOk i j = true) : MulP i j := by
  unfold mulOk at h
  simp only [Bool.or_eq_true, decide_eq_true_eq] at h
  rcases h with (h | h) | h
  · exact .inl (.inl h)
  · exact .inl (.inr h)
  · exact .inr h
theorem op_mulP {X : Cx} : OpR X (binaryOp .Mult) (rI MulP fun i j => .int (i * j)) := opI fun _ _ _ _ _ _ _ hc q => mul_int q (by
  rcases hc with h | h
  · exact h.ok
  · exact h.ok)
theorem ad_mul : Adq2 K xc gMul (rI MulP fun i j => .int (i * j)) := ad_Ic (fun _ _ h => mulOk_P h) fun _ _ _ _ => .int _
theorem ad_div : Adq2 K xc gDiv (rI CDivW fun i j => .int (i / j)) := ad_Ic (fun i j h => (of_decide_eq_true h : 0 < j ∧ j.natAbs.log2 < 9000)) fun _ _ _ _ => .int _
theorem ad_mod : Adq2 K xc gMod (rI (fun _ j => 0 < j) fun i j => .int (i % j)) := ad_Ic (fun i j h => (of_decide_eq_true h : 0 < j)) fun _ _ _ _ => .int _
theorem ad_pow : Adq2 K xc gPow (rI CPow fun i j => .int (i ^ j.toNat)) := ad_Ic (fun i j h => (of_decide_eq_true h : 0 ≤ j ∧ j ≤ 1000000 ∧ i.natAbs < 2 ^ 64)) fun _ _ _ _ => .int _
/-! ### lists, tuples, texts: + and * -/
def lstOf (v : A) (C : Cs) : Option (List A) := match v with
  | .lst xs => some xs
  | .loc n => C[n]?
  | _ => none
theorem lst_of {ι : Lay} {H : Hp} {C : Cs} {v : A} {x : V} {xs : List A} (c : RC K xc ι H C) (r : Rp K ι H v x) (h : lstOf v C = some xs) : ∃ a vs, x = .ref a ∧ H a = some (.lst vs) ∧ Rps K ι H xs vs := by
  cases r with
  | lst h1 n q => cases h; exact ⟨_, _, rfl, h1, q⟩
  | loc h1 => obtain ⟨vs, q1, q2⟩ := c.at_ _ _ _ h h1; exact ⟨_, vs, rfl, q1, q2⟩
  | _ => cases h
theorem seq_of {ι : Lay} {H : Hp} {C : Cs} {v : A} {x : V} {xs : List A} (c : RC K xc ι H C) (r : Rp K ι H v x) (h : seqOf v C = some xs) : ∃ a vs, x = .ref a ∧ (SqL K H a vs ∨ SqT K H a vs) ∧ Rps K ι H xs vs := by
  cases r with
  | lst h1 n q => cases h; exact ⟨_, _, rfl, .inl (SqL.of h1), q⟩
  | loc h1 => obtain ⟨vs, q1, q2⟩ := c.at_ _ _ _ h h1; exact ⟨_, vs, rfl, .inl (SqL.of q1), q2⟩
  | tup f q => cases h; exact ⟨_, _, rfl, .inr f.sq, q⟩
  | kl f q => cases h; exact ⟨_, _, rfl, .inl f.sq, q⟩
  | _ => cases h
def big : Nat := 1000000
theorem big_line {n : Nat} (h : n ≤ big) : n ≤ sizeLine := Nat.le_trans h (by decide)
def gAddA : A → A → Cs → R A := fun v w C => match v, w with
  | .int i, .int j => .ok (.int (i + j)) C
  | .str x, .str y => if x.length + y.length ≤ big then .ok (.str (x ++ y)) C else .bad
  | .tup xs, .tup ys => if xs.length + ys.length ≤ big then .ok (.tup (xs ++ ys)) C else .bad
  | v, w => match lstOf v C, lstOf w C with
    | some xs, some ys => if xs.length + ys.length ≤ big then .ok (.lst (xs ++ ys)) C else .bad
    | _, _ => .bad
def rAddStr : R2 := fun x y H Q => ∃ i j, x = .str i ∧ y = .str j ∧ i.length + j.length ≤ sizeLine ∧ Q (.str (i ++ j)) H
def rAddA (K : PySem.W.Frag) : R2 := fun x y H Q => rI0 (fun i j => .int (i + j)) x y H Q ∨ rAddStr x y H Q ∨ rCatZ K x y H Q ∨ rCat x y H Q
theorem op_addA {X : Cx} : OpR X (binaryOp .Add) (rAddA X.K) := op_add.or (op_add_str.or (op_catZ.or op_cat))
theorem ad_addA : Adq2 K xc gAddA (rAddA K) := by
  intro W ι H σ C v w x y Q c r1 r2 p
  unfold gAddA at p
  split at p
  · exact .inl ⟨_, _, r1.of_int, r2.of_int, p.fin c (.int _)⟩
  · split at p
    · rename_i h
      exact .inr (.inl ⟨_, _, r1.of_str, r2.of_str, big_line h, p.fin c (.str _)⟩)
    · exact p.elim
  · rename_i xs ys
    split at p
    · rename_i h
      obtain ⟨a, us, rfl, f1, q1⟩ := r1.tup_inv
      obtain ⟨b, vs, rfl, f2, q2⟩ := r2.tup_inv
      refine .inr (.inr (.inl ⟨a, b, us, vs, rfl, rfl, f1.sq, f2.sq, ?_, fun e => ?_, fun e e2 => ?_, fun _ _ => mk_tup c (q1.append q2) p⟩))
      · rw [← q1.length, ← q2.length]; exact big_line h
      · subst e
        have : xs = [] := List.eq_nil_of_length_eq_zero (by rw [q1.length]; rfl)
        subst this
        exact p.fin c (.tup f2 q2)
      · subst e2
        have : ys = [] := List.eq_nil_of_length_eq_zero (by rw [q2.length]; rfl)
        subst this
        rw [List.append_nil] at p
        exact p.fin c (.tup f1 q1)
    · exact p.elim
  · split at p
    · rename_i xs ys h1 h2
      split at p
      · rename_i h
        obtain ⟨a, us, rfl, f1, q1⟩ := lst_of c r1 h1
        obtain ⟨b, vs, rfl, f2, q2⟩ := lst_of c r2 h2
        exact .inr (.inr (.inr ⟨a, b, us, vs, rfl, rfl, f1, f2, by rw [← q1.length, ← q2.length]; exact big_line h, mk_lst c (q1.append q2) p⟩))
      · exact p.elim
    · exact p.elim
/-- list * int -/
def gRepL : A → A → Cs → R A := fun v w C => match lstOf v C, w with
  | some xs, .int k => if -(2 ^ 63) ≤ k ∧ k < 2 ^ 63 ∧ xs.length * k.toNat ≤ big then .ok (.lst (List.replicate k.toNat xs).flatten) C else .bad
  | _, _ => .bad
theorem ad_repL : Adq2 K xc gRepL rRep := by
  intro W ι H σ C v w x y Q c r1 r2 p
  unfold gRepL at p
  split at p
  · rename_i xs k h1
    split at p
    · rename_i h
      obtain ⟨a, us, rfl, f1, q1⟩ := lst_of c r1 h1
      exact ⟨a, k, us, rfl, r2.of_int, f1, h.1, h.2.1, by rw [← q1.length]; exact big_line h.2.2, mk_lst c (q1.rep _) p⟩
    · exact p.elim
  · exact p.elim
end
/-! ### equality of data -/
mutual
def toD0 : A → Option PyData
  | .non => some .none
  | .bl b => some (.bool b)
  | .int i => some (.int i)
  | .str x => some (.str x)
  | .tup xs => (toDs xs).map .tuple
  | .lst xs => (toDs xs).map .list
  | .kl xs => (toDs xs).map .list
  | .dk0 => none
  | .fn _ => none
  | .loc _ => none
  | .opq _ => none
  | .kn _ => none
  | .ob _ _ _ => none
def toDs : List A → Option (List PyData)
  | [] => some []
  | x :: xs => match toD0 x, toDs xs with
    | some d, some ds => some (d :: ds)
    | _, _ => none
end
def toD (v : A) (C : Cs) : Option PyData := match v with
  | .loc n => match C[n]? with
    | some xs => (toDs xs).map .list
    | none => none
  | v => toD0 v
section
variable {K : PySem.W.Frag} {xc : XC} {ι : Lay} {H : Hp} {C : Cs}
mutual
theorem dp_of : ∀ {v : A} {x : V} {d : PyData}, Rp K ι H v x → toD0 v = some d → Dp K H x d
  | _, _, d, .non, h => by cases h; exact .non
  | _, _, d, .bl b, h => by cases h; exact .bl b
  | _, _, d, .int i, h => by cases h; exact .int i
  | _, _, d, .str x, h => by cases h; exact .str x
  | _, _, d, .tup (xs := xs) f q, h => by
    unfold toD0 at h
    cases e : toDs xs with
    | none => rw [e] at h; cases h
    | some ds => rw [e] at h; cases h; exact .tup f.sq (dps_of q e)
  | _, _, d, .lst (xs := xs) f n q, h => by
    unfold toD0 at h
    cases e : toDs xs with
    | none => rw [e] at h; cases h
    | some ds => rw [e] at h; cases h; exact .lst (SqL.of f) (dps_of q e)
  | _, _, d, .kl (xs := xs) f q, h => by
    unfold toD0 at h
    cases e : toDs xs with
    | none => rw [e] at h; cases h
    | some ds => rw [e] at h; cases h; exact .lst f.sq (dps_of q e)
  | _, _, d, .dk0 _ _, h => by cases h
  | _, _, d, .fn _, h => by cases h
  | _, _, d, .loc h1, h => by cases h
  | _, _, d, .opq v, h => by cases h
  | _, _, d, .kn v, h => by cases h
  | _, _, d, .ob _ _ _ _, h => by cases h
theorem dps_of : ∀ {vs : List A} {xs : List V} {ds : List PyData}, Rps K ι H vs xs → toDs vs = some ds → DpAll K H xs ds
  | _, _, _, .nil, h => by cases h; exact .nil
  | _, _, ds, .cons (x := x) (xs := xs) r t, h => by
    unfold toDs at h
    cases e1 : toD0 x with
    | none => rw [e1] at h; cases h
    | some d =>
      cases e2 : toDs xs with
      | none => rw [e1, e2] at h; cases h
      | some es => rw [e1, e2] at h; cases h; exact .cons (dp_of r e1) (dps_of t e2)
end
theorem dp_at {v : A} {x : V} {d : PyData} (c : RC K xc ι H C) (r : Rp K ι H v x) (h : toD v C = some d) : Dp K H x d := by
  cases v with
  | loc n =>
    unfold toD at h
    simp only at h
    split at h
    · rename_i xs hx
      cases e : toDs xs with
      | none => rw [e] at h; cases h
      | some ds =>
        rw [e] at h
        cases h
        cases r with
        | loc h1 =>
          obtain ⟨vs, q1, q2⟩ := c.at_ _ _ _ hx h1
          exact .lst (SqL.of q1) (dps_of q2 e)
    · cases h
  | _ => exact dp_of r h
def gEqB (neg : Bool) : A → A → Cs → R A := fun v w C => match toD v C, toD w C with
  | some d, some e => if (SeqAt.shaped d && SeqAt.shaped e) = true then .ok (.bl (if neg then !PyData.eqv d e else PyData.eqv d e)) C else .bad
  | _, _ => .bad
def gEq := gEqB false
def gNe := gEqB true
theorem ad_eq : Adq2 K xc gEq (rEqD K) := by
  intro W ι H σ C v w x y Q c r1 r2 p
  unfold gEq gEqB at p
  split at p
  · rename_i d e h1 h2
    split at p
    · rename_i h
      rw [Bool.and_eq_true] at h
      exact ⟨d, e, dp_at c r1 h1, dp_at c r2 h2, h.1, h.2, p.fin c (.bl _)⟩
    · exact p.elim
  · exact p.elim
theorem ad_ne : Adq2 K xc gNe (rNeD K) := by
  intro W ι H σ C v w x y Q c r1 r2 p
  unfold gNe gEqB at p
  split at p
  · rename_i d e h1 h2
    split at p
    · rename_i h
      rw [Bool.and_eq_true] at h
      exact ⟨d, e, dp_at c r1 h1, dp_at c r2 h2, h.1, h.2, p.fin c (.bl _)⟩
    · exact p.elim
  · exact p.elim
theorem np_eqB (neg : Bool) : ∀ v w C, (∃ k, gEqB neg v w C = .ok (.bl k) C) ∨ gEqB neg v w C = .bad := by
  intro v w C
  unfold gEqB
  split
  · split
    · exact .inl ⟨_, rfl⟩
    · exact .inr rfl
  · exact .inr rfl
/-! ### is None -/
def gIsN : A → A → Cs → R A := fun v w C => match w with
  | .non => match v with
    | .opq _ => .bad
    | .kn _ => .bad
    | .non => .ok (.bl true) C
    | _ => .ok (.bl false) C
  | _ => .bad
def gNotN : A → A → Cs → R A := fun v w C => match w with
  | .non => match v with
    | .opq _ => .bad
    | .kn _ => .bad
    | .non => .ok (.bl false) C
    | _ => .ok (.bl true) C
  | _ => .bad
theorem ad_isN : Adq2 K xc gIsN (fun x y H Q => y = .non ∧ Q (.bl (decide (x = .non))) H) := by
  intro W ι H σ C v w x y Q c r1 r2 p
  cases w with
  | non =>
    refine ⟨r2.of_non, ?_⟩
    cases r1 with
    | opq v => exact p.elim
    | kn v => exact p.elim
    | non => exact p.fin c (.bl true)
    | _ => exact p.fin c (.bl false)
  | _ => exact p.elim
theorem ad_notN : Adq2 K xc gNotN (fun x y H Q => y = .non ∧ Q (.bl (!decide (x = .non))) H) := by
  intro W ι H σ C v w x y Q c r1 r2 p
  cases w with
  | non =>
    refine ⟨r2.of_non, ?_⟩
    cases r1 with
    | opq v => exact p.elim
    | kn v => exact p.elim
    | non => exact p.fin c (.bl false)
    | _ => exact p.fin c (.bl true)
  | _ => exact p.elim
/-! ### xs[i] -/
def gIx : A → A → Cs → R A := fun v w C => match w with
  | .int i => match v with
    | .str z => if z.length ≤ big then match atI z.cps.toList i with
        | some k => .ok (.str ⟨#[k]⟩) C
        | none => .bad
      else .bad
    | v => match seqOf v C with
      | some xs => match atI xs i with
        | some a => .ok a C
        | none => .bad
      | none => .bad
  | _ => .bad
theorem atI_rps {xs : List A} {vs : List V} {i : Int} {a : A} (r : Rps K ι H xs vs) (h : atI xs i = some a) : ∃ v, atI vs i = some v ∧ Rp K ι H a v := by
  unfold atI at h ⊢
  rw [← r.length]
  cases e : ixN xs.length i with
  | none => rw [e] at h; cases h
  | some j =>
    rw [e] at h
    exact r.get h
theorem ad_ix : Adq2 K xc gIx (rIx K) := by
  intro W ι H σ C v w x y Q c r1 r2 p
  cases w with
  | int i =>
    have e2 := r2.of_int
    subst e2
    unfold gIx at p
    simp only at p
    split at p
    · rename_i z
      have e1 := r1.of_str
      subst e1
      split at p
      · rename_i hz
        split at p
        · rename_i k hk
          exact .inr (.inr ⟨z, i, k, rfl, rfl, big_line hz, hk, p.fin c (.str _)⟩)
        · exact p.elim
      · exact p.elim
    · split at p
      · rename_i xs hx
        split at p
        · rename_i a ha
          obtain ⟨b, vs, rfl, sq, q⟩ := seq_of c r1 hx
          obtain ⟨u, hu, ru⟩ := atI_rps q ha
          rcases sq with sq | sq
          · exact .inl ⟨b, vs, i, u, rfl, rfl, sq, hu, p.fin c ru⟩
          · exact .inr (.inl ⟨b, vs, i, u, rfl, rfl, sq, hu, p.fin c ru⟩)
        · exact p.elim
      · exact p.elim
  | _ => exact p.elim
end
/-! ### slices -/
def PartD (X : Cx) (xc : XC) (W : WX) (f : En → Cs → R (Option Int)) : TO := Dn X.K xc W (fun _ _ a b => a = b) f
def pNo : En → Cs → R (Option Int) := fun _ C => .ok none C
def pAt (f : En → Cs → R A) : En → Cs → R (Option Int) := fun s C => (f s C).bind fun v C1 => match v with
  | .int i => .ok (some i) C1
  | _ => .bad
theorem PO.imp {X : Cx} {e : Option Expr} {t t' : TO} (h : PO X e t) (i : ∀ σ H Q, t' σ H Q → t σ H Q) : PO X e t' := ⟨fun pins s σ H Q I q => h.run pins s σ H Q I (i σ H Q q)⟩
def xSl (g : A → Option Int → Option Int → Cs → R A) (f : En → Cs → R A) (lo hi : En → Cs → R (Option Int)) : En → Cs → R A := fun s C => (f s C).bind fun v C1 => (lo s C1).bind fun l C2 => (hi s C2).bind fun u C3 => g v l u C3
def cutA (xs : List A) (lo hi : Option Int) : List A := (xs.drop (HT.sIx xs.length 0 lo)).take (HT.sIx xs.length xs.length hi - HT.sIx xs.length 0 lo)
def gSl : A → Option Int → Option Int → Cs → R A := fun v lo hi C => match v with
  | .tup xs => .ok (.tup (cutA xs lo hi)) C
  | .str z => if z.length ≤ big then .ok (.str (cutS z lo hi)) C else .bad
  | v => match lstOf v C with
    | some xs => .ok (.lst (cutA xs lo hi)) C
    | none => .bad
section
variable {X : Cx} {xc : XC} {W : WX} {pos p2 : Pos}
theorem r_pno : PO X none (PartD X xc W pNo) := PO.imp po_none fun σ H Q ⟨ι, s, C, c, r, p⟩ => p.fin c rfl
theorem r_pat {e : Expr} {f : En → Cs → R A} (h : PE X e (xD X.K xc W f)) : PO X (some e) (PartD X xc W (pAt f)) := by
  refine PO.imp (po_some h) fun σ H Q ⟨ι, s, C, c, r, p⟩ => ?_
  refine Dn.step c r p fun ι1 H1 C1 v x e1 c1 r1 q1 p1 => ?_
  cases v with
  | int i => exact ⟨i, q1.of_int, p1.fin c1 rfl⟩
  | _ => exact p1.elim
theorem Rps.cut {K : PySem.W.Frag} {ι : Lay} {H : Hp} {xs : List A} {vs : List V} (r : Rps K ι H xs vs) (lo hi : Option Int) : Rps K ι H (cutA xs lo hi) (cutV vs lo hi) := by
  unfold cutA cutV
  rw [← r.length]
  exact (r.drop _).take _
def rSlX (K : PySem.W.Frag) : V → Option Int → Option Int → Hp → VK → Prop := fun x lo hi H Q => rSlZ K x lo hi H Q ∨ rSlS x lo hi H Q ∨ rSlL K x lo hi H Q
theorem sl_any : SlR X (rSlX X.K) := sl_tupZ.or (sl_str.or sl_list)
theorem cut_whole {vs : List V} {lo hi : Option Int} (h : HT.sIx vs.length 0 lo = 0 ∧ HT.sIx vs.length vs.length hi = vs.length) : cutV vs lo hi = vs := by
  unfold cutV
  rw [h.1, h.2]
  simp
theorem ad_sl {K : PySem.W.Frag} {ι : Lay} {H : Hp} {σ : L2.St} {C : Cs} {v : A} {x : V} {lo hi : Option Int} {Q : VK} (c : RC K xc ι H C) (r : Rp K ι H v x) (p : Post K xc W (Rp K) ι H σ (gSl v lo hi C) Q) : rSlX K x lo hi H Q := by
  unfold gSl at p
  split at p
  · rename_i xs
    obtain ⟨a, vs, rfl, f, q⟩ := r.tup_inv
    refine .inl ⟨a, vs, rfl, f.sq, fun h => ?_, fun _ => mk_tup c (q.cut lo hi) p⟩
    have q' := q.cut lo hi
    rw [cut_whole h] at q'
    exact p.fin c (.tup f q')
  · rename_i z
    split at p
    · rename_i h
      exact .inr (.inl ⟨z, r.of_str, big_line h, p.fin c (.str _)⟩)
    · exact p.elim
  · split at p
    · rename_i xs hx
      obtain ⟨a, vs, rfl, f, q⟩ := lst_of c r hx
      exact .inr (.inr ⟨a, vs, rfl, SqL.of f, mk_lst c (q.cut lo hi) p⟩)
    · exact p.elim
theorem r_sl {e : Expr} {lo hi : Option Expr} {f : En → Cs → R A} {fl fu : En → Cs → R (Option Int)} (he : PE X e (xD X.K xc W f)) (hl : PO X lo (PartD X xc W fl)) (hu : PO X hi (PartD X xc W fu)) :
    PE X (.Subscript e (.Slice lo hi none p2) pos) (xD X.K xc W (xSl gSl f fl fu)) := by
  refine PE.imp (pe_slice sl_any he hl hu) fun σ H Q ⟨ι, s, C, c, r, p⟩ => ?_
  refine Dn.step c r p fun ι1 H1 C1 v x e1 c1 r1 q1 p1 => ?_
  refine Dn.step c1 r1 p1 fun ι2 H2 C2 l l' e2 c2 r2 q2 p2 => ?_
  refine Dn.step c2 r2 p2 fun ι3 H3 C3 u u' e3 c3 r3 q3 p3 => ?_
  cases q2
  cases q3
  exact ad_sl c3 ((q1.ext e2).ext e3) p3
end
/-! ### built-ins called -/
section
variable {K : PySem.W.Frag} {xc : XC} {ι : Lay} {H : Hp} {C : Cs}
def kLen : List A → Cs → R A := fun vs C => match vs with
  | [.str z] => if z.length ≤ big then .ok (.int z.length) C else .bad
  | [v] => match seqOf v C with
    | some xs => .ok (.int xs.length) C
    | none => .bad
  | _ => .bad
def rLenA (K : PySem.W.Frag) : List V → Hp → VK → Prop := fun xs H Q => (∃ p ys, xs = [.ref p] ∧ (SqL K H p ys ∨ SqT K H p ys) ∧ Q (.int ys.length) H) ∨ (∃ z, xs = [.str z] ∧ z.length ≤ sizeLine ∧ Q (.int z.length) H)
theorem call_lenA {X : Cx} : CallR X (.builtin "len") (rLenA X.K) := call_len_seq.or call_len_str
theorem ad_len : AdqN K xc kLen (rLenA K) := by
  intro W ι H σ C vs xs Q c r p
  unfold kLen at p
  split at p
  · split at p
    · rename_i z h
      obtain ⟨u, rfl, r1⟩ := r.one
      exact .inr ⟨z, by rw [r1.of_str], big_line h, p.fin c (.int _)⟩
    · exact p.elim
  · split at p
    · rename_i v _ ys h
      obtain ⟨u, rfl, r1⟩ := r.one
      obtain ⟨a, us, rfl, sq, q⟩ := seq_of c r1 h
      exact .inl ⟨a, us, rfl, sq, p.fin c (by rw [q.length]; exact .int _)⟩
    · exact p.elim
  · exact p.elim
/-- tuple(x): of a tuple, of a list -/
def kTuple : List A → Cs → R A := fun vs C => match vs with
  | [.tup xs] => .ok (.tup xs) C
  | [v] => match seqOf v C with
    | some xs => .ok (.tup xs) C
    | none => .bad
  | _ => .bad
theorem ad_tuple : AdqN K xc kTuple (fun xs H Q => ∃ p ys, xs = [.ref p] ∧ ((SqL K H p ys ∧ ∀ l (o : Obj), H l = none → o.dict = none → Q (.ref l) (upd H l (.frz o (.tup ys)))) ∨ (SqT K H p ys ∧ Q (.ref p) H))) := by
  intro W ι H σ C vs xs Q c r p
  unfold kTuple at p
  split at p
  · rename_i ys
    obtain ⟨u, rfl, r1⟩ := r.one
    obtain ⟨a, us, rfl, f, q⟩ := r1.tup_inv
    exact ⟨a, us, rfl, .inr ⟨f.sq, p.fin c (.tup f q)⟩⟩
  · split at p
    · rename_i v hne _ ys h
      obtain ⟨u, rfl, r1⟩ := r.one
      cases r1 with
      | tup f q => cases h; exact (hne _ rfl).elim
      | lst h1 n q => cases h; exact ⟨_, _, rfl, .inl ⟨SqL.of h1, mk_tup c q p⟩⟩
      | kl f q => cases h; exact ⟨_, _, rfl, .inl ⟨f.sq, mk_tup c q p⟩⟩
      | loc h1 =>
        obtain ⟨ws, q1, q2⟩ := c.at_ _ _ _ h h1
        exact ⟨_, _, rfl, .inl ⟨SqL.of q1, mk_tup c q2 p⟩⟩
      | _ => cases h
    · exact p.elim
  · exact p.elim
/-- list(x): a list that nobody writes; one in a cell -/
def kList : List A → Cs → R A := fun vs C => match vs with
  | [v] => match seqOf v C with
    | some xs => .ok (.lst xs) C
    | none => .bad
  | _ => .bad
def kListM : List A → Cs → R A := fun vs C => match vs with
  | [v] => match seqOf v C with
    | some xs => .ok (.loc C.length) (C ++ [xs])
    | none => .bad
  | _ => .bad
theorem ad_list : AdqN K xc kList (fun xs H Q => ∃ p ys, xs = [.ref p] ∧ (SqL K H p ys ∨ SqT K H p ys) ∧ ∀ l, H l = none → Q (.ref l) (upd H l (.lst ys))) := by
  intro W ι H σ C vs xs Q c r p
  unfold kList at p
  split at p
  · split at p
    · rename_i v ys h
      obtain ⟨u, rfl, r1⟩ := r.one
      obtain ⟨a, us, rfl, sq, q⟩ := seq_of c r1 h
      exact ⟨a, us, rfl, sq, mk_lst c q p⟩
    · exact p.elim
  · exact p.elim
theorem ad_listM : AdqN K xc kListM (fun xs H Q => ∃ p ys, xs = [.ref p] ∧ (SqL K H p ys ∨ SqT K H p ys) ∧ ∀ l, H l = none → Q (.ref l) (upd H l (.lst ys))) := by
  intro W ι H σ C vs xs Q c r p
  unfold kListM at p
  split at p
  · split at p
    · rename_i v ys h
      obtain ⟨u, rfl, r1⟩ := r.one
      obtain ⟨a, us, rfl, sq, q⟩ := seq_of c r1 h
      exact ⟨a, us, rfl, sq, mk_loc c q p⟩
    · exact p.elim
  · exact p.elim
/-- lists of ints, of truth values -/
def intsOf : List A → Option (List Int)
  | [] => some []
  | .int i :: r => (intsOf r).map (i :: ·)
  | _ => none
def blsOf : List A → Option (List Bool)
  | [] => some []
  | .bl i :: r => (blsOf r).map (i :: ·)
  | _ => none
theorem ints_of : ∀ {xs : List A} {vs : List V} {ns : List Int}, Rps K ι H xs vs → intsOf xs = some ns → vs = ns.map V.int
  | _, _, _, .nil, h => by cases h; rfl
  | _, _, ns, .cons (x := x) (xs := xs) r t, h => by
    cases x with
    | int i =>
      unfold intsOf at h
      cases e : intsOf xs with
      | none => rw [e] at h; cases h
      | some ms => rw [e] at h; cases h; rw [r.of_int, ints_of t e]; rfl
    | _ => cases h
theorem bls_of : ∀ {xs : List A} {vs : List V} {ns : List Bool}, Rps K ι H xs vs → blsOf xs = some ns → vs = ns.map V.bl
  | _, _, _, .nil, h => by cases h; rfl
  | _, _, ns, .cons (x := x) (xs := xs) r t, h => by
    cases x with
    | bl i =>
      unfold blsOf at h
      cases e : blsOf xs with
      | none => rw [e] at h; cases h
      | some ms => rw [e] at h; cases h; rw [r.of_bl, bls_of t e]; rfl
    | _ => cases h
theorem rps_ints : ∀ ns : List Int, Rps K ι H (ns.map A.int) (ns.map V.int)
  | [] => .nil
  | n :: r => .cons (.int n) (rps_ints r)
def seqL (v : A) (C : Cs) : Option (List A) := match v with
  | .lst xs => some xs
  | .kl xs => some xs
  | .loc n => C[n]?
  | _ => none
theorem seqL_of {v : A} {x : V} {xs : List A} (c : RC K xc ι H C) (r : Rp K ι H v x) (h : seqL v C = some xs) : ∃ a vs, x = .ref a ∧ SqL K H a vs ∧ Rps K ι H xs vs := by
  cases r with
  | lst h1 n q => cases h; exact ⟨_, _, rfl, SqL.of h1, q⟩
  | loc h1 => obtain ⟨vs, q1, q2⟩ := c.at_ _ _ _ h h1; exact ⟨_, vs, rfl, SqL.of q1, q2⟩
  | kl f q => cases h; exact ⟨_, _, rfl, f.sq, q⟩
  | _ => cases h
def kAll : List A → Cs → R A := fun vs C => match vs with
  | [v] => match (seqL v C).bind blsOf with
    | some bs => .ok (.bl (bs.all id)) C
    | none => .bad
  | _ => .bad
def kAny : List A → Cs → R A := fun vs C => match vs with
  | [v] => match (seqL v C).bind blsOf with
    | some bs => .ok (.bl (bs.any id)) C
    | none => .bad
  | _ => .bad
def kSum : List A → Cs → R A := fun vs C => match vs with
  | [v] => match (seqL v C).bind intsOf with
    | some ns => .ok (.int ns.sum) C
    | none => .bad
  | _ => .bad
def kSorted : List A → Cs → R A := fun vs C => match vs with
  | [v] => match (seqL v C).bind intsOf with
    | some ns => .ok (.lst ((ns.mergeSort (· ≤ ·)).map A.int)) C
    | none => .bad
  | _ => .bad
theorem ad_all : AdqN K xc kAll (rAll K) := by
  intro W ι H σ C vs xs Q c r p
  unfold kAll at p
  split at p
  · split at p
    · rename_i v bs h
      obtain ⟨u, rfl, r1⟩ := r.one
      obtain ⟨ys, h1, h2⟩ := Option.bind_eq_some_iff.mp h
      obtain ⟨a, us, rfl, sq, q⟩ := seqL_of c r1 h1
      rw [bls_of q h2] at sq
      exact ⟨a, bs, rfl, sq, p.fin c (.bl _)⟩
    · exact p.elim
  · exact p.elim
theorem ad_any : AdqN K xc kAny (rAny K) := by
  intro W ι H σ C vs xs Q c r p
  unfold kAny at p
  split at p
  · split at p
    · rename_i v bs h
      obtain ⟨u, rfl, r1⟩ := r.one
      obtain ⟨ys, h1, h2⟩ := Option.bind_eq_some_iff.mp h
      obtain ⟨a, us, rfl, sq, q⟩ := seqL_of c r1 h1
      rw [bls_of q h2] at sq
      exact ⟨a, bs, rfl, sq, p.fin c (.bl _)⟩
    · exact p.elim
  · exact p.elim
theorem ad_sum : AdqN K xc kSum (rSum K) := by
  intro W ι H σ C vs xs Q c r p
  unfold kSum at p
  split at p
  · split at p
    · rename_i v bs h
      obtain ⟨u, rfl, r1⟩ := r.one
      obtain ⟨ys, h1, h2⟩ := Option.bind_eq_some_iff.mp h
      obtain ⟨a, us, rfl, sq, q⟩ := seqL_of c r1 h1
      rw [ints_of q h2] at sq
      exact ⟨a, bs, rfl, sq, p.fin c (.int _)⟩
    · exact p.elim
  · exact p.elim
theorem sorted_is {ns ms : List Int} (h1 : ms.Perm ns) (h2 : ms.Pairwise (· ≤ ·)) : ms = ns.mergeSort (· ≤ ·) := by
  have p : ms.Perm (ns.mergeSort (· ≤ ·)) := h1.trans (List.mergeSort_perm ns _).symm
  have q : (ns.mergeSort (· ≤ ·)).Pairwise (fun a b => decide (a ≤ b) = true) := List.pairwise_mergeSort (fun a b c h1 h2 => by simp at *; omega) (fun a b => by simp; omega) ns
  exact List.Perm.eq_of_pairwise (le := (· ≤ ·)) (fun a b _ _ h1 h2 => Int.le_antisymm h1 h2) h2 (q.imp fun h => of_decide_eq_true h) p
theorem ad_sorted : AdqN K xc kSorted (rSortedI K) := by
  intro W ι H σ C vs xs Q c r p
  unfold kSorted at p
  split at p
  · split at p
    · rename_i v ns h
      obtain ⟨u, rfl, r1⟩ := r.one
      obtain ⟨ys, h1, h2⟩ := Option.bind_eq_some_iff.mp h
      obtain ⟨a, us, rfl, sq, q⟩ := seqL_of c r1 h1
      rw [ints_of q h2] at sq
      refine ⟨a, ns, rfl, sq, fun ms l hp hs hl => ?_⟩
      rw [sorted_is hp hs]
      exact mk_lst c (rps_ints _) p l hl
    · exact p.elim
  · exact p.elim
def kAbs : List A → Cs → R A := fun vs C => match vs with
  | [.int i] => .ok (.int (if i < 0 then -i else i)) C
  | _ => .bad
theorem ad_abs : AdqN K xc kAbs (fun xs H Q => ∃ i, xs = [.int i] ∧ Q (.int (if i < 0 then -i else i)) H) := by
  intro W ι H σ C vs xs Q c r p
  unfold kAbs at p
  split at p
  · rename_i i
    exact ⟨i, r.int1, p.fin c (.int _)⟩
  · exact p.elim
def kMax : List A → Cs → R A := fun vs C => match vs with
  | [.int i, .int j] => .ok (.int (if j > i then j else i)) C
  | _ => .bad
def kMin : List A → Cs → R A := fun vs C => match vs with
  | [.int i, .int j] => .ok (.int (if j < i then j else i)) C
  | _ => .bad
theorem ad_max : AdqN K xc kMax (fun xs H Q => ∃ i j, xs = [.int i, .int j] ∧ Q (.int (if j > i then j else i)) H) := by
  intro W ι H σ C vs xs Q c r p
  unfold kMax at p
  split at p
  · rename_i i j
    exact ⟨i, j, r.int2, p.fin c (.int _)⟩
  · exact p.elim
theorem ad_min : AdqN K xc kMin (fun xs H Q => ∃ i j, xs = [.int i, .int j] ∧ Q (.int (if j < i then j else i)) H) := by
  intro W ι H σ C vs xs Q c r p
  unfold kMin at p
  split at p
  · rename_i i j
    exact ⟨i, j, r.int2, p.fin c (.int _)⟩
  · exact p.elim
def kInt : List A → Cs → R A := fun vs C => match vs with
  | [.int i] => .ok (.int i) C
  | [.bl b] => .ok (.int (if b then 1 else 0)) C
  | _ => .bad
theorem ad_int : AdqN K xc kInt (fun xs H Q => (∃ i, xs = [.int i] ∧ Q (.int i) H) ∨ ∃ k, xs = [.bl k] ∧ Q (.int (if k then 1 else 0)) H) := by
  intro W ι H σ C vs xs Q c r p
  unfold kInt at p
  split at p
  · rename_i i
    exact .inl ⟨i, r.int1, p.fin c (.int _)⟩
  · rename_i b
    obtain ⟨u, rfl, r1⟩ := r.one
    exact .inr ⟨b, by rw [r1.of_bl], p.fin c (.int _)⟩
  · exact p.elim
/-! ### isinstance by a built-in class -/
def tyA : A → Option String
  | .non => some "NoneType"
  | .bl _ => some "bool"
  | .int _ => some "int"
  | .str _ => some "str"
  | .tup _ => some "tuple"
  | .lst _ => some "list"
  | .kl _ => some "list"
  | .dk0 => some "dict"
  | .fn _ => none
  | .loc _ => some "list"
  | .opq _ => none
  | .kn _ => none
  | .ob _ _ _ => none
def kIsi : List A → Cs → R A := fun vs C => match vs with
  | [v, .opq (.ty T)] => match tyA v with
    | some t => match kitB t T with
      | some b => .ok (.bl b) C
      | none => .bad
    | none => .bad
  | _ => .bad
theorem ty_of {v : A} {x : V} {t : String} (c : RC K xc ι H C) (hC : ∀ n, v = .loc n → (C[n]?).isSome = true) (r : Rp K ι H v x) (h : tyA v = some t) : TyX K H x (.type t) := by
  cases r with
  | non => cases h; exact .base .non
  | bl b => cases h; exact .base (.bl b)
  | int i => cases h; exact .base (.int i)
  | str z => cases h; exact .base (.str z)
  | tup f q =>
    cases h
    obtain ⟨⟨o, h, _⟩, _⟩ := f
    exact .fTuple h
  | lst h1 n q => cases h; exact .base (.lst h1)
  | kl f q =>
    cases h
    rcases f with ⟨h | ⟨o, h⟩, _⟩ | (h | ⟨o, its, n, h1, h2, h3⟩)
    · exact .base (.lst h)
    · exact .base (.frz h)
    · rcases h with h | ⟨o, h⟩ <;> cases h
    · exact .kList h1 h2
  | dk0 h1 n => cases h; exact .base (.dK h1)
  | fn n => cases h
  | @loc n a h1 =>
    cases h
    have hn : n < C.length := by rw [← c.len]; exact (List.getElem?_eq_some_iff.mp h1).1
    obtain ⟨vs, q1, q2⟩ := c.at_ n C[n] a (by simp) h1
    exact .base (.lst q1)
  | opq v => cases h
  | kn v => cases h
  | ob _ _ _ _ => cases h
theorem ad_isi : AdqN K xc kIsi (rIsi K) := by
  intro W ι H σ C vs xs Q c r p
  unfold kIsi at p
  split at p
  · rename_i v T
    split at p
    · rename_i t h1
      split at p
      · rename_i b h2
        obtain ⟨u, w, rfl, r1, r2⟩ := r.two
        have e : w = .ty T := by cases r2; rfl
        subst e
        refine ⟨u, .ty T, .type t, .type T, b, rfl, .ty T, ty_of c (fun n e => ?_) r1 h1, kit_ty h2, p.fin c (.bl b)⟩
        subst e
        cases r1 with
        | loc h3 =>
          have hn : n < C.length := by rw [← c.len]; exact (List.getElem?_eq_some_iff.mp h3).1
          simp [hn]
      · exact p.elim
    · exact p.elim
  · exact p.elim
end
end FM

namespace FM
open PySem PySem.Spec PyProof.Rows L2 RZ
/-! ### methods of lists in cells -/
def xMtL (g : A → List A → Cs → R A) (f : En → Cs → R A) (fs : En → Cs → R (List A)) : En → Cs → R A := fun s C => (f s C).bind fun v C1 => if (seqL v C1).isSome = true then (fs s C1).bind fun vs C2 => g v vs C2 else .bad
def mAppend : A → List A → Cs → R A := fun v vs C => match v, vs with
  | .loc n, [y] => match C[n]? with
    | some xs => if xs.length ≤ big then .ok .non (C.set n (xs ++ [y])) else .bad
    | none => .bad
  | _, _ => .bad
def mExtend : A → List A → Cs → R A := fun v vs C => match v, vs with
  | .loc n, [y] => match C[n]?, lstOf y C with
    | some xs, some ys => if xs.length + ys.length ≤ big then .ok .non (C.set n (xs ++ ys)) else .bad
    | _, _ => .bad
  | _, _ => .bad
def mPop : A → List A → Cs → R A := fun v vs C => match v, vs with
  | .loc n, [] => match C[n]? with
    | some xs => match xs[xs.length - 1]? with
      | some y => .ok y (C.set n xs.dropLast)
      | none => .bad
    | none => .bad
  | _, _ => .bad
def mPopAt : A → List A → Cs → R A := fun v vs C => match v, vs with
  | .loc n, [.int i] => match C[n]? with
    | some xs => if Line62 i then match seqIndex? i xs.length with
        | some k => match xs[k]? with
          | some y => .ok y (C.set n (xs.eraseIdx k))
          | none => .bad
        | none => .bad
      else .bad
    | none => .bad
  | _, _ => .bad
section
variable {K : PySem.W.Frag} {xc : XC} {ι : Lay} {H : Hp} {C : Cs}
theorem Rps.dropLast {xs : List A} {vs : List V} (r : Rps K ι H xs vs) : Rps K ι H xs.dropLast vs.dropLast := by
  rw [List.dropLast_eq_take, List.dropLast_eq_take, r.length]
  exact r.take _
theorem Rp.loc_inv {n : Nat} {x : V} (r : Rp K ι H (.loc n) x) : ∃ a, x = .ref a ∧ ι.cs[n]? = some a := by
  cases r with
  | loc h => exact ⟨_, rfl, h⟩
theorem ad_append : AdqM K xc mAppend rAppend := by
  intro W ι H σ C v vs x xs Q c r rs p
  unfold mAppend at p
  split at p
  · rename_i n y
    split at p
    · rename_i ys hy
      split at p
      · rename_i hl
        obtain ⟨a, rfl, ha⟩ := r.loc_inv
        obtain ⟨u, rfl, r1⟩ := rs.one
        obtain ⟨ws, q1, q2⟩ := c.at_ n ys a hy ha
        exact ⟨a, ws, u, rfl, rfl, q1, by rw [← q2.length]; exact Nat.lt_of_le_of_lt hl (by decide), p.to (ext_set c ha _) (c.set ha (q2.append (.cons r1 .nil))) .non⟩
      · exact p.elim
    · exact p.elim
  · exact p.elim
theorem ad_extend : AdqM K xc mExtend rExtend := by
  intro W ι H σ C v vs x xs Q c r rs p
  unfold mExtend at p
  split at p
  · rename_i n y
    split at p
    · rename_i ys zs hy hz
      split at p
      · rename_i hl
        obtain ⟨a, rfl, ha⟩ := r.loc_inv
        obtain ⟨u, rfl, r1⟩ := rs.one
        obtain ⟨ws, q1, q2⟩ := c.at_ n ys a hy ha
        obtain ⟨b, us, rfl, q3, q4⟩ := lst_of c r1 hz
        exact ⟨a, b, ws, us, rfl, rfl, q1, q3, by rw [← q2.length, ← q4.length]; exact big_line hl, p.to (ext_set c ha _) (c.set ha (q2.append q4)) .non⟩
      · exact p.elim
    · exact p.elim
  · exact p.elim
theorem ad_pop : AdqM K xc mPop rPop := by
  intro W ι H σ C v vs x xs Q c r rs p
  unfold mPop at p
  split at p
  · rename_i n
    split at p
    · rename_i ys hy
      split at p
      · rename_i y hl
        obtain ⟨a, rfl, ha⟩ := r.loc_inv
        obtain ⟨ws, q1, q2⟩ := c.at_ n ys a hy ha
        obtain ⟨u, hu, ru⟩ := q2.get hl
        exact ⟨a, ws, u, rfl, rs.none, q1, by rw [← q2.length]; exact hu, p.to (ext_set c ha _) (c.set ha q2.dropLast) (ru.ext (ext_set c ha _))⟩
      · exact p.elim
    · exact p.elim
  · exact p.elim
theorem ad_popAt : AdqM K xc mPopAt rPopAt := by
  intro W ι H σ C v vs x xs Q c r rs p
  unfold mPopAt at p
  split at p
  · rename_i n i
    split at p
    · rename_i ys hy
      split at p
      · rename_i hi
        split at p
        · rename_i k hk
          split at p
          · rename_i y hl
            obtain ⟨a, rfl, ha⟩ := r.loc_inv
            obtain ⟨ws, q1, q2⟩ := c.at_ n ys a hy ha
            obtain ⟨u, hu, ru⟩ := q2.get hl
            have h62 := hi
            unfold Line62 at h62
            exact ⟨a, ws, i, k, u, rfl, rs.int1, q1, by omega, by omega, by rw [← q2.length]; exact hk, hu, p.to (ext_set c ha _) (c.set ha (q2.eraseIdx k)) (ru.ext (ext_set c ha _))⟩
          · exact p.elim
        · exact p.elim
      · exact p.elim
    · exact p.elim
  · exact p.elim
end
section
variable {X : Cx} {xc : XC} {W : WX} {apos cpos : Pos} {id : String} {name : Str} {o e : Expr} {es : List Expr} {r : V → List V → Hp → VK → Prop} {g : A → List A → Cs → R A} {f : En → Cs → R A} {fs : En → Cs → R (List A)}
theorem r_mtL (pa : PlainAttrs "list") (slot : Slot "list" name id) (hty : typeOf (.builtin id) = pure (.type "method_descriptor")) (hm : MtR X id r) (ad : AdqM X.K xc g r) (ho : PE X o (xD X.K xc W f)) (ha : PA X (e :: es) (aD X.K xc W fs))
    (hbase : attributeBase o name X.env (eval o X.env) = eval o X.env := by rfl)
    (hfew : ((backTo cpos (starEach (e :: es) X.env)).all (fun x => !x.1) && (backToKw cpos (keywordEach [] X.env)).all (fun x => x.1.isSome)
      && decide ((e :: es).length + ([] : List Keyword).length + (if ([] : List Keyword).isEmpty then 0 else 1) < 30)) = true := by rfl)
    (hline : (apos.endLine == cpos.line) = true := by rfl) (hs : starEach (e :: es) X.env = (false, eval e X.env) :: starEach es X.env := by rfl) (hplain : (backTo cpos (starEach es X.env)).any (·.1) = false := by rfl) :
    PE X (.Call (.Attribute o name apos) (e :: es) [] cpos) (xD X.K xc W (xMtL g f fs)) := by
  refine PE.imp (pe_bm pa slot hty hm ho ha hbase hfew hline hs hplain) fun σ H Q ⟨ι, s, C, c, r, p⟩ => ?_
  refine Dn.step c r p fun ι1 H1 C1 v x e1 c1 r1 q1 p1 => ?_
  split at p1
  · rename_i hq
    obtain ⟨ys, hy⟩ := Option.isSome_iff_exists.mp hq
    obtain ⟨a, us, rfl, sq, q⟩ := seqL_of c1 q1 hy
    refine ⟨.inl ⟨rfl, us, sq⟩, ?_⟩
    refine Dn.step c1 r1 p1 fun ι2 H2 C2 vs xs e2 c2 r2 q2 p2 => ?_
    exact ad W ι2 H2 σ C2 v vs _ xs Q c2 (q1.ext e2) q2 p2
  · exact p1.elim
theorem r_mtL0 (pa : PlainAttrs "list") (slot : Slot "list" name id) (hty : typeOf (.builtin id) = pure (.type "method_descriptor")) (hm : MtR X id r) (ad : AdqM X.K xc g r) (ho : PE X o (xD X.K xc W f))
    (hbase : attributeBase o name X.env (eval o X.env) = eval o X.env := by rfl) (hline : (apos.endLine == cpos.line) = true := by rfl) : PE X (.Call (.Attribute o name apos) [] [] cpos) (xD X.K xc W (xMtL g f aNil)) := by
  refine PE.imp (pe_bm0 pa slot hty hm ho hbase hline) fun σ H Q ⟨ι, s, C, c, r, p⟩ => ?_
  refine Dn.step c r p fun ι1 H1 C1 v x e1 c1 r1 q1 p1 => ?_
  split at p1
  · rename_i hq
    obtain ⟨ys, hy⟩ := Option.isSome_iff_exists.mp hq
    obtain ⟨a, us, rfl, sq, q⟩ := seqL_of c1 q1 hy
    refine ⟨.inl ⟨rfl, us, sq⟩, ?_⟩
    exact ad W ι1 H1 σ C1 v [] _ [] Q c1 q1 .nil p1
  · exact p1.elim
end
/-! ### xs[i] = e; x += e -/
def sPut (f fo fi : En → Cs → R A) : En → Cs → SR := fun s C => (f s C).toS s fun v C1 => (fo s C1).toS s fun o C2 => (fi s C2).toS s fun i C3 => match o, i with
  | .loc n, .int k => match C3[n]? with
    | some xs => match ixN xs.length k with
      | some j => .nx s (C3.set n (xs.set j v))
      | none => .bad
    | none => .bad
  | _, _ => .bad
def sAug (sub : Bool) (i : Nat) (f : En → Cs → R A) : En → Cs → SR := fun s C => match s[i]? with
  | some (some (.int a)) => (f s C).toS s fun v C1 => match v with
    | .int b => .nx (s.set i (some (.int (if sub then a - b else a + b)))) C1
    | _ => .bad
  | _ => .bad
section
variable {X : Cx} {xc : XC} {W : WX} {pos p2 : Pos}
theorem r_put {o i e : Expr} {f fo fi : En → Cs → R A} (he : PE X e (xD X.K xc W f)) (ho : PE X o (xD X.K xc W fo)) (hi : PE X i (xD X.K xc W fi))
    (ha : ∀ v, assign (.Subscript o i p2) X.env v = (do
      let ov ← holding [v] (eval o X.env)
      let iv ← holding [v, ov] (eval i X.env)
      standAt p2
      holding [v, ov, iv] (setItem ov iv v)
      release [v, ov, iv] []) := by intro _; rfl)
    (hs : swapsWithSole [.Subscript o i p2] e pos.line X.env = pure false := by rfl) (hw : swappedStores [.Subscript o i p2] e X.env = pure none := by rfl)
    (h1 : (assignEach [.Subscript o i p2] X.env).map (·.2) = [assign (.Subscript o i p2) X.env] := by rfl) : PS X (.Assign [.Subscript o i p2] e pos) (sD X.K xc W (sPut f fo fi)) := by
  refine PS.imp (ps_asg he (pg_sub ho hi set_list ha) hs hw h1) fun D σ H ⟨ι, s, C, c, r, p⟩ => ?_
  refine Dn.stepS c r p fun ι1 H1 C1 v x e1 c1 r1 q1 p1 => ?_
  refine Dn.stepS c1 r1 p1 fun ι2 H2 C2 ov ox e2 c2 r2 q2 p2 => ?_
  refine Dn.stepS c2 r2 p2 fun ι3 H3 C3 iv ix e3 c3 r3 q3 p3 => ?_
  split at p3
  · rename_i n k
    split at p3
    · rename_i xs hx
      split at p3
      · rename_i j hj
        obtain ⟨a, rfl, ha⟩ := (q2.ext e3).loc_inv
        obtain ⟨ws, h1, h2⟩ := c3.at_ n xs a hx ha
        exact ⟨a, ws, k, j, rfl, q3.of_int, h1, by rw [← h2.length]; exact hj, p3 ι3 _ σ (ext_set c3 ha _) (c3.set ha (h2.set ((q1.ext e2).ext e3) j)) (r3.ext (ext_set c3 ha _))⟩
      · exact p3.elim
    · exact p3.elim
  · exact p3.elim
theorem r_aug {i : Nat} {x : Str} {e : Expr} {f : En → Cs → R A} {pos' : Pos} (hN : X.N.Nodup) (hi : X.N[i]? = some x) (hx : Loc X.env.scope x) (he : PE X e (xD X.K xc W f)) (hf : X.fn x = true ∨ X.env.scope.names.lookup x = some .local := by first | exact .inl rfl | exact .inr rfl | assumption) :
    PS X (.AugAssign (.Name x pos') .Add e pos) (sD X.K xc W (sAug false i f)) := by
  refine PS.imp (ps_aug hN hi hx he ip_add hf) fun D σ H ⟨ι, s, C, c, r, p⟩ => ?_
  unfold sAug at p
  split at p
  · rename_i a ea
    obtain ⟨u, hu, ru⟩ := r.2 i _ ea
    have := ru.of_int
    subst this
    refine ⟨_, hu, ?_⟩
    refine Dn.stepS c r p fun ι1 H1 C1 v x e1 c1 r1 q1 p1 => ?_
    split at p1
    · rename_i b
      exact ⟨a, b, rfl, q1.of_int, p1 ι1 H1 _ (Ext.refl _ _) c1 (r1.set (.int _) i)⟩
    · exact p1.elim
  · exact p.elim
theorem r_augS {i : Nat} {x : Str} {e : Expr} {f : En → Cs → R A} {pos' : Pos} (hN : X.N.Nodup) (hi : X.N[i]? = some x) (hx : Loc X.env.scope x) (he : PE X e (xD X.K xc W f)) (hf : X.fn x = true ∨ X.env.scope.names.lookup x = some .local := by first | exact .inl rfl | exact .inr rfl | assumption) :
    PS X (.AugAssign (.Name x pos') .Sub e pos) (sD X.K xc W (sAug true i f)) := by
  refine PS.imp (ps_aug hN hi hx he ip_sub hf) fun D σ H ⟨ι, s, C, c, r, p⟩ => ?_
  unfold sAug at p
  split at p
  · rename_i a ea
    obtain ⟨u, hu, ru⟩ := r.2 i _ ea
    have := ru.of_int
    subst this
    refine ⟨_, hu, ?_⟩
    refine Dn.stepS c r p fun ι1 H1 C1 v x e1 c1 r1 q1 p1 => ?_
    split at p1
    · rename_i b
      exact ⟨a, b, rfl, q1.of_int, p1 ι1 H1 _ (Ext.refl _ _) c1 (r1.set (.int _) i)⟩
    · exact p1.elim
  · exact p.elim
end
/-! ### a def's own cells are let go at its end -/
mutual
def frz (C : Cs) (n : Nat) : A → Option A
  | .loc k => if k < n then some (.loc k) else match C[k]? with
    | some xs => if xs.all (fun x => match x with | .int _ => true | .str _ => true | .bl _ => true | .non => true | _ => false) then some (.lst xs) else none
    | none => none
  | .tup xs => (frzs C n xs).map .tup
  | .lst xs => (frzs C n xs).map .lst
  | .non => some .non
  | .bl b => some (.bl b)
  | .int i => some (.int i)
  | .str z => some (.str z)
  | .kl xs => (frzs C n xs).map .kl
  | .dk0 => some .dk0
  | .fn n => some (.fn n)
  | .opq v => some (.opq v)
  | .kn v => some (.kn v)
  | .ob c m xs => (frzs C n xs).map (.ob c m)
def frzs (C : Cs) (n : Nat) : List A → Option (List A)
  | [] => some []
  | x :: xs => match frz C n x, frzs C n xs with
    | some y, some ys => some (y :: ys)
    | _, _ => none
end
end FM

/-! own errors with one field, over any built-in error's class -/
namespace PySem
namespace ErX
open PySem.W PySem.Calls PyProof.Rows PySem.HandSPX Builtin Builtin.ObjectAttr
/-- own classes, then the tail -/
def refsT (tl : List Value) : List Value → Bool
  | .ref _ :: r => refsT tl r
  | l => l == tl
structure TailOk (tl : List Value) (B newId initId : String) : Prop where
  F : ExcBaseFacts B newId initId tl
  S : StoreFacts B tl "object.__setattr__" "object"
  ob : tl.contains (.type "object") = true
  ne : tl ≠ []
theorem refsT_cases (tl : List Value) : ∀ l : List Value, refsT tl l = true → (∃ c r, l = .ref c :: r ∧ refsT tl r = true) ∨ l = tl
  | [], e => .inr (beq_iff_eq.mp e)
  | .ref c :: r, e => .inl ⟨c, r, rfl, e⟩
  | .none :: _, e => .inr (beq_iff_eq.mp e)
  | .ellipsis :: _, e => .inr (beq_iff_eq.mp e)
  | .notImplemented :: _, e => .inr (beq_iff_eq.mp e)
  | .bool _ :: _, e => .inr (beq_iff_eq.mp e)
  | .int _ _ :: _, e => .inr (beq_iff_eq.mp e)
  | .float _ _ :: _, e => .inr (beq_iff_eq.mp e)
  | .str _ _ :: _, e => .inr (beq_iff_eq.mp e)
  | .bytes _ _ :: _, e => .inr (beq_iff_eq.mp e)
  | .type _ :: _, e => .inr (beq_iff_eq.mp e)
  | .builtin _ :: _, e => .inr (beq_iff_eq.mp e)
section
variable {tl : List Value} {B newId initId : String}
theorem refsT_pass (T : TailOk tl B newId initId) (self : Value) : ∀ l : List Value, refsT tl l = true → refuseLoop self "__setattr__" l = pure () := by
  intro l
  induction l with
  | nil =>
    intro e
    rcases refsT_cases tl [] e with ⟨c, r', q, h⟩ | q
    · cases q
    · exact absurd q.symm T.ne
  | cons a r ih =>
    intro e
    rcases refsT_cases tl (a :: r) e with ⟨c, r', q, h⟩ | q
    · obtain ⟨rfl, rfl⟩ := List.cons.inj q
      rw [refuseLoop_ref]; exact ih h
    · rw [q]; exact T.S.passes self
theorem refsT_contains (T : TailOk tl B newId initId) (X : String) : ∀ l : List Value, refsT tl l = true → l.contains (.type X) = tl.contains (.type X) := by
  intro l
  induction l with
  | nil =>
    intro e
    rcases refsT_cases tl [] e with ⟨c, r', q, h⟩ | q
    · cases q
    · exact absurd q.symm T.ne
  | cons a r ih =>
    intro e
    rcases refsT_cases tl (a :: r) e with ⟨c, r', q, h⟩ | q
    · obtain ⟨rfl, rfl⟩ := List.cons.inj q
      rw [List.contains_cons, ih h]; rfl
    · rw [q]
theorem refsT_ne (T : TailOk tl B newId initId) {l : List Value} (e : refsT tl l = true) : l.isEmpty = false := by
  cases l with
  | nil =>
    rcases refsT_cases tl [] e with ⟨c, r', q, h⟩ | q
    · cases q
    · exact absurd q.symm T.ne
  | cons _ _ => rfl
end
section
variable {prog : Program} {w : World} {A : Around} {E : Value → Shared → Prop} {R : Result → Shared → Prop} {hp : Heap} {g : Array GenState} {d : Drawn} {t : Nat} {os : OsState} {tl : List Value} {B newId initId : String}
theorem exc_osaT (TT : TailOk tl B newId initId) {K : W.Frag} {name : Str} {tk : Tok} {v : Value} {x C : Addr} {fv : Array Value} {cd : ClassData}
    (X : K.In hp) (hx : hp.get? x = some { cls := .ref C, data := .fields fv }) (hcd : W.clsIn K C = some cd) (hm : refsT tl cd.mro = true) (hh : cd.hasDict = true) (ha : W.findIn K (.ref C) name = some none)
    (hq : ∀ h' tk' dx, (∀ b o, b ≠ x → hp.get? b = some o → h'.get? b = some o) → hp.objs.size ≤ dx → dx ≠ x → h'.get? x = some { cls := .ref C, dict := some dx, data := .fields fv } →
      h'.Ns1 dx (fun y => if y = name then some v else none) → R (.ok (.ret .none)) ⟨h', g, d, tk', os⟩) :
    codeAny (model prog w) A (.call (.builtin "object.__setattr__") ⟨[.ref x, .str name tk, v], []⟩) R ⟨hp, g, d, t, os⟩ := by
  have I : W.InstAt hp x { cls := .ref C, data := .fields fv } C none := ⟨hx, rfl, rfl, trivial⟩
  have SF := F.store_object
  have ne := refsT_ne TT hm
  have hob : cd.mro.contains (.type "object") = true := (refsT_contains TT "object" _ hm).trans TT.ob
  have hxs : x ≠ hp.objs.size := Nat.ne_of_lt (Heap.lt_size hx)
  have sub : W.Looks (model prog w) hp (isInstance (.ref x) (.type "object")) true := I.type.andThen (W.looks_mroIn X (by unfold W.mroIn; rw [hcd, Option.bind_some, if_neg (by rw [ne]; decide), hob]))
  refine codeAny_call_builtin SF.slot.plain SF.entry (@W.check_slot (model prog w) _ _ ⟨hp, g, d, t, os⟩ "object.__setattr__" "object" "__setattr__" (.ref x) [.str name tk, v] [] _ SF.kind SF.split sub (SF.args (.ref x) (.str name tk) v) ?_)
  have hmr : W.Looks (model prog w) hp (mroOf (.ref C)) cd.mro := (W.looks_clsIn X hcd).andThen .now
  have L3 : W.Looks (model prog w) hp (storeTaker? none) none := .now
  have hcls : W.Looks (model prog w) hp (classData C) cd := W.looks_clsIn X hcd
  rw [W.osa_eq, refuse_eq]
  refine wpAny_bind (wpAny_bind (I.type.at (wpAny_bind (hmr.at ?_))))
  rw [refsT_pass TT _ _ hm]
  refine wpAny_pure (wpAny_bind (I.type.at (wpAny_bind ((W.looks_findIn X ha).at (wpAny_bind (L3.at ?_))))))
  show wpAny _ _ (storeInOwnDict (.ref x) (.ref C) (.str name tk) name v false) _ _ _
  obtain ⟨nm, bs, mro, ns, qn, hd, sn, sb, ab, col, del⟩ := cd
  dsimp only at hh
  subst hh
  unfold storeInOwnDict ownDictForStores
  repeat (first | with_reducible refine store_in_new ?_ ?_ | with_reducible refine wpAny_loadPart_at hx ?_ | with_reducible refine hcls.at ?_ | wp_step)
  · exact ⟨_, #[], _, (Heap.get?_update_ne _ _ _ _ hxs.symm).trans (Heap.get?_push_at rfl rfl), rfl, fun e he => absurd he (by simp), fun _ => rfl⟩
  · intro h' tk' hn' hs
    have hx₁ : (hp.push { cls := .type "dict", data := .dict #[] }).get? x = some { cls := .ref C, data := .fields fv } := Heap.get?_push_of_some _ hx
    refine hq h' tk' hp.objs.size (fun b o hb ho => ?_) (Nat.le_refl _) hxs.symm ?_ hn'
    · exact (hs.2 b (Nat.ne_of_lt (Heap.lt_size ho))).trans ((Heap.get?_update_ne _ _ _ _ hb).trans (Heap.get?_push_of_some _ ho))
    · exact (hs.2 x hxs).trans (Heap.get?_update_self _ hx₁ rfl)
end
/-! the text of __init__ -/
def iA (f : String) (p1 p2 : Pos) : Arguments := { posonlyargs := [], args := [{ arg := "self", annotation := none, pos := p1 }, { arg := f, annotation := none, pos := p2 }], vararg := none, kwonlyargs := [], kw_defaults := [], kwarg := none, defaults := [] }
def iB (f : String) (q1 q2 q3 q4 : Pos) : List Stmt := [.Assign [.Attribute (.Name "self" q1) f q2] (.Name f q3) q4]
def iS (f : String) : Scope := { kind := .function, names := [(PySem.Str.ofString "self", .local), (PySem.Str.ofString f, .local)], isGenerator := false, isCoroutine := false, more := [] }
/-- what the written part says of the class at C, and of its __init__ at fI -/
structure ErTxt (K : Frag) (mg : Str → Option Value) (nm qual : Str) (f : String) (tl : List Value) (newId : String) (C fI : Addr) : Prop where
  gC : mg nm = some (.ref C)
  cls : ∃ nm' q N bs bm sn sub ab col dd k0 k1 k2 k3 k5, K.lookup C = some (excClassObj nm' q C N bs bm true sn sub ab col dd k0 k1 k2 k3 k5 newId) ∧ refsT tl bm = true
  sa : findIn K (.ref C) "__setattr__" = some (some (.builtin "object.__setattr__"))
  ga : findIn K (.ref C) "__getattribute__" = some (some (.builtin "BaseException.__getattribute__"))
  gg : findIn K (.ref C) "__getattr__" = some none
  noN : findIn K (.ref C) f = some none
  iC : findIn K (.ref C) "__init__" = some (some (.ref fI))
  tC : typeIn K (.ref fI) = some (.type "function")
  kC : keepIn K (.ref C) = true
  exC : subIn K (.ref C) (.type "BaseException") = some true
  tyC : typeIn K (.ref C) = some (.type "type")
  hdC : hasDictIn K C = true
  fn : ∃ (oc : Value) (od : Option Addr) (doc pm : Value) (an : Option Addr) (cdv ct : Value) (osl : Array (Option Value)) (p1 p2 q1 q2 q3 q4 : Pos),
    K.lookup fI = some ⟨oc, od, .func (fnOf "__init__" qual (iA f p1 p2) (iB f q1 q2 q3 q4) (iS f) .none .none doc pm an cdv ct), osl⟩ ∧ codeIn K cdv qual = true
theorem one_size (v : Value) : [v].length ≤ sizeLine := by
  rw [sizeLine_eq]
  exact (by decide : 1 ≤ 16777216)
theorem ldC {M : Model} {s : Shared} {name : Str} {scope : Scope} {L a : Addr} {cd : Value} {m : Str → Option Value} {x : Str} {pos : Pos} {v : Value} {Q : Value → Shared → Prop} {A : Around} {E : Value → Shared → Prop} (hn : s.heap.Ns L m) (hv : m x = some v) (h : Q v s)
    (hk : scope.kind = .function) (hl : (envOfC name scope L a cd).kindOf x = some .local) (hd : (x == ("__debug__" : Str)) = false) :
    wpAny M A (eval (.Name x pos) (envOfC name scope L a cd)) Q E s := wpAny_Name (wpAny_loadName_local hk hl hn hv h) hd
structure InitEnd (f : Str) (h h' : Heap) (x C dx t1 : Addr) (v : Value) : Prop where
  keep : ∀ b o, b ≠ x → h.get? b = some o → h'.get? b = some o
  obj : h'.get? x = some { cls := .ref C, dict := some dx, data := .fields #[.ref t1, .none, .none, .none, .bool false, .none] }
  dbig : h.objs.size ≤ dx
  dne : dx ≠ x
  ns : h'.Ns1 dx (fun y => if y = f then some v else none)
structure OwnMade (f : Str) (h h' : Heap) (e C d : Addr) (v : Value) : Prop where
  keep : ∀ b o, h.get? b = some o → h'.get? b = some o
  new : h.objs.size ≤ e
  obj : ∃ oe vs, h'.get? e = some oe ∧ oe.cls = .ref C ∧ oe.dict = some d ∧ oe.data = .fields vs ∧ vs[1]? = some .none
  dbig : h.objs.size ≤ d
  dne : d ≠ e
  ns : h'.Ns1 d (fun y => if y = f then some v else none)
/-- what is asked of a field's name -/
structure FldOk (f : String) : Prop where
  ne : ((Str.ofString f) == (Str.ofString "self")) = false
  nd : ((Str.ofString f) == (Str.ofString "__debug__")) = false
  bind : ∀ (qual : Str) (p1 p2 q1 q2 q3 q4 : Pos) (doc pm : Value) (an : Option Addr) (cdv ct a b : Value), bindArgs (fnOf "__init__" qual (iA f p1 p2) (iB f q1 q2 q3 q4) (iS f) .none .none doc pm an cdv ct) ⟨[a, b], []⟩ = pure [(Str.ofString "self", a), (Str.ofString f, b)]
  l1 : ∀ (qual : Str) (L fI : Addr) (cdv a b : Value), bindL (envOfC qual (iS f) L fI cdv).kindOf [(Str.ofString "self", a), (Str.ofString f, b)] (fun _ => none) (Str.ofString f) = some b
  l2 : ∀ (qual : Str) (L fI : Addr) (cdv a b : Value), bindL (envOfC qual (iS f) L fI cdv).kindOf [(Str.ofString "self", a), (Str.ofString f, b)] (fun _ => none) (Str.ofString "self") = some a
section
variable {prog : Program} {w : World} {A : Around} {E : Value → Shared → Prop} {R : Result → Shared → Prop} {s : Shared} {K : Frag} {mg : Str → Option Value} {nm qual : Str} {f : String} {tl : List Value} {B newId initId : String} {C fI : Addr}
theorem er_init (TT : TailOk tl B newId initId) (ok : FldOk f) (T : ErTxt K mg nm qual f tl newId C fI) {x t0 : Addr} {v : Value} (X : K.In s.heap) (hlim : s.heap.NoLimit) (hx : s.heap.get? x = some (excO C t0)) (hnx : K.lookup x = none) (hroom : A.depth < recursionLimit)
    (hq : ∀ h' tk dx, InitEnd f s.heap h' x C dx t0 v → R (.ok (.ret .none)) { s with heap := h', toks := tk }) :
    codeAny (model prog w) A (.call (.ref fI) ⟨[.ref x, v], []⟩) R s := by
  obtain ⟨oc, od, doc, pm, an, cdv, ct, osl, p1, p2, q1, q2, q3, q4, ho, hcd⟩ := T.fn
  obtain ⟨nm', q, N, bs, bm, sn, sub, ab, col, dd, k0, k1, k2, k3, k5, hC, hbm⟩ := T.cls
  have hcl : clsIn K C = some { name := nm', bases := bs, mro := .ref C :: bm, ns := N, qualname := q, hasDict := true, slotNames := sn, subclasses := sub, abstract := ab, collection := col, hasDel := false } := by unfold clsIn; rw [hC] <;> rfl
  have ne := ok.ne
  have nsf : (Str.ofString "self" == Str.ofString f) = false := by rw [beq_eq_false_iff_ne] at ne ⊢; exact fun z => ne z.symm
  have lf : (iS f).names.lookup (Str.ofString f) = some .local := by simp [iS, List.lookup, ne]
  have ls : (iS f).names.lookup (Str.ofString "self") = some .local := by simp [iS, List.lookup]
  have nef : ¬ Str.ofString f = Str.ofString "self" := beq_eq_false_iff_ne.mp ne
  refine Att.call_fn (binds := [(Str.ofString "self", .ref x), (Str.ofString f, v)]) X hlim ho hcd hroom (BindsTo.of_eq ?hb) ?hk (fun s₁ IC => ?_) rfl rfl rfl
  case hb => exact ok.bind _ _ _ _ _ _ _ _ _ _ _ _ _ _
  case hk => simp [lf, ls]
  obtain ⟨h₁, tk₁, rfl⟩ := IC.toInCall.same
  have k : ∀ b o, s.heap.get? b = some o → h₁.get? b = some o := IC.toInCall.keep
  have hn := IC.toInCall.ns
  have hxL : s.heap.objs.size ≠ x := Nat.ne_of_gt (Heap.lt_size hx)
  have X₁ : K.In h₁ := X.keeps k
  have hx₁ := k _ _ hx
  have kf : (envOfC qual (iS f) s.heap.objs.size fI cdv).kindOf (Str.ofString f) = some .local := lf
  have ks : (envOfC qual (iS f) s.heap.objs.size fI cdv).kindOf (Str.ofString "self") = some .local := ls
  show wpAny _ _ (execs _ _) _ _ _
  refine wpAny_execs_cons (plainObj_wpAny_Assign_Attribute ?_)
  refine ldC (v := v) hn ?l1 (ldC (v := .ref x) hn ?l2 ?_ rfl ks (by decide)) rfl kf ok.nd
  case l1 => exact ok.l1 _ _ _ _ _ _
  case l2 => exact ok.l2 _ _ _ _ _ _
  refine set_plain X₁ (ox := excO C t0) (od := none) ⟨hx₁, rfl, rfl, trivial⟩ T.sa ?_
  refine exc_osaT TT X₁ hx₁ hcl (show refsT tl (.ref C :: bm) = true from hbm) rfl T.noN (fun h₃ tk₃ dx k₃ dn dne hx₃ hn₃ => ?_)
  show wpAny _ _ (execs _ _) _ _ _
  have z : s.heap.objs.size < h₁.objs.size := hn.lt
  exact wpAny_execs_nil (hq h₃ tk₃ dx ⟨fun b o hb e => k₃ b o hb (k b o e), hx₃, Nat.le_of_lt (Nat.lt_of_lt_of_le z dn), dne, hn₃⟩)
theorem er_made (TT : TailOk tl B newId initId) (ok : FldOk f) (T : ErTxt K mg nm qual f tl newId C fI) {v : Value} (X : K.In s.heap) (hlim : s.heap.NoLimit) (hroom : A.depth + 1 < recursionLimit)
    (hq : ∀ h' tk e d, OwnMade f s.heap h' e C d v → R (.ok (.ret (.ref e))) { s with heap := h', toks := tk }) :
    codeAny (model prog w) A (.call (.ref C) ⟨[v], []⟩) R s := by
  obtain ⟨nm', q, N, bs, bm, sn, sub, ab, col, dd, k0, k1, k2, k3, k5, hC, hbm⟩ := T.cls
  obtain ⟨hp, g, dr, tk, os⟩ := s
  have k : ∀ b o, hp.get? b = some o → ((hp.push (kdv_tup [v])).push (excO C hp.objs.size)).get? b = some o := fun b o e => Heap.get?_push_of_some _ (Heap.get?_push_of_some _ e)
  have hget : ((hp.push (kdv_tup [v])).push (excO C hp.objs.size)).get? (hp.objs.size + 1) = some (excO C hp.objs.size) := by heap_get
  have hnx : K.lookup (hp.objs.size + 1) = none := by
    cases e : K.lookup (hp.objs.size + 1) with
    | none => rfl
    | some o =>
      have z : hp.get? (hp.objs.size + 1) = some o := X _ _ e
      exact absurd (Nat.lt_of_succ_lt (Heap.lt_size z)) (Nat.lt_irrefl _)
  refine call_own TT.F (fun X => refsT_contains TT X bm hbm) (X _ _ hC) (looks_findIn X T.iC) (fun self => bind_fn X self T.tC) (one_size v) ?_
  refine er_init TT ok (s := ⟨(hp.push (kdv_tup [v])).push (excO C hp.objs.size), g, dr, tk, os⟩) T (X.keeps k) (hlim.keeps k) hget hnx ?_ fun h' tk' dx ⟨k', hx, dn, dne, hns⟩ => ?_
  · show A.depth + 1 < recursionLimit
    exact hroom
  · have old : ∀ b o, hp.get? b = some o → h'.get? b = some o := fun b o e => k' b o (Nat.ne_of_lt (Nat.lt_succ_of_lt (Heap.lt_size e))) (k b o e)
    have z : hp.objs.size + 1 + 1 ≤ dx := by
      first
        | (simpa only [Heap.size_push] using dn)
        | exact dn
        | (have q := dn; rw [Heap.size_push, Heap.size_push] at q; exact q)
    exact ⟨rfl, hq h' tk' (hp.objs.size + 1) dx ⟨old, Nat.le_succ _, ⟨_, _, hx, rfl, rfl, rfl, rfl⟩, Nat.le_trans (Nat.le_trans (Nat.le_succ _) (Nat.le_succ _)) z, dne, hns⟩⟩
end
theorem fld_spot : FldOk "spot" := ⟨by decide +kernel, by decide +kernel, by intros; rfl, by intros; rfl, by intros; rfl⟩
theorem fld_given : FldOk "given" := ⟨by decide +kernel, by decide +kernel, by intros; rfl, by intros; rfl, by intros; rfl⟩
theorem fld_limit : FldOk "limit" := ⟨by decide +kernel, by decide +kernel, by intros; rfl, by intros; rfl, by intros; rfl⟩
theorem fld_name : FldOk "name" := ⟨by decide +kernel, by decide +kernel, by intros; rfl, by intros; rfl, by intros; rfl⟩
theorem fld_wanted : FldOk "wanted" := ⟨by decide +kernel, by decide +kernel, by intros; rfl, by intros; rfl, by intros; rfl⟩
theorem fld_reason : FldOk "reason" := ⟨by decide +kernel, by decide +kernel, by intros; rfl, by intros; rfl, by intros; rfl⟩
theorem tail_VE : TailOk [.type "ValueError", .type "Exception", .type "BaseException", .type "object"] "ValueError" "ValueError.__new__" "ValueError.__init__" := ⟨F.excBase_ValueError, F.store_ValueError, by decide +kernel, by simp⟩
theorem tail_IE : TailOk [.type "IndexError", .type "LookupError", .type "Exception", .type "BaseException", .type "object"] "IndexError" "IndexError.__new__" "IndexError.__init__" := ⟨F.excBase_IndexError, F.store_IndexError, by decide +kernel, by simp⟩
theorem tail_OE : TailOk [.type "OverflowError", .type "ArithmeticError", .type "Exception", .type "BaseException", .type "object"] "OverflowError" "OverflowError.__new__" "OverflowError.__init__" := ⟨F.excBase_OverflowError, F.store_OverflowError, by decide +kernel, by simp⟩
theorem tail_RE : TailOk [.type "RuntimeError", .type "Exception", .type "BaseException", .type "object"] "RuntimeError" "RuntimeError.__new__" "RuntimeError.__init__" := ⟨F.excBase_RuntimeError, F.store_RuntimeError, by decide +kernel, by simp⟩
theorem tail_AE : TailOk [.type "ArithmeticError", .type "Exception", .type "BaseException", .type "object"] "ArithmeticError" "ArithmeticError.__new__" "ArithmeticError.__init__" := ⟨F.excBase_ArithmeticError, F.store_ArithmeticError, by decide +kernel, by simp⟩
end ErX
end PySem
namespace FM
open PySem PySem.Spec PyProof.Rows L2 RZ
theorem relO_fld {f : String} {v : V} {v' : Value} (r : RelV v v') (g : Str) : RelO (List.lookup g [(Str.ofString f, v)]) (if g = Str.ofString f then some v' else none) := by
  by_cases hw : g = Str.ofString f
  · subst hw
    rw [if_pos rfl]
    have q : List.lookup (Str.ofString f) [(Str.ofString f, v)] = some v := by simp [List.lookup]
    rw [q]
    exact r
  · rw [if_neg hw]
    have qw : (g == Str.ofString f) = false := by simpa using hw
    have q2 : List.lookup g [(Str.ofString f, v)] = none := by simp [List.lookup, qw]
    rw [q2]
    trivial
section
variable {X : Cx} {C fI : Addr} {nm qual : Str} {f : String} {tl : List Value} {B newId initId : String}
/-- nm(e) -/
def tMkEr (f : String) (C : Addr) (ta : TA) : L2.St → Hp → XK → Prop := fun σ H Q => ta σ H fun vs H1 => ∃ v, vs = [v] ∧ ∀ d, H1 d = none → Q (.ref C) (some d) (upd H1 d (.xd [(Str.ofString f, v)]))
theorem pmk_er {a : Expr} {ta : TA} {p pos : Pos} {k : Nat} (TT : PySem.ErX.TailOk tl B newId initId) (ok : PySem.ErX.FldOk f) (T : PySem.ErX.ErTxt X.K X.mg nm qual f tl newId C fI) (hr : Room k X.A) (ha : PA X [a] ta) (hg : Gl X nm) (hdb : (nm == ("__debug__" : Str)) = false)
    (he : starEach (a :: []) X.env = (false, eval a X.env) :: starEach [] X.env := by rfl) (hpl : (backTo pos (starEach [] X.env)).any (·.1) = false := by rfl) :
    PMk X (.Call (.Name nm p) [a] [] pos) (tMkEr f C ta) := by
  intro pins s σ H Q I h
  refine wpAny_Call_Name_kw (ld_glob I hg T.gC ?_ hdb)
  refine PySem.W.callWith_K (h₀ := X.base) I.ok.mod.kin T.kC (thn (ha.run pos pins s σ H _ I h) fun us s1 hh => ?_) he hpl
  obtain ⟨vs, H1, I1, r1, v, ev, q1⟩ := hh
  subst ev
  refine ⟨I1.kIn, ?_⟩
  cases r1 with
  | cons rv rn =>
    rename_i v' us'
    cases rn
    show wpAny _ _ (call (.ref C) [v']) _ _ _
    have hlim := I1.nolimit
    obtain ⟨hp, g, dr, tk, os⟩ := s1
    refine wpAny_call (PySem.ErX.er_made TT ok T I1.kIn hlim (by have := hr.dp; omega) fun h' tk' e d M => ?_)
    show MkP X pins σ Q (.ref e) ⟨h', g, dr, tk', os⟩
    obtain ⟨oe, fv, hoe, hc, hd, hdat, h1⟩ := M.obj
    have hns := M.ns
    obtain ⟨G', g1, g2⟩ := restrict h' fun b => decide (b ≠ e)
    have gk : ∀ b, b ≠ e → G'.get? b = h'.get? b := fun b hb => g1 b (decide_eq_true hb)
    have ge : G'.get? e = none := g2 e (by simp)
    have old : ∀ b o, hp.get? b = some o → G'.get? b = some o := fun b o q => (gk b (Nat.ne_of_lt (Nat.lt_of_lt_of_le (Heap.lt_size q) M.new))).trans (M.keep b o q)
    have ob : ObjOk X.prog X.w (upd H1 d (.xd [(Str.ofString f, v)])) G' d (.xd [(Str.ofString f, v)]) :=
      ⟨_, hns.at (fun o q => (gk d M.dne).trans q), fun g => relO_fld rv g⟩
    have J : Inv X pins σ (upd H1 d (.xd [(Str.ofString f, v)])) ⟨G', g, dr, tk', os⟩ := I1.laid (t' := tk') old M.dbig ob
    refine ⟨e, oe, fv, ⟨G', g, dr, tk', os⟩, _, .ref C, some d, rfl, J, fun b o q => ?_, ge, hoe, ⟨hc, hd⟩, hdat, h1, ?_, rfl, I1.bare, raises_own T.exC T.tyC, q1 d (I1.hok.fresh M.dbig)⟩
    · by_cases hb : b = e
      · have q' : G'.get? b = some o := q
        rw [hb, ge] at q'; cases q'
      · exact (gk b hb).symm.trans q
    · rw [upd_ne (Ne.symm M.dne)]
      exact I1.hok.fresh M.new
end
/-! ### raise -/
def sRaise0 (n : Nat) : En → Cs → SR := fun s C => .ex n none s C
def sRaise (n : Nat) (f : En → Cs → R A) : En → Cs → SR := fun s C => (f s C).toS s fun v C1 => .ex n (some v) s C1
section
variable {X : Cx} {xc : XC} {W : WX} {pos pos2 p p2 : Pos} {bmB : List Value} {B newId initId : String}
theorem r_raise0 {n : Nat} {x m : Str} {j : Nat} (hc : X.calm = true) (tk : Takes X W) (F : ExcBaseFacts B newId initId bmB) (q : PySem.W.excIn X.K (xc.cl n) bmB newId = true) (gC : X.mg x = some (.ref (xc.cl n))) (kC : PySem.W.keepIn X.K (.ref (xc.cl n)) = true)
    (bC : PySem.W.subIn X.K (.ref (xc.cl n)) (.type "BaseException") = some true) (tC : PySem.W.typeIn X.K (.ref (xc.cl n)) = some (.type "type")) (hg : Gl X x) (hdb : (x == ("__debug__" : Str)) = false := by decide) :
    PS X (.Raise (some (.Call (.Name x p) [.Constant (.str m) j p2] [] pos)) none pos2) (sD X.K xc W (sRaise0 n)) := by
  refine PS.imp (ps_raise hc tk (pmk_own F q gC kC (raises_own bC tC) hg hdb)) fun D σ H ⟨ι, s, C, c, r, pp⟩ => ?_
  exact pp ι H σ none (Ext.refl _ _) c r rfl
theorem r_raise {n : Nat} {nm qual : Str} {f : String} {tl : List Value} {fI : Addr} {a : Expr} {fs : En → Cs → R A} {k : Nat} (hc : X.calm = true) (tk : Takes X W) (TT : PySem.ErX.TailOk tl B newId initId) (ok : PySem.ErX.FldOk f)
    (T : PySem.ErX.ErTxt X.K X.mg nm qual f tl newId (xc.cl n) fI) (hf : xc.fld n = Str.ofString f) (hr : Room k X.A) (ha : PE X a (xD X.K xc W fs)) (hg : Gl X nm) (hdb : (nm == ("__debug__" : Str)) = false := by decide)
    (he : starEach (a :: []) X.env = (false, eval a X.env) :: starEach [] X.env := by rfl) (hpl : (backTo pos (starEach [] X.env)).any (·.1) = false := by rfl) :
    PS X (.Raise (some (.Call (.Name nm p) [a] [] pos)) none pos2) (sD X.K xc W (sRaise n fs)) := by
  refine PS.imp (ps_raise hc tk (pmk_er TT ok T hr (r_aCons ha r_aNil he) hg hdb he hpl)) fun D σ H ⟨ι, s, C, c, r, pp⟩ => ?_
  unfold sRaise at pp
  refine ⟨ι, s, C, c, r, ?_⟩
  unfold aCons aNil
  cases e : fs s C with
  | ok v C1 =>
    rw [e] at pp
    intro ι1 H1 xs e1 c1 q1
    obtain ⟨u, rfl, ru⟩ := q1.one
    refine ⟨u, rfl, fun d hd => ?_⟩
    have e2 := ext_new c1 hd (.xd [(Str.ofString f, u)])
    refine pp ι1 _ σ (some d) (e1.trans e2) (c1.new hd _) ((r.ext e1).ext e2) ⟨d, u, rfl, ?_, ru.ext e2⟩
    rw [hf]
    exact upd_same
  | ex cc p' C1 =>
    rw [e] at pp
    exact fun ι1 H1 d e1 c1 rx => pp ι1 H1 σ d e1 c1 (r.ext e1) rx
  | bad => rw [e] at pp; exact pp
end
end FM

namespace FM
open PySem PySem.Spec PyProof.Rows L2 RZ
abbrev Hnd := Value × Option Nat × (Addr → Value → Option Addr → TS)
/-- several except clauses, with names or without -/
def wManyA (K : PySem.W.Frag) (Wout : WX) (D : Ends) : List Hnd → WX
  | [] => Wout
  | (c, none, ts) :: r => fun cls d σ H => ∃ b, PySem.W.exmOne K cls c = some b ∧ (b = true → ∀ a, H a = none → ts a cls d D σ H) ∧ (b = false → wManyA K Wout D r cls d σ H)
  | (c, some i, ts) :: r => fun cls d σ H => ∃ b, PySem.W.exmOne K cls c = some b ∧
      (b = true → ∀ a, H a = none → ts a cls d { nx := fun σ' H' => D.nx (σ'.set i none) H', rt := D.rt, bk := fun σ' H' => D.bk (σ'.set i none) H', ct := fun σ' H' => D.ct (σ'.set i none) H' } (σ.set i (some (.ref a))) H) ∧ (b = false → wManyA K Wout D r cls d σ H)
inductive HdsA (X : Cx) : List ExceptHandler → List Hnd → Prop
  | nil : HdsA X [] []
  | cons {x : Str} {c : Value} {ts : Addr → Value → Option Addr → TS} {b₀ : Stmt} {suite : List Stmt} {np pos' : Pos} {hds : List ExceptHandler} {l : List Hnd} (hc : Names X x c)
      (hsu : ∀ (a : Addr) (oe : Obj) (cls : Value) (d : Option Addr) (pn : List (Addr × Obj)), Zc cls d oe → (∃ vs, oe.data = .fields vs) → PSs (X.suite a ((a, oe) :: pn)) (b₀ :: suite) (ts a cls d)) (r : HdsA X hds l) :
      HdsA X (.ExceptHandler (some (.Name x np)) none (b₀ :: suite) pos' :: hds) ((c, none, ts) :: l)
  | as {x n : Str} {i : Nat} {c : Value} {ts : Addr → Value → Option Addr → TS} {b₀ : Stmt} {suite : List Stmt} {np pos' : Pos} {hds : List ExceptHandler} {l : List Hnd} (hN : X.N.Nodup) (hi : X.N[i]? = some n) (hln : X.env.kindOf n = some .local) (hc : Names X x c)
      (hsu : ∀ (a : Addr) (oe : Obj) (cls : Value) (d : Option Addr) (pn : List (Addr × Obj)), Zc cls d oe → (∃ vs, oe.data = .fields vs) → PSs (X.suite a ((a, oe) :: pn)) (b₀ :: suite) (ts a cls d)) (r : HdsA X hds l) :
      HdsA X (.ExceptHandler (some (.Name x np)) (some n) (b₀ :: suite) pos' :: hds) ((c, some i, ts) :: l)
section
variable {X : Cx} {body : List Stmt} {h₀ : ExceptHandler} {hds : List ExceptHandler} {l : List Hnd} {pos : Pos} {tb : WX → TS} {Wout : WX}
theorem ps_try_manyA (hs : X.stack = X.env :: X.outer) (hf : X.env.frame = some X.env.locals) (tk : Takes X Wout)
    (hb : ∀ (W : WX) (pn : List (Addr × Obj)) (xe : Value → Shared → Prop), Takes (X.tr pn xe) W → PassesOwn (model X.prog X.w) X.A X.env xe → PSs (X.tr pn xe) body (tb W))
    (hh : HdsA X (h₀ :: hds) l) : PS X (.Try body (h₀ :: hds) [] [] pos) (fun D σ H => tb (wManyA X.K Wout D l) D σ H) := by
  refine ⟨fun pins s σ H D I h => ?_⟩
  have ok := I.ok
  have hfr : X.A.frames = some (X.env :: X.outer) := by rw [ok.frames, hs]
  refine wpAny_Try_except ?_
  refine wpAny_mono ((hb (wManyA X.K Wout D l) (X.pn ++ pins) (fun e s₁ => wpAny (model X.prog X.w) X.A (noteFrame e X.env) (fun _ s₂ => wpAny (model X.prog X.w) X.A (setFlight e none) (fun _ s₃ =>
    wpAny (model X.prog X.w) X.A (handleBy e X.env (h₀ :: hds)) (SP X pins D) X.xe s₃) X.xe s₂) X.xe s₁) (fun u s' xx => ?_) PassesOwn.looking).run [] s σ H D (I.toTry _) h) (fun f s1 hsp => ?_) (fun e s1 he => he)
  · obtain ⟨a, B, sI, pins', σ', H', cls, d, rfl, J', nb, up, sky, na, os, ag, w⟩ := xx
    have J : Inv X pins σ' H' sI := J'.ofTry ok
    have sky' : Sky B (X.env :: X.outer) a (Zc cls d) X.env.locals s'.heap := by rw [← hs]; exact sky
    show wpAny (model X.prog X.w) X.A (noteFrame (.ref a) X.env) _ _ _
    refine Sky.land Zc.steady hfr hf sky' fun h3 fl3 up3 => ?_
    have J3 : Inv X pins σ' H' { s' with heap := h3 } := J.landed nb fl3.1 (up.trans up3) os ag
    obtain ⟨oe3, vs3, he3, hz3, hd3⟩ := fl3.there
    have notFr : ∀ {h : Heap} {o : Obj} {vs : Array Value}, h.FunFrames B (X.env :: X.outer) → h.get? a = some o → o.data = .fields vs → a ∉ frs (X.env :: X.outer) := fun {h o vs} ff e dd hm => by
      obtain ⟨_, o', e', hnf⟩ := ff.mem hm
      rw [e] at e'; cases e'
      exact hnf _ dd
    have nfr := notFr fl3.2.2.1 he3 hd3
    have nL : a ≠ X.env.locals := fun z => nfr (List.mem_filterMap.mpr ⟨X.env, List.mem_cons_self, by rw [hf, z]⟩)
    have nF : a ∉ X.fs := fun hm => by
      obtain ⟨e, he, q⟩ := List.mem_filterMap.mp hm
      exact nfr (List.mem_filterMap.mpr ⟨e, List.mem_cons_of_mem _ he, q⟩)
    have S3 := J3.suite he3 hd3 na nL nF
    have LT : PySem.W.Looks (model X.prog X.w) h3 (typeOf (.ref a)) cls := fun A Q E s k q => wpAny_typeOf_ref (k _ _ he3) (by rw [hz3.1]; exact q)
    have test : ∀ {x : Str} {c : Value} {np : Pos}, Names X x c → ∀ {Q : Value → Shared → Prop} {E : Value → Shared → Prop}, Q c { s' with heap := h3 } → wpAny (model X.prog X.w) (X.A.mark (some (.ref a))) (eval (.Name x np) X.env) Q E { s' with heap := h3 } := fun {x c np} hc {Q E} q => by
      obtain ⟨hg, hdbg, hm | ⟨hm, hv, hnn⟩⟩ := hc
      · exact ld_glob (X := X.suite a ((a, oe3) :: (X.pn ++ pins))) S3 hg hm q hdbg
      · exact ld_blt (X := X.suite a ((a, oe3) :: (X.pn ++ pins))) S3 hg hm hv q hnn hdbg
    have go : ∀ {hds' : List ExceptHandler} {l' : List Hnd}, HdsA X hds' l' → wManyA X.K Wout D l' cls d σ' H' →
        wpAny (model X.prog X.w) X.A (handleBy (.ref a) X.env hds') (SP X pins D) X.xe { s' with heap := h3 } := by
      intro hds' l' hk
      induction hk with
      | nil =>
        intro w
        refine wpAny_handleBy_nil ?_
        obtain ⟨k1, k2, k3, oe, vs, T, oT, ts', he, hz, hd, h1, hr⟩ := id fl3
        unfold PySem.passOn
        refine wpAny_bind (wpAny_field he hd h1 ?_)
        rw [if_neg (show ¬ ((Value.ref T == Value.none) = true) from by simp)]
        have fin : wpAny (model X.prog X.w) X.A (setFlight (.ref a) X.env.frame) (fun _ s4 => wpAny (model X.prog X.w) X.A (throw (.ref a) : Sem Flow) (SP X pins D) X.xe s4) X.xe { s' with heap := h3 } := by
          rw [hf]
          refine HandSPX.setFlight_upZ fl3 fun h4 hh4 up4 => wpAny_throw (tk _ _ ?_)
          exact ⟨a, B, sI, pins, σ', H', cls, d, rfl, J, nb, (up.trans up3).trans up4, .inr (.inr (by rw [hs]; exact hh4)), na, os, ag, w⟩
        first
          | exact wpAny_bind (wpAny_pure (wpAny_bind fin))
          | exact wpAny_bind fin
      | @cons x c ts b₀ suite np pos' hds2 l2 hc hsu r ih =>
        intro w
        obtain ⟨b, hb1, hyes, hno⟩ := w
        refine wpAny_handleBy_cons (codeAny_handlers_test ?_) (by intro q; cases q)
        have LM := PySem.W.exm_one (M := model X.prog X.w) (J3.kIn) LT hb1
        refine test hc (LM.here ?_)
        cases b with
        | true =>
          refine codeAny_handlers_suite ?_
          refine HandSPX.lands_againZ fl3 fun h4 fl4 up4 => ?_
          have J4 : Inv X pins σ' H' { s' with heap := h4 } := J.landed nb fl4.1 ((up.trans up3).trans up4) os ag
          obtain ⟨oe4, vs4, he4, hz4, hd4⟩ := fl4.there
          have S4 := J4.suite he4 hd4 na nL nF
          refine wpAny_mono ((hsu a oe4 cls d (X.pn ++ pins) hz4 ⟨_, hd4⟩).run [] _ _ H' _ S4 (hyes rfl a na)) (fun f s6 hsp => ?_) (fun _ _ z => False.elim z)
          cases f with
          | next =>
            obtain ⟨σ6, H6, S6, q6⟩ := hsp
            exact ⟨_, _, S6.unsuite ok, q6⟩
          | brk =>
            obtain ⟨σ6, H6, S6, q6⟩ := hsp
            exact ⟨_, _, S6.unsuite ok, q6⟩
          | cont =>
            obtain ⟨σ6, H6, S6, q6⟩ := hsp
            exact ⟨_, _, S6.unsuite ok, q6⟩
          | ret u =>
            obtain ⟨v6, σ6, H6, S6, r6, q6⟩ := hsp
            exact ⟨_, _, _, S6.unsuite ok, r6, q6⟩
        | false =>
          show wpAny _ X.A (handleBy (.ref a) X.env hds2) _ _ _
          exact ih (hno rfl)
      | @as x n i c ts b₀ suite np pos' hds2 l2 hN hi hln hc hsu r ih =>
        intro w
        obtain ⟨b, hb1, hyes, hno⟩ := w
        have hloc : Loc X.env.scope n := .inl hln
        refine wpAny_handleBy_cons (codeAny_handlers_test ?_) (by intro q; cases q)
        have LM := PySem.W.exm_one (M := model X.prog X.w) (J3.kIn) LT hb1
        refine test hc (LM.here ?_)
        cases b with
        | true =>
          refine codeAny_handlers_suite_as ?_
          refine HandSPX.lands_againZ fl3 fun h4 fl4 up4 => ?_
          have J4 : Inv X pins σ' H' { s' with heap := h4 } := J.landed nb fl4.1 ((up.trans up3).trans up4) os ag
          obtain ⟨oe4, vs4, he4, hz4, hd4⟩ := fl4.there
          have S4 := J4.suite he4 hd4 na nL nF
          refine store_ok (X := X.suite a ((a, oe4) :: (X.pn ++ pins))) (v := .ref a) S4 hN hi hloc rfl (fun s5 S5 => ?_) (.inr hln)
          refine wpAny_mono ((hsu a oe4 cls d (X.pn ++ pins) hz4 ⟨_, hd4⟩).run [] s5 _ H' _ S5 (hyes rfl a na)) (fun f s6 hsp => ?_) (fun _ _ z => False.elim z)
          have end_ : ∀ {σ6 : L2.St} {H6 : Hp} {Q : Shared → Prop}, Inv (X.suite a ((a, oe4) :: (X.pn ++ pins))) [] σ6 H6 s6 → (∀ s7, Inv X pins (σ6.set i none) H6 s7 → Q s7) →
              wpAny (model X.prog X.w) X.A (do bindName X.env n .none; unbindBehindTheSuite X.env n pos') (fun _ s7 => Q s7) X.xe s6 := fun {σ6 H6 Q} S6 hq => gone_ok (S6.unsuite ok) hN hi hln hq
          cases f with
          | next =>
            obtain ⟨σ6, H6, S6, q6⟩ := hsp
            exact end_ S6 fun s7 J7 => ⟨_, _, J7, q6⟩
          | brk =>
            obtain ⟨σ6, H6, S6, q6⟩ := hsp
            exact end_ S6 fun s7 J7 => ⟨_, _, J7, q6⟩
          | cont =>
            obtain ⟨σ6, H6, S6, q6⟩ := hsp
            exact end_ S6 fun s7 J7 => ⟨_, _, J7, q6⟩
          | ret u =>
            obtain ⟨v6, σ6, H6, S6, r6, q6⟩ := hsp
            exact end_ S6 fun s7 J7 => ⟨_, _, _, J7, r6, q6⟩
        | false =>
          show wpAny _ X.A (handleBy (.ref a) X.env hds2) _ _ _
          exact ih (hno rfl)
    exact go hh w
  · cases f with
    | next =>
      obtain ⟨σ', H', J', q⟩ := hsp
      exact wpAny_execs_nil ⟨σ', H', J'.ofTry ok, q⟩
    | brk =>
      obtain ⟨σ', H', J', q⟩ := hsp
      exact ⟨σ', H', J'.ofTry ok, q⟩
    | cont =>
      obtain ⟨σ', H', J', q⟩ := hsp
      exact ⟨σ', H', J'.ofTry ok, q⟩
    | ret u =>
      obtain ⟨v, σ', H', J', r, q⟩ := hsp
      exact ⟨v, σ', H', J'.ofTry ok, r, q⟩
end
end FM

namespace FM
open PySem PySem.Spec PyProof.Rows L2 RZ
/-- nothing is known of what stays -/
def XC.Plain (xc : XC) : Prop := ∀ T fa kp pv, xc.G T fa kp pv → kp = [] ∧ pv = []
/-- within an except suite: the error at a, of the class c, with the field p in the dict d -/
def xcS (xc : XC) (a : Addr) (c : Nat) (p : Option A) (d : Option Addr) : XC := { xc with G := fun _ _ kp pv => pv[0]? = some (.opq (.ref a), .ref a) ∧ (match p with
  | none => True
  | some pl => ∃ dd v, d = some dd ∧ (dd, HO.xd [(xc.fld c, v)]) ∈ kp ∧ (pl, v) ∈ pv) }
mutual
def noKn : A → Bool
  | .kn _ => false
  | .tup xs => noKns xs
  | .lst xs => noKns xs
  | .kl xs => noKns xs
  | .ob _ _ xs => noKns xs
  | _ => true
def noKns : List A → Bool
  | [] => true
  | x :: xs => noKn x && noKns xs
end
section
variable {K : PySem.W.Frag} {cs : List Addr} {fx fx' : Fx} {H : Hp}
mutual
theorem Rp.drop (hh : fx'.hd = fx.hd) (hfa : fx'.fa = fx.fa) : ∀ {x : A} {v : V}, noKn x = true → Rp K ⟨cs, fx⟩ H x v → Rp K ⟨cs, fx'⟩ H x v
  | _, _, _, .non => .non
  | _, _, _, .bl b => .bl b
  | _, _, _, .int i => .int i
  | _, _, _, .str x => .str x
  | _, _, k, .tup f r => .tup (by
      obtain ⟨h, n⟩ := f
      exact ⟨h, n.1, by show _ ∉ fx'.hd; rw [hh]; exact n.2⟩) (Rps.dropK hh hfa (by simpa [noKn] using k) r)
  | _, _, k, .lst h n r => .lst h ⟨n.1, by show _ ∉ fx'.hd; rw [hh]; exact n.2⟩ (Rps.dropK hh hfa (by simpa [noKn] using k) r)
  | _, _, k, .kl f r => .kl (by
      rcases f with ⟨h, n⟩ | h
      · exact .inl ⟨h, n.1, by show _ ∉ fx'.hd; rw [hh]; exact n.2⟩
      · exact .inr h) (Rps.dropK hh hfa (by simpa [noKn] using k) r)
  | _, _, _, .dk0 h n => .dk0 h ⟨n.1, by show _ ∉ fx'.hd; rw [hh]; exact n.2⟩
  | _, _, _, .fn n => by
    have q : Rp K ⟨cs, fx'⟩ H (.fn n) (.ref (fx'.fa n)) := .fn n
    rw [hfa] at q
    exact q
  | _, _, _, .loc h => .loc h
  | _, _, _, .opq v => .opq v
  | _, _, k, .kn h => by simp [noKn] at k
  | _, _, k, .ob h n l r => .ob (by
      have e : ∀ c, (⟨cs, fx'⟩ : Lay).fx.fa c = fx.fa c := fun c => congrFun hfa c
      rw [e]; exact h) ⟨n.1, by show _ ∉ fx'.hd; rw [hh]; exact n.2⟩ l (Rps.dropK hh hfa (by simpa [noKn] using k) r)
theorem Rps.dropK (hh : fx'.hd = fx.hd) (hfa : fx'.fa = fx.fa) : ∀ {xs : List A} {vs : List V}, noKns xs = true → Rps K ⟨cs, fx⟩ H xs vs → Rps K ⟨cs, fx'⟩ H xs vs
  | _, _, _, .nil => .nil
  | _, _, k, .cons r t => by
    simp only [noKns, Bool.and_eq_true] at k
    exact .cons (Rp.drop hh hfa k.1 r) (Rps.dropK hh hfa k.2 t)
end
end
/-! ### try: body, except X as e: return .. -/
/-- a clause: the class, the slot of its name, what its suite returns by the class and the field -/
abbrev FH := Nat × Option Nat × (Nat → Option A → En → Cs → R A)
def handleF (sub : Nat → Nat → Bool) (N : Nat) : List FH → Nat → Option A → En → Cs → SR
  | [], c, p, s, C => .ex c p s C
  | (h, o, g) :: r, c, p, s, C => if c < N then
      (if sub c h = true then (match g c p (match o with | none => s | some i => s.set i (some (.kn 0))) C with
        | .ok v C1 => if (noKn v && C1.all noKns) = true then .rt v C1 else .bad
        | _ => .bad) else handleF sub N r c p s C) else .bad
def sTry (sub : Nat → Nat → Bool) (N : Nat) (body : En → Cs → SR) (hs : List FH) : En → Cs → SR := fun s C => match body s C with
  | .ex c p s1 C1 => handleF sub N hs c p s1 C1
  | r => r
inductive HdsD (X : Cx) (xc : XC) : List ExceptHandler → List FH → Prop
  | nil : HdsD X xc [] []
  | cons {x : Str} {h : Nat} {g : Nat → Option A → En → Cs → R A} {e : Expr} {np pos' p2 : Pos} {hds : List ExceptHandler} {l : List FH} (hc : Names X x (.ref (xc.cl h)))
      (hsu : ∀ (a : Addr) (oe : Obj) (d : Option Addr) (pn : List (Addr × Obj)) (c : Nat) (p : Option A), Zc (.ref (xc.cl c)) d oe → (∃ vs, oe.data = .fields vs) → PE (X.suite a ((a, oe) :: pn)) e (xD X.K (xcS xc a c p d) (fun _ _ _ _ => False) (g c p))) (r : HdsD X xc hds l) :
      HdsD X xc (.ExceptHandler (some (.Name x np)) none [.Return (some e) p2] pos' :: hds) ((h, none, g) :: l)
  | as {x n : Str} {i : Nat} {h : Nat} {g : Nat → Option A → En → Cs → R A} {e : Expr} {np pos' p2 : Pos} {hds : List ExceptHandler} {l : List FH} (hN : X.N.Nodup) (hi : X.N[i]? = some n) (hln : X.env.kindOf n = some .local) (hc : Names X x (.ref (xc.cl h)))
      (hsu : ∀ (a : Addr) (oe : Obj) (d : Option Addr) (pn : List (Addr × Obj)) (c : Nat) (p : Option A), Zc (.ref (xc.cl c)) d oe → (∃ vs, oe.data = .fields vs) → PE (X.suite a ((a, oe) :: pn)) e (xD X.K (xcS xc a c p d) (fun _ _ _ _ => False) (g c p))) (r : HdsD X xc hds l) :
      HdsD X xc (.ExceptHandler (some (.Name x np)) (some n) [.Return (some e) p2] pos' :: hds) ((h, some i, g) :: l)
/-- the suite's reading -/
def suR (K : PySem.W.Frag) (xc : XC) (g : Nat → Option A → En → Cs → R A) : Addr → Value → Option Addr → TS := fun a cls d D σ H => ∃ c p, cls = .ref (xc.cl c) ∧ xD K (xcS xc a c p d) (fun _ _ _ _ => False) (g c p) σ H D.rt
section
variable {X : Cx} {xc : XC} {W : WX} {pos : Pos}
def hndOf (K : PySem.W.Frag) (xc : XC) (l : List FH) : List Hnd := l.map fun f => (.ref (xc.cl f.1), f.2.1, suR K xc f.2.2)
theorem HdsD.toA {hds : List ExceptHandler} {l : List FH} (h : HdsD X xc hds l) : HdsA X hds (hndOf X.K xc l) := by
  have su : ∀ {g : Nat → Option A → En → Cs → R A} {e : Expr} {p2 : Pos}, (∀ (a : Addr) (oe : Obj) (d : Option Addr) (pn : List (Addr × Obj)) (c : Nat) (p : Option A), Zc (.ref (xc.cl c)) d oe → (∃ vs, oe.data = .fields vs) → PE (X.suite a ((a, oe) :: pn)) e (xD X.K (xcS xc a c p d) (fun _ _ _ _ => False) (g c p))) →
      ∀ (a : Addr) (oe : Obj) (cls : Value) (d : Option Addr) (pn : List (Addr × Obj)), Zc cls d oe → (∃ vs, oe.data = .fields vs) → PSs (X.suite a ((a, oe) :: pn)) [.Return (some e) p2] (suR X.K xc g a cls d) := fun {g e p2} hsu a oe cls d pn hz hf => by
    refine ⟨fun pins s σ H D I ⟨c, p, ec, h⟩ => ?_⟩
    subst ec
    exact (pss_one (ps_ret (hsu a oe d pn c p hz hf))).run pins s σ H D I h
  induction h with
  | nil => exact .nil
  | cons hc hsu r ih => exact .cons hc (su hsu) ih
  | as hN hi hln hc hsu r ih => exact .as hN hi hln hc (su hsu) ih
theorem RX.none_or {K : PySem.W.Frag} {ι : Lay} {H : Hp} {c : Nat} {p : Option A} {d : Option Addr} (r : RX K xc ι H c p d) : (p = none ∧ d = none) ∨ ∃ pl dx v, p = some pl ∧ d = some dx ∧ H dx = some (.xd [(xc.fld c, v)]) ∧ Rp K ι H pl v := by
  cases p with
  | none => exact .inl ⟨rfl, r⟩
  | some pl =>
    obtain ⟨dx, v, h1, h2, h3⟩ := r
    exact .inr ⟨pl, dx, v, rfl, h1, h2, h3⟩
/-- the suite is entered: the error and its field are known from now on -/
theorem enter_su {K : PySem.W.Frag} {ι : Lay} {H : Hp} {c : Nat} {p : Option A} {d : Option Addr} {C : Cs} {s : En} {σ : L2.St} (hP : xc.Plain) (k : RC K xc ι H C) (r : RS K ι H s σ) (rx : RX K xc ι H c p d) (a : Addr) :
    ∃ fx' : Fx, fx'.hd = ι.fx.hd ∧ fx'.T = ι.fx.T ∧ fx'.fa = ι.fx.fa ∧ RC K (xcS xc a c p d) ⟨ι.cs, fx'⟩ H C ∧ RS K ⟨ι.cs, fx'⟩ H s σ ∧ fx'.pv[0]? = some (.opq (.ref a), .ref a) := by
  obtain ⟨kp0, pv0⟩ := hP _ _ _ _ k.g
  have cellN : ∀ {dx : Addr} {v : V}, H dx = some (.xd [(xc.fld c, v)]) → dx ∉ ι.cs ∧ dx ∉ ι.hd := fun {dx v} h => by
    refine ⟨fun m => ?_, fun m => ?_⟩
    · obtain ⟨n, hn, e⟩ := List.mem_iff_getElem.mp m
      have hn' : n < C.length := by rw [← k.len]; exact hn
      obtain ⟨vs, q, _⟩ := k.at_ n C[n] dx (by simp) (by rw [List.getElem?_eq_getElem hn, e])
      rw [h] at q; cases q
    · obtain ⟨_, vs, q, ho⟩ := k.side.hid dx m
      rw [h] at q; cases q; cases ho
  have mvN : ∀ fx' : Fx, fx'.hd = ι.fx.hd → fx'.fa = ι.fx.fa → Mv ι H ⟨ι.cs, fx'⟩ H := fun fx' hh hfa => ⟨⟨[], by simp⟩, fun n q h => by rw [pv0] at h; simp at h, hfa, fun b o h _ n => ⟨h, n.1, by show b ∉ fx'.hd; rw [hh]; exact n.2⟩⟩
  rcases rx.none_or with ⟨rfl, rfl⟩ | ⟨pl, dx, v, rfl, rfl, h2, h3⟩
  · let fx' : Fx := ⟨ι.fx.hd, ι.fx.T, [], [(.opq (.ref a), .ref a)], ι.fx.fa⟩
    have m := mvN fx' rfl rfl
    refine ⟨fx', rfl, rfl, rfl, ⟨k.len, k.nd, fun n xs b h1 h2 => let ⟨vs, q, rr⟩ := k.at_ n xs b h1 h2; ⟨vs, q, rr.mv m⟩, ⟨k.side.hid, k.side.tabs, fun p hp => absurd hp (by simp [fx']), fun p hp => ?_⟩, ⟨rfl, trivial⟩⟩, r.mv m, rfl⟩
    have e : p = (.opq (.ref a), .ref a) := by simpa [fx'] using hp
    subst e
    exact .opq _
  · let fx' : Fx := ⟨ι.fx.hd, ι.fx.T, [(dx, .xd [(xc.fld c, v)])], [(.opq (.ref a), .ref a), (pl, v)], ι.fx.fa⟩
    have m := mvN fx' rfl rfl
    refine ⟨fx', rfl, rfl, rfl, ⟨k.len, k.nd, fun n xs b h1 h2 => let ⟨vs, q, rr⟩ := k.at_ n xs b h1 h2; ⟨vs, q, rr.mv m⟩, ⟨k.side.hid, k.side.tabs, fun p hp => ?_, fun p hp => ?_⟩, ⟨rfl, dx, v, rfl, by simp [fx'], by simp [fx']⟩⟩, r.mv m, rfl⟩
    · have e : p = (dx, .xd [(xc.fld c, v)]) := by simpa [fx'] using hp
      subst e
      exact ⟨h2, (cellN h2).1, (fun ps z => by cases z), (cellN h2).2⟩
    · have e : p = (.opq (.ref a), .ref a) ∨ p = (pl, v) := by simpa [fx'] using hp
      rcases e with e | e
      · subst e; exact .opq _
      · subst e; exact h3.mv m
/-- .. and left with a plain value -/
theorem leave_su {K : PySem.W.Frag} {ι ι3 : Lay} {fx' : Fx} {H H3 : Hp} {c : Nat} {p : Option A} {d : Option Addr} {a : Addr} {C C3 : Cs} {v : A} {x : V} (hP : xc.Plain) (k : RC K xc ι H C) (hd : fx'.hd = ι.fx.hd) (hT : fx'.T = ι.fx.T) (hfa : fx'.fa = ι.fx.fa) (e : Ext ⟨ι.cs, fx'⟩ H ι3 H3) (k3 : RC K (xcS xc a c p d) ι3 H3 C3) (r : Rp K ι3 H3 v x)
    (n1 : noKn v = true) (n2 : C3.all noKns = true) : Ext ι H ⟨ι3.cs, ι.fx⟩ H3 ∧ RC K xc ⟨ι3.cs, ι.fx⟩ H3 C3 ∧ Rp K ⟨ι3.cs, ι.fx⟩ H3 v x := by
  obtain ⟨kp0, pv0⟩ := hP _ _ _ _ k.g
  have f3 : ι3.fx = fx' := e.fx
  have hh : ι.fx.hd = ι3.fx.hd := by rw [f3, hd]
  have tb : LamX.Tabs ι.fx.T H3 := by
    have := k3.side.tabs
    rw [f3, hT] at this
    exact this
  obtain ⟨cs3, fx3⟩ := ι3
  simp only at f3 hh
  subst f3
  refine ⟨⟨e.pre, rfl, e.keep, fun _ => tb⟩, ⟨k3.len, k3.nd, fun n xs b h1 h2 => ?_, ⟨fun b hb => k3.side.hid b (by show b ∈ fx3.hd; rw [← hh]; exact hb), tb, fun p hp => ?_, fun p hp => ?_⟩, k.g⟩, Rp.drop hh hfa.symm n1 r⟩
  · obtain ⟨vs, q, rr⟩ := k3.at_ n xs b h1 h2
    exact ⟨vs, q, Rps.dropK hh hfa.symm (List.all_eq_true.mp n2 xs (List.mem_of_getElem? h1)) rr⟩
  · have hp' : p ∈ ι.fx.kp := hp
    rw [kp0] at hp'; cases hp'
  · have hp' : p ∈ ι.fx.pv := hp
    rw [pv0] at hp'; cases hp'
theorem handle_ok {N : Nat} {D : Ends} (hP : xc.Plain) (hex : ∀ c h, c < N → PySem.W.exmOne X.K (.ref (xc.cl c)) (.ref (xc.cl h)) = some (xc.sub c h) ∨ N ≤ h) :
    ∀ (l : List FH) (ι : Lay) (H : Hp) (σ : L2.St) (s : En) (C : Cs) (c : Nat) (p : Option A) (d : Option Addr), (∀ f ∈ l, f.1 < N) → RC X.K xc ι H C → RS X.K ι H s σ → RX X.K xc ι H c p d → PostS X.K xc W ι H D (handleF xc.sub N l c p s C) → wManyA X.K W D (hndOf X.K xc l) (.ref (xc.cl c)) d σ H
  | [], ι, H, σ, s, C, c, p, d, hl, k, r, rx, h => h ι H σ d (Ext.refl _ _) k r rx
  | (hc, o, g) :: l, ι, H, σ, s, C, c, p, d, hl, k, r, rx, h => by
    unfold handleF at h
    by_cases hN : c < N
    · rw [if_pos hN] at h
      have hx : PySem.W.exmOne X.K (.ref (xc.cl c)) (.ref (xc.cl hc)) = some (xc.sub c hc) := by
        rcases hex c hc hN with q | q
        · exact q
        · have := hl (hc, o, g) (by simp)
          exact absurd q (by simp at this; omega)
      cases hb : xc.sub c hc with
      | true =>
        rw [hb, if_pos rfl] at h
        have fin : ∀ (a : Addr) (s' : En) (σ' : L2.St) (D' : Ends), (∀ fx' : Fx, fx'.pv[0]? = some (.opq (.ref a), .ref a) → RS X.K ⟨ι.cs, fx'⟩ H s σ → RS X.K ⟨ι.cs, fx'⟩ H s' σ') → D'.rt = D.rt → PostS X.K xc W ι H D (match g c p s' C with
            | .ok v C1 => if (noKn v && C1.all noKns) = true then .rt v C1 else .bad
            | _ => .bad) → suR X.K xc g a (.ref (xc.cl c)) d D' σ' H := fun a s' σ' D' hr eD h => by
          obtain ⟨fx', hd, hT, hfa, k', r', pv0⟩ := enter_su hP k r rx a
          refine ⟨c, p, rfl, ⟨ι.cs, fx'⟩, s', C, k', hr fx' pv0 r', ?_⟩
          cases eg : g c p s' C with
          | ok v C1 =>
            rw [eg] at h
            simp only at h
            split at h
            · rename_i hn
              rw [Bool.and_eq_true] at hn
              intro ι3 H3 x e3 k3 r3
              obtain ⟨e4, k4, r4⟩ := leave_su hP k hd hT hfa e3 k3 r3 hn.1 hn.2
              rw [eD]
              exact h _ H3 x e4 k4 r4
            · exact h.elim
          | ex cc pp C1 => rw [eg] at h; exact h.elim
          | bad => rw [eg] at h; exact h.elim
        cases o with
        | none => exact ⟨true, by rw [hx, hb], fun _ a _ => fin a s σ D (fun _ _ q => q) rfl h, fun z => by cases z⟩
        | some i =>
          refine ⟨true, by rw [hx, hb], fun _ a _ => fin a (s.set i (some (.kn 0))) (σ.set i (some (.ref a))) _ (fun fx' pv0 q => ?_) rfl h, fun z => by cases z⟩
          exact q.set (.kn (q := (.opq (.ref a), .ref a)) pv0) i
      | false =>
        rw [hb, if_neg (by decide)] at h
        have ih := handle_ok hP hex l ι H σ s C c p d (fun f hf => hl f (by simp [hf])) k r rx h
        cases o with
        | none => exact ⟨false, by rw [hx, hb], (fun z => by cases z), fun _ => ih⟩
        | some i => exact ⟨false, by rw [hx, hb], (fun z => by cases z), fun _ => ih⟩
    · rw [if_neg hN] at h
      exact (show False from h).elim
theorem r_try {body : List Stmt} {h₀ : ExceptHandler} {hds : List ExceptHandler} {l : List FH} {N : Nat} {gb : En → Cs → SR} (hs : X.stack = X.env :: X.outer) (hf : X.env.frame = some X.env.locals) (tk : Takes X W) (hP : xc.Plain)
    (hex : ∀ c h, c < N → PySem.W.exmOne X.K (.ref (xc.cl c)) (.ref (xc.cl h)) = some (xc.sub c h) ∨ N ≤ h) (hl : ∀ f ∈ l, f.1 < N)
    (hb : ∀ (W : WX) (pn : List (Addr × Obj)) (xe : Value → Shared → Prop), Takes (X.tr pn xe) W → PassesOwn (model X.prog X.w) X.A X.env xe → PSs (X.tr pn xe) body (sD X.K xc W gb))
    (hh : HdsD X xc (h₀ :: hds) l) : PS X (.Try body (h₀ :: hds) [] [] pos) (sD X.K xc W (sTry xc.sub N gb l)) := by
  refine PS.imp (ps_try_manyA (tb := fun W => sD X.K xc W gb) hs hf tk hb hh.toA) fun D σ H ⟨ι, s, C, c, r, p⟩ => ⟨ι, s, C, c, r, ?_⟩
  unfold sTry at p
  cases e : gb s C with
  | ex cc pp s1 C1 =>
    rw [e] at p
    exact fun ι1 H1 σ1 d e1 c1 r1 rx => handle_ok hP hex l ι1 H1 σ1 s1 C1 cc pp d hl c1 r1 rx (PostS.later p e1)
  | nx s1 C1 => rw [e] at p; exact p
  | bk s1 C1 => rw [e] at p; exact p
  | ct s1 C1 => rw [e] at p; exact p
  | rt v C1 => rw [e] at p; exact p
  | bad => rw [e] at p; exact p
/-- e.f in the suite -/
theorem r_efld {a : Addr} {oe : Obj} {c : Nat} {p : Option A} {pl : A} {d : Option Addr} {pn : List (Addr × Obj)} {x : Str} {i : Nat} {np pos : Pos} {nm qual : Str} {f : String} {tl : List Value} {newId : String} {fI : Addr}
    (T : PySem.ErX.ErTxt X.K X.mg nm qual f tl newId (xc.cl c) fI) (hfl : xc.fld c = Str.ofString f) (hz : Zc (.ref (xc.cl c)) d oe) (hf : ∃ vs, oe.data = .fields vs) (hp : p = some pl) (he : PE (X.suite a ((a, oe) :: pn)) (.Name x np) (tVar i))
    (hb : attributeBase (.Name x np) f X.env (eval (.Name x np) X.env) = eval (.Name x np) X.env := by rfl) :
    PE (X.suite a ((a, oe) :: pn)) (.Attribute (.Name x np) f pos) (xD X.K (xcS xc a c p d) W (fun s C => match s[i]? with | some (some (.kn 0)) => .ok pl C | _ => .bad)) := by
  refine ⟨fun pins s σ H Q I ⟨ι, s', C, k, r, pp⟩ => ?_⟩
  subst hp
  obtain ⟨pv0, dd, v, ed, hkp, hpv⟩ := k.g
  dsimp only at pp
  split at pp
  · rename_i es
    obtain ⟨u, hu, ru⟩ := r.2 i _ es
    have eu : u = .ref a := by
      cases ru with
      | kn h => rw [pv0] at h; cases h; rfl
    subst eu
    refine attr_of hb (thn (he.run pins s σ H (fun y H1 => y = .ref a ∧ H1 = H) I ⟨_, hu, rfl, rfl⟩) fun w s1 hh => ?_)
    obtain ⟨y, H1, I1, ry, ey, eH⟩ := hh
    subst ey eH
    obtain rfl : w = Value.ref a := ry
    subst ed
    obtain ⟨ha, _⟩ := I1.pin (a, oe) (List.mem_append_left _ List.mem_cons_self)
    obtain ⟨vs, hd⟩ := hf
    obtain ⟨hdd, _⟩ := k.side.kp _ hkp
    have rv := k.side.pv _ hpv
    have hx : ObjOk X.prog X.w H1 s1.heap dd (.xd [(xc.fld c, v)]) := I1.hok dd _ hdd
    obtain ⟨mA, hns, hr⟩ := hx
    obtain ⟨od, ho, hl⟩ := lookIn_ns hns
    have l : List.lookup (Str.ofString f) [(xc.fld c, v)] = some v := by rw [hfl]; simp [List.lookup]
    obtain ⟨u, hu, ru⟩ := RelO.some_of (v := v) (o := mA (Str.ofString f)) (by rw [← l]; exact hr (Str.ofString f))
    have J : PySem.W.InstAt s1.heap a oe (xc.cl c) (some od) := ⟨ha, hz.1, by unfold PySem.W.notCls; rw [hd] <;> rfl, by rw [hz.2]; exact ho⟩
    exact HandSPX.exc_get I1.kIn J T.ga T.gg T.exC (PySem.W.findObj_own T.hdC T.noN rfl (by rw [hl, hu])) (handed_of ru) ⟨v, H1, I1.tok _, ru, pp.fin k rv⟩
  · exact pp.elim
end
end FM

namespace FM
open PySem PySem.Spec PyProof.Rows L2 RZ
/-! ### a def's own cells are let go at its end -/
mutual
def noLoc : A → Bool
  | .loc _ => false
  | .tup xs => noLocs xs
  | .lst xs => noLocs xs
  | .kl xs => noLocs xs
  | .ob _ _ xs => noLocs xs
  | _ => true
def noLocs : List A → Bool
  | [] => true
  | x :: xs => noLoc x && noLocs xs
end
mutual
def goA (C : Cs) (n : Nat) : A → Option A
  | .loc k => if k < n then some (.loc k) else match C[k]? with
    | some xs => if noLocs xs = true then some (.lst xs) else none
    | none => none
  | .tup xs => (goAs C n xs).map .tup
  | .lst xs => (goAs C n xs).map .lst
  | .kl xs => (goAs C n xs).map .kl
  | .dk0 => some .dk0
  | .fn n => some (.fn n)
  | .non => some .non
  | .bl b => some (.bl b)
  | .int i => some (.int i)
  | .str z => some (.str z)
  | .opq v => some (.opq v)
  | .kn v => some (.kn v)
  | .ob c m xs => (goAs C n xs).map (.ob c m)
def goAs (C : Cs) (n : Nat) : List A → Option (List A)
  | [] => some []
  | x :: xs => match goA C n x, goAs C n xs with
    | some y, some ys => some (y :: ys)
    | _, _ => none
end
theorem goAs_len {C : Cs} {n : Nat} : ∀ {xs ys : List A}, goAs C n xs = some ys → ys.length = xs.length
  | [], ys, h => by simp only [goAs] at h; cases h; rfl
  | x :: xs, ys, h => by
    simp only [goAs] at h
    cases e1 : goA C n x with
    | none => rw [e1] at h; cases h
    | some y =>
      cases e2 : goAs C n xs with
      | none => rw [e1, e2] at h; cases h
      | some zs => rw [e1, e2] at h; cases h; simp [goAs_len e2]
def letGo (n : Nat) : R A → R A
  | .ok v C => if ((C.take n).all noLocs) = true then match goA C n v with
      | some y => .ok y (C.take n)
      | none => .bad
    else .bad
  | .ex c p C => if ((C.take n).all noLocs) = true then match p with
      | none => .ex c none (C.take n)
      | some a => match goA C n a with
        | some y => .ex c (some y) (C.take n)
        | none => .bad
    else .bad
  | .bad => .bad
def runZ (n : Nat) (b : En → Cs → SR) (as : List A) (C : Cs) : R A := letGo C.length (runF n b as C)
section
variable {K : PySem.W.Frag} {xc : XC} {ι ι' : Lay} {H H' : Hp} {C C' : Cs}
theorem FrT.out {a : Addr} {vs : List V} (o : ∀ b, ι'.Out b → ι.Out b) (f : FrT K ι' H a vs) : FrT K ι H a vs := ⟨f.1, o a f.2⟩
theorem FrK.out {a : Addr} {vs : List V} (o : ∀ b, ι'.Out b → ι.Out b) (f : FrK K ι' H a vs) : FrK K ι H a vs := by
  rcases f with ⟨h, n⟩ | h
  · exact .inl ⟨h, o a n⟩
  · exact .inr h
mutual
theorem Rp.noLoc (o : ∀ b, ι'.Out b → ι.Out b) (hf : ι'.fx = ι.fx) : ∀ {x : A} {v : V}, FM.noLoc x = true → Rp K ι' H x v → Rp K ι H x v
  | _, _, _, .non => .non
  | _, _, _, .bl b => .bl b
  | _, _, _, .int i => .int i
  | _, _, _, .str x => .str x
  | _, _, k, .tup f r => .tup (f.out o) (Rps.noLocs o hf (by simpa [FM.noLoc] using k) r)
  | _, _, k, .lst h n r => .lst h (o _ n) (Rps.noLocs o hf (by simpa [FM.noLoc] using k) r)
  | _, _, k, .kl f r => .kl (f.out o) (Rps.noLocs o hf (by simpa [FM.noLoc] using k) r)
  | _, _, _, .dk0 h n => .dk0 h (o _ n)
  | _, _, _, .fn n => by rw [hf]; exact .fn n
  | _, _, k, .loc h => by simp [FM.noLoc] at k
  | _, _, _, .opq v => .opq v
  | _, _, _, .kn h => .kn (by rw [← hf]; exact h)
  | _, _, k, .ob h n l r => .ob (by rw [← hf]; exact h) (o _ n) l (Rps.noLocs o hf (by simpa [FM.noLoc] using k) r)
theorem Rps.noLocs (o : ∀ b, ι'.Out b → ι.Out b) (hf : ι'.fx = ι.fx) : ∀ {xs : List A} {vs : List V}, FM.noLocs xs = true → Rps K ι' H xs vs → Rps K ι H xs vs
  | _, _, _, .nil => .nil
  | _, _, k, .cons r t => by
    simp only [FM.noLocs, Bool.and_eq_true] at k
    exact .cons (Rp.noLoc o hf k.1 r) (Rps.noLocs o hf k.2 t)
end
mutual
theorem go_ok (o : ∀ b, ι'.Out b → ι.Out b) (hf : ι'.fx = ι.fx) (t : ∃ t, ι'.cs = ι.cs ++ t) (c : RC K xc ι' H C') : ∀ {x y : A} {v : V}, Rp K ι' H x v → goA C' ι.cs.length x = some y → Rp K ι H y v
  | _, _, _, .non, h => by simp only [goA] at h; cases h; exact .non
  | _, _, _, .bl b, h => by simp only [goA] at h; cases h; exact .bl b
  | _, _, _, .int i, h => by simp only [goA] at h; cases h; exact .int i
  | _, _, _, .str x, h => by simp only [goA] at h; cases h; exact .str x
  | _, _, _, .tup (xs := xs) f r, h => by
    simp only [goA] at h
    cases e : goAs C' ι.cs.length xs with
    | none => rw [e] at h; cases h
    | some ys => rw [e] at h; cases h; exact .tup (f.out o) (gos_ok o hf t c r e)
  | _, _, _, .lst (xs := xs) hh n r, h => by
    simp only [goA] at h
    cases e : goAs C' ι.cs.length xs with
    | none => rw [e] at h; cases h
    | some ys => rw [e] at h; cases h; exact .lst hh (o _ n) (gos_ok o hf t c r e)
  | _, _, _, .kl (xs := xs) f r, h => by
    simp only [goA] at h
    cases e : goAs C' ι.cs.length xs with
    | none => rw [e] at h; cases h
    | some ys => rw [e] at h; cases h; exact .kl (f.out o) (gos_ok o hf t c r e)
  | _, _, _, .dk0 hh n, h => by simp only [goA] at h; cases h; exact .dk0 hh (o _ n)
  | _, _, _, .fn n, h => by simp only [goA] at h; cases h; rw [hf]; exact .fn n
  | _, _, _, .loc (n := k) (a := a) hk, h => by
    simp only [goA] at h
    obtain ⟨t, et⟩ := t
    split at h
    · rename_i hlt
      cases h
      refine .loc ?_
      rw [et, List.getElem?_append_left hlt] at hk
      exact hk
    · rename_i hge
      split at h
      · rename_i xs hx
        split at h
        · rename_i hn
          cases h
          obtain ⟨vs, q1, q2⟩ := c.at_ k xs a hx hk
          have hm : a ∈ ι'.cs := List.mem_of_getElem? hk
          refine .lst q1 ⟨fun m => ?_, fun m => ?_⟩ (q2.noLocs o hf hn)
          · obtain ⟨i, hi, ei⟩ := List.mem_iff_getElem.mp m
            obtain ⟨hk1, hk2⟩ := List.getElem?_eq_some_iff.mp hk
            have hi' : i < ι'.cs.length := by rw [et]; simp; omega
            have e2 : ι'.cs[i] = a := by
              have : (ι.cs ++ t)[i]'(by simp; omega) = a := by rw [List.getElem_append_left hi]; exact ei
              simp only [et]; exact this
            have := (List.getElem_inj c.nd).mp (e2.trans hk2.symm)
            omega
          · exact (c.side.hid a (by show a ∈ ι'.fx.hd; rw [hf]; exact m)).1 hm
        · cases h
      · cases h
  | _, _, _, .opq v, h => by simp only [goA] at h; cases h; exact .opq v
  | _, _, _, .kn hq, h => by simp only [goA] at h; cases h; exact .kn (by rw [← hf]; exact hq)
  | _, _, _, .ob (xs := xs) hh n l r, h => by
    simp only [goA] at h
    cases e : goAs C' ι.cs.length xs with
    | none => rw [e] at h; cases h
    | some ys => rw [e] at h; cases h; exact .ob (by rw [← hf]; exact hh) (o _ n) ((goAs_len e).trans l) (gos_ok o hf t c r e)
theorem gos_ok (o : ∀ b, ι'.Out b → ι.Out b) (hf : ι'.fx = ι.fx) (t : ∃ t, ι'.cs = ι.cs ++ t) (c : RC K xc ι' H C') : ∀ {xs ys : List A} {vs : List V}, Rps K ι' H xs vs → goAs C' ι.cs.length xs = some ys → Rps K ι H ys vs
  | _, _, _, .nil, h => by simp only [goAs] at h; cases h; exact .nil
  | _, _, _, .cons (x := x) (xs := xs) r q, h => by
    simp only [goAs] at h
    cases e1 : goA C' ι.cs.length x with
    | none => rw [e1] at h; cases h
    | some y =>
      cases e2 : goAs C' ι.cs.length xs with
      | none => rw [e1, e2] at h; cases h
      | some ys => rw [e1, e2] at h; cases h; exact .cons (go_ok o hf t c r e1) (gos_ok o hf t c q e2)
end
theorem go_ext (e : Ext ι H ι' H') : Ext ι H ι H' := ⟨⟨[], by simp⟩, rfl, fun b o h t n => ⟨(e.keep b o h t n).1, n⟩, e.tabs⟩
theorem go_out (e : Ext ι H ι' H') : ∀ b, ι'.Out b → ι.Out b := fun b n => by
  obtain ⟨t, et⟩ := e.pre
  exact ⟨fun m => n.1 (by rw [et]; exact List.mem_append_left _ m), by rw [← e.hd]; exact n.2⟩
theorem go_rc {C : Cs} (c0 : RC K xc ι H C) (e : Ext ι H ι' H') (c : RC K xc ι' H' C') (hn : ((C'.take C.length).all FM.noLocs) = true) : RC K xc ι H' (C'.take C.length) := by
  obtain ⟨t, et⟩ := e.pre
  have l1 := c0.len
  have l2 := c.len
  have l3 : ι'.cs.length = ι.cs.length + t.length := by rw [et]; simp
  refine ⟨by rw [List.length_take]; omega, c0.nd, fun n xs a h1 h2 => ?_, c0.side.ext (go_ext e), c0.g⟩
  have hlt : n < ι.cs.length := (List.getElem?_eq_some_iff.mp h2).1
  have hx := h1
  rw [List.getElem?_take_of_lt (by omega)] at h1
  obtain ⟨vs, q1, q2⟩ := c.at_ n xs a h1 (by rw [et, List.getElem?_append_left hlt]; exact h2)
  exact ⟨vs, q1, q2.noLocs (go_out e) e.fx (List.all_eq_true.mp hn xs (List.mem_of_getElem? hx))⟩
theorem post_letGo {W : WX} {σ : L2.St} {Q : VK} {r : R A} {C : Cs} (c0 : RC K xc ι H C) (p : Post K xc W (Rp K) ι H σ (letGo C.length r) Q) : Post K xc W (Rp K) ι H σ r Q := by
  cases r with
  | ok v C1 =>
    unfold letGo at p
    simp only at p
    split at p
    · rename_i hn
      split at p
      · rename_i y hy
        intro ι' H' x e c r1
        exact p ι H' x (go_ext e) (go_rc c0 e c hn) (go_ok (go_out e) e.fx e.pre c r1 (by rw [c0.len]; exact hy))
      · exact p.elim
    · exact p.elim
  | ex cc pp C1 =>
    unfold letGo at p
    simp only at p
    split at p
    · rename_i hn
      cases pp with
      | none => exact fun ι' H' d e c rx => p ι H' d (go_ext e) (go_rc c0 e c hn) rx
      | some a =>
        simp only at p
        split at p
        · rename_i y hy
          intro ι' H' d e c rx
          obtain ⟨dx, v, h1, h2, h3⟩ := rx
          exact p ι H' d (go_ext e) (go_rc c0 e c hn) ⟨dx, v, h1, h2, go_ok (go_out e) e.fx e.pre c h3 (by rw [c0.len]; exact hy)⟩
        · exact p.elim
    · exact p.elim
  | bad => exact p
theorem spD_go {np n : Nat} {b : En → Cs → SR} : ∀ vs H Q E, spD K xc np (runZ n b) vs H Q E → spD K xc np (runF n b) vs H Q E := fun vs H Q E ⟨ι, as, C, c, r, hl, p⟩ => ⟨ι, as, C, c, r, hl, post_letGo c p⟩
end
section
variable {P : Program} {w : World} {K : PySem.W.Frag} {mg : Str → Option Value} {base : Heap} {xc : XC}
/-- a def of the text does what its reading tells; its own lists are let go -/
theorem fn_z {x qual : Str} {st : Stmt} {f : Addr} {fd : FuncData} {N ps : List Str} {k : Nat} {b : En → Cs → SR} (F : Fun K x qual st f fd) (S : FnScope N ps (defScope st))
    (hbody : ∀ (cdv : Value) (A : Around) (outer : List Env) (s : Shared) (H : Hp) (E : XK), Room k (A.deeper (envOfC qual (defScope st) s.heap.objs.size f cdv)) →
      Takes (cxOf (L2.CX P w) P w K mg base N qual (defScope st) f cdv A outer s H E) (fun c d _ H => E c d H) →
      PassesOwn (model P w) (A.deeper (envOfC qual (defScope st) s.heap.objs.size f cdv)) (envOfC qual (defScope st) s.heap.objs.size f cdv) (cxOf (L2.CX P w) P w K mg base N qual (defScope st) f cdv A outer s H E).xe →
      PSs (cxOf (L2.CX P w) P w K mg base N qual (defScope st) f cdv A outer s H E) (defBody st) (sD K xc (fun c d _ H => E c d H) b)) :
    FnOk P w K mg base (L2.CX P w) (k + 1) f fd ps (spD K xc ps.length (runZ (N.length - ps.length) b)) := (fn_ok F S hbody).imp spD_go
/-- in a comprehension's block nothing is raised -/
theorem takes_blk {X : Cx} {s : Shared} {H : Hp} {scope : Scope} {cenv : Env} {fp : List Addr} : Takes (X.blk s H scope cenv fp) (fun _ _ _ _ => False) := fun u s' ⟨a, B, sI, pins, σ, H, cls, d, e, I, nb, up, sky, na, os, ag, w⟩ => w.elim
end
/-! ### -x -/
def gNeg : A → Cs → R A := fun v C => match v with
  | .int i => .ok (.int (-i)) C
  | _ => .bad
theorem ad_neg {K : PySem.W.Frag} {xc : XC} : Adq1 K xc gNeg (rU fun i => .int (-i)) := by
  intro W ι H σ C v x Q c r p
  unfold gNeg at p
  split at p
  · rename_i i
    exact ⟨i, r.of_int, p.fin c (.int _)⟩
  · exact p.elim
/-! ### * of ints, lists, tuples -/
def gMulA : A → A → Cs → R A := fun v w C => match v, w with
  | .int i, .int j => gMul (.int i) (.int j) C
  | .tup xs, .int k => if 2 ≤ k ∧ k ≤ 1000 ∧ xs ≠ [] ∧ xs.length ≤ 1000 then .ok (.tup (List.replicate k.toNat xs).flatten) C else .bad
  | v, w => gRepL v w C
def rMulA (K : PySem.W.Frag) : R2 := fun x y H Q => rI MulP (fun i j => .int (i * j)) x y H Q ∨ rRepZ K x y H Q ∨ rRep x y H Q
theorem op_mulA {X : Cx} : OpR X (binaryOp .Mult) (rMulA X.K) := op_mulP.or (op_repZ.or op_rep)
theorem ad_mulA {K : PySem.W.Frag} {xc : XC} : Adq2 K xc gMulA (rMulA K) := by
  intro W ι H σ C v w x y Q c r1 r2 p
  unfold gMulA at p
  split at p
  · exact .inl (ad_mul W ι H σ C _ _ x y Q c r1 r2 p)
  · rename_i xs k
    split at p
    · rename_i h
      obtain ⟨a, us, rfl, f1, q1⟩ := r1.tup_inv
      refine .inr (.inl ⟨a, k, us, rfl, r2.of_int, f1.sq, fun e => h.2.2.1 (List.eq_nil_of_length_eq_zero (by rw [q1.length, e]; rfl)), h.1, h.2.1, by rw [← q1.length]; exact h.2.2.2, mk_tup c (q1.rep _) p⟩)
    · exact p.elim
  · exact .inr (.inr (ad_repL W ι H σ C _ _ x y Q c r1 r2 p))
/-! ### xs[::-1] of a list -/
def xRev (f : En → Cs → R A) : En → Cs → R A := fun s C => (f s C).bind fun v C1 => match lstOf v C1 with
  | some xs => .ok (.lst xs.reverse) C1
  | none => .bad
theorem r_revL {X : Cx} {xc : XC} {W : WX} {e : Expr} {f : En → Cs → R A} {k : Nat} {p1 p2 p3 pos : Pos} (he : PE X e (xD X.K xc W f)) : PE X (.Subscript e (.Slice none none (some (.UnaryOp .USub (.Constant (.int 1) k p1) p2)) p3) pos) (xD X.K xc W (xRev f)) := by
  refine PE.imp (pe_revL he) fun σ H Q ⟨ι, s, C, c, r, p⟩ => ?_
  refine Dn.step c r p fun ι1 H1 C1 v x e1 c1 r1 q1 p1 => ?_
  split at p1
  · rename_i xs hx
    obtain ⟨a, us, rfl, h1, q⟩ := lst_of c1 q1 hx
    exact ⟨a, us, rfl, SqL.of h1, mk_lst c1 q.reverse p1⟩
  · exact p1.elim
/-! ### enumerate of a list -/
section
variable {K : PySem.W.Frag} {xc : XC} {ι : Lay} {H : Hp} {C : Cs}
theorem numbered_get {xs : List A} {i : Nat} {x : A} (hx : xs[i]? = some x) : (numbered xs)[i]? = some (.tup [.int (i : Nat), x]) := by
  refine pairs_get ?_ hx
  have hl : i < xs.length := (List.getElem?_eq_some_iff.mp hx).1
  simp [hl]
theorem numbered_len (xs : List A) : (numbered xs).length = xs.length := by simp [numbered, pairs_len]
end
end FM

namespace FM
end FM

namespace FM
open PySem PySem.Spec PyProof.Rows L2 RZ
section
variable {X : Cx} {xc : XC} {W : WX} {pos : Pos}
/-- a module's constant -/
theorem r_gC {x : Str} {a : A} {v : V} (h : ∃ u, X.mg x = some u ∧ RelV v u) (r : ∀ ι H, Rp X.K ι H a v) (hg : Gl X x := by rfl) (hd : (x == ("__debug__" : Str)) = false := by decide) : PE X (.Name x pos) (xD X.K xc W (xC a)) := by
  obtain ⟨u, h1, h2⟩ := h
  exact r_C (pe_glob hg h1 h2 hd) r
theorem r_gI {x : Str} {n : Int} (h : ∃ u, X.mg x = some u ∧ RelV (.int n) u) (hg : Gl X x := by rfl) (hd : (x == ("__debug__" : Str)) = false := by decide) : PE X (.Name x pos) (xD X.K xc W (xC (.int n))) := r_gC h (fun _ _ => .int n) hg hd
/-- a class of the language, as a value -/
theorem r_gT {x : Str} {T : String} (hm : X.mg x = none) (hv : bootBuiltins x = some (.type T)) (hg : Gl X x := by rfl) (hn : x ≠ "__name__" := by decide) (hd : (x == ("__debug__" : Str)) = false := by decide) : PE X (.Name x pos) (xD X.K xc W (xC (.opq (.ty T)))) :=
  r_C (pe_bltn hg hm hv (show RelV (V.ty T) (.type T) from rfl) hn hd) fun _ _ => .opq _
theorem r_yes : PTs X [] (tD X.K xc W tYesF) := ⟨fun pins s σ H Q I ⟨ι, s', C, c, r, p⟩ => pts_nil.run pins s σ H Q I (p ι H true (Ext.refl _ _) c rfl)⟩
theorem r_test1 {c : Expr} {f : En → Cs → R Bool} (h : PT X c (tD X.K xc W f)) : PTs X [c] (tD X.K xc W f) := pts_one h
end

/-- a look at the names of a def's scope -/
def scB (N P : List Str) (sc : Scope) : Bool :=
  decide (sc.kind = .function) && !sc.isCoroutine && !sc.isGenerator && decide N.Nodup && decide (N.take P.length = P) && P.all (fun x => decide (sc.names.lookup x = some .local) || decide (sc.names.lookup x = some .cell)) && sc.names.all (fun y => !decide (y.2 = .free))
theorem sc_by {N P : List Str} {sc : Scope} (h : scB N P sc = true) : FnScope N P sc := by
  unfold scB at h
  simp only [Bool.and_eq_true, Bool.not_eq_true', decide_eq_true_eq, List.all_eq_true, Bool.or_eq_true, decide_eq_false_iff_not] at h
  obtain ⟨⟨⟨⟨⟨⟨h1, h2⟩, h3⟩, h4⟩, h5⟩, h6⟩, h7⟩ := h
  exact ⟨h1, h2, h3, h4, h5, h6, h7⟩
/-- a look at the names of a comprehension's block -/
def blkC (N : List Str) (sc scope : Scope) (own : List (Str × Nat)) : Bool :=
  decide (scope.kind = .function) && scope.names.all (fun y => decide (scope.names.lookup y.1 = some y.2)) && own.all (fun p => decide (N[p.2]? = some p.1))
    && scope.names.all (fun y => !decide (y.2 = .free) || (decide (sc.names.lookup y.1 = some .cell) || decide (sc.names.lookup y.1 = some .free)))
    && scope.names.all (fun y => !(decide (y.2 = .local) || decide (y.2 = .cell)) || (decide (y.1 ∈ own.map (·.1)) || decide (y.1 ∉ N)))
theorem blk_by {N : List Str} {sc scope : Scope} {own : List (Str × Nat)} (h : blkC N sc scope own = true) : BlkOk N sc scope own := by
  unfold blkC at h
  simp only [Bool.and_eq_true, Bool.not_eq_true', decide_eq_true_eq, List.all_eq_true, Bool.or_eq_true, decide_eq_false_iff_not, Bool.or_eq_false_iff] at h
  obtain ⟨⟨⟨⟨h1, h2⟩, h3⟩, h4⟩, h5⟩ := h
  refine ⟨h1, h2, h3, fun y hy hf => ?_, fun y hy hf => ?_⟩
  · rcases h4 y hy with q | q
    · exact absurd hf q
    · exact q
  · rcases h5 y hy with q | q
    · rcases hf with z | z
      · exact absurd z q.1
      · exact absurd z q.2
    · exact q
end FM

/-! the end: from a def's reading to the law -/
namespace FM
open PySem PySem.Spec PyProof.Rows L2 RZ
def G0 : List (Addr × Str) → (Nat → Addr) → List (Addr × HO) → List (A × V) → Prop := fun T _ kp pv => T = [] ∧ kp = [] ∧ pv = []
/-- no errors are raised -/
def xc0 : XC := ⟨fun _ => 0, fun _ => "", fun _ _ => false, G0⟩
theorem sp_law {K : PySem.W.Frag} {xc : XC} {m : List A → Cs → R A} {fa0 : Nat → Addr} (hg : xc.G [] fa0 [] []) {H : Hp} {a : Addr} {ns : List Int} (h : SqL K H a (ns.map V.int)) (e : m [.kl (ns.map A.int)] [] = .ok (.bl true) []) : spD K xc 1 m [.ref a] H (fun v _ => v = .bl true) (fun _ _ _ => False) := by
  refine ⟨⟨[], ⟨[], [], [], [], fa0⟩⟩, [.kl (ns.map A.int)], [], ⟨rfl, by simp, fun n xs a h1 h2 => by simp at h1, ⟨fun b hb => by simp [Lay.hd] at hb, fun p hp => by simp at hp, fun p hp => by simp at hp, fun p hp => by simp at hp⟩, hg⟩, .cons (.kl ?_ (rps_ints ns)) .nil, rfl, ?_⟩
  · rcases h with h | h
    · exact .inl ⟨h, by simp [Lay.Out, Lay.hd]⟩
    · exact .inr (.inr h)
  · rw [e]
    exact fun ι' H' x e c r => r.of_bl
theorem walk_fm {l : PySem.W.OpenLaw} {n k : Nat} {q : Program} {loose : List Str} {XP : (Str → Option Value) → Heap → Prop} {YP : World → Heap → Prop} {d : DefRec} {K : Params → PySem.W.Frag} {xc : XC} {m : List A → Cs → R A}
    (hn : l.most = some n) (hn2 : n ≤ sizeLine) (hdf : d.params.defaults = []) (hr : Room k callerA) (hY : ∀ (w : World) (h : Heap), YP w h → (K w.params).In h)
    (F : ∀ (w : World) (mg : Str → Option Value) (fa : Addr) (h : Heap), (K w.params).In h → h.Ns mainGlobals mg → mg d.name = some (.ref fa) →
      ∃ fd : FuncData, (∀ (s : Shared) (u : Value), BindsTo s fd ⟨[u], []⟩ [("script", u)]) ∧
        ∀ base : Heap, (K w.params).In base → base.Ns mainGlobals mg → FnOk l.prog w (K w.params) mg base (L2.CX l.prog w) k fa fd ["script"] (spD (K w.params) xc 1 m))
    {fa0 : Nat → Addr} (hm : xc.G [] fa0 [] [] ∧ ∀ ns : List Int, ns.length ≤ n → m [.kl (ns.map A.int)] [] = .ok (.bl true) []) : PySem.W.WalkO q loose XP YP l.row.toRowW d [] (fun f vs => PySem.call f vs) :=
  L2.walk_of (n := n) (k := k) (x := "script") (CX := fun w => L2.CX l.prog w) (sp := fun w => spD (K w.params) xc 1 m) hn hn2 hdf hr hY F (fun w H a ns hl _ hS => sp_law hm.1 hS (hm.2 ns hl)) fun w H s e s' h => by
    obtain ⟨_, _, _, _, _, _, _, _, _, _, _, _, z⟩ := h
    exact z
end FM

/-! a lambda handed to a def that calls it first of all, within try -/
namespace FM
open PySem PySem.Spec PyProof.Rows L2 RZ LamX
def outF (r : SR) : R A := match r with
  | .nx _ C1 => .ok .non C1
  | .rt v C1 => .ok v C1
  | .ex c p _ C1 => .ex c p C1
  | _ => .bad
def handled (sub : Nat → Nat → Bool) (N : Nat) (l : List FH) (n : Nat) (gr : En → Cs → SR) (th : R A) : R A := match th with
  | .ok _ C1 => outF (gr (List.replicate n none) C1)
  | .ex c p C1 => outF ((handleF sub N l c p (List.replicate n none) C1).then gr)
  | .bad => .bad
def calm0 (r : R A) : R A := match r with
  | .ok v C => .ok v C
  | _ => .bad
def TTF (K : PySem.W.Frag) (xc : XC) (mt : R A → R A) : (XK → Hp → VK → Prop) → Hp → VK → Prop := fun tl H Q =>
  ∃ ι C th, RC K xc ι H C ∧ (∀ (E : XK) (Q1 : VK), Post K xc (fun c d _ H' => E c d H') (Rp K) ι H [] th Q1 → tl E H Q1) ∧ Post K xc (fun _ _ _ _ => False) (Rp K) ι H [] (mt th) Q
theorem rs_none {K : PySem.W.Frag} {ι : Lay} {H : Hp} {σ : L2.St} (n : Nat) (h : σ.length = n) : RS K ι H (List.replicate n none) σ := ⟨by simp [h], fun i a e => by
  rw [List.getElem?_replicate] at e
  split at e <;> cases e⟩
/-- what comes behind a statement, told of its end -/
theorem ends_out {K : PySem.W.Frag} {xc : XC} {ι : Lay} {H : Hp} {D : Ends} {Q : VK} {W : WX} (hn : ∀ σ' H', Q .non H' → D.nx σ' H') (hr : ∀ v H', Q v H' → D.rt v H') (r : SR) (p : Post K xc (fun _ _ _ _ => False) (Rp K) ι H [] (outF r) Q) : PostS K xc W ι H D r := by
  cases r with
  | nx s C => exact fun ι' H' σ' e c _ => hn _ _ (p ι' H' .non e c .non)
  | rt v C => exact fun ι' H' x e c r => hr _ _ (p ι' H' x e c r)
  | ex cc pp s C => exact fun ι' H' σ' d e c _ rx => (p ι' H' d e c rx).elim
  | bk s C => exact (show False from p).elim
  | ct s C => exact (show False from p).elim
  | bad => exact (show False from p).elim
section
variable {X : Cx} {xc : XC}
theorem lam_gives {Ng : List Str} {x a q : Str} {sg : Scope} {g : Addr} {cdg : Value} {p1 p2 p3 p8 : Pos} {h₀ : ExceptHandler} {hds : List ExceptHandler} {rest : List Stmt} {l : List FH} {N : Nat} {gr : En → Cs → SR} (h0 : ∀ f : Addr, (L2.start Ng [V.ref f])[0]? = some (some (V.ref f))) (hlen : ∀ f : Addr, (L2.start Ng [V.ref f]).length = Ng.length)
    (hP : xc.Plain) (hex : ∀ c h, c < N → PySem.W.exmOne X.K (.ref (xc.cl c)) (.ref (xc.cl h)) = some (xc.sub c h) ∨ N ≤ h) (hl : ∀ f ∈ l, f.1 < N)
    (hh : ∀ (s : Shared) (H : Hp), HdsD (cxOf C8.CX0 X.prog X.w X.K X.mg X.base Ng x sg g cdg X.A X.stack s H C8.E0).nox xc (h₀ :: hds) l)
    (hrest : ∀ (s : Shared) (H : Hp), PSs (cxOf C8.CX0 X.prog X.w X.K X.mg X.base Ng x sg g cdg X.A X.stack s H C8.E0).nox rest (sD X.K xc (fun _ _ _ _ => False) gr)) :
    GivesTo X Ng x sg g cdg (.Try [.Expr (.Call (.Name a p1) [] [] p2) p3] (h₀ :: hds) [] [] p8 :: rest) a q (TTF X.K xc (handled xc.sub N l Ng.length gr)) := by
  intro f c' s H Q tl act hc h
  obtain ⟨ι, C, th, kC, htl, hp⟩ := h
  refine ⟨_, pss_cons (ps_try_manyA (X := (cxOf C8.CX0 X.prog X.w X.K X.mg X.base Ng x sg g cdg X.A X.stack s H C8.E0).nox)
      (tb := fun W D σ H => ∃ Ech : XK, (∀ cls d σ' H', σ'.length = Ng.length → Ech cls d H' → W cls d σ' H') ∧ σ[0]? = some (some (.ref f)) ∧ H c' = some (CodeO c' q) ∧ tl Ech H (fun _ H' => D.nx σ H'))
      rfl rfl L2.takes0 (fun W pn xe tk _ => ?_) (hh s H).toA) (hrest s H), ?_⟩
  · refine ⟨fun pins s' σ H' D I h' => ?_⟩
    obtain ⟨Ech, hW, h1, h2, h3⟩ := h'
    have tk' : Takes ((cxOf C8.CX0 X.prog X.w X.K X.mg X.base Ng x sg g cdg X.A X.stack s H C8.E0).tr pn xe) (fun cls d σ H => σ.length = Ng.length → W cls d σ H) := fun u s' ⟨a, B, sI, pins, σ, H, cls, d, e, I, nb, up, sky, na, os, ag, w⟩ =>
      tk u s' ⟨a, B, sI, pins, σ, H, cls, d, e, I, nb, up, sky, na, os, ag, w I.len⟩
    have hp := act _ pn xe Ech p1 p2 tk' (fun cls d σ' H' he hl => hW cls d σ' H' hl he)
    have hq := pss_one (ps_expr (pos := p3) hp)
    exact hq.run pins s' σ H' D I ⟨h1, h2, h3⟩
  · have rs0 : ∀ {ι' H'}, RS X.K ι' H' (List.replicate Ng.length none) (L2.start Ng [.ref f]) := rs_none _ (hlen f)
    let D0 : Ends := { nx := fun _ H' => Q .non H', rt := Q }
    let D1 : Ends := { D0 with nx := fun σ' H' => sD X.K xc (fun _ _ _ _ => False) gr D0 σ' H' }
    show ∃ Ech : XK, (∀ cls d σ' H', σ'.length = Ng.length → Ech cls d H' → wManyA X.K (fun _ _ _ _ => False) D1 (hndOf X.K xc l) cls d σ' H') ∧ _ ∧ _ ∧ tl Ech H (fun _ H' => D1.nx (L2.start Ng [.ref f]) H')
    refine ⟨fun cls d H' => ∀ σ' : L2.St, σ'.length = Ng.length → wManyA X.K (fun _ _ _ _ => False) D1 (hndOf X.K xc l) cls d σ' H', fun cls d σ' H' hl hE => hE σ' hl, h0 f, hc, ?_⟩
    refine htl _ _ ?_
    cases th with
    | ok v C1 =>
      intro ι' H' x e c r
      refine ⟨ι', _, C1, c, rs0, ?_⟩
      exact ends_out (fun _ _ h => h) (fun _ _ h => h) _ (Post.later hp e)
    | ex cc pp C1 =>
      intro ι' H' d e c rx σ' hσ
      refine handle_ok hP hex l ι' H' σ' _ C1 cc pp d hl c (rs_none _ hσ) rx ?_
      have hp' : Post X.K xc (fun _ _ _ _ => False) (Rp X.K) ι' H' [] (outF ((handleF xc.sub N l cc pp (List.replicate Ng.length none) C1).then gr)) Q := Post.later (r := outF ((handleF xc.sub N l cc pp (List.replicate Ng.length none) C1).then gr)) hp e
      revert hp'
      generalize handleF xc.sub N l cc pp (List.replicate Ng.length none) C1 = rr
      intro hp'
      cases rr with
      | nx s1 C2 => exact fun ι2 H2 σ2 e2 c2 r2 => ⟨ι2, s1, C2, c2, r2, ends_out (fun _ _ h => h) (fun _ _ h => h) _ (Post.later (r := outF (gr s1 C2)) hp' e2)⟩
      | rt v C2 => exact fun ι2 H2 x e2 c2 r2 => hp' ι2 H2 x e2 c2 r2
      | ex c2 p2 s2 C2 => exact fun ι2 H2 σ2 d2 e2 c2 r2 rx2 => hp' ι2 H2 d2 e2 c2 rx2
      | bk s2 C2 => exact (show False from hp').elim
      | ct s2 C2 => exact (show False from hp').elim
      | bad => exact (show False from hp').elim
    | bad => exact (show False from hp).elim
def xLam (mt : R A → R A) (fb : En → Cs → R A) : En → Cs → R A := fun s C => calm0 (mt (fb s C))
theorem rc_extN {K : PySem.W.Frag} {ι : Lay} {H H1 : Hp} {C : Cs} {T0 : List (Addr × Str)} (hT : ∀ T fa kp pv, xc.G T fa kp pv → T = T0) (c : RC K xc ι H C) (e : ExtN H H1) (t : Tabs T0 H1) : Ext ι H ι H1 ∧ RC K xc ι H1 C := by
  have eT := hT _ _ _ _ c.g
  have x : Ext ι H ι H1 := ⟨⟨[], by simp⟩, rfl, fun b o h nt n => ⟨e b o h nt, n⟩, fun _ => by rw [eT]; exact t⟩
  refine ⟨x, c.ext0 x fun a m => ?_⟩
  obtain ⟨n, hn, ea⟩ := List.mem_iff_getElem.mp m
  have hn' : n < C.length := by rw [← c.len]; exact hn
  obtain ⟨vs, q, _⟩ := c.at_ n C[n] a (by simp) (by rw [List.getElem?_eq_getElem hn, ea])
  rw [q]
  exact e a _ q fun ps z => by cases z
theorem r_lam {W : WX} {T0 : List (Addr × Str)} {x a : Str} {g c P : Addr} {k : Nat} {pg : Arguments} {bg : List Stmt} {sg : Scope} {dV kV doc pm cdv ct oc : Value} {an od : Option Addr} {osl : Array (Option Value)} {Ng : List Str}
    {params : Arguments} {body : Expr} {scope : Scope} {mt : R A → R A} {fb : En → Cs → R A} {p lpos pos : Pos} (hT : ∀ T fa kp pv, xc.G T fa kp pv → T = T0) (hg : Gl X x) (hm : X.mg x = some (.ref g)) (hk : PySem.W.keepIn X.K (.ref g) = true)
    (lk : X.K.lookup g = some ⟨oc, od, .func (PySem.W.fnOf x x pg bg sg dV kV doc pm an cdv ct), osl⟩) (hcg : PySem.W.codeIn X.K cdv x = true) (hb : L2.Binds X.K (PySem.W.fnOf x x pg bg sg dV kV doc pm an cdv ct) [a] []) (Sg : FnScope Ng [a] sg) (hNg : Ng[0]? = some a) (hva : Vis sg a)
    (hG : GivesTo X Ng x sg g cdv bg a (X.env.qual ++ "<lambda>") (TTF X.K xc mt))
    (TB : TabB X.base X.mg c P) (hcode : X.env.code = .ref c) (hmT : (P, X.env.qual ++ "<lambda>") ∈ T0) (hu : ∀ p ∈ T0, p.1 = P → p.2 = X.env.qual ++ "<lambda>") (hr : Room (k + 2) X.A) (L : LamS X.env.scope scope) (hdef : defaultsOf params X.env = ([], []))
    (hbind : ∀ (q : Str) (cl : List (Str × Addr)) (pm cv ctv : Value), bindArgs (PySem.W.kla_fn "<lambda>" q params body scope cl pm cv ctv) ⟨[], []⟩ = pure [])
    (hbody : ∀ (A : Around) (outer : List Env) (s : Shared) (H : Hp) (E : XK) (f c' : Addr), Room k (A.deeper (lamEnv X scope s.heap.objs.size f c')) → Takes (lamCx X A outer s H E scope f c') (fun c d _ H' => E c d H') →
      PE (lamCx X A outer s H E scope f c') body (xD X.K xc (fun c d _ H' => E c d H') fb))
    (hdb : (x == ("__debug__" : Str)) = false := by decide) (hd : (a == ("__debug__" : Str)) = false := by decide) (hcd : (a == ("__classdict__" : Str)) = false := by decide) :
    PE X (.Call (.Name x p) [.Lambda params body scope lpos] [] pos) (xD X.K xc W (xLam mt fb)) := by
  refine PE.imp (pe_lamcall (T := T0) (t := fun E => xD X.K xc (fun c d _ H' => E c d H') fb) hg hm hk lk hcg hb Sg hNg hva hG TB hcode hmT hu hr L hdef hbind (fun A outer s H E f c' hr' => hbody A outer s H E f c' hr' (takes_of rfl rfl rfl rfl)) hdb hd hcd) fun σ H Q ⟨ι, s, C, c, r, p⟩ => ?_
  have eT := hT _ _ _ _ c.g
  refine ⟨by rw [← eT]; exact c.side.tabs, fun H1 eN t1 => ?_⟩
  obtain ⟨e1, c1⟩ := rc_extN hT c eN t1
  refine ⟨ι, C, fb s C, c1, fun E Q1 post => ⟨ι, s, C, c1, r.ext e1, ?_⟩, ?_⟩
  · revert post
    generalize fb s C = rr
    intro post
    cases rr with
    | ok v C1 => exact post
    | ex cc pp C1 => exact post
    | bad => exact post
  · unfold xLam calm0 at p
    revert p
    generalize mt (fb s C) = rr
    intro p
    cases rr with
    | ok v C1 => exact Post.later (r := R.ok v C1) p e1
    | ex cc pp C1 => exact (show False from p).elim
    | bad => exact (show False from p).elim
end
end FM

/-! readings computed: by simp, the continuations left alone until their turn -/
namespace FM
open PySem PySem.Spec PyProof.Rows L2
section
variable {s : En} {C : Cs} {i j n : Nat} {v w : A} {f g h f1 f2 f3 : En → Cs → R A} {t t1 t2 : En → Cs → R Bool} {fs : En → Cs → R (List A)} {a b : En → Cs → SR} {it : En → Cs → R Wk} {T : Tgt} {o : A → A → Cs → R A} {o1 : A → Cs → R A} {k : List A → Cs → R A} {m : A → List A → Cs → R A} {vs as : List A}
@[simp] theorem out_nx : outF (.nx s C) = .ok .non C := rfl
@[simp] theorem out_rt : outF (.rt v C) = .ok v C := rfl
@[simp] theorem out_ex {c p} : outF (.ex c p s C) = .ex c p C := rfl
@[simp] theorem then_nx : (SR.nx s C).then a = a s C := rfl
@[simp] theorem then_rt : (SR.rt v C).then a = .rt v C := rfl
@[simp] theorem then_bk : (SR.bk s C).then a = .bk s C := rfl
@[simp] theorem then_ct : (SR.ct s C).then a = .ct s C := rfl
@[simp] theorem then_ex {c p} : (SR.ex c p s C).then a = .ex c p s C := rfl
@[simp] theorem then_bad : SR.bad.then a = .bad := rfl
theorem runZ_ap : runZ n a as C = letGo C.length (outF (a (as.map some ++ List.replicate n none) C)) := rfl
theorem runF_ap : runF n a as C = outF (a (as.map some ++ List.replicate n none) C) := rfl
@[simp] theorem ap_C : xC v s C = .ok v C := rfl
theorem ap_V : xVar i s C = match s[i]? with
  | some (some v) => .ok v C
  | _ => .bad := rfl
@[simp] theorem ap_V0 {x : Option A} {r : En} : xVar 0 (x :: r) C = match x with
  | some v => .ok v C
  | none => .bad := by cases x <;> rfl
@[simp] theorem ap_VS {x : Option A} {r : En} : xVar (i + 1) (x :: r) C = xVar i r C := by simp [ap_V]
@[simp] theorem ap_nil : aNil s C = .ok [] C := rfl
def kCons2 (v : A) (vs : List A) (C : Cs) : R (List A) := .ok (v :: vs) C
def kCons (fs : En → Cs → R (List A)) (s : En) (v : A) (C : Cs) : R (List A) := (fs s C).bind (kCons2 v)
@[simp] theorem k_cons2 : kCons2 v vs C = .ok (v :: vs) C := rfl
@[simp] theorem k_cons : kCons fs s v C = (fs s C).bind (kCons2 v) := rfl
@[simp] theorem ap_cons : aCons f fs s C = (f s C).bind (kCons fs s) := rfl
def kOp (o : A → A → Cs → R A) (f2 : En → Cs → R A) (s : En) (v : A) (C : Cs) : R A := (f2 s C).bind (o v)
@[simp] theorem k_op : kOp o f2 s v C = (f2 s C).bind (o v) := rfl
@[simp] theorem ap_op : xOp o f1 f2 s C = (f1 s C).bind (kOp o f2 s) := rfl
@[simp] theorem ap_un : xUn o1 f s C = (f s C).bind o1 := rfl
@[simp] theorem ap_ap : xAp k fs s C = (fs s C).bind k := rfl
def kMt (m : A → List A → Cs → R A) (fs : En → Cs → R (List A)) (s : En) (v : A) (C : Cs) : R A := if (seqL v C).isSome = true then (fs s C).bind (m v) else .bad
@[simp] theorem k_mt : kMt m fs s v C = if (seqL v C).isSome = true then (fs s C).bind (m v) else .bad := rfl
@[simp] theorem ap_mt : xMtL m f fs s C = (f s C).bind (kMt m fs s) := rfl
def kTup (vs : List A) (C : Cs) : R A := if vs.length ≤ 1000 then .ok (.tup vs) C else .bad
@[simp] theorem k_tup : kTup vs C = if vs.length ≤ 1000 then .ok (.tup vs) C else .bad := rfl
@[simp] theorem ap_tup : xTup fs s C = (fs s C).bind kTup := rfl
def kLst (vs : List A) (C : Cs) : R A := if vs.length ≤ 1000 then .ok (.lst vs) C else .bad
@[simp] theorem k_lst : kLst vs C = if vs.length ≤ 1000 then .ok (.lst vs) C else .bad := rfl
@[simp] theorem ap_lst : xLst fs s C = (fs s C).bind kLst := rfl
def kLstM (vs : List A) (C : Cs) : R A := if vs.length ≤ 1000 then .ok (.loc C.length) (C ++ [vs]) else .bad
@[simp] theorem k_lstM : kLstM vs C = if vs.length ≤ 1000 then .ok (.loc C.length) (C ++ [vs]) else .bad := rfl
@[simp] theorem ap_lstM : xLstM fs s C = (fs s C).bind kLstM := rfl
def unB (v : A) (C : Cs) : R Bool := match v with
  | .bl b => .ok b C
  | _ => .bad
@[simp] theorem unB_bl {x : Bool} : unB (.bl x) C = .ok x C := rfl
@[simp] theorem ap_tv : tVal f s C = (f s C).bind unB := by
  unfold tVal
  congr
def kNot (b : Bool) (C : Cs) : R Bool := .ok (!b) C
@[simp] theorem k_not {b : Bool} : kNot b C = .ok (!b) C := rfl
@[simp] theorem ap_not : tNotF t s C = (t s C).bind kNot := rfl
def selT (t2 : En → Cs → R Bool) (s : En) (y : Bool) (b : Bool) (C : Cs) : R Bool := if y = b then t2 s C else .ok b C
@[simp] theorem ap_and : tAndF t1 t2 s C = (t1 s C).bind (selT t2 s true) := by
  unfold tAndF selT
  cases t1 s C with
  | ok b C1 => cases b <;> rfl
  | ex c p C1 => rfl
  | bad => rfl
@[simp] theorem ap_or : tOrF t1 t2 s C = (t1 s C).bind (selT t2 s false) := by
  unfold tOrF selT
  cases t1 s C with
  | ok b C1 => cases b <;> rfl
  | ex c p C1 => rfl
  | bad => rfl
@[simp] theorem selT_tt : selT t2 s true true C = t2 s C := rfl
@[simp] theorem selT_tf : selT t2 s true false C = .ok false C := rfl
@[simp] theorem selT_ft : selT t2 s false true C = .ok true C := rfl
@[simp] theorem selT_ff : selT t2 s false false C = t2 s C := rfl
theorem selT_t {x : Bool} : selT t2 s true x C = if x = true then t2 s C else .ok false C := by cases x <;> rfl
theorem selT_f {x : Bool} : selT t2 s false x C = if x = true then .ok true C else t2 s C := by cases x <;> rfl
def kIf (f g : En → Cs → R A) (s : En) (b : Bool) (C : Cs) : R A := if b = true then f s C else g s C
@[simp] theorem k_if {b : Bool} : kIf f g s b C = if b = true then f s C else g s C := rfl
@[simp] theorem ap_if : xIf t f g s C = (t s C).bind (kIf f g s) := rfl
def selV (g : En → Cs → R A) (s : En) (y : Bool) (v : A) (C : Cs) : R A := match v with
  | .bl b => if y = b then g s C else .ok (.bl b) C
  | _ => .bad
@[simp] theorem ap_andV : xAndV f g s C = (f s C).bind (selV g s true) := by
  unfold xAndV selV
  cases f s C with
  | ok b C1 =>
    cases b with
    | bl b => cases b <;> rfl
    | _ => rfl
  | ex c p C1 => rfl
  | bad => rfl
@[simp] theorem ap_orV : xOrV f g s C = (f s C).bind (selV g s false) := by
  unfold xOrV selV
  cases f s C with
  | ok b C1 =>
    cases b with
    | bl b => cases b <;> rfl
    | _ => rfl
  | ex c p C1 => rfl
  | bad => rfl
@[simp] theorem selV_tt : selV g s true (.bl true) C = g s C := rfl
@[simp] theorem selV_tf : selV g s true (.bl false) C = .ok (.bl false) C := rfl
@[simp] theorem selV_ft : selV g s false (.bl true) C = .ok (.bl true) C := rfl
@[simp] theorem selV_ff : selV g s false (.bl false) C = g s C := rfl
theorem selV_t {x : Bool} : selV g s true (.bl x) C = if x = true then g s C else .ok (.bl false) C := by cases x <;> rfl
theorem selV_f {x : Bool} : selV g s false (.bl x) C = if x = true then .ok (.bl true) C else g s C := by cases x <;> rfl
def notV (v : A) (C : Cs) : R A := match v with
  | .bl b => .ok (.bl (!b)) C
  | _ => .bad
@[simp] theorem notV_bl {x : Bool} : notV (.bl x) C = .ok (.bl (!x)) C := rfl
@[simp] theorem ap_notV : xNotV f s C = (f s C).bind notV := by
  unfold xNotV
  congr
def chn (o2 : A → A → Cs → R A) (f3 : En → Cs → R A) (s : En) (w : A) (z : A) (C : Cs) : R A := match z with
  | .bl k => if k = true then (f3 s C).bind (o2 w) else .ok (.bl false) C
  | _ => .bad
def kCh2 (o o2 : A → A → Cs → R A) (f3 : En → Cs → R A) (s : En) (v w : A) (C : Cs) : R A := (o v w C).bind (chn o2 f3 s w)
def kCh1 (o o2 : A → A → Cs → R A) (f2 f3 : En → Cs → R A) (s : En) (v : A) (C : Cs) : R A := (f2 s C).bind (kCh2 o o2 f3 s v)
@[simp] theorem k_ch2 {o2 : A → A → Cs → R A} : kCh2 o o2 f3 s v w C = (o v w C).bind (chn o2 f3 s w) := rfl
@[simp] theorem k_ch1 {o2 : A → A → Cs → R A} : kCh1 o o2 f2 f3 s v C = (f2 s C).bind (kCh2 o o2 f3 s v) := rfl
@[simp] theorem ap_chain {o2 : A → A → Cs → R A} : xChain o o2 f1 f2 f3 s C = (f1 s C).bind (kCh1 o o2 f2 f3 s) := by
  unfold xChain
  rfl
@[simp] theorem chn_bl {o2 : A → A → Cs → R A} {x : Bool} : chn o2 f3 s w (.bl x) C = if x = true then (f3 s C).bind (o2 w) else .ok (.bl false) C := rfl
/-! statements -/
@[simp] theorem ap_next : sNext s C = .nx s C := rfl
@[simp] theorem ap_seq : sSeq a b s C = (a s C).then b := rfl
def kSet (i : Nat) (s : En) (v : A) (C : Cs) : SR := .nx (s.set i (some v)) C
@[simp] theorem k_set : kSet i s v C = .nx (s.set i (some v)) C := rfl
@[simp] theorem ap_set : sSet i f s C = (f s C).toS s (kSet i s) := rfl
def kExp (s : En) (_ : A) (C : Cs) : SR := .nx s C
@[simp] theorem k_exp : kExp s v C = .nx s C := rfl
@[simp] theorem ap_exp : sExp f s C = (f s C).toS s (kExp s) := rfl
def kRet (v : A) (C : Cs) : SR := .rt v C
@[simp] theorem k_ret : kRet v C = .rt v C := rfl
@[simp] theorem ap_ret : sRet f s C = (f s C).toS s kRet := rfl
def kIfS (a b : En → Cs → SR) (s : En) (x : Bool) (C : Cs) : SR := if x = true then a s C else b s C
@[simp] theorem k_ifS {x : Bool} : kIfS a b s x C = if x = true then a s C else b s C := rfl
@[simp] theorem ap_ifS : sIf t a b s C = (t s C).toS s (kIfS a b s) := rfl
def parN (i j : Nat) (s : En) (vs : List A) (C : Cs) : SR := match vs with
  | [v, w] => .nx ((s.set i (some v)).set j (some w)) C
  | _ => .bad
@[simp] theorem ap_par : sPar i j fs s C = (fs s C).toS s (parN i j s) := by
  unfold sPar
  congr
@[simp] theorem parN_2 : parN i j s [v, w] C = .nx ((s.set i (some v)).set j (some w)) C := rfl
def asgN (T : Tgt) (s : En) (v : A) (C : Cs) : SR := match T.upd v with
  | some us => .nx (setAll us s) C
  | none => .bad
@[simp] theorem ap_asg : sAsg T f s C = (f s C).toS s (asgN T s) := rfl
def putN (s : En) (v o i : A) (C : Cs) : SR := match o, i with
  | .loc n, .int k => match C[n]? with
    | some xs => match ixN xs.length k with
      | some j => .nx s (C.set n (xs.set j v))
      | none => .bad
    | none => .bad
  | _, _ => .bad
def kPut2 (f2 : En → Cs → R A) (s : En) (v o : A) (C : Cs) : SR := (f2 s C).toS s (putN s v o)
def kPut1 (f1 f2 : En → Cs → R A) (s : En) (v : A) (C : Cs) : SR := (f1 s C).toS s (kPut2 f2 s v)
@[simp] theorem k_put2 : kPut2 f2 s v w C = (f2 s C).toS s (putN s v w) := rfl
@[simp] theorem k_put1 : kPut1 f1 f2 s v C = (f1 s C).toS s (kPut2 f2 s v) := rfl
@[simp] theorem ap_put : sPut f f1 f2 s C = (f s C).toS s (kPut1 f1 f2 s) := rfl
def kFor (T : Tgt) (a : En → Cs → SR) (s : En) (i : Wk) (C : Cs) : SR := forF T a i.2 i.1 s C
theorem k_for {xs : List A} {ck : Cs → Bool} : kFor T a s (xs, ck) C = forF T a ck xs s C := rfl
theorem ap_for : sFor T it a s C = (it s C).toS s (kFor T a s) := rfl
@[simp] theorem ap_seqI : itSeq f s C = (f s C).bind itOf := rfl
end
/-! values -/
section
variable {C : Cs} {i j : Int} {x y : Str} {v w : A} {b : Bool} {xs ys : List A} {n : Nat}
@[simp] theorem v_add : gAddA (.int i) (.int j) C = .ok (.int (i + j)) C := rfl
@[simp] theorem v_sub : gSub (.int i) (.int j) C = .ok (.int (i - j)) C := rfl
@[simp] theorem v_lt : gLt (.int i) (.int j) C = .ok (.bl (decide (i < j))) C := rfl
@[simp] theorem v_le : gLe (.int i) (.int j) C = .ok (.bl (decide (i ≤ j))) C := rfl
@[simp] theorem v_gt : gGt (.int i) (.int j) C = .ok (.bl (decide (j < i))) C := rfl
@[simp] theorem v_ge : gGe (.int i) (.int j) C = .ok (.bl (decide (j ≤ i))) C := rfl
@[simp] theorem v_neg : gNeg (.int i) C = .ok (.int (-i)) C := rfl
theorem v_mul (h : mulOk i j = true) : gMulA (.int i) (.int j) C = .ok (.int (i * j)) C := by simp [gMulA, gMul, gIc, h]
theorem v_div (h : divOk i j = true) : gDiv (.int i) (.int j) C = .ok (.int (i / j)) C := by simp [gDiv, gIc, h]
theorem v_mod (h : modOk i j = true) : gMod (.int i) (.int j) C = .ok (.int (i % j)) C := by simp [gMod, gIc, h]
@[simp] theorem v_int : kInt [.int i] C = .ok (.int i) C := rfl
@[simp] theorem v_intb : kInt [.bl b] C = .ok (.int (if b then 1 else 0)) C := rfl
@[simp] theorem v_abs : kAbs [.int i] C = .ok (.int (if i < 0 then -i else i)) C := rfl
@[simp] theorem v_max : kMax [.int i, .int j] C = .ok (.int (if j > i then j else i)) C := rfl
@[simp] theorem v_min : kMin [.int i, .int j] C = .ok (.int (if j < i then j else i)) C := rfl
/-- the end of a def: what is given back holds no cell -/
@[simp] theorem goA_int {C n i} : goA C n (.int i) = some (.int i) := by simp [goA]
@[simp] theorem goA_bl {C n i} : goA C n (.bl i) = some (.bl i) := by simp [goA]
@[simp] theorem goA_non {C n} : goA C n .non = some .non := by simp [goA]
@[simp] theorem goA_str {C n i} : goA C n (.str i) = some (.str i) := by simp [goA]
mutual
theorem goA_no {C : Cs} {n : Nat} : ∀ {v : A}, noLoc v = true → goA C n v = some v
  | .non, _ => by simp
  | .bl _, _ => by simp
  | .int _, _ => by simp
  | .str _, _ => by simp
  | .tup xs, h => by simp [goA, goAs_no (show noLocs xs = true by simpa [noLoc] using h)]
  | .lst xs, h => by simp [goA, goAs_no (show noLocs xs = true by simpa [noLoc] using h)]
  | .kl xs, h => by simp [goA, goAs_no (show noLocs xs = true by simpa [noLoc] using h)]
  | .dk0, _ => by simp [goA]
  | .fn _, _ => by simp [goA]
  | .loc _, h => by simp [noLoc] at h
  | .opq _, _ => by simp [goA]
  | .kn _, _ => by simp [goA]
  | .ob c m xs, h => by simp [goA, goAs_no (show noLocs xs = true by simpa [noLoc] using h)]
theorem goAs_no {C : Cs} {n : Nat} : ∀ {vs : List A}, noLocs vs = true → goAs C n vs = some vs
  | [], _ => by simp [goAs]
  | x :: xs, h => by
    simp only [noLocs, Bool.and_eq_true] at h
    simp [goAs, goA_no h.1, goAs_no h.2]
end
theorem letGo_ok {D : Cs} (h : C.all noLocs = true) (hv : noLoc v = true) : letGo C.length (.ok v (C ++ D)) = .ok v C := by
  unfold letGo
  simp only [List.take_left', h, if_true, goA_no hv]
theorem letGo_ok0 (h : C.all noLocs = true) (hv : noLoc v = true) : letGo C.length (.ok v C) = .ok v C := by
  have := letGo_ok (D := []) h hv
  rwa [List.append_nil] at this
theorem letGo_len {C' : Cs} (hl : C'.length = C.length) (h : C'.all noLocs = true) (hv : noLoc v = true) : letGo C.length (.ok v C') = .ok v C' := by rw [← hl]; exact letGo_ok0 h hv
theorem letGo_ex0 {c : Nat} (h : C.all noLocs = true) : letGo C.length (.ex c none C) = .ex c none C := by
  unfold letGo
  simp only [List.take_length, h, if_true]
end
end FM

/-! repr; {} -/
namespace FM
open PySem PySem.Spec PyProof.Rows L2 RZ
def RpD (K : PySem.W.Frag) (H : Hp) (x : V) (d : PyData) : Prop := (Dp K H x d ∧ d.hasDict = false) ∨ ∃ a, x = .ref a ∧ H a = some (.dK []) ∧ d = .dict []
def rRepr (K : PySem.W.Frag) : List V → Hp → VK → Prop := fun xs H Q => ∃ x d, xs = [x] ∧ RpD K H x d ∧ d.showable = true ∧ d.depth ≤ 62 ∧ d.shown.length ≤ sizeLine ∧ Q (.str d.shown) H
theorem call_repr {X : Cx} (hg : X.A.guards = some []) (hu : X.A.units + 64 < cLine) : CallR X (.builtin "repr") (rRepr X.K) := by
  intro pins s σ H vs us Q I r h
  obtain ⟨x, d, rfl, hd, hs, h62, hz, q⟩ := h
  cases r with
  | cons rx rr =>
    cases rr
    have go : ∀ {a : Addr} {d : PyData} {as : List Addr}, Reads s.heap (.ref a) d as → d.showable = true → (d.hasDict = true → sysModules ∉ as) → d.depth ≤ 62 → d.shown.length ≤ sizeLine → Q (.str d.shown) H → wpAny (model X.prog X.w) X.A (call (.builtin "repr") [.ref a]) (EP X pins σ Q) X.xe s := fun {a d as} rd hs hm h62 hz q =>
      repr_of_reads' rd hs hm hg (by omega) (fun _ _ e => e) (fun h' u tk hk => ⟨.str d.shown, H, I.kept (t' := tk) hk, ⟨u, rfl⟩, q⟩) hz
    rcases hd with ⟨hd, hD⟩ | ⟨a, rfl, ha, rfl⟩
    · obtain ⟨as, rd⟩ := Dp.reads I d x _ hd rx
      cases hd with
      | non =>
        obtain rfl : _ = Value.none := rx
        exact PySem.P.repr_of_none ⟨.str (PyData.none).shown, H, I.tok _, ⟨s.toks, by simp only [PyData.shown]⟩, q⟩
      | bl b =>
        obtain rfl : _ = Value.bool b := rx
        exact PySem.P.repr_of_bool ⟨.str (PyData.bool b).shown, H, I.tok _, ⟨s.toks, by simp only [PyData.shown]⟩, q⟩
      | int i =>
        obtain ⟨t, rfl⟩ := rx
        exact PySem.P.repr_of_int (by simpa [PyData.showable] using hs) ⟨.str (PyData.int i).shown, H, I.tok _, ⟨s.toks, by simp only [PyData.shown]⟩, q⟩
      | str z =>
        obtain ⟨t, rfl⟩ := rx
        exact PySem.P.repr_of_str ⟨.str (PyData.str z).shown, H, I.tok _, ⟨s.toks, by simp only [PyData.shown]⟩, q⟩ (by simpa only [PyData.shown] using hz)
      | lst h1 h2 =>
        cases rx
        exact go rd hs (PyData.noDict_hsm hD) h62 hz q
      | tup h1 h2 =>
        cases rx
        exact go rd hs (PyData.noDict_hsm hD) h62 hz q
    · cases rx
      obtain ⟨z, hlow, vs, kv, od⟩ := dk_of I.hok ha
      cases kv
      obtain ⟨o, es, n, e1, e2, e3, _, e5, _⟩ := od
      have e6 : es.toList = [] := by
        generalize es.toList = l at e5
        cases e5
        rfl
      refine go (as := a :: [] ++ []) (.dict (kvs := []) e1 e2.1 e3 (by rw [e6]; exact .nil) (by rw [e6]; exact .nil)) hs (fun _ hm => ?_) h62 hz q
      have : sysModules = a := by simpa using hm
      rw [this] at hlow
      simp at hlow

def toRp (v : A) (C : Cs) : Option PyData := match v with
  | .dk0 => some (.dict [])
  | v => match toD v C with
    | some d => if d.hasDict = true then none else some d
    | none => none
def kRepr : List A → Cs → R A := fun vs C => match vs with
  | [v] => match toRp v C with
    | some d => if (d.showable && decide (d.depth ≤ 62) && decide (d.shown.length ≤ big)) = true then .ok (.str d.shown) C else .bad
    | none => .bad
  | _ => .bad
theorem ad_repr {K : PySem.W.Frag} {xc : XC} : AdqN K xc kRepr (rRepr K) := by
  intro W ι H σ C vs xs Q c r p
  unfold kRepr at p
  split at p
  · rename_i v
    obtain ⟨u, rfl, r1⟩ := r.one
    split at p
    · rename_i d hd
      split at p
      · rename_i h
        simp only [Bool.and_eq_true, decide_eq_true_eq] at h
        refine ⟨u, d, rfl, ?_, h.1.1, h.1.2, big_line h.2, p.fin c (.str _)⟩
        unfold toRp at hd
        split at hd
        · cases hd
          cases r1 with
          | dk0 h1 n => exact .inr ⟨_, rfl, h1, rfl⟩
        · split at hd
          · rename_i e he
            split at hd
            · cases hd
            · rename_i hD
              cases hd
              exact .inl ⟨dp_at c r1 he, by simpa using hD⟩
          · cases hd
      · exact p.elim
    · exact p.elim
  · exact p.elim
def xDk0 : En → Cs → R A := xC .dk0
theorem r_dk0 {X : Cx} {xc : XC} {W : WX} {pos : Pos} : PE X (.Dict [] [] pos) (xD X.K xc W xDk0) := PE.imp pe_dnewK fun σ H Q ⟨ι, s, C, c, r, p⟩ => fun a ha =>
  p.to (ext_new c ha _) (c.new ha _) (.dk0 upd_same (c.ne_none ha))
end FM

/-! defs that are called where no text is in the making -/
namespace FM
open PySem PySem.Spec PyProof.Rows L2 RZ
structure FnG (P : Program) (w : World) (K : PySem.W.Frag) (mg : Str → Option Value) (base : Heap) (k : Nat) (f : Addr) (fd : FuncData) (ps : List Str) (sp : Sp) : Prop where
  len : ∀ vs H Q E, sp vs H Q E → vs.length = ps.length
  run : ∀ (A : Around) (outer : List Env) (s : Shared) (H : Hp) (args : Args) (us : List Value) (vs : List V) (Q : VK) (E : XK), A.guards = some [] → Room k A → Env0 P w K mg base A outer s H → BindsTo s fd args (ps.zip us) → Vals vs us → sp vs H Q E →
    codeAny (model P w) A (.call (.ref f) args) (CR (L2.CX P w) outer P w H s Q E) s
theorem deeper_g {A : Around} (env : Env) (h : A.guards = some []) : (A.deeper env).guards = some [] := h
section
variable {P : Program} {w : World} {K : PySem.W.Frag} {mg : Str → Option Value} {base : Heap} {xc : XC}
theorem FnG.imp {k : Nat} {f : Addr} {fd : FuncData} {ps : List Str} {sp sp' : Sp} (F : FnG P w K mg base k f fd ps sp) (h : ∀ vs H Q E, sp' vs H Q E → sp vs H Q E) : FnG P w K mg base k f fd ps sp' :=
  ⟨fun vs H Q E q => F.len vs H Q E (h _ _ _ _ q), fun A outer s H args us vs Q E hg hr he hb hv hs => F.run A outer s H args us vs Q E hg hr he hb hv (h _ _ _ _ hs)⟩
theorem fn_g0 {x qual : Str} {st : Stmt} {f : Addr} {fd : FuncData} {N ps : List Str} {k : Nat} {b : En → Cs → SR} (F : Fun K x qual st f fd) (S : FnScope N ps (defScope st))
    (hbody : ∀ (cdv : Value) (A : Around) (outer : List Env) (s : Shared) (H : Hp) (E : XK), PySem.W.codeIn K cdv qual = true → fd.code = cdv → A.guards = some [] → Room k (A.deeper (envOfC qual (defScope st) s.heap.objs.size f cdv)) →
      Takes (cxOf (L2.CX P w) P w K mg base N qual (defScope st) f cdv A outer s H E) (fun c d _ H => E c d H) →
      PassesOwn (model P w) (A.deeper (envOfC qual (defScope st) s.heap.objs.size f cdv)) (envOfC qual (defScope st) s.heap.objs.size f cdv) (cxOf (L2.CX P w) P w K mg base N qual (defScope st) f cdv A outer s H E).xe →
      (∃ (oc : Value) (od an : Option Addr) (kV doc pm ct : Value) (osl : Array (Option Value)), K.lookup f = some ⟨oc, od, .func (PySem.W.fnOf x qual (defArgs st) (defBody st) (defScope st) .none kV doc pm an cdv ct), osl⟩) →
      PSs (cxOf (L2.CX P w) P w K mg base N qual (defScope st) f cdv A outer s H E) (defBody st) (sD K xc (fun c d _ H => E c d H) b)) :
    FnG P w K mg base (k + 1) f fd ps (spD K xc ps.length (runF (N.length - ps.length) b)) := by
  obtain ⟨oc, od, kV, doc, pm, an, cdv, ct, osl, rfl, lk, hcd⟩ := F.ex
  refine ⟨fun vs H Q E ⟨_, _, _, _, _, h, _⟩ => h, fun A outer s H args us vs Q E hg hr e0 hb r ⟨ι, as, C, c, ra, hl, p⟩ => ?_⟩
  refine LamX.run_ofS lk hcd S hr e0 hb r hl fun hr' => ?_
  refine ⟨_, hbody cdv A outer s H E hcd rfl hg hr' (takes_of rfl rfl rfl rfl) (passes_of rfl) ⟨_, _, _, _, _, _, _, _, lk⟩, ?_⟩
  refine ⟨ι, as.map some ++ List.replicate (N.length - vs.length) none, C, c, RS.start ra, ?_⟩
  rw [hl]
  unfold runF at p
  generalize b (List.map some as ++ List.replicate (N.length - ps.length) none) C = r at p ⊢
  cases r with
  | nx s1 C1 => exact fun ι1 H1 σ1 e1 c1 r1 => p ι1 H1 .non e1 c1 .non
  | bk s1 C1 => exact (show False from p).elim
  | ct s1 C1 => exact (show False from p).elim
  | rt v C1 => exact fun ι1 H1 x e1 c1 r1 => p ι1 H1 x e1 c1 r1
  | ex cc pp s1 C1 => exact fun ι1 H1 σ1 d e1 c1 r1 rx => p ι1 H1 d e1 c1 rx
  | bad => exact p
theorem fn_g {x qual : Str} {st : Stmt} {f : Addr} {fd : FuncData} {N ps : List Str} {k : Nat} {b : En → Cs → SR} (F : Fun K x qual st f fd) (S : FnScope N ps (defScope st))
    (hbody : ∀ (cdv : Value) (A : Around) (outer : List Env) (s : Shared) (H : Hp) (E : XK), PySem.W.codeIn K cdv qual = true → fd.code = cdv → A.guards = some [] → Room k (A.deeper (envOfC qual (defScope st) s.heap.objs.size f cdv)) →
      Takes (cxOf (L2.CX P w) P w K mg base N qual (defScope st) f cdv A outer s H E) (fun c d _ H => E c d H) →
      PassesOwn (model P w) (A.deeper (envOfC qual (defScope st) s.heap.objs.size f cdv)) (envOfC qual (defScope st) s.heap.objs.size f cdv) (cxOf (L2.CX P w) P w K mg base N qual (defScope st) f cdv A outer s H E).xe →
      (∃ (oc : Value) (od an : Option Addr) (kV doc pm ct : Value) (osl : Array (Option Value)), K.lookup f = some ⟨oc, od, .func (PySem.W.fnOf x qual (defArgs st) (defBody st) (defScope st) .none kV doc pm an cdv ct), osl⟩) →
      PSs (cxOf (L2.CX P w) P w K mg base N qual (defScope st) f cdv A outer s H E) (defBody st) (sD K xc (fun c d _ H => E c d H) b)) :
    FnG P w K mg base (k + 1) f fd ps (spD K xc ps.length (runZ (N.length - ps.length) b)) := (fn_g0 F S hbody).imp spD_go
end
section
variable {X : Cx} {xc : XC} {W : WX} {pos : Pos}
theorem r_callG {k : Nat} {f : Addr} {fd : FuncData} {ps : List Str} {np : Nat} {m : List A → Cs → R A} {x : Str} {p : Pos} {e : Expr} {es : List Expr} {fs : En → Cs → R (List A)} (F : FnG X.prog X.w X.K X.mg X.base k f fd ps (spD X.K xc np m)) (hgd : X.A.guards = some []) (hr : Room k X.A)
    (tk : Takes X W) (hg : Gl X x) (hm : X.mg x = some (.ref f)) (hk : PySem.W.keepIn X.K (.ref f) = true) (hb : Binds X.K fd ps []) (ha : PA X (e :: es) (aD X.K xc W fs)) (hl : es.length + 1 = np) (hdb : (x == ("__debug__" : Str)) = false := by decide)
    (he : starEach (e :: es) X.env = (false, eval e X.env) :: starEach es X.env := by rfl) (hpl : (backTo pos (starEach es X.env)).any (·.1) = false := by rfl) (hal : ∀ s C vs C', fs s C = .ok vs C' → vs.length = np) :
    PE X (.Call (.Name x p) (e :: es) [] pos) (xD X.K xc W (xAp m fs)) := by
  have h : PE X (.Call (.Name x p) (e :: es) [] pos) (fun σ H Q => aD X.K xc W fs σ H fun vs H1 => spD X.K xc np m vs H1 Q (WE W σ)) := by
    refine ⟨fun pins s σ H Q I h => ?_⟩
    refine wpAny_Call_Name_kw (ld_glob I hg hm ?_ hdb)
    refine PySem.W.callWith_K (h₀ := X.base) I.ok.mod.kin hk (thn (ha.run pos pins s σ H _ I h) fun us s1 ⟨vs, H1, I1, r, q⟩ => ⟨I1.kIn, ?_⟩) he hpl
    have hl : us.length = ps.length := by rw [← r.length]; exact F.len _ _ _ _ q
    refine wpAny_call (codeAny_mono (F.run X.A X.stack s1 H1 ⟨us, []⟩ us vs Q (WE W σ) hgd hr I1.env0 (by have := hb s1 us I1.kIn (by simpa using hl); simpa using this) r q) fun r s' hq => ?_)
    cases r with
    | error e => exact passAt tk σ pins H1 s1 e s' I1 hq
    | ok fl =>
      cases fl with
      | ret u => exact I1.after hq
      | _ => exact False.elim hq
  refine PE.imp h fun σ H Q ⟨ι, s, C, c, r, p⟩ => ?_
  unfold xAp at p
  refine ⟨ι, s, C, c, r, ?_⟩
  cases e : fs s C with
  | ok vs C1 =>
    rw [e] at p
    intro ι1 H1 xs e1 c1 r1
    exact ⟨ι1, vs, C1, c1, r1, by rw [← r1.length]; exact hal s C vs C1 e, by
      have p' := Post.later (r := m vs C1) p e1
      cases e2 : m vs C1 with
      | ok v C2 => rw [e2] at p'; exact p'
      | ex cc pp C2 => rw [e2] at p'; exact p'
      | bad => rw [e2] at p'; exact p'⟩
  | ex cc pp C1 => rw [e] at p; exact p
  | bad => rw [e] at p; exact p
end
end FM

/-! the end for such defs, tables of code objects among what is tracked -/
namespace FM
open PySem PySem.Spec PyProof.Rows L2 RZ LamX
/-- what is tracked at the law's call: the tables, and the script unless it is one of the module's own objects -/
def Htr (K : PySem.W.Frag) (T : List Addr) (a : Addr) (o : Obj) (xs : List V) : Hp := fun b => if b ∈ T then some (.tbl #[]) else if b = a ∧ K.lookup a = none then some (.frz o (.lst xs)) else none
section
variable {K : PySem.W.Frag} {T : List Addr} {a : Addr} {o : Obj} {xs : List V}
theorem Htr.tab {b : Addr} (h : b ∈ T) : Htr K T a o xs b = some (.tbl #[]) := if_pos h
theorem Htr.of {b : Addr} {u : HO} (h : Htr K T a o xs b = some u) : (b ∈ T ∧ u = .tbl #[]) ∨ (b ∉ T ∧ b = a ∧ K.lookup a = none ∧ u = .frz o (.lst xs)) := by
  unfold Htr at h
  split at h
  · rename_i hb
    cases h
    exact .inl ⟨hb, rfl⟩
  · rename_i hb
    split at h
    · rename_i ha
      cases h
      exact .inr ⟨hb, ha.1, ha.2, rfl⟩
    · cases h
theorem Htr.no {b : Addr} (h1 : b ∉ T) (h2 : b ≠ a) : Htr K T a o xs b = none := by
  unfold Htr
  rw [if_neg h1, if_neg fun z => h2 z.1]
end
theorem end_g {P : Program} {w : World} {K : PySem.W.Frag} {mg mb : Str → Option Value} {k : Nat} {fa a : Addr} {cs : List (Addr × Addr)} {fd : FuncData} {x : Str} {sp : Sp} {s₁ : Shared} {vs : List Value} {ns : List Int}
    (KX : K.In s₁.heap) (hns : s₁.heap.Ns mainGlobals mg) (hb : s₁.heap.Ns builtinsNs mb) (hbb : ∀ x : Str, x ≠ "__name__" → mb x = bootBuiltins x) (hlim : s₁.heap.NoLimit) (hg : s₁.gens = #[])
    (hT : ∀ p ∈ cs, s₁.heap.get? p.2 = some { cls := .none, data := .fields #[] }) (nT : ∀ p ∈ cs, K.lookup p.2 = none) (C : ∀ p ∈ cs, PySem.W.CodeHd s₁.heap p.1 p.2)
    (hbm : ∃ (bm : Addr) (ob : Obj), mg "__builtins__" = some (.ref bm) ∧ bm ≠ builtinsNs ∧ s₁.heap.get? bm = some ob ∧ ob.cls = .type "module" ∧ ob.dict = some builtinsNs ∧ ob.data = .plain)
    (ha : s₁.heap.get? a = some { cls := .type "list", data := .seq vs.toArray }) (hi : IntsAre vs ns) (hl : ns.length ≤ sizeLine) (hr : Room k callerA)
    (F : ∀ base : Heap, K.In base → base.Ns mainGlobals mg → (∀ p ∈ cs, TabB base mg p.1 p.2) → FnG P w K mg base k fa fd [x] sp) (hbind : ∀ (s : Shared) (u : Value), BindsTo s fd ⟨[u], []⟩ [(x, u)])
    (hsp : ∀ H : Hp, (∀ p ∈ cs, H p.2 = some (.tbl #[])) → SqL K H a (ns.map V.int) → sp [.ref a] H (fun v _ => v = .bl true) fun _ _ _ => False) :
    codeAny (model P w) callerA (.call (.ref fa) ⟨[.ref a], []⟩) (fun r s' => r = .ok (.ret (.bool true)) ∧ OldK s₁.heap s'.heap ∧ s'.os = s₁.os ∧ AllBare s'.gens) s₁ := by
  let T := cs.map (·.2)
  let H := Htr K T a { cls := .type "list", data := .seq vs.toArray } (ns.map V.int)
  have inT : ∀ {b : Addr}, b ∈ T → ∃ p ∈ cs, p.2 = b := fun hb => let ⟨p, hp, e⟩ := List.mem_map.mp hb; ⟨p, hp, e⟩
  have tO : ∀ {b : Addr}, b ∈ T → s₁.heap.get? b = some { cls := .none, data := .fields #[] } := fun hb => let ⟨p, hp, e⟩ := inT hb; by rw [← e]; exact hT p hp
  have aT : a ∉ T := fun z => by
    have q := tO z
    rw [ha] at q
    injection q with q
    injection q with q1 q2 q3
    cases q3
  -- what is seen is not tracked
  have free : ∀ {b : Addr} {ob : Obj}, s₁.heap.get? b = some ob → ob.data ≠ .fields #[] → ob.data ≠ .seq vs.toArray → H b = none := fun {b ob} e n1 n2 => by
    refine Htr.no (fun z => ?_) fun z => ?_
    · have q := tO z
      rw [e] at q
      cases q
      exact n1 rfl
    · rw [z, ha] at e
      cases e
      exact n2 rfl
  have ns_ : ∀ {b : Addr} {m : Str → Option Value}, s₁.heap.Ns b m → (hidT s₁.heap H).Ns b m := fun {b m} ⟨ob, es, ep, e, d, r⟩ => ⟨ob, es, ep, hidT_get e (free e (by rw [d]; exact nofun) (by rw [d]; exact nofun)), d, r⟩
  have kin : K.In (hidT s₁.heap H) := fun b ob e => hidT_get (KX b ob e) (by
    cases q : H b with
    | none => rfl
    | some u =>
      rcases Htr.of q with ⟨z, _⟩ | ⟨_, z, z2, _⟩
      · obtain ⟨p, hp, ep⟩ := inT z
        rw [← ep, nT p hp] at e
        cases e
      · rw [z, z2] at e
        cases e)
  have hM : L2.Mod K mg (hidT s₁.heap H) := ⟨kin, ns_ hns, ⟨mb, ns_ hb, hbb⟩, let ⟨mc, h1, h2⟩ := hlim; ⟨mc, ns_ h1, h2⟩⟩
  have hok : HOk P w H s₁.heap := fun b u e => by
    rcases Htr.of e with ⟨z, rfl⟩ | ⟨_, rfl, _, rfl⟩
    · exact tO z
    · exact ⟨ha, by rw [List.length_map]; exact hl, vs, _, vals_ints hi, ha⟩
  have hS : SqL K H a (ns.map V.int) := by
    cases q : K.lookup a with
    | none =>
      refine .inl (.inr ⟨{ cls := .type "list", data := .seq vs.toArray }, ?_⟩)
      show Htr K T a _ _ a = _
      unfold Htr
      rw [if_neg aT, if_pos ⟨rfl, q⟩]
    | some ob =>
      have e := KX a ob q
      rw [ha] at e
      cases e
      exact .inr ⟨_, vs.toArray, _, q, rfl, rfl, rfl, by rw [List.size_toArray, hi.length]; exact hl, by simpa using vals_ints hi⟩
  have tabs : ∀ p ∈ cs, TabB (hidT s₁.heap H) mg p.1 p.2 := fun p hp => by
    refine ⟨?_, ?_, fun z => ?_⟩
    · obtain ⟨ob, us, file, tf, flags, tg, inF, text, tt, e1, r1, r2, r3, rest⟩ := C p hp
      refine ⟨ob, us, file, tf, flags, tg, inF, text, tt, hidT_get e1 (free e1 (fun z => ?_) (by rw [r2]; exact nofun)), r1, r2, r3, rest⟩
      rw [r2] at z
      injection z with z
      rw [z] at r3
      simp at r3
    · obtain ⟨bm, ob, b1, b2, b3, b4, b5, b6⟩ := hbm
      refine ⟨bm, ob, b1, b2, fun q => ?_, fun q => ?_, hidT_get b3 (free b3 (by rw [b6]; exact nofun) (by rw [b6]; exact nofun)), b4, b5, b6⟩
      · obtain ⟨ob2, es, ep, e, hd, _⟩ := hns
        rw [← q, b3] at e
        cases e
        rw [b6] at hd
        cases hd
      · rw [q, hT p hp] at b3
        cases b3
        cases b6
    · obtain ⟨ob, es, ep, e, hd, _⟩ := hns
      rw [z, hT p hp] at e
      cases e
      cases hd
  have e0 : Env0 P w K mg (hidT s₁.heap H) callerA [] s₁ H := ⟨rfl, hM, fun b ob e => of_hidT e, Nat.le_of_eq (hidT_size _ _), trivial, fun b hb => by simp [frs] at hb, hok, .of_eq hg⟩
  refine codeAny_mono ((F _ kin (ns_ hns) tabs).run callerA [] s₁ H ⟨[.ref a], []⟩ [.ref a] [.ref a] _ _ rfl hr e0 (hbind s₁ (.ref a)) (.cons rfl .nil) (hsp H (fun p hp => Htr.tab (List.mem_map.mpr ⟨p, hp, rfl⟩)) hS)) fun r s' h => ?_
  cases r with
  | error e =>
    obtain ⟨_, _, _, _, _, _, _, _, _, _, _, _, z⟩ := h
    exact z.elim
  | ok fl =>
    cases fl with
    | ret u =>
      obtain ⟨v, H', os, bare, un, hok', r', rfl⟩ := h
      obtain rfl : u = Value.bool true := r'
      have kept : ∀ b ob, b ∉ T → s₁.heap.get? b = some ob → s'.heap.get? b = some ob := fun b ob nb e => by
        cases q : H b with
        | none => exact un.keep b ob e q (by simp [frs]) (by simp)
        | some u =>
          rcases Htr.of q with ⟨z, _⟩ | ⟨_, rfl, _, rfl⟩
          · exact absurd z nb
          · have z2 := un.frzs _ _ _ q
            rw [ha] at e
            cases e
            exact (hok' _ _ z2).1
      have more : ∀ p ∈ cs, ∃ mo : Array Value, s'.heap.get? p.2 = some { cls := .none, data := .fields mo } := fun p hp => by
        obtain ⟨mo, z⟩ := un.tbls p.2 #[] (Htr.tab (List.mem_map.mpr ⟨p, hp, rfl⟩))
        exact ⟨_, hok' p.2 _ z⟩
      refine ⟨rfl, ⟨fun b ob e => ?_, fun b ob e => ?_⟩, os, bare⟩
      · by_cases hb : b ∈ T
        · obtain ⟨p, hp, rfl⟩ := inT hb
          obtain ⟨mo, hm⟩ := more p hp
          rw [hT p hp] at e
          cases e
          exact .inr (.inl ⟨((C p hp).tab (hT p hp)).isCodeTable, rfl, #[], mo, rfl, by rw [Array.empty_append]; exact hm⟩)
        · exact .inl (kept b ob hb e)
      · by_cases hb : b ∈ T
        · obtain ⟨p, hp, rfl⟩ := inT hb
          obtain ⟨mo, hm⟩ := more p hp
          exact ⟨_, hm⟩
        · exact ⟨ob, kept b ob hb e⟩
    | _ => exact False.elim h
theorem sp_lawT {K : PySem.W.Frag} {xc : XC} {m : List A → Cs → R A} {T0 : List (Addr × Str)} {fa0 : Nat → Addr} (hg : xc.G T0 fa0 [] []) {H : Hp} {a : Addr} {ns : List Int} (hT : ∀ p ∈ T0, H p.1 = some (.tbl #[])) (h : SqL K H a (ns.map V.int)) (e : m [.kl (ns.map A.int)] [] = .ok (.bl true) []) : spD K xc 1 m [.ref a] H (fun v _ => v = .bl true) (fun _ _ _ => False) := by
  refine ⟨⟨[], ⟨[], T0, [], [], fa0⟩⟩, [.kl (ns.map A.int)], [], ⟨rfl, by simp, fun n xs a h1 h2 => by simp at h1, ⟨fun b hb => by simp [Lay.hd] at hb, fun p hp => TabS.nil (hT p hp), fun p hp => by simp at hp, fun p hp => by simp at hp⟩, hg⟩, .cons (.kl ?_ (rps_ints ns)) .nil, rfl, ?_⟩
  · rcases h with h | h
    · exact .inl ⟨h, by simp [Lay.Out, Lay.hd]⟩
    · exact .inr (.inr h)
  · rw [e]
    exact fun ι' H' x e c r => r.of_bl
/-- what is known of the law at the head's heap; N: the defs that make lambdas, each with its code object and its table -/
def LawG (l : PySem.W.OpenLaw) (q : Program) (w : World) (K : PySem.W.Frag) (k n : Nat) (mg : Str → Option Value) (fa : Addr) : Prop :=
  ∃ (fd : FuncData) (N : List (Str × Addr × Addr)) (T0 : List (Addr × Str)) (xc : XC) (m : List A → Cs → R A), (∀ p ∈ N, PySem.W.tabIn K p.1 = some p.2) ∧ (∀ p ∈ N, K.lookup p.2.2 = none) ∧ (∀ p ∈ N, ((recsOf q).any fun e => e.name == p.1) = true) ∧
    (∀ (s : Shared) (u : Value), BindsTo s fd ⟨[u], []⟩ [("script", u)]) ∧
    (∀ p ∈ T0, ∃ q ∈ N, q.2.2 = p.1) ∧ (∃ fa0, xc.G T0 fa0 [] []) ∧ (∀ ns : List Int, ns.length ≤ n → (∀ z ∈ ns, Builtin.Int.intBits z ≤ 1048576) → m [.kl (ns.map A.int)] [] = .ok (.bl true) []) ∧
    ∀ base : Heap, K.In base → base.Ns mainGlobals mg → (∀ p ∈ N, TabB base mg p.2.1 p.2.2) → FnG l.prog w K mg base k fa fd ["script"] (spD K xc 1 m)
theorem walk_g {l : PySem.W.OpenLaw} {n k : Nat} {q : Program} {loose : List Str} {XP : (Str → Option Value) → Heap → Prop} {YP : World → Heap → Prop} {d : DefRec} {K : Params → PySem.W.Frag}
    (hn : l.most = some n) (hn2 : n ≤ sizeLine) (hdf : d.params.defaults = []) (hr : Room k callerA) (hY : ∀ (w : World) (h : Heap), YP w h → (K w.params).In h)
    (F : ∀ (w : World) (mg : Str → Option Value) (fa : Addr) (h : Heap), YP w h → (K w.params).In h → h.Ns mainGlobals mg → mg d.name = some (.ref fa) → LawG l q w (K w.params) k n mg fa) : PySem.W.WalkO q loose XP YP l.row.toRowW d [] (fun f vs => PySem.call f vs) := by
  refine Att.attach_callB hn hdf fun w s₀ s₁ mg mb fa o pm cd doc a vs ns G Y ho hd hcd hmg hobj hints hlen hbits hg => ?_
  have KX := hY w _ Y
  obtain ⟨fd, N, T0, xc, m, hT, nT, hR, hb, hT0, ⟨fa0, hG⟩, hm, hF⟩ := F w mg fa _ Y KX G.T.g hmg
  have both : ∀ p ∈ N, PySem.W.CodeHd s₁.heap p.2.1 p.2.2 ∧ s₁.heap.get? p.2.2 = some { cls := .none, data := .fields #[] } := fun p hp => by
    cases e : (recsOf q).find? (fun e => e.name == p.1) with
    | none =>
      obtain ⟨dL, hm1, hn1⟩ := List.any_eq_true.mp (hR p hp)
      have := List.find?_eq_none.mp e dL hm1
      exact absurd hn1 this
    | some dL => exact PySem.W.tab_of G.T KX e (hT p hp)
  have inN : ∀ p ∈ N.map (·.2), ∃ r ∈ N, r.2 = p := fun p hp => let ⟨r, h1, h2⟩ := List.mem_map.mp hp; ⟨r, h1, h2⟩
  exact end_g (cs := N.map (·.2)) KX G.T.g G.T.b G.T.builtins G.T.nolimit hg (fun p hp => let ⟨r, h1, h2⟩ := inN p hp; by rw [← h2]; exact (both r h1).2) (fun p hp => let ⟨r, h1, h2⟩ := inN p hp; by rw [← h2]; exact nT r h1)
    (fun p hp => let ⟨r, h1, h2⟩ := inN p hp; by rw [← h2]; exact (both r h1).1) G.T.bmain hobj hints (Nat.le_trans hlen hn2) hr (fun base h1 h2 h3 => hF base h1 h2 fun p hp => h3 p.2 (List.mem_map.mpr ⟨p, hp, rfl⟩)) hb
    fun H hH hS => sp_lawT hG (fun p hp => let ⟨r, hr, e⟩ := hT0 p hp; by rw [← e]; exact hH r.2 (List.mem_map.mpr ⟨r, hr, rfl⟩)) hS (hm ns hlen hbits)
/-- one class of errors below another, or not -/
theorem exm_of {K : PySem.W.Frag} {S T : Addr} {b : Bool} (h1 : PySem.W.subIn K (.ref T) (.type "BaseException") = some true) (h2 : PySem.W.isClsIn K T = true) (h3 : PySem.W.typeIn K (.ref T) = some (.type "type")) (h4 : PySem.W.subIn K (.ref S) (.ref T) = some b) : PySem.W.exmOne K (.ref S) (.ref T) = some b := by
  have e1 : (PySem.W.subIn K (.ref T) (.type "BaseException") == some true) = true := by rw [h1] <;> rfl
  have e2 : ((PySem.W.clsIn K T).isSome && PySem.W.typeIn K (.ref T) == some (.type "type")) = true := by
    have h2' : (PySem.W.clsIn K T).isSome = true := h2
    rw [h2', h3] <;> rfl
  unfold PySem.W.exmOne
  rw [if_pos e1]
  show (if ((PySem.W.clsIn K T).isSome && PySem.W.typeIn K (.ref T) == some (.type "type")) = true then PySem.W.subIn K (.ref S) (.ref T) else none) = some b
  rw [if_pos e2]
  exact h4
end FM

/-! suites that look into the error; classes without a field -/
namespace FM
open PySem PySem.Spec PyProof.Rows L2 RZ LamX
def suN (n : Nat) (g : A → En → Cs → R A) : Nat → Option A → En → Cs → R A := fun c p s C => if c = n then (match p with
  | some pl => g pl s C
  | none => .bad) else .bad
def xFld (i : Nat) (pl : A) : En → Cs → R A := fun s C => match s[i]? with
  | some (some (.kn 0)) => .ok pl C
  | _ => .bad
section
variable {X : Cx} {xc : XC} {W : WX}
theorem r_bad {e : Expr} : PE X e (xD X.K xc W (fun _ _ => .bad)) := ⟨fun pins s σ H Q I ⟨ι, s', C, c, r, p⟩ => (show False from p).elim⟩
theorem r_suN {e : Expr} {n : Nat} {g : A → En → Cs → R A}
    (h : ∀ (a : Addr) (oe : Obj) (d : Option Addr) (pn : List (Addr × Obj)) (pl : A), Zc (.ref (xc.cl n)) d oe → (∃ vs, oe.data = .fields vs) → PE (X.suite a ((a, oe) :: pn)) e (xD X.K (xcS xc a n (some pl) d) (fun _ _ _ _ => False) (g pl))) :
    ∀ (a : Addr) (oe : Obj) (d : Option Addr) (pn : List (Addr × Obj)) (c : Nat) (p : Option A), Zc (.ref (xc.cl c)) d oe → (∃ vs, oe.data = .fields vs) → PE (X.suite a ((a, oe) :: pn)) e (xD X.K (xcS xc a c p d) (fun _ _ _ _ => False) (suN n g c p)) := by
  intro a oe d pn c p hz hf
  unfold suN
  by_cases hc : c = n
  · subst hc
    simp only [if_true]
    cases p with
    | none => exact r_bad
    | some pl => exact h a oe d pn pl hz hf
  · simp only [if_neg hc]
    exact r_bad
/-- a class of errors without a field, as the written part tells it -/
structure Er0 (K : PySem.W.Frag) (mg : Str → Option Value) (x : Str) (bmB : List Value) (newId : String) (C : Addr) : Prop where
  q : PySem.W.excIn K C bmB newId = true
  g : mg x = some (.ref C)
  k : PySem.W.keepIn K (.ref C) = true
  b : PySem.W.subIn K (.ref C) (.type "BaseException") = some true
  t : PySem.W.typeIn K (.ref C) = some (.type "type")
theorem r_raiseE {n : Nat} {x m : Str} {j : Nat} {pos pos2 p p2 : Pos} {bmB : List Value} {B newId initId : String} (hc : X.calm = true) (tk : Takes X W) (F : ExcBaseFacts B newId initId bmB) (e : Er0 X.K X.mg x bmB newId (xc.cl n)) (hg : Gl X x) (hdb : (x == ("__debug__" : Str)) = false := by decide) :
    PS X (.Raise (some (.Call (.Name x p) [.Constant (.str m) j p2] [] pos)) none pos2) (sD X.K xc W (sRaise0 n)) := r_raise0 hc tk F e.q e.g e.k e.b e.t hg hdb
end
end FM

/-! defs as values -/
namespace FM
open PySem PySem.Spec PyProof.Rows L2 RZ LamX
def xCallV (i : Nat) (L : Nat → Option (List A → Cs → R A)) (fs : En → Cs → R (List A)) : En → Cs → R A := fun s C => match s[i]? with
  | some (some (.fn n)) => (match L n with
    | some m => (fs s C).bind m
    | none => .bad)
  | _ => .bad
section
variable {X : Cx} {xc : XC} {W : WX} {pos : Pos} {ad : Nat → Addr}
theorem r_fn {x : Str} {n : Nat} (hfa : ∀ T fa kp pv, xc.G T fa kp pv → fa = ad) (hm : X.mg x = some (.ref (ad n))) (hg : Gl X x := by rfl) (hd : (x == ("__debug__" : Str)) = false := by decide) : PE X (.Name x pos) (xD X.K xc W (xC (.fn n))) := by
  refine PE.imp (pe_glob hg hm (show RelV (V.ref (ad n)) (.ref (ad n)) from rfl) hd) fun σ H Q ⟨ι, s, C, c, r, p⟩ => ?_
  refine p.fin c ?_
  have e := hfa _ _ _ _ c.g
  rw [← e]
  exact .fn n
theorem r_callV {i : Nat} {L : Nat → Option (List A → Cs → R A)} {np : Nat} {x : Str} {p : Pos} {e : Expr} {es : List Expr} {fs : En → Cs → R (List A)} (hfa : ∀ T fa kp pv, xc.G T fa kp pv → fa = ad)
    (hL : ∀ n m, L n = some m → ∃ fd ps k, FnOk X.prog X.w X.K X.mg X.base (L2.CX X.prog X.w) k (ad n) fd ps (spD X.K xc np m) ∧ Room k X.A ∧ PySem.W.keepIn X.K (.ref (ad n)) = true ∧ Binds X.K fd ps [])
    (tk : Takes X W) (hN : X.N[i]? = some x) (hv : Vis X.env.scope x) (ha : PA X (e :: es) (aD X.K xc W fs)) (hd : (x == ("__debug__" : Str)) = false := by decide) (hcd : (x == ("__classdict__" : Str)) = false := by decide)
    (he : starEach (e :: es) X.env = (false, eval e X.env) :: starEach es X.env := by rfl) (hpl : (backTo pos (starEach es X.env)).any (·.1) = false := by rfl) (hal : ∀ s C vs C', fs s C = .ok vs C' → vs.length = np) :
    PE X (.Call (.Name x p) (e :: es) [] pos) (xD X.K xc W (xCallV i L fs)) := by
  refine ⟨fun pins s σ H Q I ⟨ι, s', C, c, r, pp⟩ => ?_⟩
  unfold xCallV at pp
  split at pp
  · rename_i n es'
    split at pp
    · rename_i m hm
      obtain ⟨v, hσ, rv⟩ := r.2 i _ es'
      have ev : v = .ref (ad n) := by
        have e := hfa _ _ _ _ c.g
        rw [← e]
        cases rv
        rfl
      subst ev
      obtain ⟨fd, ps, k, F, hr, hk, hb⟩ := hL n m hm
      refine wpAny_Call_Name_kw (thn ((pe_var (pos := p) (i := i) hN hv hd hcd).run pins s σ H (fun v H1 => v = .ref (ad n) ∧ H1 = H) I ⟨_, hσ, rfl, rfl⟩) fun u s0 ⟨v, H0, I0, r0, q0⟩ => ?_)
      obtain ⟨ev, eH⟩ := q0
      subst ev eH
      obtain rfl : u = Value.ref (ad n) := r0
      have hargs : aD X.K xc W fs σ H0 (fun vs H1 => spD X.K xc np m vs H1 Q (WE W σ)) := by
        refine ⟨ι, s', C, c, r, ?_⟩
        cases e2 : fs s' C with
        | ok vs C1 =>
          rw [e2] at pp
          intro ι1 H1 xs e1 c1 r1
          exact ⟨ι1, vs, C1, c1, r1, by rw [← r1.length]; exact hal s' C vs C1 e2, by
            have p' := Post.later (r := m vs C1) pp e1
            cases e3 : m vs C1 with
            | ok v C2 => rw [e3] at p'; exact p'
            | ex cc pp2 C2 => rw [e3] at p'; exact p'
            | bad => rw [e3] at p'; exact p'⟩
        | ex cc pp2 C1 => rw [e2] at pp; exact pp
        | bad => rw [e2] at pp; exact pp
      refine PySem.W.callWith_K (h₀ := X.base) I.ok.mod.kin hk (thn (ha.run pos pins s0 σ H0 _ I0 hargs) fun us s1 ⟨vs, H1, I1, r1, q⟩ => ⟨I1.kIn, ?_⟩) he hpl
      have q' : spD X.K xc np m (vs ++ []) H1 Q (WE W σ) := by rw [List.append_nil]; exact q
      exact run_fnSD (E := WE W) F hr hb .nil (passAt tk σ) I1 r1 q'
    · exact (show False from pp).elim
  · exact (show False from pp).elim
end
end FM

/-! methods of tuples -/
namespace FM
open PySem PySem.Spec PyProof.Rows L2 RZ LamX
def rTCnt (K : PySem.W.Frag) : V → List V → Hp → VK → Prop := fun x xs H Q => ∃ (p : Addr) (ns : List Int) (k : Int), x = .ref p ∧ xs = [.int k] ∧ SqT K H p (ns.map V.int) ∧ Q (.int (ns.count k : Nat)) H
theorem mt_tcount {X : Cx} : MtR X "tuple.count" (rTCnt X.K) := by
  intro pins s σ H x xs v us Q I rx rxs h
  obtain ⟨p, ns, k, rfl, rfl, hs, q⟩ := h
  cases rx
  obtain ⟨u, rfl, ru⟩ := rxs.one
  obtain ⟨t, rfl⟩ := ru
  obtain ⟨its, rv, ⟨⟨cls, dd, data, sl⟩, ho, hc, n, hd⟩, hlen⟩ := I.tuple hs
  simp only at hc hd
  subst hc hd
  have hi := ints_of_vals rv
  refine call_meets PySem.F.slot_tuple_count ⟨_, ho, rfl⟩ PySem.F.entry_tuple_count (PySem.F.args_tuple_count_2 _ _)
    (SeqAt.tuple_countAt p its.toArray n dd sl (.int k t) (eqk k)) ⟨ho, fun y hy => (eqk_gives hi y (by simpa using hy)).at _ _, ?_⟩
  have ec : its.toArray.toList.countP (eqk k) = ns.count k := eqk_count hi
  refine ⟨.int (ns.count k : Nat), H, I.tok _, ⟨s.toks, ?_⟩, q⟩
  show Value.int ((its.toArray.toList.countP (eqk k) : Nat) : Int) s.toks = Value.int ((ns.count k : Nat) : Int) s.toks
  rw [ec]
def mTCount : A → List A → Cs → R A := fun v vs C => match v, vs with
  | .tup xs, [.int k] => match intsOf xs with
    | some ns => .ok (.int (ns.count k : Nat)) C
    | none => .bad
  | _, _ => .bad
theorem ad_tcount {K : PySem.W.Frag} {xc : XC} : AdqM K xc mTCount (rTCnt K) := by
  intro W ι H σ C v vs x xs Q c r rs p
  unfold mTCount at p
  split at p
  · rename_i ys k
    split at p
    · rename_i ns hn
      obtain ⟨a, us, rfl, f, q⟩ := r.tup_inv
      exact ⟨a, ns, k, rfl, rs.int1, by rw [← ints_of q hn]; exact f.sq, p.fin c (.int _)⟩
    · exact p.elim
  · exact p.elim
def xMtT (g : A → List A → Cs → R A) (f : En → Cs → R A) (fs : En → Cs → R (List A)) : En → Cs → R A := fun s C => (f s C).bind fun v C1 => match tupOf v with
  | some _ => (fs s C1).bind fun vs C2 => g v vs C2
  | none => .bad
/-- what is never reached -/
def xBad : En → Cs → R A := fun _ _ => .bad
theorem r_xbad {X : Cx} {xc : XC} {W : WX} {e : Expr} : PE X e (xD X.K xc W xBad) := ⟨fun pins s σ H Q I ⟨ι, s', C, c, r, p⟩ => (show False from p).elim⟩
/-- where a def's code object and its table stand -/
theorem tab_mk {K : PySem.W.Frag} {x : Str} {f c P : Addr} {oc cc : Value} {od dd : Option Addr} {fd : FuncData} {sl sc : Array (Option Value)} {vs : Array Value} (a : PySem.W.nsIn K mainGlobals x = some (some (.ref f))) (l : K.lookup f = some ⟨oc, od, .func fd, sl⟩) (hc : fd.code = .ref c)
    (co : K.lookup c = some ⟨cc, dd, .fields vs, sc⟩) (v : (vs[11]? : Option Value) = some (.ref P)) : PySem.W.tabIn K x = some (c, P) := by
  unfold PySem.W.tabIn
  rw [a]
  simp only
  rw [l]
  simp only [hc, co, v]
end FM

/-! xs[i] += e -/
namespace FM
open PySem PySem.Spec PyProof.Rows L2 RZ LamX
def sAugIx (sub : Bool) (fo fi f : En → Cs → R A) : En → Cs → SR := fun s C => (fo s C).toS s fun o C1 => (fi s C1).toS s fun i C2 => match o, i with
  | .loc n, .int k => (match C2[n]? with
    | some xs => (match ixN xs.length k with
      | some j => (match xs[j]? with
        | some (.int a) => if ¬ (0 ≤ k ∧ k.toNat = j) then .bad else (f s C2).toS s fun v C3 => (match v with
          | .int b => (match C3[n]? with
            | some ys => if ys.length = xs.length then .nx s (C3.set n (ys.set j (.int (if sub then a - b else a + b)))) else .bad
            | none => .bad)
          | _ => .bad)
        | _ => .bad)
      | none => .bad)
    | none => .bad)
  | _, _ => .bad
section
variable {X : Cx} {xc : XC} {W : WX} {pos p2 : Pos}
def rIxN (K : PySem.W.Frag) : V → V → Hp → VK → Prop := fun x y H Q => ∃ p xs i v, x = .ref p ∧ y = .int i ∧ SqL K H p xs ∧ 0 ≤ i ∧ xs[i.toNat]? = some v ∧ Q v H
theorem pget_list : PGet X (rIxN X.K) := by
  intro pins s σ H x y v u Q I rx ry h
  obtain ⟨p, xs, i, z, rfl, rfl, hq, h0, hz, q⟩ := h
  cases rx
  obtain ⟨t, rfl⟩ := ry
  obtain ⟨its, r, pl, hs⟩ := I.list hq
  obtain ⟨w, ew, rw'⟩ := r.get hz
  have hlt : i.toNat < its.length := (List.getElem?_eq_some_iff.mp ew).1
  have hle := r.length
  have hn := line63
  exact wpAny_getItem_list pl.isList h0 (by omega) (by simpa using ew) ⟨z, H, I, rw', q⟩
theorem r_augIx {sub : Bool} {op : Operator} (hp : PIp X op (ipI fun i j => if sub then i - j else i + j)) {o i e : Expr} {fo fi f : En → Cs → R A} (ho : PE X o (xD X.K xc W fo)) (hi : PE X i (xD X.K xc W fi)) (he : PE X e (xD X.K xc W f))
    (ha : ∀ ov iv new, augStore i ov iv new = (do holding [new, ov, iv] (setItem ov iv new); release [new, ov, iv] []; pure .next) := by intros; rfl) : PS X (.AugAssign (.Subscript o i p2) op e pos) (sD X.K xc W (sAugIx sub fo fi f)) := by
  refine PS.imp (ps_augS ho hi (tget := rIxN X.K) pget_list he hp set_list ha) fun D σ H ⟨ι, s, C, c, r, p⟩ => ?_
  refine Dn.stepS c r p fun ι1 H1 C1 ov ox e1 c1 r1 q1 p1 => ?_
  refine Dn.stepS c1 r1 p1 fun ι2 H2 C2 iv ix e2 c2 r2 q2 p2 => ?_
  split at p2
  · rename_i n k
    split at p2
    · rename_i xs hx
      split at p2
      · rename_i j hj
        split at p2
        · rename_i a hxa
          have q1' := q1.ext e2
          obtain ⟨ad, rfl, had⟩ := q1'.loc_inv
          obtain ⟨ws, h1, h2⟩ := c2.at_ n xs ad hx had
          obtain ⟨u, hu, ru⟩ := h2.get hxa
          split at p2
          · exact p2.elim
          rename_i hk
          have hk' : 0 ≤ k ∧ k.toNat = j := Decidable.not_not.mp hk
          refine ⟨ad, ws, k, u, rfl, q2.of_int, SqL.of h1, hk'.1, by rw [hk'.2]; exact hu, ?_⟩
          · refine Dn.stepS c2 r2 p2 fun ι3 H3 C3 v x e3 c3 r3 q3 p3 => ?_
            split at p3
            · rename_i b
              split at p3
              · rename_i ys hy
                split at p3
                · rename_i hlen
                  refine ⟨a, b, ru.of_int, q3.of_int, ?_⟩
                  have had3 : ι3.cs[n]? = some ad := by
                    obtain ⟨t, et⟩ := e3.pre
                    rw [et, List.getElem?_append_left (List.getElem?_eq_some_iff.mp had).1]
                    exact had
                  obtain ⟨ws3, h5, h6⟩ := c3.at_ n ys ad hy had3
                  exact ⟨ad, ws3, k, j, rfl, q2.of_int, h5, by rw [← h6.length, hlen]; exact hj, p3 ι3 _ σ (ext_set c3 had3 _) (c3.set had3 (h6.set (.int _) j)) (r3.ext (ext_set c3 had3 _))⟩
                · exact p3.elim
              · exact p3.elim
            · exact p3.elim
        · exact p2.elim
      · exact p2.elim
    · exact p2.elim
  · exact p2.elim
theorem r_augIxA {o i e : Expr} {fo fi f : En → Cs → R A} (ho : PE X o (xD X.K xc W fo)) (hi : PE X i (xD X.K xc W fi)) (he : PE X e (xD X.K xc W f))
    (ha : ∀ ov iv new, augStore i ov iv new = (do holding [new, ov, iv] (setItem ov iv new); release [new, ov, iv] []; pure .next) := by intros; rfl) : PS X (.AugAssign (.Subscript o i p2) .Add e pos) (sD X.K xc W (sAugIx false fo fi f)) := r_augIx (by simpa using ip_add) ho hi he ha
theorem r_augIxS {o i e : Expr} {fo fi f : En → Cs → R A} (ho : PE X o (xD X.K xc W fo)) (hi : PE X i (xD X.K xc W fi)) (he : PE X e (xD X.K xc W f))
    (ha : ∀ ov iv new, augStore i ov iv new = (do holding [new, ov, iv] (setItem ov iv new); release [new, ov, iv] []; pure .next) := by intros; rfl) : PS X (.AugAssign (.Subscript o i p2) .Sub e pos) (sD X.K xc W (sAugIx true fo fi f)) := r_augIx (by simpa using ip_sub) ho hi he ha
end
theorem toG {P : Program} {w : World} {K : PySem.W.Frag} {mg : Str → Option Value} {base : Heap} {k : Nat} {f : Addr} {fd : FuncData} {ps : List Str} {sp : Sp} (F : FnOk P w K mg base (L2.CX P w) k f fd ps sp) : FnG P w K mg base k f fd ps sp :=
  ⟨F.len, fun A outer s H args us vs Q E _ => F.run A outer s H args us vs Q E⟩
/-- a, b, c = x, y, z of plain locals -/
theorem r_par3 {X : Cx} {xc : XC} {W : WX} {i j l : Nat} {x y z : Str} {a b c : Expr} {fs : En → Cs → R (List A)} {px py pz pt pos : Pos} {kt k2 pt2} (hc : X.calm = true) (hN : X.N.Nodup) (hi : X.N[i]? = some x) (hj : X.N[j]? = some y) (hl : X.N[l]? = some z) (hij : i ≠ j) (hil : i ≠ l) (hjl : j ≠ l)
    (hx : X.env.scope.names.lookup x = some .local) (hy : X.env.scope.names.lookup y = some .local) (hz : X.env.scope.names.lookup z = some .local) (ha : PA X [a, b, c] (aD X.K xc W fs))
    (hw : swappedStores [.Tuple [.Name x px, .Name y py, .Name z pz] kt pt] (.Tuple [a, b, c] k2 pt2) X.env = pure (some [x, y, z]) := by rfl)
    (hs : swapsWithSole [.Tuple [.Name x px, .Name y py, .Name z pz] kt pt] (.Tuple [a, b, c] k2 pt2) pos.line X.env = pure false := by rfl) :
    PS X (.Assign [.Tuple [.Name x px, .Name y py, .Name z pz] kt pt] (.Tuple [a, b, c] k2 pt2) pos) (sD X.K xc W (sPar3 i j l fs)) := by
  refine PS.imp (ps_par3 hc hN hi hj hl hij hil hjl hx hy hz ha hw hs) fun D σ H ⟨ι, s, C, k, r, p⟩ => ?_
  refine Dn.stepS k r p fun ι1 H1 C1 vs ys e1 c1 r1 q1 p1 => ?_
  split at p1
  · rename_i v w u
    obtain ⟨v1, w1, u1, rfl, a1, a2, a3⟩ := q1.three
    exact ⟨_, _, _, rfl, p1 ι1 H1 _ (Ext.refl _ _) c1 (((r1.set a1 i).set a2 j).set a3 l)⟩
  · exact p1.elim
end FM

/-! the dice of the laws -/
namespace FM
open PySem PySem.Spec PyProof.Rows L2
def bRoll : En → Cs → SR := (sSeq (sIf (tVal (xOp gGt (xOp gIx (xVar 0) (xC (.int 0))) (xC (.int 0)))) (sSeq (sSet 4 (xOp gMod (xAp kInt (aCons (xOp gIx (xVar 0) (xC (.int 0))) aNil)) (xVar 1))) (sSeq (sPut (xOp gDiv (xOp gIx (xVar 0) (xC (.int 0))) (xVar 1)) (xVar 0) (xC (.int 0))) (sRet (xVar 4)))) sNext) (sSeq (sPut (xOp gAddA (xOp gIx (xVar 0) (xC (.int 2))) (xC (.int 1))) (xVar 0) (xC (.int 2))) (sSeq (sSet 2 (xOp gMod (xAp kInt (aCons (xOp gAddA (xOp gIx (xVar 0) (xC (.int 1))) (xOp gMulA (xC (.int 86028157)) (xOp gIx (xVar 0) (xC (.int 2))))) aNil)) (xC (.int 2305843009213693381)))) (sSeq (sSet 3 (xOp gAddA (xOp gMulA (xOp gMod (xAp kInt (aCons (xOp gAddA (xOp gMulA (xVar 2) (xVar 2)) (xOp gMulA (xC (.int 101)) (xOp gIx (xVar 0) (xC (.int 2))))) aNil)) (xC (.int 2305843009213693343))) (xC (.int 7368791))) (xVar 2))) (sRet (xOp gMod (xAp kInt (aCons (xOp gDiv (xVar 3) (xC (.int 65551))) aNil)) (xVar 1)))))))
theorem atI_0 {α : Type} {x : α} {r : List α} : atI (x :: r) 0 = some x := by
  unfold atI ixN
  simp
theorem atI_1 {α : Type} {x y : α} {r : List α} : atI (x :: y :: r) 1 = some y := atI_nat (j := 1) rfl
theorem atI_2 {α : Type} {x y z : α} {r : List α} : atI (x :: y :: z :: r) 2 = some z := atI_nat (j := 2) rfl
theorem ix_loc {C : Cs} {n : Nat} {xs : List A} {i : Int} {a : A} (h : C[n]? = some xs) (e : atI xs i = some a) : gIx (.loc n) (.int i) C = .ok a C := by
  unfold gIx seqOf
  simp only [h, e]
theorem put_loc {s : En} {C : Cs} {n : Nat} {xs : List A} {k : Int} {j : Nat} {v : A} (h : C[n]? = some xs) (e : ixN xs.length k = some j) : putN s v (.loc n) (.int k) C = .nx s (C.set n (xs.set j v)) := by
  unfold putN
  simp only [h, e]
/-- the cell j holds dice -/
def Dc (j : Nat) (C : Cs) : Prop := C.all noLocs = true ∧ ∃ a b c : Int, C[j]? = some [.int a, .int b, .int c]
theorem all_set {C : Cs} {j : Nat} {xs : List A} (h : C.all noLocs = true) (hx : noLocs xs = true) : (C.set j xs).all noLocs = true := by
  rw [List.all_eq_true] at h ⊢
  intro x hm
  rcases List.mem_or_eq_of_mem_set hm with h1 | h1
  · exact h x h1
  · rw [h1]; exact hx
/-- the same but for the dice in the cell j -/
structure Sm (j : Nat) (C C' : Cs) : Prop where
  len : C'.length = C.length
  oth : ∀ i, i ≠ j → C'[i]? = C[i]?
  dc : Dc j C'
theorem roll_ok {C : Cs} {j : Nat} {most : Int} (h : Dc j C) (hm : 0 < most) (hs : most.natAbs.log2 < 9000) : ∃ v C', runZ 3 bRoll [.loc j, .int most] C = .ok (.int v) C' ∧ 0 ≤ v ∧ v < most ∧ Sm j C C' := by
  obtain ⟨hC, a, b, c, hj⟩ := h
  have hlt : j < C.length := (List.getElem?_eq_some_iff.mp hj).1
  have i0 : ∀ {x y z : A}, ixN [x, y, z].length 0 = some 0 := fun {x y z} => rfl
  have i2 : ∀ {x y z : A}, ixN [x, y, z].length 2 = some 2 := fun {x y z} => rfl
  by_cases ha : 0 < a
  · have e1 : gMod (.int a) (.int most) C = .ok (.int (a % most)) C := v_mod (by simp [modOk, hm])
    have e2 : gDiv (.int a) (.int most) C = .ok (.int (a / most)) C := v_div (by simp [divOk, hm, hs])
    have hall := all_set (j := j) (xs := [.int (a / most), .int b, .int c]) hC (by simp [noLocs, noLoc])
    refine ⟨a % most, C.set j [.int (a / most), .int b, .int c], ?_, Int.emod_nonneg _ (by omega), Int.emod_lt_of_pos _ hm, by simp, fun i hi => by rw [List.getElem?_set_ne (Ne.symm hi)], hall, a / most, b, c, by rw [List.getElem?_set_self hlt]⟩
    simp only [runZ_ap, bRoll, List.map_cons, List.map_nil, List.cons_append, List.nil_append, List.replicate, ap_seq, ap_ifS, ap_tv, ap_op, ap_V0, R.bind_ok, ap_C, ix_loc hj atI_0, v_gt, unB_bl, decide_eq_true ha, R.toS_ok, if_true, k_ifS, k_op]
    simp only [ap_seq, ap_set, ap_op, ap_ap, ap_cons, ap_nil, ap_V0, ap_VS, R.bind_ok, ap_C, ix_loc hj atI_0, v_int, e1, R.toS_ok, then_nx, ap_put, e2, List.set_cons_succ, List.set_cons_zero, put_loc hj i0, ap_ret, outF, then_rt, k_set, k_op, k_cons, k_cons2, k_put1, k_put2, k_ret]
    exact letGo_len (by simp) hall rfl
  · have hj1 : (C.set j [.int a, .int b, .int (c + 1)])[j]? = some [.int a, .int b, .int (c + 1)] := by rw [List.getElem?_set_self hlt]
    have hall := all_set (j := j) (xs := [.int a, .int b, .int (c + 1)]) hC (by simp [noLocs, noLoc])
    have hs2 : [A.int a, A.int b, A.int c].set 2 (.int (c + 1)) = [.int a, .int b, .int (c + 1)] := rfl
    have md : ∀ {i k : Int} {D : Cs}, 0 < k → gMod (.int i) (.int k) D = .ok (.int (i % k)) D := fun h => v_mod (by simp [modOk, h])
    have ml : ∀ {i k : Int} {D : Cs}, (-(2 ^ 64) < k ∧ k < 2 ^ 64) → gMulA (.int i) (.int k) D = .ok (.int (i * k)) D := fun h => v_mul (by unfold mulOk; rw [decide_eq_true h]; simp)
    have ml' : ∀ {i k : Int} {D : Cs}, (-(2 ^ 64) < i ∧ i < 2 ^ 64) → gMulA (.int i) (.int k) D = .ok (.int (i * k)) D := fun h => v_mul (by unfold mulOk; rw [decide_eq_true h]; simp)
    have dv : ∀ {i : Int} {D : Cs}, gDiv (.int i) (.int 65551) D = .ok (.int (i / 65551)) D := fun {i D} => v_div (by simp only [divOk]; decide)
    obtain ⟨one, hone⟩ : ∃ x : Int, x = (b + 86028157 * (c + 1)) % 2305843009213693381 := ⟨_, rfl⟩
    have o0 : 0 ≤ one := by rw [hone]; exact Int.emod_nonneg _ (by decide)
    have o1 : one < 2305843009213693381 := by rw [hone]; exact Int.emod_lt_of_pos _ (by decide)
    obtain ⟨two, htwo⟩ : ∃ x : Int, x = (one * one + 101 * (c + 1)) % 2305843009213693343 * 7368791 + one := ⟨_, rfl⟩
    refine ⟨two / 65551 % most, C.set j [.int a, .int b, .int (c + 1)], ?_, Int.emod_nonneg _ (by omega), Int.emod_lt_of_pos _ hm, by simp, fun i hi => by rw [List.getElem?_set_ne (Ne.symm hi)], hall, a, b, c + 1, hj1⟩
    simp only [runZ_ap, bRoll, List.map_cons, List.map_nil, List.cons_append, List.nil_append, List.replicate, ap_seq, ap_ifS, ap_tv, ap_op, ap_V0, R.bind_ok, ap_C, ix_loc hj atI_0, v_gt, unB_bl, decide_eq_false ha, R.toS_ok, Bool.false_eq_true, if_false, ap_next, then_nx, k_ifS, k_op]
    simp only [ap_seq, ap_op, ap_V0, R.bind_ok, ap_C, ix_loc hj atI_2, v_add, R.toS_ok, then_nx, ap_put, put_loc hj i2, hs2, k_op, k_put1, k_put2]
    simp only [ap_seq, ap_set, ap_op, ap_ap, ap_cons, ap_nil, ap_V0, ap_VS, R.bind_ok, ap_C, ix_loc hj1 atI_1, ix_loc hj1 atI_2, ml' (show -(2 ^ 64) < (86028157 : Int) ∧ (86028157 : Int) < 2 ^ 64 by decide), v_add, v_int, md (show (0 : Int) < 2305843009213693381 by decide), R.toS_ok, then_nx, List.set_cons_succ, List.set_cons_zero, k_set, k_op, k_cons, k_cons2]
    rw [← hone]
    simp only [ap_seq, ap_set, ap_op, ap_ap, ap_cons, ap_nil, ap_V0, ap_VS, R.bind_ok, ap_C, ix_loc hj1 atI_2, ml' (show -(2 ^ 64) < one ∧ one < 2 ^ 64 by omega), ml' (show -(2 ^ 64) < (101 : Int) ∧ (101 : Int) < 2 ^ 64 by decide), v_add, v_int, md (show (0 : Int) < 2305843009213693343 by decide), ml (show -(2 ^ 64) < (7368791 : Int) ∧ (7368791 : Int) < 2 ^ 64 by decide), R.toS_ok, then_nx, List.set_cons_succ, List.set_cons_zero, k_set, k_op, k_cons, k_cons2]
    rw [← htwo]
    simp only [ap_ret, ap_op, ap_ap, ap_cons, ap_nil, ap_V0, ap_VS, R.bind_ok, ap_C, dv, v_int, md hm, R.toS_ok, outF, k_ret, k_op, k_cons, k_cons2]
    exact letGo_len (by simp) hall rfl
def bDice : En → Cs → SR := (sSeq (sSet 2 (xIf (tVal (xOp gLt (xVar 1) (xAp kLen (aCons (xVar 0) aNil)))) (xAp kInt (aCons (xOp gIx (xVar 0) (xVar 1)) aNil)) (xOp gAddA (xOp gMulA (xC (.int 97)) (xVar 1)) (xC (.int 61))))) (sSeq (sSet 3 (xOp gMod (xAp kMax (aCons (xC (.int 0)) (aCons (xOp gSub (xAp kAbs (aCons (xVar 2) aNil)) (xOp gPow (xC (.int 10)) (xC (.int 16)))) aNil))) (xOp gMulA (xOp gPow (xC (.int 10)) (xC (.int 56))) (xOp gPow (xC (.int 10)) (xC (.int 60)))))) (sRet (xLstM (aCons (xVar 3) (aCons (xOp gAddA (xOp gAddA (xOp gAddA (xOp gMulA (xOp gMod (xAp kAbs (aCons (xVar 2) aNil)) (xC (.int 1152921504606846869))) (xC (.int 67))) (xOp gMulA (xC (.int 1013)) (xVar 1))) (xOp gMulA (xC (.int 47)) (xAp kInt (aCons (xOp gLt (xVar 2) (xC (.int 0))) aNil)))) (xC (.int 19))) (aCons (xC (.int 0)) aNil)))))))
theorem ix_kl {C : Cs} {xs : List A} {i : Int} {a : A} (e : atI xs i = some a) : gIx (.kl xs) (.int i) C = .ok a C := by
  unfold gIx seqOf
  simp only [e]
theorem len_kl {C : Cs} {xs : List A} : kLen [.kl xs] C = .ok (.int xs.length) C := rfl
theorem dice_ok {C : Cs} {ns : List Int} {spot : Int} (h0 : 0 ≤ spot) : ∃ x y, runF 2 bDice [.kl (ns.map A.int), .int spot] C = .ok (.loc C.length) (C ++ [[.int x, .int y, .int 0]]) := by
  have md : ∀ {i k : Int} {D : Cs}, 0 < k → gMod (.int i) (.int k) D = .ok (.int (i % k)) D := fun h => v_mod (by simp [modOk, h])
  have ml : ∀ {i k : Int} {D : Cs}, (-(2 ^ 64) < k ∧ k < 2 ^ 64) → gMulA (.int i) (.int k) D = .ok (.int (i * k)) D := fun h => v_mul (by unfold mulOk; rw [decide_eq_true h]; simp)
  have ml' : ∀ {i k : Int} {D : Cs}, (-(2 ^ 64) < i ∧ i < 2 ^ 64) → gMulA (.int i) (.int k) D = .ok (.int (i * k)) D := fun h => v_mul (by unfold mulOk; rw [decide_eq_true h]; simp)
  have mb : ∀ {D : Cs}, gMulA (.int (10 ^ 56)) (.int (10 ^ 60)) D = .ok (.int (10 ^ 56 * 10 ^ 60)) D := fun {D} => v_mul (by decide +kernel)
  have pw : ∀ {k : Int} {D : Cs}, 0 ≤ k → k ≤ 1000000 → gPow (.int 10) (.int k) D = .ok (.int (10 ^ k.toNat)) D := fun {k D} h1 h2 => by simp [gPow, gIc, powOk, h1, h2]
  have t16 : ((16 : Int).toNat) = 16 := rfl
  have t56 : ((56 : Int).toNat) = 56 := rfl
  have t60 : ((60 : Int).toNat) = 60 := rfl
  have go : ∀ (c : Int) (rest : List (Option A)), ∃ x y, outF ((sSeq (sSet 3 (xOp gMod (xAp kMax (aCons (xC (.int 0)) (aCons (xOp gSub (xAp kAbs (aCons (xVar 2) aNil)) (xOp gPow (xC (.int 10)) (xC (.int 16)))) aNil))) (xOp gMulA (xOp gPow (xC (.int 10)) (xC (.int 56))) (xOp gPow (xC (.int 10)) (xC (.int 60)))))) (sRet (xLstM (aCons (xVar 3) (aCons (xOp gAddA (xOp gAddA (xOp gAddA (xOp gMulA (xOp gMod (xAp kAbs (aCons (xVar 2) aNil)) (xC (.int 1152921504606846869))) (xC (.int 67))) (xOp gMulA (xC (.int 1013)) (xVar 1))) (xOp gMulA (xC (.int 47)) (xAp kInt (aCons (xOp gLt (xVar 2) (xC (.int 0))) aNil)))) (xC (.int 19))) (aCons (xC (.int 0)) aNil)))))) [some (.kl (ns.map A.int)), some (.int spot), some (.int c), none] C) = .ok (.loc C.length) (C ++ [[.int x, .int y, .int 0]]) := by
    intro c rest
    refine ⟨(if (if c < 0 then -c else c) - 10 ^ 16 > 0 then (if c < 0 then -c else c) - 10 ^ 16 else 0) % (10 ^ 56 * 10 ^ 60), (if c < 0 then -c else c) % 1152921504606846869 * 67 + 1013 * spot + 47 * (if decide (c < 0) = true then 1 else 0) + 19, ?_⟩
    simp only [ap_seq, ap_set, ap_op, ap_ap, ap_cons, ap_nil, ap_V0, ap_VS, R.bind_ok, ap_C, v_abs, pw (show (0 : Int) ≤ 16 by decide) (show (16 : Int) ≤ 1000000 by decide), pw (show (0 : Int) ≤ 56 by decide) (show (56 : Int) ≤ 1000000 by decide), pw (show (0 : Int) ≤ 60 by decide) (show (60 : Int) ≤ 1000000 by decide), v_sub, v_max, t16, t56, t60, mb, md (show (0 : Int) < 10 ^ 56 * 10 ^ 60 by decide), R.toS_ok, then_nx, List.set_cons_succ, List.set_cons_zero, k_set, k_op, k_cons, k_cons2]
    simp only [ap_ret, ap_lstM, ap_op, ap_ap, ap_cons, ap_nil, ap_V0, ap_VS, R.bind_ok, ap_C, v_abs, md (show (0 : Int) < 1152921504606846869 by decide), ml (show -(2 ^ 64) < (67 : Int) ∧ (67 : Int) < 2 ^ 64 by decide), ml' (show -(2 ^ 64) < (1013 : Int) ∧ (1013 : Int) < 2 ^ 64 by decide), ml' (show -(2 ^ 64) < (47 : Int) ∧ (47 : Int) < 2 ^ 64 by decide), v_lt, v_intb, v_add, R.toS_ok, outF, List.length_cons, List.length_nil, k_ret, k_lstM, k_op, k_cons, k_cons2]
    rfl
  by_cases hl : spot < (ns.length : Int)
  · obtain ⟨k, rfl⟩ : ∃ k : Nat, spot = (k : Int) := ⟨spot.toNat, by omega⟩
    have hk : k < ns.length := by omega
    have e : atI (ns.map A.int) (k : Int) = some (.int ns[k]) := atI_nat (by simp [hk])
    obtain ⟨x, y, h⟩ := go ns[k] []
    refine ⟨x, y, ?_⟩
    rw [← h, runF_ap]
    simp only [bDice, List.map_cons, List.map_nil, List.cons_append, List.nil_append, List.replicate]
    rw [ap_seq]
    simp only [ap_set, ap_if, ap_tv, ap_op, ap_ap, ap_cons, ap_nil, ap_V0, ap_VS, R.bind_ok, ap_C, len_kl, List.length_map, v_lt, unB_bl, decide_eq_true hl, if_true, ix_kl e, v_int, R.toS_ok, then_nx, List.set_cons_succ, List.set_cons_zero, k_set, k_if, k_op, k_cons, k_cons2]
  · obtain ⟨x, y, h⟩ := go (97 * spot + 61) []
    refine ⟨x, y, ?_⟩
    rw [← h, runF_ap]
    simp only [bDice, List.map_cons, List.map_nil, List.cons_append, List.nil_append, List.replicate]
    rw [ap_seq]
    simp only [ap_set, ap_if, ap_tv, ap_op, ap_ap, ap_cons, ap_nil, ap_V0, ap_VS, R.bind_ok, ap_C, len_kl, List.length_map, v_lt, unB_bl, decide_eq_false hl, Bool.false_eq_true, if_false, ml' (show -(2 ^ 64) < (97 : Int) ∧ (97 : Int) < 2 ^ 64 by decide), v_add, R.toS_ok, then_nx, List.set_cons_succ, List.set_cons_zero, k_set, k_if, k_op, k_cons, k_cons2]
def bPick : En → Cs → SR := (sRet (xOp gIx (xVar 1) (xAp (runZ 3 bRoll) (aCons (xVar 0) (aCons (xAp kLen (aCons (xVar 1) aNil)) aNil)))))
theorem log_small {n : Nat} (h : n < 2 ^ 64) : ((n : Int)).natAbs.log2 < 9000 := by
  rw [Int.natAbs_natCast]
  by_cases h0 : n = 0
  · subst h0; decide
  · exact (Nat.log2_lt h0).mpr (Nat.lt_of_lt_of_le h (Nat.pow_le_pow_right (by decide) (by decide)))
theorem pick_ok {C : Cs} {j : Nat} {xs : List A} (h : Dc j C) (hn : xs ≠ []) (hl : xs.length < 2 ^ 64) (hx : noLocs xs = true) : ∃ v C', runZ 0 bPick [.loc j, .lst xs] C = .ok v C' ∧ v ∈ xs ∧ Sm j C C' := by
  have hp : 0 < xs.length := List.length_pos_iff.mpr hn
  obtain ⟨v, C', hr, h0, h1, sm⟩ := roll_ok (most := (xs.length : Int)) h (by omega) (log_small hl)
  obtain ⟨k, rfl⟩ : ∃ k : Nat, v = (k : Int) := ⟨v.toNat, by omega⟩
  have hk : k < xs.length := by omega
  have e : gIx (.lst xs) (.int (k : Int)) C' = .ok xs[k] C' := by
    unfold gIx seqOf
    simp only [atI_nat (show xs[k]? = some xs[k] by simp [hk])]
  refine ⟨xs[k], C', ?_, List.getElem_mem hk, sm⟩
  have le : kLen [.lst xs] C = .ok (.int xs.length) C := rfl
  rw [runZ_ap]
  simp only [bPick, List.map_cons, List.map_nil, List.cons_append, List.nil_append, List.replicate, ap_ret, ap_op, ap_ap, ap_cons, ap_nil, ap_V0, ap_VS, R.bind_ok, le, hr, e, R.toS_ok, outF, k_ret, k_op, k_cons, k_cons2]
  have all : ∀ (l : List A) (k : Nat) (hk : k < l.length), noLocs l = true → noLoc l[k] = true := by
    intro l
    induction l with
    | nil => intro k hk; simp at hk
    | cons y l ih =>
      intro k hk hh
      simp only [noLocs, Bool.and_eq_true] at hh
      cases k with
      | zero => exact hh.1
      | succ k => exact ih k (by simpa using hk) hh.2
  exact letGo_len sm.len sm.dc.1 (all xs k hk hx)
theorem Sm.trans {j : Nat} {C C1 C2 : Cs} (a : Sm j C C1) (b : Sm j C1 C2) : Sm j C C2 := ⟨b.len.trans a.len, fun i h => (b.oth i h).trans (a.oth i h), b.dc⟩
theorem Sm.refl {j : Nat} {C : Cs} (h : Dc j C) : Sm j C C := ⟨rfl, fun _ _ => rfl, h⟩
end FM

/-! sorted(tuple, reverse=b) -/
namespace FM
open PySem PySem.Spec PyProof.Rows L2 RZ LamX
section
open Builtin PyProof.Rows
theorem collect_tup {prog : Program} {w : World} {A : Around} {E : Value → Shared → Prop} {s : Shared} {t : Addr} {ot : Obj} {vs : List Value} {k : Nat} {Q : List Value → Shared → Prop} (h1 : s.heap.get? t = some ot) (h2 : ot.cls = .type "tuple") (h3 : ot.data = .seq vs.toArray k) (hz : vs.length ≤ sizeLine)
    (q : Q vs { s with heap := (s.heap.push (seqObj "list" #[] 0)).update s.heap.objs.size (Obj.mapSeq (· ++ vs.toArray)) }) : wpAny (model prog w) A (collect (.ref t)) Q E s := by
  have n0 : (s.heap.push (seqObj "list" #[] 0)).get? s.heap.objs.size = some (seqObj "list" #[] 0) := Heap.get?_push_size _ rfl
  have nt : (s.heap.push (seqObj "list" #[] 0)).get? t = some ot := Heap.get?_push_of_some _ h1
  unfold collect
  refine wpAny_bind (wpAny_runValue (codeAny_builtin entry_proto_collect' (wpAny_bind (wpAny_newList (wpAny_pure ⟨Code.quiet_builtin _ (by decide +kernel), codeAny_builtin entry_list_iadd' ?_⟩)))))
  show wpAny _ _ (Builtin.List.listExtendWith (.ref s.heap.objs.size) (.ref t) (.ref s.heap.objs.size)) _ _ { s with heap := s.heap.push (seqObj "list" #[] 0) }
  unfold Builtin.List.listExtendWith
  refine wpAny_bind (wpAny_typeOf (T := "tuple") ⟨ot, nt, h2⟩ ?_)
  rw [if_pos (by rw [show (Value.type "tuple" == Value.type "tuple") = true from rfl]; simp)]
  refine wpAny_bind (listItems_at nt h3 (wpAny_bind (listItems_at (xs := #[]) (n := 0) n0 rfl ?_)))
  rw [if_neg (by simp)]
  refine wpAny_bind (listUpdate_at (xs := #[]) (n := 0) n0 rfl (wpAny_pure ?_) (Nat.zero_le _) (by show (#[] ++ vs.toArray).size ≤ sizeLine + 1; simp only [Array.size_append, List.size_toArray, List.length_nil]; omega))
  refine wpAny_bind (wpAny_load (get?_update_seq n0 _) ?_)
  show wpAny _ _ (pure ((#[] : Array Value) ++ vs.toArray).toList) Q E _
  rw [show ((#[] : Array Value) ++ vs.toArray).toList = vs by simp]
  exact wpAny_pure q
end
def rSortT (K : PySem.W.Frag) (b : Bool) : List V → List V → Hp → VK → Prop := fun vs zs H Q => ∃ (a : Addr) (ns : List Int), vs = [V.ref a] ∧ zs = [.bl b] ∧ SqT K H a (ns.map V.int) ∧
  ∀ (ns' : List Int) (p : Addr), ns'.Perm ns → OrdB b ns' → H p = none → Q (.ref p) (upd H p (.lst (ns'.map V.int)))
theorem cr_sortT {X : Cx} {b : Bool} : CallRK X (.builtin "sorted") [Str.ofString "reverse"] (rSortT X.K b) := by
  intro pins s σ H vs zs us ws Q I r rz h
  obtain ⟨a, ns, rfl, rfl, hs, q⟩ := h
  obtain rfl := Vals.ref1 r
  obtain ⟨w1, rfl, e1⟩ := vals1 rz
  obtain rfl : w1 = Value.bool b := e1
  obtain ⟨its, rv, ⟨o, ho, hc, n, hd⟩, hz⟩ := I.tuple hs
  have hi := rv.ints
  have hz' : its.length ≤ sizeLine := by rw [← rv.length]; exact hz
  refine PyProof.Rows.call_function_entry_kw PyProof.Rows.kind_sorted PyProof.Rows.plain_sorted PyProof.Rows.entry_sorted (PyProof.Rows.args_sorted_rev _ _) ?_
  unfold Builtin.«sorted»
  refine wpAny_bind (m := checkCount "sorted" 1 1 _) (wpAny_pure ?_)
  refine wpAny_bind (collect_tup ho hc hd hz' ?_)
  refine wpAny_bind (wpAny_newList ?_ hz')
  obtain ⟨h1, e1⟩ : ∃ h1, h1 = (s.heap.push (PyProof.Rows.seqObj "list" #[] 0)).update s.heap.objs.size (Obj.mapSeq (· ++ its.toArray)) := ⟨_, rfl⟩
  have sz : h1.objs.size = s.heap.objs.size + 1 := by rw [e1, Heap.size_update, PyProof.Rows.size_push']
  have old : ∀ c u, s.heap.get? c = some u → h1.get? c = some u := fun c u e => by
    rw [e1, Heap.get?_update_ne _ _ _ _ (Nat.ne_of_lt (Heap.lt_size e))]
    exact Heap.get?_push_of_some _ e
  have hoL : (h1.push (PyProof.Rows.seqObj "list" its.toArray 0)).get? h1.objs.size = some (PyProof.Rows.seqObj "list" its.toArray 0) := Heap.get?_push_size _ rfl
  show wpAny _ _ _ _ _ { s with heap := ((s.heap.push (PyProof.Rows.seqObj "list" #[] 0)).update s.heap.objs.size (Obj.mapSeq (· ++ its.toArray))).push (PyProof.Rows.seqObj "list" its.toArray 0) }
  rw [← e1]
  refine wpAny_bind (wpAny_holding (PyProof.Rows.wpAny_call_entry_kw PyProof.Rows.slot_list_sort ⟨_, hoL, rfl⟩ PyProof.Rows.entry_list_sort ?_ (PyProof.Rows.args_list_sort_rev _ _)))
  refine SrtR.list_sort_ordR (b := b) SrtO.swo_int hoL hz' (fun h2 => SrtO.ints_sortable hi h2) fun out o1 o2 => ⟨_, rfl, ?_⟩
  refine wpAny_pure ⟨_, rfl, ?_⟩
  obtain ⟨ns', k1, k2, k3⟩ := SrtR.ints_outR hi o1 o2
  obtain ⟨ep, he'⟩ := PyProof.Rows.sortedHeap_at (out := if b = true then out.toArray.reverse else out.toArray) hoL
  have hlen : (ns'.map V.int).length ≤ sizeLine := by
    rw [List.length_map, k2.length_eq]
    rw [List.length_map] at hz
    exact hz
  refine ⟨.ref h1.objs.size, upd H h1.objs.size (.lst (ns'.map V.int)), I.laid (t' := s.toks) (fun c u e => ?_) (by rw [sz]; exact Nat.le_succ _) ⟨hlen, _, ep, vals_of_ints k1, by rw [Array.toArray_toList]; exact he'⟩, rfl, q _ _ k2 k3 (I.hok.fresh (by rw [sz]; exact Nat.le_succ _))⟩
  have hlt : c < h1.objs.size := by rw [sz]; exact Nat.lt_succ_of_lt (Heap.lt_size e)
  rw [PyProof.Rows.sortedHeap_old (Nat.ne_of_lt hlt) (by rw [Heap.size_push]; exact Nat.lt_succ_of_lt hlt)]
  exact Heap.get?_push_of_some _ (old c u e)
def insD (x : Int) : List Int → List Int
  | [] => [x]
  | y :: r => if x < y then y :: insD x r else x :: y :: r
def downI : List Int → List Int
  | [] => []
  | x :: r => insD x (downI r)
theorem insD_perm (x : Int) : ∀ l : List Int, (insD x l).Perm (x :: l)
  | [] => List.Perm.refl _
  | y :: r => by
    unfold insD
    split
    · exact ((insD_perm x r).cons y).trans (List.Perm.swap x y r)
    · exact List.Perm.refl _
theorem downI_perm : ∀ l : List Int, (downI l).Perm l
  | [] => List.Perm.refl _
  | x :: r => (insD_perm x _).trans ((downI_perm r).cons x)
theorem insD_pw (x : Int) : ∀ {l : List Int}, l.Pairwise (fun a b => b ≤ a) → (insD x l).Pairwise (fun a b => b ≤ a)
  | [], _ => by simp [insD]
  | y :: r, h => by
    rw [List.pairwise_cons] at h
    unfold insD
    split
    · rename_i hxy
      refine List.pairwise_cons.mpr ⟨fun z hz => ?_, insD_pw x h.2⟩
      rcases List.mem_cons.mp ((insD_perm x r).mem_iff.mp hz) with e | hz
      · omega
      · exact h.1 z hz
    · rename_i hxy
      refine List.pairwise_cons.mpr ⟨fun z hz => ?_, List.pairwise_cons.mpr h⟩
      rcases List.mem_cons.mp hz with e | hz
      · omega
      · have := h.1 z hz; omega
theorem downI_pw : ∀ l : List Int, (downI l).Pairwise (fun a b => b ≤ a)
  | [] => .nil
  | x :: r => insD_pw x (downI_pw r)
theorem down_is {ns ms : List Int} (h1 : ms.Perm ns) (h2 : ms.Pairwise (· ≥ ·)) : ms = downI ns := by
  have p : ms.Perm (downI ns) := h1.trans (downI_perm ns).symm
  exact List.Perm.eq_of_pairwise (le := fun a b => b ≤ a) (fun a b _ _ h1 h2 => by omega) h2 (downI_pw ns) p
def kDown : List A → Cs → R A := fun vs C => match vs with
  | [.tup xs] => match intsOf xs with
    | some ns => .ok (.lst ((downI ns).map A.int)) C
    | none => .bad
  | _ => .bad
theorem r_sortDown {X : Cx} {xc : XC} {W : WX} {p pos kpos : Pos} {j : Nat} {jp : Pos} {e : Expr} {fs : En → Cs → R (List A)} (hg : Gl X "sorted") (hm : X.mg "sorted" = none) (ha : PA X [e] (aD X.K xc W fs))
    (he : backTo pos (starEach [e] X.env) = (false, eval e X.env) :: backTo pos (starEach [] X.env) := by rfl) (hpl : (backTo pos (starEach [e] X.env)).any (·.1) = false := by rfl)
    (hall : (backToKw pos (keywordEach [⟨some (Str.ofString "reverse"), .Constant (.bool true) j jp, kpos⟩] X.env)).all (·.1.isSome) = true := by rfl) (hnone : (backToKw pos (keywordEach [⟨some (Str.ofString "reverse"), .Constant (.bool true) j jp, kpos⟩] X.env)).any (·.1.isNone) = false := by rfl)
    (hks : (backToKw pos (keywordEach [⟨some (Str.ofString "reverse"), .Constant (.bool true) j jp, kpos⟩] X.env)).filterMap (·.1) = [Str.ofString "reverse"] := by rfl) :
    PE X (.Call (.Name "sorted" p) [e] [⟨some (Str.ofString "reverse"), .Constant (.bool true) j jp, kpos⟩] pos) (xD X.K xc W (xAp kDown fs)) := by
  refine PE.imp (pe_callBK (cr_sortT (b := true)) hg hm boot_sorted ha (pk_cons pe_bl pk_nil) (by decide) (by decide) he hpl hall hnone hks) fun σ H Q ⟨ι, s, C, c, r, pp⟩ => ?_
  refine Dn.step c r pp fun ι1 H1 C1 vs xs e1 c1 r1 q1 p1 => ?_
  unfold kDown at p1
  split at p1
  · rename_i ys
    split at p1
    · rename_i ns hn
      obtain ⟨u, rfl, ru⟩ := q1.one
      obtain ⟨a, us, rfl, f, q⟩ := ru.tup_inv
      refine ⟨a, ns, rfl, rfl, by rw [← ints_of q hn]; exact f.sq, fun ms l hp hs hl => ?_⟩
      have ho : ms.Pairwise (· ≥ ·) := hs
      rw [down_is hp ho]
      exact mk_lst c1 (rps_ints _) p1 l hl
    · exact p1.elim
  · exact p1.elim
end FM

/-! sum of a tuple; max and min of a list -/
namespace FM
open PySem PySem.Spec PyProof.Rows L2 RZ LamX
def rSumT (K : PySem.W.Frag) : List V → Hp → VK → Prop := fun vs H Q => ∃ (a : Addr) (ns : List Int), vs = [V.ref a] ∧ SqT K H a (ns.map V.int) ∧ Q (.int ns.sum) H
theorem cr_sumT {X : Cx} (hc : X.calm = true) : CallR X (.builtin "sum") (rSumT X.K) := by
  intro pins s σ H vs us Q I r h
  obtain ⟨a, ns, rfl, hs, q⟩ := h
  obtain ⟨its, rv, ht, hz⟩ := I.tuple hs
  obtain rfl := Vals.ref1 r
  have hi := rv.ints
  obtain ⟨xs, hx⟩ := hi.allInts.items
  have hn : numsOf its.toArray.toList = ns := by rw [show its.toArray.toList = its from rfl, hi.numsOf]
  have ht' : s.heap.IsTuple a (intItems xs) := by rw [← hx]; exact ht
  rw [hx] at hn
  rw [nums_intItems] at hn
  refine PySem.W.ktm_sumG (I.ok.hd hc) ht' fun h' tk t' hk => ⟨.int _, H, I.kept hk, ⟨_, rfl⟩, ?_⟩
  rw [preSum_eq, List.take_of_length_le (by simp), hn]
  exact q
def kSumA : List A → Cs → R A := fun vs C => match vs with
  | [.tup xs] => match intsOf xs with
    | some ns => .ok (.int ns.sum) C
    | none => .bad
  | vs => kSum vs C
def rSumA (K : PySem.W.Frag) : List V → Hp → VK → Prop := fun vs H Q => rSum K vs H Q ∨ rSumT K vs H Q
theorem cr_sumA {X : Cx} (hc : X.calm = true) : CallR X (.builtin "sum") (rSumA X.K) := (cr_sum hc).or (cr_sumT hc)
theorem ad_sumA {K : PySem.W.Frag} {xc : XC} : AdqN K xc kSumA (rSumA K) := by
  intro W ι H σ C vs xs Q c r p
  unfold kSumA at p
  split at p
  · split at p
    · rename_i ys ns h
      obtain ⟨u, rfl, r1⟩ := r.one
      obtain ⟨a, us, rfl, f, q⟩ := r1.tup_inv
      have sq := f.sq
      rw [ints_of q h] at sq
      exact .inr ⟨a, ns, rfl, sq, p.fin c (.int _)⟩
    · exact p.elim
  · exact .inl (ad_sum W ι H σ C _ xs Q c r p)
def maxI : List Int → Int
  | [] => 0
  | [x] => x
  | x :: y :: r => if x > maxI (y :: r) then x else maxI (y :: r)
def minI : List Int → Int
  | [] => 0
  | [x] => x
  | x :: y :: r => if x < minI (y :: r) then x else minI (y :: r)
theorem maxI_ge : ∀ {ns : List Int} {x : Int}, x ∈ ns → x ≤ maxI ns
  | [y], x, h => by simp at h; simp [maxI, h]
  | y :: z :: r, x, h => by
    unfold maxI
    rcases List.mem_cons.mp h with e | e
    · subst e; split <;> omega
    · have := maxI_ge e
      split <;> omega
theorem minI_le : ∀ {ns : List Int} {x : Int}, x ∈ ns → minI ns ≤ x
  | [y], x, h => by simp at h; simp [minI, h]
  | y :: z :: r, x, h => by
    unfold minI
    rcases List.mem_cons.mp h with e | e
    · subst e; split <;> omega
    · have := minI_le e
      split <;> omega
theorem maxI_mem : ∀ {ns : List Int}, ns ≠ [] → maxI ns ∈ ns
  | [y], _ => by simp [maxI]
  | y :: z :: r, _ => by
    have := maxI_mem (ns := z :: r) (by simp)
    unfold maxI
    split
    · simp
    · exact List.mem_cons_of_mem _ this
theorem minI_mem : ∀ {ns : List Int}, ns ≠ [] → minI ns ∈ ns
  | [y], _ => by simp [minI]
  | y :: z :: r, _ => by
    have := minI_mem (ns := z :: r) (by simp)
    unfold minI
    split
    · simp
    · exact List.mem_cons_of_mem _ this
def kMaxL : List A → Cs → R A := fun vs C => match vs with
  | [v] => match (seqL v C).bind intsOf with
    | some ns => if ns = [] then .bad else .ok (.int (maxI ns)) C
    | none => .bad
  | _ => .bad
def kMinL : List A → Cs → R A := fun vs C => match vs with
  | [v] => match (seqL v C).bind intsOf with
    | some ns => if ns = [] then .bad else .ok (.int (minI ns)) C
    | none => .bad
  | _ => .bad
theorem ad_maxL {K : PySem.W.Frag} {xc : XC} : AdqN K xc kMaxL (rMax K) := by
  intro W ι H σ C vs xs Q c r p
  unfold kMaxL at p
  split at p
  · split at p
    · rename_i v ns h
      split at p
      · exact p.elim
      · rename_i hne
        obtain ⟨u, rfl, r1⟩ := r.one
        obtain ⟨ys, h1, h2⟩ := Option.bind_eq_some_iff.mp h
        obtain ⟨a, us, rfl, sq, q⟩ := seqL_of c r1 h1
        rw [ints_of q h2] at sq
        refine ⟨a, ns, rfl, sq, List.length_pos_iff.mpr hne, fun m hm hge => ?_⟩
        have e : m = maxI ns := Int.le_antisymm (maxI_ge hm) (hge _ (maxI_mem hne))
        rw [e]
        exact p.fin c (.int _)
    · exact p.elim
  · exact p.elim
theorem ad_minL {K : PySem.W.Frag} {xc : XC} : AdqN K xc kMinL (rMin K) := by
  intro W ι H σ C vs xs Q c r p
  unfold kMinL at p
  split at p
  · split at p
    · rename_i v ns h
      split at p
      · exact p.elim
      · rename_i hne
        obtain ⟨u, rfl, r1⟩ := r.one
        obtain ⟨ys, h1, h2⟩ := Option.bind_eq_some_iff.mp h
        obtain ⟨a, us, rfl, sq, q⟩ := seqL_of c r1 h1
        rw [ints_of q h2] at sq
        refine ⟨a, ns, rfl, sq, List.length_pos_iff.mpr hne, fun m hm hge => ?_⟩
        have e : m = minI ns := Int.le_antisymm (hge _ (minI_mem hne)) (minI_le hm)
        rw [e]
        exact p.fin c (.int _)
    · exact p.elim
  · exact p.elim
end FM

/-! what readings tell, in general: walks, comprehensions, cells of a def -/
namespace FM
open PySem PySem.Spec PyProof.Rows _root_.L2 RZ
theorem compF_map {T : Tgt} {elt : En → Cs → R A} {s : En} {C : Cs} {g : A → A} : ∀ {xs : List A}, (∀ x ∈ xs, ∃ us, T.upd x = some us ∧ elt (setAll us s) C = .ok (g x) C) → compF T tYesF elt (fun _ => true) s xs C = .ok (xs.map g) C
  | [], _ => rfl
  | x :: xs, h => by
    obtain ⟨us, h1, h2⟩ := h x (List.mem_cons_self ..)
    have ih := compF_map (xs := xs) (g := g) fun y hy => h y (List.mem_cons_of_mem _ hy)
    simp only [compF, if_true, h1, tYesF, h2, ih, List.map_cons]
theorem lc_ok {own : List Nat} {T : Tgt} {it : En → Cs → R Wk} {tst : En → Cs → R Bool} {elt : En → Cs → R A} {s : En} {C C1 C2 : Cs} {xs vs : List A} {ck : Cs → Bool} (hit : it s C = .ok (xs, ck) C1)
    (hc : compF T tst elt ck (wipeE own s) xs C1 = .ok vs C2) (hl : vs.length ≤ 100000) : xLc own T it tst elt s C = .ok (.lst vs) C2 := by
  unfold xLc
  simp only [hit, R.bind_ok, hc, if_pos hl]
theorem lc_map {own : List Nat} {T : Tgt} {it : En → Cs → R Wk} {elt : En → Cs → R A} {s : En} {C : Cs} {xs : List A} {g : A → A} (hit : it s C = .ok (xs, fun _ => true) C)
    (h : ∀ x ∈ xs, ∃ us, T.upd x = some us ∧ elt (setAll us (wipeE own s)) C = .ok (g x) C) (hl : xs.length ≤ 100000) : xLc own T it tYesF elt s C = .ok (.lst (xs.map g)) C :=
  lc_ok hit (compF_map h) (by simpa using hl)
theorem blsOf_map {α : Type} {p : α → Bool} : ∀ {xs : List α}, blsOf (xs.map fun x => A.bl (p x)) = some (xs.map p)
  | [] => rfl
  | x :: xs => by simp [blsOf, blsOf_map (xs := xs)]
theorem intsOf_map : ∀ {xs : List Int}, intsOf (xs.map A.int) = some xs
  | [] => rfl
  | x :: xs => by simp [intsOf, intsOf_map (xs := xs)]
theorem all_bl {α : Type} {p : α → Bool} {xs : List α} {C : Cs} : kAll [.lst (xs.map fun x => A.bl (p x))] C = .ok (.bl (xs.all p)) C := by
  simp [kAll, seqL, blsOf_map, List.all_map]
theorem letGo_exv {C : Cs} {c : Nat} {v : A} (h : C.all noLocs = true) (hv : noLoc v = true) : letGo C.length (.ex c (some v) C) = .ex c (some v) C := by
  unfold letGo
  simp only [List.take_length, h, if_true, goA_no hv]
theorem letGo_exD {C D : Cs} {c : Nat} {v : A} (h : C.all noLocs = true) (hv : noLoc v = true) : letGo C.length (.ex c (some v) (C ++ D)) = .ex c (some v) C := by
  unfold letGo
  simp only [List.take_left', h, if_true, goA_no hv]
theorem isi_of {v : A} {T t : String} {b : Bool} {C : Cs} (h1 : tyA v = some t) (h2 : kitB t T = some b) : kIsi [v, .opq (.ty T)] C = .ok (.bl b) C := by
  simp [kIsi, h1, h2]
/-- whether a plain value is a tuple -/
def tupB : A → Bool
  | .tup _ => true
  | _ => false
theorem isi_tup {v : A} {C : Cs} (hv : (tyA v).isSome = true) : kIsi [v, .opq (.ty "tuple")] C = .ok (.bl (tupB v)) C := by
  cases v <;> first | (simp [tyA] at hv; done) | (refine isi_of rfl ?_; rfl)
theorem isi_bool {v : A} {C : Cs} (hv : (tyA v).isSome = true) : kIsi [v, .opq (.ty "bool")] C = .ok (.bl (match v with | .bl _ => true | _ => false)) C := by
  cases v <;> first | (simp [tyA] at hv; done) | (refine isi_of rfl ?_; rfl)
theorem isi_int {v : A} {C : Cs} (hv : (tyA v).isSome = true) : kIsi [v, .opq (.ty "int")] C = .ok (.bl (match v with | .bl _ => true | .int _ => true | _ => false)) C := by
  cases v <;> first | (simp [tyA] at hv; done) | (refine isi_of rfl ?_; rfl)
theorem cut_one {xs : List A} : cutA xs (some 1) none = xs.drop 1 := by
  unfold cutA
  have h2 : HT.sIx xs.length xs.length none = xs.length := rfl
  have h1 : HT.sIx xs.length 0 (some 1) = min 1 xs.length := by
    unfold HT.sIx
    simp
    try omega
  rw [h1, h2]
  by_cases h : 1 ≤ xs.length
  · rw [Nat.min_eq_left h]
    exact List.take_of_length_le (by simp)
  · have : xs = [] := List.eq_nil_of_length_eq_zero (by omega)
    subst this
    rfl
def Gd (C : Cs) : Prop := C.all noLocs = true ∧ C.all noKns = true
end FM

/-! tuple * int, of any int up to a thousand -/
namespace FM
open PySem PySem.Spec PyProof.Rows L2 RZ LamX
theorem tuple_mul1 (l : Addr) (items : Array Value) (n : Nat) (dd : Option Addr) (sl : Array (Option Value)) (x : Int) (u : Tok) (c0 : (decide (x < -(2 ^ 63)) || decide (x ≥ 2 ^ 63)) = false) (c1 : (items.isEmpty || x == 1) = true) :
    Meets (Builtin.«tuple.__mul__» ⟨[.ref l, .int x u], []⟩) (fun _ R s => s.heap.get? l = some { cls := .type "tuple", dict := dd, data := .seq items n, slots := sl } ∧
      R (.ok (.ret (Value.ref l))) s) :=
  .of_wp fun prog w A R s h => by
    obtain ⟨hp, g, d, tk, os⟩ := s
    obtain ⟨hl, h⟩ := h
    have f1 := AutoSeq1.idx_int
    have ht : (⟨hp, g, d, tk, os⟩ : Shared).TypeIs (.ref l) "tuple" := ⟨_, hl, rfl⟩
    wp_walk using wpAny_loadPart' hl
    repeat (first
      | (refine wpAny_ite_false (decide_eq_false (by rw [c0]; exact Bool.false_ne_true)) ?_; wp_walk using wpAny_loadPart' hl)
      | (refine wpAny_ite_true (decide_eq_true (by rw [c1])) ?_; wp_walk using wpAny_loadPart' hl))
    all_goals first
      | exact ⟨_, rfl, h⟩
      | skip
theorem tuple_mul0 (l : Addr) (items : Array Value) (n : Nat) (dd : Option Addr) (sl : Array (Option Value)) (x : Int) (u : Tok) (c0 : (decide (x < -(2 ^ 63)) || decide (x ≥ 2 ^ 63)) = false) (c1 : (items.isEmpty || x == 1) = false) (c2 : (decide (x ≤ 0) || items.isEmpty) = true) :
    Meets (Builtin.«tuple.__mul__» ⟨[.ref l, .int x u], []⟩) (fun _ R s => s.heap.get? l = some { cls := .type "tuple", dict := dd, data := .seq items n, slots := sl } ∧
      R (.ok (.ret (Value.ref s.heap.objs.size))) { s with heap := s.heap.push { cls := Value.type "tuple", data := Data.seq #[] } }) :=
  .of_wp fun prog w A R s h => by
    obtain ⟨hp, g, d, tk, os⟩ := s
    obtain ⟨hl, h⟩ := h
    have f1 := AutoSeq1.idx_int
    wp_walk using wpAny_loadPart' hl
    repeat (first
      | (refine wpAny_ite_false (decide_eq_false (by rw [c0]; exact Bool.false_ne_true)) ?_; wp_walk using wpAny_loadPart' hl)
      | (refine wpAny_ite_false (decide_eq_false (by rw [c1]; exact Bool.false_ne_true)) ?_; wp_walk using wpAny_loadPart' hl)
      | (refine wpAny_ite_true (decide_eq_true (by rw [c2])) ?_; wp_walk using wpAny_loadPart' hl))
    all_goals first
      | exact ⟨_, rfl, h⟩
      | skip
def rRepT1 (K : PySem.W.Frag) : R2 := fun x y H Q => ∃ l k xs, x = .ref l ∧ y = .int k ∧ SqT K H l xs ∧ xs ≠ [] ∧ -(2 ^ 63) ≤ k ∧ k ≤ 1 ∧ (k = 1 → Q (.ref l) H) ∧ (k ≤ 0 → ∀ p (o : Obj), H p = none → o.dict = none → Q (.ref p) (upd H p (.frz o (.tup []))))
section
variable {X : Cx}
theorem op_repT1 : OpR X (binaryOp .Mult) (rRepT1 X.K) := by
  intro pins s σ H x y v u Q I rx ry h
  obtain ⟨l, k, xs, rfl, rfl, hT, hne, h1, h2, q1, q0⟩ := h
  cases rx
  obtain ⟨t, rfl⟩ := ry
  obtain ⟨its, r, ⟨⟨cls, dd, data, sl⟩, ho, hc, n, hd⟩, hs⟩ := I.tuple hT
  simp only at hc hd
  subst hc hd
  have hle : its.length = xs.length := r.length.symm
  have hn : its ≠ [] := fun e => hne (by
    rw [e] at hle
    exact List.eq_nil_of_length_eq_zero hle.symm)
  have hi : its.toArray.isEmpty = false := by
    cases its with
    | nil => exact absurd rfl hn
    | cons a b => rfl
  have c0 : (decide (k < -(2 ^ 63)) || decide (k ≥ 2 ^ 63)) = false := by
    rw [decide_eq_false (by omega), decide_eq_false (by omega)] <;> rfl
  by_cases hk : k = 1
  · have c1 : (its.toArray.isEmpty || k == 1) = true := by
      rw [hi, Bool.false_or]
      exact beq_iff_eq.mpr hk
    refine wpAny_binaryOp_repeat_ref (T := "tuple") (U := "int") (by decide) ⟨_, ho, rfl⟩ (fun s' => typeIs_int s' k t) noFill_tuple_mul F.fills_int_mul F.slot_int_rmul repeat_tuple F.slot_int_index.lookup
      (call_meets F.slot_int_rmul (typeIs_int s k t) F.entry_int_rmul (F.args_int_rmul_2 _ _) (int_rmul_tuple k t l its.toArray n dd sl)
        ⟨ho, rfl, ⟨_, ho, rfl⟩, call_meets F.slot_tuple_mul ⟨_, ho, rfl⟩ F.entry_tuple_mul (F.args_tuple_mul_2 _ _) (tuple_mul1 l its.toArray n dd sl k t c0 c1) ⟨ho, ?_⟩⟩)
    exact ⟨.ref l, H, I, rfl, q1 hk⟩
  · have c1 : (its.toArray.isEmpty || k == 1) = false := by
      rw [hi, Bool.false_or]
      exact beq_eq_false_iff_ne.mpr hk
    have c2 : (decide (k ≤ 0) || its.toArray.isEmpty) = true := by
      rw [decide_eq_true (show k ≤ 0 by omega), Bool.true_or]
    refine wpAny_binaryOp_repeat_ref (T := "tuple") (U := "int") (by decide) ⟨_, ho, rfl⟩ (fun s' => typeIs_int s' k t) noFill_tuple_mul F.fills_int_mul F.slot_int_rmul repeat_tuple F.slot_int_index.lookup
      (call_meets F.slot_int_rmul (typeIs_int s k t) F.entry_int_rmul (F.args_int_rmul_2 _ _) (int_rmul_tuple k t l its.toArray n dd sl)
        ⟨ho, rfl, ⟨_, ho, rfl⟩, call_meets F.slot_tuple_mul ⟨_, ho, rfl⟩ F.entry_tuple_mul (F.args_tuple_mul_2 _ _) (tuple_mul0 l its.toArray n dd sl k t c0 c1 c2) ⟨ho, ?_⟩⟩)
    exact ep_newT (tk := s.toks) I (Nat.zero_le _) .nil (q0 (by omega))
end
/-- * of ints, lists, tuples (any number of times) -/
def gMulT : A → A → Cs → R A := fun v w C => match v, w with
  | .tup xs, .int k => if 2 ≤ k ∧ k ≤ 1000 ∧ xs ≠ [] ∧ xs.length ≤ 1000 then .ok (.tup (List.replicate k.toNat xs).flatten) C
    else if -(2 ^ 63) ≤ k ∧ k ≤ 1 ∧ xs ≠ [] then .ok (.tup (List.replicate k.toNat xs).flatten) C else .bad
  | v, w => gMulA v w C
def rMulT (K : PySem.W.Frag) : R2 := fun x y H Q => rMulA K x y H Q ∨ rRepT1 K x y H Q
theorem op_mulT {X : Cx} : OpR X (binaryOp .Mult) (rMulT X.K) := op_mulA.or op_repT1
theorem ad_mulT {K : PySem.W.Frag} {xc : XC} : Adq2 K xc gMulT (rMulT K) := by
  intro W ι H σ C v w x y Q c r1 r2 p
  unfold gMulT at p
  split at p
  · rename_i xs k
    split at p
    · rename_i h
      refine .inl (ad_mulA W ι H σ C _ _ x y Q c r1 r2 ?_)
      unfold gMulA
      simp only [if_pos h]
      exact p
    · split at p
      · rename_i h
        obtain ⟨a, us, rfl, f1, q1⟩ := r1.tup_inv
        refine .inr ⟨a, k, us, rfl, r2.of_int, f1.sq, fun e => h.2.2 (List.eq_nil_of_length_eq_zero (by rw [q1.length, e]; rfl)), h.1, h.2.1, fun e => ?_, fun e => ?_⟩
        · subst e
          have : (List.replicate (1 : Int).toNat xs).flatten = xs := by simp
          rw [this] at p
          exact p.fin c (.tup f1 q1)
        · have : (List.replicate k.toNat xs).flatten = [] := by
            rw [show k.toNat = 0 by omega]
            rfl
          rw [this] at p
          exact mk_tup c .nil p
      · exact p.elim
  · exact .inl (ad_mulA W ι H σ C _ _ x y Q c r1 r2 p)
end FM

/-! methods of texts, in, functions of math -/
namespace FM
open PySem PySem.Spec PyProof.Rows L2 RZ LamX PySem.W
/-! ### a text's method with one argument -/
def xM1 (g : A → A → Cs → R A) (f1 f2 : En → Cs → R A) : En → Cs → R A := fun s C => (f1 s C).bind fun v C1 => match v with
  | .str _ => (f2 s C1).bind (g v)
  | _ => .bad
section
variable {X : Cx} {xc : XC} {W : WX} {pos : Pos}
theorem r_m1 {id : String} {name : Str} {apos : Pos} {r : V → List V → Hp → VK → Prop} {g : A → A → Cs → R A} {o e : Expr} {f1 f2 : En → Cs → R A} (slot : Slot "str" name id) (ty : typeOf (.builtin id) = pure (.type "method_descriptor")) (rule : MtR X id r) (ad : Adq2 X.K xc g (fun x y H Q => r x [y] H Q))
    (ho : PE X o (xD X.K xc W f1)) (he : PE X e (xD X.K xc W f2)) (hs : starEach [e] X.env = [(false, eval e X.env)] := by rfl) (hbase : attributeBase o name X.env (eval o X.env) = eval o X.env := by rfl) (hline : (apos.endLine == pos.line) = true := by rfl) :
    PE X (.Call (.Attribute o name apos) [e] [] pos) (xD X.K xc W (xM1 g f1 f2)) := by
  refine PE.imp (pe_m1 slot ty rule ho he hs hbase hline) fun σ H Q ⟨ι, s, C, c, r', p⟩ => ?_
  refine Dn.step c r' p fun ι1 H1 C1 v x e1 c1 r1 q1 p1 => ?_
  cases v with
  | str z =>
    refine ⟨⟨z, q1.of_str⟩, ?_⟩
    refine Dn.step c1 r1 p1 fun ι2 H2 C2 w y e2 c2 r2 q2 p2 => ?_
    exact ad W ι2 H2 σ C2 _ w x y Q c2 (q1.ext e2) q2 p2
  | _ => exact p1.elim
/-- a def of the program's globals that is a built-in function -/
theorem r_callM {id : String} {x : Str} {r : List V → Hp → VK → Prop} {g : List A → Cs → R A} {e : Expr} {es : List Expr} {fs : En → Cs → R (List A)} {p : Pos} (hc : CallR X (.builtin id) r) (ad : AdqN X.K xc g r) (hg : Gl X x) (hm : X.mg x = some (.builtin id))
    (ha : PA X (e :: es) (aD X.K xc W fs)) (hdb : (x == ("__debug__" : Str)) = false := by decide)
    (he : starEach (e :: es) X.env = (false, eval e X.env) :: starEach es X.env := by rfl) (hpl : (backTo pos (starEach es X.env)).any (·.1) = false := by rfl) : PE X (.Call (.Name x p) (e :: es) [] pos) (xD X.K xc W (xAp g fs)) := by
  refine ⟨fun pins s σ H Q I h => ?_⟩
  refine wpAny_Call_Name_kw (ld_glob I hg hm ?_ hdb)
  exact PyProof.Rows.callWith_builtin1 (thn (ha.run pos pins s σ H _ I (useN ad h)) fun us s1 ⟨vs, H1, I1, r1, q1⟩ => hc pins s1 σ H1 vs us Q I1 r1 q1) he hpl
end
section
variable {K : PySem.W.Frag} {xc : XC} {ι : Lay} {H : Hp} {C : Cs}
def gStarts : A → A → Cs → R A := fun v w C => match v, w with
  | .str a, .str b => .ok (.bl (Txt.startswith a b)) C
  | _, _ => .bad
def gEnds : A → A → Cs → R A := fun v w C => match v, w with
  | .str a, .str b => .ok (.bl (Txt.endswith a b)) C
  | _, _ => .bad
def gCountS : A → A → Cs → R A := fun v w C => match v, w with
  | .str a, .str b => .ok (.int (Txt.count a b)) C
  | _, _ => .bad
theorem ad_starts : Adq2 K xc gStarts (fun x y H Q => ∃ a b, x = .str a ∧ [y] = [.str b] ∧ Q (.bl (Txt.startswith a b)) H) := by
  intro W ι H σ C v w x y Q c r1 r2 p
  unfold gStarts at p
  split at p
  · exact ⟨_, _, r1.of_str, by rw [r2.of_str], p.fin c (.bl _)⟩
  · exact p.elim
theorem ad_ends : Adq2 K xc gEnds (fun x y H Q => ∃ a b, x = .str a ∧ [y] = [.str b] ∧ Q (.bl (Txt.endswith a b)) H) := by
  intro W ι H σ C v w x y Q c r1 r2 p
  unfold gEnds at p
  split at p
  · exact ⟨_, _, r1.of_str, by rw [r2.of_str], p.fin c (.bl _)⟩
  · exact p.elim
theorem ad_countS : Adq2 K xc gCountS (fun x y H Q => ∃ a b, x = .str a ∧ [y] = [.str b] ∧ Q (.int (Txt.count a b)) H) := by
  intro W ι H σ C v w x y Q c r1 r2 p
  unfold gCountS at p
  split at p
  · exact ⟨_, _, r1.of_str, by rw [r2.of_str], p.fin c (.int _)⟩
  · exact p.elim
/-! join, split -/
def strsA : List A → Option (List Str)
  | [] => some []
  | .str z :: r => (strsA r).map (z :: ·)
  | _ => none
theorem strs_are : ∀ {xs : List A} {vs : List V} {zs : List Str}, Rps K ι H xs vs → strsA xs = some zs → vs = zs.map V.str
  | _, _, _, .nil, h => by cases h; rfl
  | _, _, zs, .cons (x := x) (xs := xs) r t, h => by
    cases x with
    | str z =>
      unfold strsA at h
      cases e : strsA xs with
      | none => rw [e] at h; cases h
      | some ys => rw [e] at h; cases h; rw [r.of_str, strs_are t e]; rfl
    | _ => cases h
def gJoin : A → A → Cs → R A := fun v w C => match v with
  | .str a => match (seqOf w C).bind strsA with
    | some ys => if (ys.map (·.length)).sum + ys.length * a.length ≤ big then .ok (.str (Txt.join a ys)) C else .bad
    | none => .bad
  | _ => .bad
theorem ad_join : Adq2 K xc gJoin (fun x y H Q => ∃ a p, ∃ ys : List Str, x = .str a ∧ [y] = [.ref p] ∧ (SqL K H p (ys.map V.str) ∨ SqT K H p (ys.map V.str)) ∧ (ys.map (·.length)).sum + ys.length * a.length ≤ 16777216 ∧ Q (.str (Txt.join a ys)) H) := by
  intro W ι H σ C v w x y Q c r1 r2 p
  unfold gJoin at p
  split at p
  · rename_i a
    split at p
    · rename_i ys h
      split at p
      · rename_i hb
        obtain ⟨zs, h1, h2⟩ := Option.bind_eq_some_iff.mp h
        obtain ⟨q, us, rfl, sq, rr⟩ := seq_of c r2 h1
        rw [strs_are rr h2] at sq
        exact ⟨a, q, ys, r1.of_str, rfl, sq, Nat.le_trans hb (by decide), p.fin c (.str _)⟩
      · exact p.elim
    · exact p.elim
  · exact p.elim
theorem rps_strs : ∀ zs : List Str, Rps K ι H (zs.map A.str) (zs.map V.str)
  | [] => .nil
  | z :: r => .cons (.str z) (rps_strs r)
def gSplit : A → A → Cs → R A := fun v w C => match v, w with
  | .str a, .str b => if (b.length == 0) = false ∧ a.length ≤ big then .ok (.lst ((Txt.split a b).map A.str)) C else .bad
  | _, _ => .bad
theorem ad_split : Adq2 K xc gSplit (fun x y H Q => ∃ a b, x = .str a ∧ [y] = [.str b] ∧ (b.length == 0) = false ∧ a.length + 2 ≤ sizeLine ∧ rNewStrs (Txt.split a b) H Q) := by
  intro W ι H σ C v w x y Q c r1 r2 p
  unfold gSplit at p
  split at p
  · split at p
    · rename_i h
      refine ⟨_, _, r1.of_str, by rw [r2.of_str], h.1, Nat.le_trans (Nat.add_le_add_right h.2 2) (by decide), fun l hl => ?_⟩
      exact mk_lst c (rps_strs _) p l hl
    · exact p.elim
  · exact p.elim
/-! in: a sign in a text -/
def gInS (neg : Bool) : A → A → Cs → R A := fun v w C => match v, w with
  | .str a, .str z => if a.cps.size = 1 then .ok (.bl (let b := decide (a.cps.toList.headD 0 ∈ z.cps.toList); if neg then !b else b)) C else .bad
  | _, _ => .bad
theorem one_sign {a : Str} (h : a.cps.size = 1) : a = ⟨#[a.cps.toList.headD 0]⟩ := by
  obtain ⟨⟨l⟩⟩ := a
  have h' : l.length = 1 := h
  match l, h' with
  | [x], _ => rfl
theorem ad_inS : Adq2 K xc (gInS false) (fun x y H Q => ∃ (c : Nat) (z : Str), x = .str ⟨#[c]⟩ ∧ y = .str z ∧ Q (.bl (decide (c ∈ z.cps.toList))) H) := by
  intro W ι H σ C v w x y Q c r1 r2 p
  unfold gInS at p
  split at p
  · split at p
    · rename_i a z h
      refine ⟨a.cps.toList.headD 0, z, by rw [r1.of_str]; exact congrArg V.str (one_sign h), r2.of_str, p.fin c (.bl _)⟩
    · exact p.elim
  · exact p.elim
theorem ad_notInS : Adq2 K xc (gInS true) (fun x y H Q => ∃ (c : Nat) (z : Str), x = .str ⟨#[c]⟩ ∧ y = .str z ∧ Q (.bl (!decide (c ∈ z.cps.toList))) H) := by
  intro W ι H σ C v w x y Q c r1 r2 p
  unfold gInS at p
  split at p
  · split at p
    · rename_i a z h
      refine ⟨a.cps.toList.headD 0, z, by rw [r1.of_str]; exact congrArg V.str (one_sign h), r2.of_str, p.fin c (.bl _)⟩
    · exact p.elim
  · exact p.elim
/-! str(int), int(text) -/
def kStr : List A → Cs → R A := fun vs C => match vs with
  | [.int i] => if i.natAbs.log2 < 1920 then .ok (.str (toString i)) C else .bad
  | _ => .bad
theorem ad_strI : AdqN K xc kStr (fun xs H Q => ∃ i : Int, xs = [V.int i] ∧ i.natAbs.log2 < 1920 ∧ Q (.str (toString i)) H) := by
  intro W ι H σ C vs xs Q c r p
  unfold kStr at p
  split at p
  · split at p
    · rename_i i h
      obtain ⟨u, rfl, h1⟩ := r.one
      exact ⟨i, by rw [h1.of_int], h, p.fin c (.str _)⟩
    · exact p.elim
  · exact p.elim
def kIntA : List A → Cs → R A := fun vs C => match vs with
  | [.str a] => match PySem.intText? a with
    | some n => if a.length ≤ 640 then .ok (.int n) C else .bad
    | none => .bad
  | vs => kInt vs C
theorem ad_intA {r : List V → Hp → VK → Prop} (h0 : AdqN K xc kInt r) : AdqN K xc kIntA (fun xs H Q => r xs H Q ∨ ∃ a n, xs = [.str a] ∧ PySem.intText? a = some n ∧ a.length ≤ 640 ∧ Q (.int n) H) := by
  intro W ι H σ C vs xs Q c rr p
  unfold kIntA at p
  split at p
  · rename_i a
    split at p
    · rename_i n h
      split at p
      · rename_i hl
        obtain ⟨u, rfl, h1⟩ := rr.one
        exact .inr ⟨a, n, by rw [h1.of_str], h, hl, p.fin c (.int _)⟩
      · exact p.elim
    · exact p.elim
  · exact .inl (h0 W ι H σ C _ xs Q c rr p)
/-! math.comb, math.isqrt -/
def rComb : List V → Hp → VK → Prop := fun xs H Q => ∃ a b : Int, xs = [.int a, .int b] ∧ 0 ≤ a ∧ 0 ≤ b ∧ a ≤ 18000 ∧ Q (.int (mcComb a b)) H
def kComb : List A → Cs → R A := fun vs C => match vs with
  | [.int a, .int b] => if 0 ≤ a ∧ 0 ≤ b ∧ a ≤ 18000 then .ok (.int (mcComb a b)) C else .bad
  | _ => .bad
theorem ad_comb : AdqN K xc kComb rComb := by
  intro W ι H σ C vs xs Q c r p
  unfold kComb at p
  split at p
  · split at p
    · rename_i a b h
      obtain ⟨u, w, rfl, h1, h2⟩ := r.two
      exact ⟨a, b, by rw [h1.of_int, h2.of_int], h.1, h.2.1, h.2.2, p.fin c (.int _)⟩
    · exact p.elim
  · exact p.elim
def rIsqrt : List V → Hp → VK → Prop := fun xs H Q => ∃ a : Int, xs = [.int a] ∧ 0 ≤ a ∧ a.toNat.log2 ≤ 13000 ∧ Q (.int ((Float64.isqrt a.toNat : Nat) : Int)) H
def kIsqrt : List A → Cs → R A := fun vs C => match vs with
  | [.int a] => if 0 ≤ a ∧ a.toNat.log2 ≤ 13000 then .ok (.int ((Float64.isqrt a.toNat : Nat) : Int)) C else .bad
  | _ => .bad
theorem ad_isqrt : AdqN K xc kIsqrt rIsqrt := by
  intro W ι H σ C vs xs Q c r p
  unfold kIsqrt at p
  split at p
  · split at p
    · rename_i a h
      obtain ⟨u, rfl, h1⟩ := r.one
      exact ⟨a, by rw [h1.of_int], h.1, h.2, p.fin c (.int _)⟩
    · exact p.elim
  · exact p.elim
end
section
variable {X : Cx}
theorem cr_comb : CallR X (.builtin "math.comb") rComb := by
  intro pins s σ H vs us Q I r h
  obtain ⟨a, b, rfl, h1, h2, h3, q⟩ := h
  cases r with
  | cons r1 rr =>
    cases rr with
    | cons r2 rr2 =>
      cases rr2
      obtain ⟨t, rfl⟩ := r1
      obtain ⟨u, rfl⟩ := r2
      exact call_function_meets MGF.kind_comb MGF.plain_comb MGF.entry_comb (MGF.args_comb _ _) (mc_gives_comb t u h1 h2 (by omega) (.inr h3)).meets ⟨.int (mcComb a b), H, I.tok _, ⟨_, rfl⟩, q⟩
theorem cr_isqrt : CallR X (.builtin "math.isqrt") rIsqrt := by
  intro pins s σ H vs us Q I r h
  obtain ⟨a, rfl, h1, h2, q⟩ := h
  cases r with
  | cons r1 rr =>
    cases rr
    obtain ⟨t, rfl⟩ := r1
    exact call_function_meets MGF.kind_isqrt MGF.plain_isqrt MGF.entry_isqrt (MGF.args_isqrt _) (mg_run_isqrt a t (by omega) (by omega) (by omega)).meets ⟨.int ((Float64.isqrt a.toNat : Nat) : Int), H, I.tok _, ⟨_, rfl⟩, q⟩
end
/-! a text that the program's top names -/
theorem r_gS {X : Cx} {xc : XC} {W : WX} {pos : Pos} {x : Str} {z : Str} (h : ∃ u, X.mg x = some u ∧ RelV (.str z) u) (hg : Gl X x := by rfl) (hd : (x == ("__debug__" : Str)) = false := by decide) : PE X (.Name x pos) (xD X.K xc W (xC (.str z))) := r_gC h (fun _ _ => .str z) hg hd
/-! reversed(list) -/
def itRevs (fs : En → Cs → R (List A)) : En → Cs → R Wk := fun s C => (fs s C).bind fun vs C1 => match vs with
  | [.lst xs] => .ok (xs.reverse, fun _ => true) C1
  | [.loc n] => match C1[n]? with
    | some xs => .ok (xs.reverse, holds n xs) C1
    | none => .bad
  | _ => .bad
section
variable {K : PySem.W.Frag} {xc : XC} {ι : Lay} {H : Hp} {C : Cs}
theorem isw_rev {a : Addr} {xs : List A} {vs : List V} (f : FrK K ι H a vs) (r : Rps K ι H xs vs) : IsW K xc ι H (Itv K a vs.length) (xs.reverse, fun _ => true) := by
  have hl := r.length
  refine ⟨_, _, by rw [show (xs.reverse, fun (_ : Cs) => true).1.length = vs.length from (List.length_reverse).trans hl]; exact walk_rev, fun ι2 H2 C2 e c _ => (f.mv e).sq, fun ι2 H2 C2 i x H3 e c hck hi y => ?_⟩
  obtain ⟨rfl, hx⟩ := y
  obtain ⟨q, h1, h2⟩ := (r.mv e).get' hx
  have hi' : i < xs.length := by simpa using hi
  exact ⟨q, by rw [List.getElem?_reverse hi', hl]; exact h1, Ext.refl _ _, c, h2⟩
theorem isw_revL {n : Nat} {a : Addr} {xs : List A} (c : RC K xc ι H C) (ha : ι.cs[n]? = some a) (hx : C[n]? = some xs) : IsW K xc ι H (Itv K a xs.length) (xs.reverse, holds n xs) := by
  obtain ⟨vs0, h0, r0⟩ := c.at_ n xs a hx ha
  refine ⟨fun H2 => ∃ vs ι2, SqL K H2 a vs ∧ Rps K ι2 H2 xs vs ∧ H2 a = some (.lst vs), fun i H2 x H3 => H3 = H2 ∧ ∃ vs, H2 a = some (.lst vs) ∧ vs.length = xs.length ∧ vs[vs.length - 1 - i]? = some x, ?_, ?_, ?_⟩
  · have key : ∀ vs : List V, vs.length = xs.length → Walk (Itv K a xs.length) xs.reverse.length (fun H => SqL K H a vs) (fun i H x H' => H' = H ∧ vs[vs.length - 1 - i]? = some x) := fun vs hv => by
      rw [List.length_reverse, ← hv]
      exact walk_rev
    refine ⟨fun i H2 hi ⟨vs, ι2, q, r, _⟩ => ?_, fun H2 ⟨vs, ι2, q, r, _⟩ => ?_, fun i H2 x H3 hi ⟨vs, ι2, q, r, q2⟩ y => ?_⟩
    · exact (key vs r.length.symm).goes i H2 hi q
    · exact (key vs r.length.symm).stops H2 q
    · have := (key vs r.length.symm).yields i H2 x H3 hi q y
      exact ⟨this.1, vs, q2, r.length.symm, this.2⟩
  · intro ι2 H2 C2 e c2 hc
    have hx2 := holds_eq hc
    have ha2 : ι2.cs[n]? = some a := by
      obtain ⟨t, et⟩ := e.pre
      rw [et, List.getElem?_append_left (List.getElem?_eq_some_iff.mp ha).1]
      exact ha
    obtain ⟨vs, q, r⟩ := c2.at_ n xs a hx2 ha2
    exact ⟨vs, ι2, SqL.of q, r, q⟩
  · intro ι2 H2 C2 i x H3 e c2 hc hi y
    have hx2 := holds_eq hc
    have ha2 : ι2.cs[n]? = some a := by
      obtain ⟨t, et⟩ := e.pre
      rw [et, List.getElem?_append_left (List.getElem?_eq_some_iff.mp ha).1]
      exact ha
    obtain ⟨rfl, vs, q, hl, hv⟩ := y
    obtain ⟨vs2, q2, r⟩ := c2.at_ n xs a hx2 ha2
    rw [q] at q2
    cases q2
    obtain ⟨u, h1, h2⟩ := r.get' hv
    have hi' : i < xs.length := by simpa using hi
    exact ⟨u, by rw [List.getElem?_reverse hi', ← hl]; exact h1, Ext.refl _ _, c2, h2⟩
end
theorem i_revs {X : Cx} {xc : XC} {W : WX} {tg e : Expr} {fs : En → Cs → R (List A)} {p pos : Pos} (hg : Gl X "reversed") (hm : X.mg "reversed" = none) (ha : PA X [e] (aD X.K xc W fs)) (hs : starEach [e] X.env = [(false, eval e X.env)] := by rfl) :
    PI X tg (.Call (.Name "reversed" p) [e] [] pos) (iD X.K xc W (itRevs fs)) := by
  refine PI.imp (pi_reversed hg hm ha hs) fun σ H Q ⟨ι, s, C, c, r, p⟩ => ?_
  refine Dn.step c r p fun ι1 H1 C1 v x e1 c1 r1 q1 p1 => ?_
  split at p1
  · rename_i xs
    obtain ⟨u, rfl, h⟩ := q1.one
    cases h with
    | lst h1 n q => exact ⟨_, _, rfl, SqL.of h1, p1.fin c1 (isw_rev (.inl ⟨.inl h1, n⟩) q)⟩
  · rename_i n
    split at p1
    · rename_i xs hx
      obtain ⟨u, rfl, h⟩ := q1.one
      cases h with
      | loc h1 =>
        obtain ⟨vs, q, rr⟩ := c1.at_ n xs _ hx h1
        refine ⟨_, vs, rfl, SqL.of q, p1.fin c1 ?_⟩
        rw [← rr.length]
        exact isw_revL c1 h1 hx
    · exact p1.elim
  · exact p1.elim
end FM

/-! text * int -/
namespace FM
open PySem PySem.Spec PyProof.Rows L2 RZ LamX
def repS (a : Str) (k : Nat) : Str := ⟨(List.replicate k a.cps).foldl (· ++ ·) #[]⟩
theorem foldl_app {α : Type} : ∀ (l : List (Array α)) (b : Array α), l.foldl (· ++ ·) b = b ++ l.foldl (· ++ ·) #[]
  | [], b => by simp
  | x :: l, b => by
    rw [List.foldl_cons, List.foldl_cons, foldl_app l (b ++ x), foldl_app l (#[] ++ x)]
    simp [Array.append_assoc]
theorem repS_len (a : Str) (k : Nat) : (repS a k).length = k * a.length := by
  show ((List.replicate k a.cps).foldl (· ++ ·) #[]).size = k * a.cps.size
  induction k with
  | zero => simp
  | succ k ih =>
    rw [List.replicate_succ, List.foldl_cons, foldl_app, Array.size_append, ih]
    simp [Nat.succ_mul, Nat.add_comm]
theorem repS_0 (a : Str) : repS a 0 = Str.empty := rfl
theorem repS_1 (a : Str) : repS a 1 = a := by
  show (⟨(#[] ++ a.cps)⟩ : Str) = a
  rw [Array.empty_append]
def rRepS : R2 := fun x y H Q => ∃ (a : Str) (k : Int), x = .str a ∧ y = .int k ∧ -(2 ^ 63) ≤ k ∧ k ≤ 1000000 ∧ 1 ≤ a.length ∧ a.length * k.toNat ≤ 1000000 ∧ Q (.str (repS a k.toNat)) H
theorem op_repS {X : Cx} : OpR X (binaryOp .Mult) rRepS := by
  intro pins s σ H x y v u Q I rx ry h
  obtain ⟨a, k, rfl, rfl, h1, h2, h3, h4, q⟩ := h
  obtain ⟨t, rfl⟩ := rx
  obtain ⟨t2, rfl⟩ := ry
  have hz : (repS a k.toNat).length ≤ sizeLine := by
    rw [repS_len, sizeLine_eq, Nat.mul_comm]
    omega
  have hr : (decide (k < -(2 ^ 63 : Int)) || decide (k ≥ 2 ^ 63)) = false := by rw [decide_eq_false (by omega), decide_eq_false (by omega)] <;> rfl
  refine P.mul_str hr (fun hn hx hgt => ?_) (fun hn hx => ?_) ?_
  · have e1 : (a.length : Int) ≤ 1000000 := by
      have : a.length * 1 ≤ a.length * k.toNat := Nat.mul_le_mul_left _ (by omega)
      omega
    have e2 : (1000001 : Int) ≤ (2 ^ 63 - 1) / k := by
      rw [Int.le_ediv_iff_mul_le (by omega)]
      omega
    omega
  · unfold Builtin.Str.tooLong
    simp only [sizeLine_eq]
    exact decide_eq_false (by omega)
  · by_cases hk : k < 1
    · rw [if_pos hk]
      have e0 : k.toNat = 0 := by omega
      rw [e0, repS_0] at q hz
      exact ⟨hz, .str _, H, I.tok _, ⟨_, rfl⟩, q⟩
    · rw [if_neg hk]
      by_cases hk1 : k = 1
      · subst hk1
        rw [if_pos (by simp)]
        have e1 : (1 : Int).toNat = 1 := rfl
        rw [e1, repS_1] at q
        exact ⟨.str _, H, I, ⟨_, rfl⟩, q⟩
      · rw [if_neg (by rw [Bool.or_eq_true]; rintro (r | r); exact hk1 (eq_of_beq r); have := eq_of_beq r; omega)]
        exact ⟨hz, .str _, H, I.tok _, ⟨_, rfl⟩, q⟩
def gMulS : A → A → Cs → R A := fun v w C => match v, w with
  | .str a, .int k => if -(2 ^ 63) ≤ k ∧ k ≤ 1000000 ∧ 1 ≤ a.length ∧ a.length * k.toNat ≤ 1000000 then .ok (.str (repS a k.toNat)) C else .bad
  | _, _ => .bad
theorem ad_mulS {K : PySem.W.Frag} {xc : XC} : Adq2 K xc gMulS rRepS := by
  intro W ι H σ C v w x y Q c r1 r2 p
  unfold gMulS at p
  split at p
  · split at p
    · rename_i a k h
      exact ⟨a, k, r1.of_str, r2.of_int, h.1, h.2.1, h.2.2.1, h.2.2.2, p.fin c (.str _)⟩
    · exact p.elim
  · exact p.elim
end FM

namespace FM
open PySem PySem.Spec PyProof.Rows L2 RZ
/-! ### a piece by itself: no cell goes in, none comes out -/
def Lay.hide (ι : Lay) : Lay := ⟨[], { ι.fx with hd := ι.cs ++ ι.fx.hd }⟩
/-- what is known of the names that are told, but for what holds a cell -/
def onlyE : List Bool → En → En
  | _, [] => []
  | [], _ :: s => none :: onlyE [] s
  | b :: bs, o :: s => (match b, o with
    | true, some v => if noLoc v = true then some v else none
    | _, _ => none) :: onlyE bs s
def cleanE : En → En
  | [] => []
  | o :: s => (match o with
    | some v => if noLoc v = true then some v else none
    | none => none) :: cleanE s
theorem onlyE_len : ∀ {m : List Bool} {s : En}, (onlyE m s).length = s.length
  | m, [] => by cases m <;> rfl
  | [], _ :: s => by simp [onlyE, onlyE_len (m := []) (s := s)]
  | b :: bs, o :: s => by simp [onlyE, onlyE_len (m := bs) (s := s)]
theorem onlyE_at : ∀ {m : List Bool} {s : En} {i : Nat} {a : A}, (onlyE m s)[i]? = some (some a) → s[i]? = some (some a) ∧ noLoc a = true
  | m, [], i, a, h => by cases m <;> simp [onlyE] at h
  | [], o :: s, 0, a, h => by simp [onlyE] at h
  | [], o :: s, i + 1, a, h => by
    have := onlyE_at (m := []) (s := s) (i := i) (a := a) (by simpa [onlyE] using h)
    simpa using this
  | b :: bs, o :: s, 0, a, h => by
    simp only [onlyE, List.getElem?_cons_zero, Option.some.injEq] at h
    split at h
    · rename_i v
      split at h
      · rename_i hn
        cases h
        exact ⟨rfl, hn⟩
      · cases h
    · cases h
  | b :: bs, o :: s, i + 1, a, h => by
    have := onlyE_at (m := bs) (s := s) (i := i) (a := a) (by simpa [onlyE] using h)
    simpa using this
theorem cleanE_len : ∀ {s : En}, (cleanE s).length = s.length
  | [] => rfl
  | o :: s => by simp [cleanE, cleanE_len (s := s)]
theorem cleanE_at : ∀ {s : En} {i : Nat} {a : A}, (cleanE s)[i]? = some (some a) → s[i]? = some (some a) ∧ noLoc a = true
  | [], i, a, h => by simp [cleanE] at h
  | o :: s, 0, a, h => by
    simp only [cleanE, List.getElem?_cons_zero, Option.some.injEq] at h
    split at h
    · rename_i v
      split at h
      · rename_i hn
        cases h
        exact ⟨rfl, hn⟩
      · cases h
    · cases h
  | o :: s, i + 1, a, h => by
    have := cleanE_at (s := s) (i := i) (a := a) (by simpa [cleanE] using h)
    simpa using this
def backR (C : Cs) : R A → R A
  | .ok v _ => .ok v C
  | .ex c p _ => .ex c p C
  | .bad => .bad
@[simp] theorem backR_ok {C D : Cs} {v : A} : backR C (.ok v D) = .ok v C := rfl
@[simp] theorem backR_ex {C D : Cs} {c : Nat} {p : Option A} : backR C (.ex c p D) = .ex c p C := rfl
@[simp] theorem backR_bad {C : Cs} : backR C .bad = .bad := rfl
def isoX (m : List Bool) (f : En → Cs → R A) : En → Cs → R A := fun s C => backR C (letGo 0 (f (onlyE m s) []))
def runI (n : Nat) (b : En → Cs → SR) (as : List A) (C : Cs) : R A := if noLocs as = true then backR C (letGo 0 (runF n b as [])) else .bad
def isoS (m : List Bool) (f : En → Cs → SR) : En → Cs → SR := fun s C => match f (onlyE m s) [] with
  | .nx s1 _ => .nx (cleanE s1) C
  | .bk s1 _ => .bk (cleanE s1) C
  | .ct s1 _ => .ct (cleanE s1) C
  | .rt v D => match goA D 0 v with
    | some y => .rt y C
    | none => .bad
  | .ex c p s1 D => match p with
    | none => .ex c none (cleanE s1) C
    | some a => match goA D 0 a with
      | some y => .ex c (some y) (cleanE s1) C
      | none => .bad
  | .bad => .bad
section
variable {K : PySem.W.Frag} {xc : XC} {ι ι' ι1 : Lay} {H H' H1 : Hp} {C C' D : Cs}
mutual
theorem Rp.move (o : ∀ b, ι.Out b → ι'.Out b) (hf : ι'.fx.fa = ι.fx.fa) (hp : ι'.fx.pv = ι.fx.pv) : ∀ {x : A} {v : V}, FM.noLoc x = true → Rp K ι H x v → Rp K ι' H x v
  | _, _, _, .non => .non
  | _, _, _, .bl b => .bl b
  | _, _, _, .int i => .int i
  | _, _, _, .str x => .str x
  | _, _, k, .tup f r => .tup (f.out o) (Rps.move o hf hp (by simpa [FM.noLoc] using k) r)
  | _, _, k, .lst h n r => .lst h (o _ n) (Rps.move o hf hp (by simpa [FM.noLoc] using k) r)
  | _, _, k, .kl f r => .kl (f.out o) (Rps.move o hf hp (by simpa [FM.noLoc] using k) r)
  | _, _, _, .dk0 h n => .dk0 h (o _ n)
  | _, _, _, .fn n => by rw [← hf]; exact .fn n
  | _, _, k, .loc h => by simp [FM.noLoc] at k
  | _, _, _, .opq v => .opq v
  | _, _, _, .kn h => .kn (by rw [hp]; exact h)
  | _, _, k, .ob h n l r => .ob (by rw [hf]; exact h) (o _ n) l (Rps.move o hf hp (by simpa [FM.noLoc] using k) r)
theorem Rps.move (o : ∀ b, ι.Out b → ι'.Out b) (hf : ι'.fx.fa = ι.fx.fa) (hp : ι'.fx.pv = ι.fx.pv) : ∀ {xs : List A} {vs : List V}, FM.noLocs xs = true → Rps K ι H xs vs → Rps K ι' H xs vs
  | _, _, _, .nil => .nil
  | _, _, k, .cons r t => by
    simp only [FM.noLocs, Bool.and_eq_true] at k
    exact .cons (Rp.move o hf hp k.1 r) (Rps.move o hf hp k.2 t)
end
mutual
theorem Rp.noneLoc (h0 : ι.cs = []) : ∀ {x : A} {v : V}, Rp K ι H x v → FM.noLoc x = true
  | _, _, .non => rfl
  | _, _, .bl b => rfl
  | _, _, .int i => rfl
  | _, _, .str x => rfl
  | _, _, .tup f r => by simpa [FM.noLoc] using Rps.noneLoc h0 r
  | _, _, .lst h n r => by simpa [FM.noLoc] using Rps.noneLoc h0 r
  | _, _, .kl f r => by simpa [FM.noLoc] using Rps.noneLoc h0 r
  | _, _, .dk0 h n => rfl
  | _, _, .fn n => rfl
  | _, _, .loc h => by rw [h0] at h; simp at h
  | _, _, .opq v => rfl
  | _, _, .kn h => rfl
  | _, _, .ob h n l r => by simpa [FM.noLoc] using Rps.noneLoc h0 r
theorem Rps.noneLoc (h0 : ι.cs = []) : ∀ {xs : List A} {vs : List V}, Rps K ι H xs vs → FM.noLocs xs = true
  | _, _, .nil => rfl
  | _, _, .cons r t => by simp [FM.noLocs, Rp.noneLoc h0 r, Rps.noneLoc h0 t]
end
theorem hide_out : ∀ b, ι.Out b → ι.hide.Out b := fun b h => ⟨List.not_mem_nil, fun m => by
  have m : b ∈ ι.cs ++ ι.fx.hd := m
  rcases List.mem_append.mp m with m | m
  · exact h.1 m
  · exact h.2 m⟩
theorem hide_rc (hp : xc.Plain) (c : RC K xc ι H C) : RC K xc ι.hide H [] := by
  obtain ⟨k0, p0⟩ := hp _ _ _ _ c.g
  refine ⟨rfl, List.nodup_nil, fun n xs a h1 h2 => by simp at h1, ⟨fun b hb => ⟨List.not_mem_nil, ?_⟩, c.side.tabs, fun p hq => ?_, fun p hq => ?_⟩, c.g⟩
  · have hb : b ∈ ι.cs ++ ι.fx.hd := hb
    rcases List.mem_append.mp hb with m | m
    · obtain ⟨n, hn, e⟩ := List.mem_iff_getElem.mp m
      have hn' : n < C.length := by rw [← c.len]; exact hn
      obtain ⟨vs, q, _⟩ := c.at_ n C[n] b (by simp) (by rw [List.getElem?_eq_getElem hn, e])
      exact ⟨_, q, .lst _⟩
    · exact (c.side.hid b m).2
  · have hq : p ∈ ι.fx.kp := hq
    rw [k0] at hq; cases hq
  · have hq : p ∈ ι.fx.pv := hq
    rw [p0] at hq; cases hq
theorem hide_ext (e : Ext ι.hide H ι1 H1) : Ext ι H ι H1 := ⟨⟨[], by simp⟩, rfl, fun b o h t n => ⟨(e.keep b o h t List.not_mem_nil).1, n⟩, e.tabs⟩
theorem hide_back (c : RC K xc ι H C) (e : Ext ι.hide H ι1 H1) : RC K xc ι H1 C := c.ext0 (hide_ext e) fun a m => by
  obtain ⟨n, hn, ea⟩ := List.mem_iff_getElem.mp m
  have hn' : n < C.length := by rw [← c.len]; exact hn
  obtain ⟨vs, q, _⟩ := c.at_ n C[n] a (by simp) (by rw [List.getElem?_eq_getElem hn, ea])
  exact (e.keep a _ q lst_nt List.not_mem_nil).1.trans q.symm
theorem hide_bout (e : Ext ι.hide H ι1 H1) : ∀ b, ι1.Out b → ι.Out b := fun b n => by
  have h2 : b ∉ ι.cs ++ ι.fx.hd := by
    have := n.2
    rw [e.hd] at this
    exact this
  exact ⟨fun m => h2 (List.mem_append_left _ m), fun m => h2 (List.mem_append_right _ m)⟩
theorem hide_rp (e : Ext ι.hide H ι1 H1) {x : A} {v : V} (hn : noLoc x = true) (r : Rp K ι1 H1 x v) : Rp K ι H1 x v := r.move (hide_bout e) (by rw [e.fx]; rfl) (by rw [e.fx]; rfl) hn
theorem hide_rp0 {x : A} {v : V} (hn : noLoc x = true) (r : Rp K ι H x v) : Rp K ι.hide H x v := r.move hide_out rfl rfl hn
theorem hide_rs {m : List Bool} {s : En} {σ : L2.St} (r : RS K ι H s σ) : RS K ι.hide H (onlyE m s) σ := ⟨onlyE_len.trans r.1, fun i a h => by
  obtain ⟨h1, h2⟩ := onlyE_at h
  obtain ⟨v, q1, q2⟩ := r.2 i a h1
  exact ⟨v, q1, hide_rp0 h2 q2⟩⟩
theorem hide_rsb (e : Ext ι.hide H ι1 H1) {s : En} {σ : L2.St} (r : RS K ι1 H1 s σ) : RS K ι H1 (cleanE s) σ := ⟨cleanE_len.trans r.1, fun i a h => by
  obtain ⟨h1, h2⟩ := cleanE_at h
  obtain ⟨v, q1, q2⟩ := r.2 i a h1
  exact ⟨v, q1, hide_rp e h2 q2⟩⟩
theorem hide_go (e : Ext ι.hide H ι1 H1) (c1 : RC K xc ι1 H1 D) {x y : A} {v : V} (r : Rp K ι1 H1 x v) (g : goA D 0 x = some y) : Rp K ι H1 y v := by
  have r2 : Rp K ι.hide H1 y v := go_ok (go_out e) e.fx e.pre c1 r g
  exact r2.move (ι := ι.hide) (ι' := ι) (fun b n => ⟨fun m => n.2 (List.mem_append_left _ m), fun m => n.2 (List.mem_append_right _ m)⟩) rfl rfl (r2.noneLoc rfl)
theorem letGo_cs {r : R A} {v : A} (h : letGo 0 r = .ok v D) : D = [] := by
  cases r with
  | ok w E =>
    unfold letGo at h
    simp only at h
    split at h
    · split at h
      · cases h; rfl
      · cases h
    · cases h
  | ex c p E =>
    unfold letGo at h
    simp only at h
    split at h
    · cases p with
      | none => cases h
      | some a => simp only at h; split at h <;> cases h
    · cases h
  | bad => cases h
theorem letGo_csx {r : R A} {c : Nat} {p : Option A} (h : letGo 0 r = .ex c p D) : D = [] := by
  cases r with
  | ok w E =>
    unfold letGo at h
    simp only at h
    split at h
    · split at h <;> cases h
    · cases h
  | ex c p E =>
    unfold letGo at h
    simp only at h
    split at h
    · cases p with
      | none => cases h; rfl
      | some a =>
        simp only at h
        split at h
        · cases h; rfl
        · cases h
    · cases h
  | bad => cases h
theorem post_hide {W : WX} {σ : L2.St} {Q : VK} {r : R A} (hp : xc.Plain) (c : RC K xc ι H C) (p : Post K xc W (Rp K) ι H σ (backR C (letGo 0 r)) Q) : Post K xc W (Rp K) ι.hide H σ r Q := by
  refine post_letGo (C := []) (hide_rc hp c) ?_
  show Post K xc W (Rp K) ι.hide H σ (letGo 0 r) Q
  cases e : letGo 0 r with
  | ok v D =>
    rw [e] at p
    cases letGo_cs e
    intro ι1 H1 x e1 c1 r1
    have h0 : ι1.cs = [] := List.eq_nil_of_length_eq_zero c1.len
    exact p ι H1 x (hide_ext e1) (hide_back c e1) (hide_rp e1 (r1.noneLoc h0) r1)
  | ex cc pp D =>
    rw [e] at p
    cases letGo_csx e
    intro ι1 H1 d e1 c1 rx
    have h0 : ι1.cs = [] := List.eq_nil_of_length_eq_zero c1.len
    refine p ι H1 d (hide_ext e1) (hide_back c e1) ?_
    cases pp with
    | none => exact rx
    | some a =>
      obtain ⟨dx, v, h1, h2, h3⟩ := rx
      exact ⟨dx, v, h1, h2, hide_rp e1 (h3.noneLoc h0) h3⟩
  | bad =>
    rw [e] at p
    exact p
theorem isoX_imp {W : WX} {m : List Bool} {f : En → Cs → R A} (hp : xc.Plain) {σ : L2.St} {H : Hp} {Q : VK} (h : xD K xc W (isoX m f) σ H Q) : xD K xc W f σ H Q := by
  obtain ⟨ι, s, C, c, r, p⟩ := h
  exact ⟨ι.hide, onlyE m s, [], hide_rc hp c, hide_rs r, post_hide hp c p⟩
theorem isoS_imp {W : WX} {m : List Bool} {f : En → Cs → SR} (hp : xc.Plain) {E : Ends} {σ : L2.St} {H : Hp} (h : sD K xc W (isoS m f) E σ H) : sD K xc W f E σ H := by
  obtain ⟨ι, s, C, c, r, p⟩ := h
  refine ⟨ι.hide, onlyE m s, [], hide_rc hp c, hide_rs r, ?_⟩
  unfold isoS at p
  cases e : f (onlyE m s) [] with
  | nx s1 D =>
    rw [e] at p
    exact fun ι1 H1 σ1 e1 c1 r1 => p ι H1 σ1 (hide_ext e1) (hide_back c e1) (hide_rsb e1 r1)
  | bk s1 D =>
    rw [e] at p
    exact fun ι1 H1 σ1 e1 c1 r1 => p ι H1 σ1 (hide_ext e1) (hide_back c e1) (hide_rsb e1 r1)
  | ct s1 D =>
    rw [e] at p
    exact fun ι1 H1 σ1 e1 c1 r1 => p ι H1 σ1 (hide_ext e1) (hide_back c e1) (hide_rsb e1 r1)
  | rt v D =>
    rw [e] at p
    simp only at p
    split at p
    · rename_i y hy
      exact fun ι1 H1 x e1 c1 r1 => p ι H1 x (hide_ext e1) (hide_back c e1) (hide_go e1 c1 r1 hy)
    · exact p.elim
  | ex cc pp s1 D =>
    rw [e] at p
    simp only at p
    split at p
    · exact fun ι1 H1 σ1 d e1 c1 r1 rx => p ι H1 σ1 d (hide_ext e1) (hide_back c e1) (hide_rsb e1 r1) rx
    · split at p
      · rename_i a y hy
        intro ι1 H1 σ1 d e1 c1 r1 rx
        obtain ⟨dx, v, h1, h2, h3⟩ := rx
        exact p ι H1 σ1 d (hide_ext e1) (hide_back c e1) (hide_rsb e1 r1) ⟨dx, v, h1, h2, hide_go e1 c1 h3 hy⟩
      · exact p.elim
  | bad =>
    rw [e] at p
    exact p
theorem spD_iso (hp : xc.Plain) {np n : Nat} {b : En → Cs → SR} : ∀ vs H Q E, spD K xc np (runI n b) vs H Q E → spD K xc np (runF n b) vs H Q E := fun vs H Q E ⟨ι, as, C, c, r, hl, p⟩ => by
  unfold runI at p
  split at p
  · rename_i hn
    exact ⟨ι.hide, as, [], hide_rc hp c, r.move hide_out rfl rfl hn, hl, post_hide hp c p⟩
  · exact p.elim
end
section
variable {X : Cx} {xc : XC} {W : WX}
theorem r_isoX {e : Expr} {f : En → Cs → R A} (m : List Bool) (hp : xc.Plain) (h : PE X e (xD X.K xc W f)) : PE X e (xD X.K xc W (isoX m f)) := PE.imp h fun σ H Q q => isoX_imp hp q
theorem r_isoS {st : List Stmt} {f : En → Cs → SR} (m : List Bool) (hp : xc.Plain) (h : PSs X st (sD X.K xc W f)) : PSs X st (sD X.K xc W (isoS m f)) := PSs.imp h fun D σ H q => isoS_imp hp q
theorem r_isoS1 {st : Stmt} {f : En → Cs → SR} (m : List Bool) (hp : xc.Plain) (h : PS X st (sD X.K xc W f)) : PS X st (sD X.K xc W (isoS m f)) := PS.imp h fun D σ H q => isoS_imp hp q
end
section
variable {P : Program} {w : World} {K : PySem.W.Frag} {mg : Str → Option Value} {base : Heap} {xc : XC}
/-- a def of the text does what its reading tells, by itself -/
theorem fn_i (hp : xc.Plain) {x qual : Str} {st : Stmt} {f : Addr} {fd : FuncData} {N ps : List Str} {k : Nat} {b : En → Cs → SR} (F : Fun K x qual st f fd) (S : FnScope N ps (defScope st))
    (hbody : ∀ (cdv : Value) (A : Around) (outer : List Env) (s : Shared) (H : Hp) (E : XK), Room k (A.deeper (envOfC qual (defScope st) s.heap.objs.size f cdv)) →
      Takes (cxOf (L2.CX P w) P w K mg base N qual (defScope st) f cdv A outer s H E) (fun c d _ H => E c d H) →
      PassesOwn (model P w) (A.deeper (envOfC qual (defScope st) s.heap.objs.size f cdv)) (envOfC qual (defScope st) s.heap.objs.size f cdv) (cxOf (L2.CX P w) P w K mg base N qual (defScope st) f cdv A outer s H E).xe →
      PSs (cxOf (L2.CX P w) P w K mg base N qual (defScope st) f cdv A outer s H E) (defBody st) (sD K xc (fun c d _ H => E c d H) b)) :
    FnOk P w K mg base (L2.CX P w) (k + 1) f fd ps (spD K xc ps.length (runI (N.length - ps.length) b)) := (fn_ok F S hbody).imp (spD_iso hp)
theorem fn_gi (hp : xc.Plain) {x qual : Str} {st : Stmt} {f : Addr} {fd : FuncData} {N ps : List Str} {k : Nat} {b : En → Cs → SR} (F : Fun K x qual st f fd) (S : FnScope N ps (defScope st))
    (hbody : ∀ (cdv : Value) (A : Around) (outer : List Env) (s : Shared) (H : Hp) (E : XK), PySem.W.codeIn K cdv qual = true → fd.code = cdv → A.guards = some [] → Room k (A.deeper (envOfC qual (defScope st) s.heap.objs.size f cdv)) →
      Takes (cxOf (L2.CX P w) P w K mg base N qual (defScope st) f cdv A outer s H E) (fun c d _ H => E c d H) →
      PassesOwn (model P w) (A.deeper (envOfC qual (defScope st) s.heap.objs.size f cdv)) (envOfC qual (defScope st) s.heap.objs.size f cdv) (cxOf (L2.CX P w) P w K mg base N qual (defScope st) f cdv A outer s H E).xe →
      (∃ (oc : Value) (od an : Option Addr) (kV doc pm ct : Value) (osl : Array (Option Value)), K.lookup f = some ⟨oc, od, .func (PySem.W.fnOf x qual (defArgs st) (defBody st) (defScope st) .none kV doc pm an cdv ct), osl⟩) →
      PSs (cxOf (L2.CX P w) P w K mg base N qual (defScope st) f cdv A outer s H E) (defBody st) (sD K xc (fun c d _ H => E c d H) b)) :
    FnG P w K mg base (k + 1) f fd ps (spD K xc ps.length (runI (N.length - ps.length) b)) := (fn_g0 F S hbody).imp (spD_iso hp)
end
end FM

namespace FM
open PySem PySem.Spec PyProof.Rows L2 RZ
/-! ### objects that never change: made, their fields and properties read -/
section
variable {K : PySem.W.Frag} {xc : XC} {ι : Lay} {H : Hp}
theorem lookup_zip {f : Str} : ∀ {ns : List Str} {xs : List A} {vs : List V} {x : A}, Rps K ι H xs vs → (ns.zip xs).lookup f = some x → ∃ v, (ns.zip vs).lookup f = some v ∧ Rp K ι H x v
  | [], _, _, _, _, h => by simp at h
  | _ :: _, [], _, _, _, h => by simp at h
  | n :: ns, x :: xs, _, y, .cons (v := v) (vs := vs) r t, h => by
    simp only [List.zip_cons_cons, List.lookup_cons] at h ⊢
    cases e : f == n with
    | true => rw [e] at h; cases h; exact ⟨v, rfl, r⟩
    | false => rw [e] at h; exact lookup_zip t h
end
def xAttr (f : Str) (cs : List Nat) (e : En → Cs → R A) : En → Cs → R A := fun s C => (e s C).bind fun v C1 => match v with
  | .ob c ns xs => if cs.contains c = true then match (ns.zip xs).lookup f with
      | some x => .ok x C1
      | none => .bad
    else .bad
  | _ => .bad
def calmR : R A → R A
  | .ok v C => .ok v C
  | _ => .bad
def xProp (tab : List (Nat × (List A → Cs → R A))) (e : En → Cs → R A) : En → Cs → R A := fun s C => (e s C).bind fun v C1 => match v with
  | .ob c ns xs => match tab.lookup c with
    | some m => calmR (m [.ob c ns xs] C1)
    | none => .bad
  | _ => .bad
/-- the class has a property that a def of the text tells -/
def PropOk (X : Cx) (xc : XC) (ad : Nat → Addr) (f : Str) (c : Nat) (m : List A → Cs → R A) : Prop :=
  ∃ p g k fd ps, L2.Cls X.K (ad c) ∧ L2.PropOf X.K (ad c) f p g ∧ FnOk X.prog X.w X.K X.mg X.base (L2.CX X.prog X.w) k g fd ps (spD X.K xc 1 m) ∧ Room (k + 1) X.A ∧ Binds X.K fd ps []
section
variable {X : Cx} {xc : XC} {W : WX} {pos : Pos} {ad : Nat → Addr}
theorem r_attr {e : Expr} {f : Str} {cs : List Nat} {fe : En → Cs → R A} (hfa : ∀ T fa kp pv, xc.G T fa kp pv → fa = ad) (hc : ∀ c ∈ cs, L2.Cls X.K (ad c) ∧ L2.NoAttr X.K (ad c) f) (he : PE X e (xD X.K xc W fe))
    (hb : attributeBase e f X.env (eval e X.env) = eval e X.env := by rfl) : PE X (.Attribute e f pos) (xD X.K xc W (xAttr f cs fe)) := by
  refine PE.imp (pe_fld he hb) fun σ H Q ⟨ι, s, C, c, r, p⟩ => ?_
  refine Dn.step c r p fun ι1 H1 C1 v x e1 c1 r1 q1 p1 => ?_
  have hfa := hfa _ _ _ _ c1.g
  cases q1 with
  | @ob cn ns xs vs a dx h1 h2 h3 h4 =>
    simp only at p1
    split at p1
    · rename_i hm
      split at p1
      · rename_i y hy
        obtain ⟨v, hv, rv⟩ := lookup_zip h4 hy
        obtain ⟨k1, k2⟩ := hc cn (List.contains_iff_mem.mp hm)
        exact ⟨a, _, dx, _, v, rfl, h1, by rw [hfa]; exact k1, by rw [hfa]; exact k2, hv, p1.fin c1 rv⟩
      · exact p1.elim
    · exact p1.elim
  | _ => exact (show False from p1).elim
theorem r_prop {e : Expr} {f : Str} {tab : List (Nat × (List A → Cs → R A))} {fe : En → Cs → R A} (hfa : ∀ T fa kp pv, xc.G T fa kp pv → fa = ad) (hc : ∀ c m, tab.lookup c = some m → PropOk X xc ad f c m) (he : PE X e (xD X.K xc W fe))
    (hb : attributeBase e f X.env (eval e X.env) = eval e X.env := by rfl) : PE X (.Attribute e f pos) (xD X.K xc W (xProp tab fe)) := by
  refine ⟨fun pins s σ H Q I ⟨ι, t, C, c, r, p⟩ => ?_⟩
  have gen : ∀ cn m, tab.lookup cn = some m → tProp (ad cn) (spD X.K xc 1 m) [] (fun _ _ _ => False) (xD X.K xc W fe) σ H Q → wpAny (model X.prog X.w) X.A (eval (.Attribute e f pos) X.env) (EP X pins σ Q) X.xe s := fun cn m hm q => by
    obtain ⟨p, g, k, fd, ps, h1, h2, h3, h4, h5⟩ := hc cn m hm
    exact (pe_prop (dvs := []) (ds := []) (E := fun _ _ _ => False) he h1 h2 h3 h4 h5 .nil (fun _ _ _ _ _ _ _ z => by
      exact z.elim fun _ z => z.elim fun _ z => z.elim fun _ z => z.elim fun _ z => z.elim fun _ z => z.2.2.2.2.2.2.2.elim) hb).run pins s σ H Q I q
  have other : xD X.K xc W fe σ H (fun _ _ => False) → wpAny (model X.prog X.w) X.A (eval (.Attribute e f pos) X.env) (EP X pins σ Q) X.xe s := fun q =>
    attr_of hb (thn (he.run pins s σ H _ I q) fun u s1 ⟨x, H1, I1, rx, z⟩ => z.elim)
  cases ev : fe t C with
  | ok v C1 =>
    unfold xProp at p
    rw [ev] at p
    simp only [R.bind_ok] at p
    cases v with
    | ob cn ns xs =>
      simp only at p
      split at p
      · rename_i m hm
        refine gen cn m hm ⟨ι, t, C, c, r, ?_⟩
        rw [ev]
        intro ι1 H1 x e1 c1 r1
        have hfa := hfa _ _ _ _ c1.g
        cases r1 with
        | @ob _ _ _ vs a dx h1 h2 h3 h4 =>
          refine ⟨a, dx, _, rfl, by rw [← hfa]; exact h1, ι1, [.ob cn ns xs], C1, c1, .cons (.ob h1 h2 h3 h4) .nil, rfl, ?_⟩
          have p2 := Post.later (r := calmR (m [.ob cn ns xs] C1)) p e1
          cases em : m [.ob cn ns xs] C1 with
          | ok y C2 => rw [em] at p2; exact p2
          | ex cc pp C2 => rw [em] at p2; exact p2.elim
          | bad => rw [em] at p2; exact p2.elim
      · exact p.elim
    | _ => exact (show False from p).elim
  | ex cc pp C1 =>
    refine other ⟨ι, t, C, c, r, ?_⟩
    unfold xProp at p
    rw [ev] at p ⊢
    exact p
  | bad =>
    unfold xProp at p
    rw [ev] at p
    exact p.elim
end
end FM

namespace FM
open PySem PySem.Spec PyProof.Rows L2 RZ
/-! ### objects made: __init__ looks at its arguments, then keeps them -/
/-- what the names of a def hold -/
def keepV (σ : L2.St) : List Nat → Option (List V)
  | [] => some []
  | i :: is => match σ[i]? with
    | some (some v) => (keepV σ is).map (v :: ·)
    | _ => none
def keepA (s : En) : List Nat → Option (List A)
  | [] => some []
  | i :: is => match s[i]? with
    | some (some v) => (keepA s is).map (v :: ·)
    | _ => none
def rKeep (is : List Nat) : En → Cs → R (List A) := fun s C => match keepA s is with
  | some vs => .ok vs C
  | none => .bad
def rThen (f : En → Cs → R A) (g : En → Cs → R (List A)) : En → Cs → R (List A) := fun s C => (f s C).bind fun _ C1 => g s C1
theorem keep_rs {K : PySem.W.Frag} {ι : Lay} {H : Hp} {s : En} {σ : L2.St} (r : RS K ι H s σ) : ∀ {is : List Nat} {xs : List A}, keepA s is = some xs → ∃ vs, keepV σ is = some vs ∧ Rps K ι H xs vs
  | [], xs, h => by simp only [keepA] at h; cases h; exact ⟨[], rfl, .nil⟩
  | i :: is, xs, h => by
    simp only [keepA] at h
    split at h
    · rename_i v e
      obtain ⟨x, e1, rx⟩ := r.2 i v e
      cases ek : keepA s is with
      | none => rw [ek] at h; cases h
      | some ys =>
        rw [ek] at h
        cases h
        obtain ⟨vs, h1, h2⟩ := keep_rs r ek
        exact ⟨x :: vs, by simp [keepV, e1, h1], .cons rx h2⟩
    · cases h
theorem keepA_len {s : En} : ∀ {is : List Nat} {xs : List A}, keepA s is = some xs → xs.length = is.length
  | [], xs, h => by simp only [keepA] at h; cases h; rfl
  | i :: is, xs, h => by
    simp only [keepA] at h
    split at h
    · cases ek : keepA s is with
      | none => rw [ek] at h; cases h
      | some ys => rw [ek] at h; cases h; simp [keepA_len ek]
    · cases h
section
variable {K : PySem.W.Frag} {xc : XC} {D : Addr} {ι : Lay} {H : Hp} {C : Cs}
theorem ExtD.newO (c : RC K xc ι H C) (hD : H D = none) {u : HO} (hu : HidO u) : ExtD D ι H ⟨ι.cs, ⟨D :: ι.fx.hd, ι.fx.T, ι.fx.kp, ι.fx.pv, ι.fx.fa⟩⟩ (upd H D u) ∧ RC K xc ⟨ι.cs, ⟨D :: ι.fx.hd, ι.fx.T, ι.fx.kp, ι.fx.pv, ι.fx.fa⟩⟩ (upd H D u) C := by
  have oD := c.ne_none hD
  have e : ExtD D ι H ⟨ι.cs, ⟨D :: ι.fx.hd, ι.fx.T, ι.fx.kp, ι.fx.pv, ι.fx.fa⟩⟩ (upd H D u) := ⟨⟨[], by simp⟩, rfl, fun b o h _ n => ⟨by rw [upd_ne (ne_of_none h hD)]; exact h, n⟩⟩
  refine ⟨e, c.len, c.nd, fun n xs a h1 h2 => ?_, ⟨fun b hb => ?_, c.side.tabs.ext fun b o h => by rw [upd_ne (ne_of_none h hD)]; exact h, fun p hp => ?_, fun p hp => (c.side.pv p hp).mv (e.mv hD)⟩, c.g⟩
  · obtain ⟨vs, q, r⟩ := c.at_ n xs a h1 h2
    exact ⟨vs, by rw [upd_ne (ne_of_none q hD)]; exact q, r.mv (e.mv hD)⟩
  · rcases List.mem_cons.mp hb with z | z
    · rw [z]; exact ⟨oD.1, _, upd_same, hu⟩
    · obtain ⟨n, o, q, nt⟩ := c.side.hid b z
      exact ⟨n, o, by rw [upd_ne (ne_of_none q hD)]; exact q, nt⟩
  · obtain ⟨q1, q2, q3, q4⟩ := c.side.kp p hp
    refine ⟨by rw [upd_ne (ne_of_none q1 hD)]; exact q1, q2, q3, fun m => ?_⟩
    rcases List.mem_cons.mp m with z | z
    · rw [z, hD] at q1; cases q1
    · exact q4 z
theorem RC.asideI {Ca dx : Addr} {fs gs : List (Str × V)} (c : RC K xc ι H C) (h : D ∈ ι.hd) (hw : H D = some (.ins Ca dx fs)) : RC K xc ι (upd H D (.ins Ca dx gs)) C := by
  obtain ⟨hn, _⟩ := c.side.hid D h
  refine ⟨c.len, c.nd, fun n xs a h1 h2 => let ⟨vs, q, r⟩ := c.at_ n xs a h1 h2; ⟨vs, by rw [upd_ne fun e => hn (by rw [← e]; exact List.mem_of_getElem? h2)]; exact q, r.mv (mv_aside h _)⟩, ⟨fun b hb => ?_, fun p hp => ?_, fun p hp => ?_, fun p hp => (c.side.pv p hp).mv (mv_aside h _)⟩, c.g⟩
  · by_cases e : b = D
    · rw [e]; exact ⟨hn, _, upd_same, .ins _ _ _⟩
    · rw [upd_ne e]; exact c.side.hid b hb
  · obtain ⟨ps, h1, h2, h3⟩ := c.side.tabs p hp
    exact ⟨ps, by rw [upd_ne (ne_of h1 hw (by intro z; cases z))]; exact h1, h2, fun pos cv hc => let ⟨q, e1, e2⟩ := h3 pos cv hc; ⟨q, e1, by rw [upd_ne (ne_of e2 hw (by intro z; unfold LamX.CodeO at z; cases z))]; exact e2⟩⟩
  · obtain ⟨q1, q2, q3, q4⟩ := c.side.kp p hp
    exact ⟨by rw [upd_ne fun e => q4 (by rw [e]; exact h)]; exact q1, q2, q3, q4⟩
end
/-- self.f = x, .. -/
def aT (K : PySem.W.Frag) (Ca : Addr) (fs : List Str) (is : List Nat) : TS := fun D σ H => ∃ (x dx : Addr) (gs : List (Str × V)) (vs : List V), σ[0]? = some (some (.ref x)) ∧ H x = some (.ins Ca dx gs) ∧ L2.Cls K Ca ∧ (∀ f ∈ fs, L2.NoAttr K Ca f) ∧ (∀ f ∈ fs, f ∉ gs.map (·.1)) ∧ fs.Nodup ∧ gs.length + fs.length < 1000 ∧
  keepV σ is = some vs ∧ fs.length = is.length ∧ D.nx σ (upd H x (.ins Ca dx (gs ++ fs.zip vs)))
theorem putF_new {f : Str} {v : V} : ∀ {gs : List (Str × V)}, f ∉ gs.map (·.1) → putF f v gs = gs ++ [(f, v)]
  | [], _ => rfl
  | (g, x) :: r, h => by
    simp only [List.map_cons, List.mem_cons, not_or] at h
    simp only [putF, if_neg (Ne.symm h.1), putF_new h.2, List.cons_append]
section
variable {X : Cx} {pos : Pos}
theorem a_nil {Ca : Addr} : PSs X [] (aT X.K Ca [] []) := PSs.imp pss_nil fun D σ H ⟨x, dx, gs, vs, h1, h2, _, _, _, _, _, h3, _, q⟩ => by
  have : upd H x (.ins Ca dx (gs ++ ([] : List Str).zip vs)) = H := by
    funext b
    unfold upd
    split
    · rename_i e; rw [e, h2]; simp
    · rfl
  rw [this] at q
  exact q
theorem a_cons {Ca : Addr} {f : Str} {i : Nat} {fs : List Str} {is : List Nat} {o value : Expr} {pos' : Pos} {rest : List Stmt} (ho : PE X o (tVar 0)) (hv : PE X value (tVar i)) (h : PSs X rest (aT X.K Ca fs is)) (hs : swapsWith value (some (.Attribute o f pos')) pos.line X.env = pure false := by rfl) :
    PSs X (.Assign [.Attribute o f pos'] value pos :: rest) (aT X.K Ca (f :: fs) (i :: is)) := by
  refine PSs.imp (pss_cons (ps_fld ho hv hs) h) fun D σ H ⟨x, dx, gs, vs, h1, h2, h3, h4, h5, h6, h7, h8, h9, q⟩ => ?_
  simp only [keepV] at h8
  split at h8
  · rename_i v ev
    cases ek : keepV σ is with
    | none => rw [ek] at h8; cases h8
    | some ws =>
      rw [ek] at h8
      cases h8
      refine ⟨v, ev, .ref x, h1, x, Ca, dx, gs, rfl, h2, h3, h4 f List.mem_cons_self, by simp at h7; omega, ?_⟩
      rw [putF_new (h5 f List.mem_cons_self)]
      obtain ⟨n1, n2⟩ := List.nodup_cons.mp h6
      refine ⟨x, dx, gs ++ [(f, v)], ws, h1, upd_same, h3, fun g hg => h4 g (List.mem_cons_of_mem _ hg), fun g hg m => ?_, n2, by simp at h7 ⊢; omega, ek, by simpa using h9, ?_⟩
      · simp only [List.map_append, List.map_cons, List.map_nil, List.mem_append, List.mem_singleton] at m
        rcases m with m | m
        · exact h5 g (List.mem_cons_of_mem _ hg) m
        · exact n1 (m ▸ hg)
      · rw [upd_upd]
        simpa using q
  · cases h8
variable {xc : XC} {W : WX} {ad : Nat → Addr}
/-- the body of an __init__ -/
def initD (K : PySem.W.Frag) (xc : XC) (W : WX) (Ca : Addr) (fs : List Str) (r : En → Cs → R (List A)) : TS := fun D σ H => ∃ (ι : Lay) (s : En) (C : Cs) (x dx : Addr), RC K xc ι H C ∧ RS K ι H s σ ∧ σ[0]? = some (some (.ref x)) ∧ H x = some (.ins Ca dx []) ∧ x ∈ ι.hd ∧
  match r s C with
  | .ok vals C1 => vals.length = fs.length ∧ ∀ ι' H' ws, Ext ι H ι' H' → RC K xc ι' H' C1 → Rps K ι' H' vals ws → D.nx σ (upd H' x (.ins Ca dx (fs.zip ws)))
  | .ex c p C1 => ∀ ι' H' d, Ext ι H ι' H' → RC K xc ι' H' C1 → RX K xc ι' H' c p d → W (.ref (xc.cl c)) d σ H'
  | .bad => False
theorem i_fin {Ca : Addr} {fs : List Str} {is : List Nat} {l : List Stmt} (h : PSs X l (aT X.K Ca fs is)) (hc : L2.Cls X.K Ca) (hn : ∀ f ∈ fs, L2.NoAttr X.K Ca f) (hd : fs.Nodup) (hl : fs.length < 1000 ∧ fs.length = is.length) : PSs X l (initD X.K xc W Ca fs (rKeep is)) := by
  refine PSs.imp h fun D σ H ⟨ι, s, C, x, dx, c, r, h1, h2, h3, p⟩ => ?_
  unfold rKeep at p
  cases ek : keepA s is with
  | none => rw [ek] at p; exact p.elim
  | some vs =>
    rw [ek] at p
    obtain ⟨ws, k1, k2⟩ := keep_rs r ek
    exact ⟨x, dx, [], ws, h1, h2, hc, hn, by simp, hd, by simpa using hl.1, k1, hl.2, by simpa using p.2 ι H ws (Ext.refl _ _) c k2⟩
theorem i_exp {Ca : Addr} {fs : List Str} {e : Expr} {f : En → Cs → R A} {g : En → Cs → R (List A)} {rest : List Stmt} (he : PE X e (xD X.K xc W f)) (hr : PSs X rest (initD X.K xc W Ca fs g)) (hs : swapsWith e none pos.line X.env = pure false := by rfl) : PSs X (.Expr e pos :: rest) (initD X.K xc W Ca fs (rThen f g)) := by
  refine PSs.imp (pss_cons (ps_expr he hs) hr) fun D σ H ⟨ι, s, C, x, dx, c, r, h1, h2, h3, p⟩ => ?_
  refine ⟨ι, s, C, c, r, ?_⟩
  unfold rThen at p
  cases ev : f s C with
  | ok v C1 =>
    rw [ev] at p
    simp only [R.bind_ok] at p
    intro ι1 H1 y e1 c1 r1
    obtain ⟨q1, q2⟩ := e1.keep x _ h2 ins_nt (c.side.hid x h3).1
    refine ⟨ι1, s, C1, x, dx, c1, r.ext e1, h1, q1, by rw [e1.hd]; exact h3, ?_⟩
    cases eg : g s C1 with
    | ok vals C2 =>
      rw [eg] at p
      exact ⟨p.1, fun ι2 H2 ws e2 c2 r2 => p.2 ι2 H2 ws (e1.trans e2) c2 r2⟩
    | ex cc pp C2 =>
      rw [eg] at p
      exact fun ι2 H2 d e2 c2 rx => p ι2 H2 d (e1.trans e2) c2 rx
    | bad => rw [eg] at p; exact p
  | ex cc pp C1 =>
    rw [ev] at p
    exact p
  | bad =>
    rw [ev] at p
    exact p
end
/-- what an __init__ does -/
def spI (K : PySem.W.Frag) (xc : XC) (Ca : Addr) (fs : List Str) (np : Nat) (mi : List A → Cs → R (List A)) : Sp := fun vs H Q E => ∃ (ι : Lay) (as : List A) (C : Cs) (x dx : Addr) (vs' : List V), vs = .ref x :: vs' ∧ RC K xc ι H C ∧ Rps K ι H as vs' ∧ vs'.length = np ∧ H x = some (.ins Ca dx []) ∧ x ∈ ι.hd ∧
  match mi as C with
  | .ok vals C1 => vals.length = fs.length ∧ ∀ ι' H' ws, Ext ι H ι' H' → RC K xc ι' H' C1 → Rps K ι' H' vals ws → Q .non (upd H' x (.ins Ca dx (fs.zip ws)))
  | .ex c p C1 => ∀ ι' H' d, Ext ι H ι' H' → RC K xc ι' H' C1 → RX K xc ι' H' c p d → E (.ref (xc.cl c)) d H'
  | .bad => False
def runInit (n : Nat) (r : En → Cs → R (List A)) (as : List A) (C : Cs) : R (List A) := r (none :: as.map some ++ List.replicate n none) C
def mkO (c : Nat) (fs : List Str) (mi : List A → Cs → R (List A)) : List A → Cs → R A := fun as C => match mi as C with
  | .ok vals C1 => if vals.length = fs.length then .ok (.ob c fs vals) C1 else .bad
  | .ex cc p C1 => .ex cc p C1
  | .bad => .bad
section
variable {P : Program} {w : World} {K : PySem.W.Frag} {mg : Str → Option Value} {base : Heap} {xc : XC}
theorem fn_init {x qual self : Str} {st : Stmt} {f : Addr} {fd : FuncData} {N ps : List Str} {k : Nat} {Ca : Addr} {fs : List Str} {r : En → Cs → R (List A)} (F : Fun K x qual st f fd) (S : FnScope N (self :: ps) (defScope st))
    (hbody : ∀ (cdv : Value) (A : Around) (outer : List Env) (s : Shared) (H : Hp) (E : XK), Room k (A.deeper (envOfC qual (defScope st) s.heap.objs.size f cdv)) →
      Takes (cxOf (L2.CX P w) P w K mg base N qual (defScope st) f cdv A outer s H E) (fun c d _ H => E c d H) →
      PSs (cxOf (L2.CX P w) P w K mg base N qual (defScope st) f cdv A outer s H E) (defBody st) (initD K xc (fun c d _ H => E c d H) Ca fs r)) :
    FnOk P w K mg base (L2.CX P w) (k + 1) f fd (self :: ps) (spI K xc Ca fs ps.length (runInit (N.length - (ps.length + 1)) r)) := by
  refine F.okX S (fun vs H Q E ⟨_, _, _, _, _, vs', h, _, _, hl, _⟩ => by rw [h]; simp [hl]) fun cdv A outer s H vs Q E hr ⟨ι, as, C, x, dx, vs', h, c, ra, hl, h1, h2, p⟩ => ?_
  refine ⟨_, hbody cdv A outer s H E hr (takes_of rfl rfl rfl rfl), ?_⟩
  have hal : as.length = ps.length := ra.length.trans hl
  refine ⟨ι, none :: as.map some ++ List.replicate (N.length - (ps.length + 1)) none, C, x, dx, c, ?_, ?_, h1, h2, ?_⟩
  · have := RS.start (N := N) (Rps.cons (Rp.opq (V.ref x)) ra)
    subst h
    refine ⟨?_, fun i a e => ?_⟩
    · have t := this.1
      simp only [List.map_cons, List.cons_append, List.length_cons, List.length_append, List.length_map, List.length_replicate, hl] at t ⊢
      exact t
    · cases i with
      | zero => simp at e
      | succ i =>
        refine this.2 (i + 1) a ?_
        simp only [List.map_cons, List.cons_append, List.getElem?_cons_succ, List.length_cons, hl] at e ⊢
        exact e
  · subst h
    simp [L2.start]
  · unfold runInit at p
    generalize r (none :: List.map some as ++ List.replicate (N.length - (ps.length + 1)) none) C = rr at p ⊢
    cases rr with
    | ok vals C1 => exact p
    | ex cc pp C1 => exact p
    | bad => exact p
end
section
variable {X : Cx} {xc : XC} {W : WX} {pos : Pos} {ad : Nat → Addr}
/-- C(e, ..) -/
theorem r_make {k : Nat} {f : Addr} {fd : FuncData} {self : Str} {ps : List Str} {np c : Nat} {fs : List Str} {mi : List A → Cs → R (List A)} {x : Str} {p : Pos} {e : Expr} {es : List Expr} {gs : En → Cs → R (List A)} (hfa : ∀ T fa kp pv, xc.G T fa kp pv → fa = ad) (M : L2.Mk X.K (ad c) f)
    (F : FnOk X.prog X.w X.K X.mg X.base (L2.CX X.prog X.w) k f fd (self :: ps) (spI X.K xc (ad c) fs np mi)) (hr : Room (k + 1) X.A) (tk : Takes X W) (hg : Gl X x) (hm : X.mg x = some (.ref (ad c))) (hb : Binds X.K fd (self :: ps) []) (ha : PA X (e :: es) (aD X.K xc W gs)) (hl : es.length + 1 = np)
    (hdb : (x == ("__debug__" : Str)) = false := by decide) (he : starEach (e :: es) X.env = (false, eval e X.env) :: starEach es X.env := by rfl) (hpl : (backTo pos (starEach es X.env)).any (·.1) = false := by rfl) (hal : ∀ s C vs C', gs s C = .ok vs C' → vs.length = np) :
    PE X (.Call (.Name x p) (e :: es) [] pos) (xD X.K xc W (xAp (mkO c fs mi) gs)) := by
  have h : PE X (.Call (.Name x p) (e :: es) [] pos) (fun σ H Q => aD X.K xc W gs σ H fun vs H1 => ∀ y dx, H1 y = none → H1 dx = none → dx ≠ y → spI X.K xc (ad c) fs np mi (.ref y :: vs) (upd (upd H1 dx (.own y)) y (.ins (ad c) dx [])) (fun v H2 => v = .non ∧ Q (.ref y) H2) (WE W σ)) := by
    refine ⟨fun pins s σ H Q I h => ?_⟩
    refine wpAny_Call_Name_kw (ld_glob I hg hm ?_ hdb)
    refine PySem.W.callWith_K (h₀ := X.base) I.ok.mod.kin M.kp (thn (ha.run pos pins s σ H _ I h) fun us s1 ⟨vs, H1, I1, r, q⟩ => ⟨I1.kIn, ?_⟩) he hpl
    have hq := q (s1.heap.objs.size + 1) s1.heap.objs.size (I1.hok.fresh (Nat.le_succ _)) (I1.hok.fresh (Nat.le_refl _)) (Nat.ne_of_lt (Nat.lt_succ_self _))
    have I2 := Inv.made (C := ad c) I1
    have r2 : Vals (V.ref (s1.heap.objs.size + 1) :: vs) (Value.ref (s1.heap.objs.size + 1) :: us) := .cons rfl r
    have hl : (Value.ref (s1.heap.objs.size + 1) :: us).length = (self :: ps).length := by
      have e := r2.length
      rw [F.len _ _ _ _ hq] at e
      exact e.symm
    refine wpAny_call (make_map (f := f) I1.kIn M.makes M.init (beq_iff_eq.mp M.fn) (codeAny_mono (F.run _ X.stack _ _ ⟨Value.ref (s1.heap.objs.size + 1) :: us, []⟩ (Value.ref (s1.heap.objs.size + 1) :: us) _ _ (WE W σ) (hr.make (ad c) us [])
      (I2.env0.make (ad c) us []) (by have := hb _ (Value.ref (s1.heap.objs.size + 1) :: us) I2.kIn (by simpa using hl); simpa using this) r2 hq) fun r s' hq' => ?_))
    cases r with
    | error e => exact passAt tk σ pins _ _ e s' I2 hq'
    | ok fl =>
      cases fl with
      | ret u =>
        obtain ⟨v, H', I3, rv, ev, q3⟩ := I2.after hq'
        subst ev
        exact ⟨rv, ⟨V.ref (s1.heap.objs.size + 1), H', I3, rfl, q3⟩⟩
      | next => exact False.elim hq'
      | brk => exact False.elim hq'
      | cont => exact False.elim hq'
  refine PE.imp h fun σ H Q ⟨ι, s, C, c0, r, p⟩ => ?_
  unfold xAp at p
  refine ⟨ι, s, C, c0, r, ?_⟩
  cases eg : gs s C with
  | ok vs C1 =>
    rw [eg] at p
    simp only [R.bind_ok] at p
    intro ι1 H1 xs e1 c1 r1 y dx ny nd ne
    have p' := Post.later (r := mkO c fs mi vs C1) p e1
    have nd2 : upd H1 dx (.own y) y = none := by rw [upd_ne (Ne.symm ne)]; exact ny
    have ca := c1.new nd (.own y)
    have ea : Ext ι1 H1 ι1 (upd H1 dx (.own y)) := ext_new c1 nd (.own y)
    obtain ⟨d0, k0⟩ := ExtD.newO ca nd2 (HidO.ins (ad c) dx [])
    refine ⟨_, vs, C1, y, dx, xs, rfl, k0, (r1.ext ea).mv (d0.mv nd2), by rw [← r1.length]; exact hal s C vs C1 eg, upd_same, List.mem_cons_self, ?_⟩
    unfold mkO at p'
    cases em : mi vs C1 with
    | ok vals C2 =>
      rw [em] at p'
      simp only at p' ⊢
      split at p'
      · rename_i hlen
        refine ⟨hlen, fun ι2 H2 ws e3 c3 r3 => ⟨trivial, ?_⟩⟩
        have d2 := d0.more e3
        have hy : H2 y = some (.ins (ad c) dx []) := (e3.keep y _ upd_same ins_nt (k0.side.hid y List.mem_cons_self).1).1
        have d3 := d2.write nd2 (.ins (ad c) dx (fs.zip ws))
        have c4 := c3.asideI (gs := fs.zip ws) d2.mem hy
        obtain ⟨m2, e4, k2⟩ := d3.out c4
        have hfa' := hfa _ _ _ _ c1.g
        refine p' ⟨ι2.cs, ι1.fx⟩ _ _ (ea.trans e4) k2 (.ob (dx := dx) (vs := ws) ?_ ⟨(c3.side.hid y d2.mem).1, (ca.ne_none nd2).2⟩ hlen ((r3.mv (mv_aside d2.mem _)).mv m2))
        show upd H2 y _ y = some (.ins (ι1.fx.fa c) dx _)
        rw [hfa']
        exact upd_same
      · exact p'.elim
    | ex cc pp C2 =>
      rw [em] at p'
      intro ι2 H2 d e3 c3 rx
      obtain ⟨m2, e4, k2⟩ := (d0.more e3).out c3
      refine p' ⟨ι2.cs, ι1.fx⟩ H2 d (ea.trans e4) k2 ?_
      cases pp with
      | none => exact rx
      | some a =>
        obtain ⟨dx', v, q1, q2, q3⟩ := rx
        exact ⟨dx', v, q1, q2, q3.mv m2⟩
    | bad => rw [em] at p'; exact p'.elim
  | ex cc pp C1 => rw [eg] at p; exact p
  | bad => rw [eg] at p; exact p
end
end FM

namespace FM
open PySem PySem.Spec PyProof.Rows L2 RZ
/-! ### isinstance with classes of the program -/
def btTs : List String := ["NoneType", "bool", "int", "str", "tuple", "list", "dict"]
structure ClsF (K : PySem.W.Frag) (ad : Nat → Addr) (cs : List Nat) : Prop where
  ty : ∀ c ∈ cs, L2.Cls K (ad c) ∧ PySem.W.findIn K (.ref (ad c)) "__class__" = some (some (.builtin "object.__class__")) ∧ PySem.W.specialIn K (.builtin "object.__class__") "__get__" = some (some (.builtin "getset_descriptor.__get__")) ∧ PySem.W.takesIn K (.builtin "object.__class__") = some true ∧ PySem.W.mroIn K (ad c) (.type "object") = some true
  one : ∀ c ∈ cs, ∀ d ∈ cs, c ≠ d → PySem.W.kitOne K (.ref (ad c)) (.ref (ad d)) = some false
  bt : ∀ c ∈ cs, ∀ t ∈ btTs, PySem.W.kitOne K (.type t) (.ref (ad c)) = some false
  ob : ∀ c ∈ cs, ∀ t ∈ btTs, PySem.W.kitOne K (.ref (ad c)) (.type t) = some false
def kIsiO (cs : List Nat) : List A → Cs → R A := fun vs C => match vs with
  | [.ob c _ _, .fn d] => if (cs.contains c && cs.contains d) = true then .ok (.bl (c == d)) C else .bad
  | [.ob c _ _, .opq (.ty T)] => if (cs.contains c && btTs.contains T) = true then .ok (.bl false) C else .bad
  | [v, .fn d] => if cs.contains d = true then (match tyA v with
    | some t => if btTs.contains t = true then .ok (.bl false) C else .bad
    | none => .bad) else .bad
  | vs => kIsi vs C
section
variable {X : Cx} {K : PySem.W.Frag} {xc : XC} {ι : Lay} {H : Hp} {C : Cs} {ad : Nat → Addr} {cs : List Nat}
theorem ob_ty (F : ClsF K ad cs) {c : Nat} {ns : List Str} {xs : List A} {x : V} (hfa : ι.fx.fa = ad) (h : c ∈ cs) (r : Rp K ι H (.ob c ns xs) x) : TyX K H x (.ref (ad c)) := by
  obtain ⟨h1, h2, h3, h4, h5⟩ := F.ty c h
  cases r with
  | ob q1 q2 q3 q4 => exact .base (.ins (by rw [← hfa]; exact q1) h1 h2 h3 h4 h5)
theorem ad_isiO (F : ClsF K ad cs) (hfa : ∀ T fa kp pv, xc.G T fa kp pv → fa = ad) : AdqN K xc (kIsiO cs) (rIsi K) := by
  intro W ι H σ C vs xs Q c r p
  have hf : ι.fx.fa = ad := hfa _ _ _ _ c.g
  unfold kIsiO at p
  split at p
  · rename_i cn ns ys d
    obtain ⟨u, w, rfl, r1, r2⟩ := r.two
    split at p
    · rename_i hc
      simp only [Bool.and_eq_true, List.contains_iff_mem] at hc
      have e : w = .ref (ad d) := by cases r2; rw [hf]
      subst e
      refine ⟨u, _, .ref (ad cn), .ref (ad d), cn == d, rfl, .own _, ob_ty F hf hc.1 r1, ?_, p.fin c (.bl _)⟩
      by_cases h : cn = d
      · subst h
        simp [PySem.W.kitOne]
      · rw [F.one cn hc.1 d hc.2 h, beq_false_of_ne h]
    · exact p.elim
  · rename_i cn ns ys T
    obtain ⟨u, w, rfl, r1, r2⟩ := r.two
    split at p
    · rename_i hc
      simp only [Bool.and_eq_true, List.contains_iff_mem] at hc
      have e : w = .ty T := by cases r2; rfl
      subst e
      exact ⟨u, _, .ref (ad cn), .type T, false, rfl, .ty _, ob_ty F hf hc.1 r1, F.ob cn hc.1 T hc.2, p.fin c (.bl _)⟩
    · exact p.elim
  · rename_i v d _
    obtain ⟨u, w, rfl, r1, r2⟩ := r.two
    split at p
    · rename_i hd
      rw [List.contains_iff_mem] at hd
      split at p
      · rename_i t ht
        split at p
        · rename_i hb
          rw [List.contains_iff_mem] at hb
          have e : w = .ref (ad d) := by cases r2; rw [hf]
          subst e
          refine ⟨u, _, .type t, .ref (ad d), false, rfl, .own _, ty_of c (fun n e => ?_) r1 ht, F.bt d hd t hb, p.fin c (.bl _)⟩
          subst e
          cases r1 with
          | loc h3 =>
            have hn : n < C.length := by rw [← c.len]; exact (List.getElem?_eq_some_iff.mp h3).1
            simp [hn]
        · exact p.elim
      · exact p.elim
    · exact p.elim
  · exact ad_isi W ι H σ C vs xs Q c r p
end
end FM

namespace FM
open PySem PySem.Spec PyProof.Rows L2 RZ
/-! ### a def by itself, but for one cell that it is handed first -/
def Lay.hide1 (ι : Lay) (j : Nat) (a : Addr) : Lay := ⟨[a], { ι.fx with hd := ι.cs.eraseIdx j ++ ι.fx.hd }⟩
def backD (C : Cs) (j : Nat) : R A → R A
  | .ok v [d] => if (noLoc v && noLocs d) = true then .ok v (C.set j d) else .bad
  | .ex c none [d] => if noLocs d = true then .ex c none (C.set j d) else .bad
  | .ex c (some a) [d] => if (noLoc a && noLocs d) = true then .ex c (some a) (C.set j d) else .bad
  | _ => .bad
def runD (n : Nat) (b : En → Cs → SR) (as : List A) (C : Cs) : R A := match as with
  | .loc j :: r => match C[j]? with
    | some d => if (noLocs r && noLocs d) = true then backD C j (letGo 1 (runF n b (.loc 0 :: r) [d])) else .bad
    | none => .bad
  | _ => .bad
section
variable {K : PySem.W.Frag} {xc : XC} {ι ι1 : Lay} {H H1 : Hp} {C D : Cs} {j : Nat} {a : Addr}
theorem h1_out (ha : ι.cs[j]? = some a) : ∀ b, ι.Out b → (ι.hide1 j a).Out b := fun b h => ⟨fun m => h.1 (by
  have m : b ∈ [a] := m
  rw [List.mem_singleton] at m
  rw [m]; exact List.mem_of_getElem? ha), fun m => by
  have m : b ∈ ι.cs.eraseIdx j ++ ι.fx.hd := m
  rcases List.mem_append.mp m with m | m
  · exact h.1 (List.mem_of_mem_eraseIdx m)
  · exact h.2 m⟩
theorem mem_erase {l : List Addr} (hn : l.Nodup) (ha : l[j]? = some a) {b : Addr} (hb : b ∈ l) : b = a ∨ b ∈ l.eraseIdx j := by
  obtain ⟨i, hi, e⟩ := List.mem_iff_getElem.mp hb
  by_cases h : i = j
  · subst h
    rw [List.getElem?_eq_getElem hi] at ha
    exact .inl (e.symm.trans (Option.some.inj ha))
  · refine .inr (List.mem_iff_getElem?.mpr ?_)
    by_cases hl : i < j
    · exact ⟨i, by rw [List.getElem?_eraseIdx_of_lt hl, List.getElem?_eq_getElem hi, e]⟩
    · exact ⟨i - 1, by rw [List.getElem?_eraseIdx_of_ge (by omega), show i - 1 + 1 = i by omega, List.getElem?_eq_getElem hi, e]⟩
theorem h1_back_out (hn : ι.cs.Nodup) (ha : ι.cs[j]? = some a) : ∀ b, (ι.hide1 j a).Out b → ι.Out b := fun b h => ⟨fun m => by
  rcases mem_erase hn ha m with e | e
  · exact h.1 (show b ∈ [a] by rw [e]; exact List.mem_singleton.mpr rfl)
  · exact h.2 (show b ∈ ι.cs.eraseIdx j ++ ι.fx.hd from List.mem_append_left _ e), fun m => h.2 (show b ∈ ι.cs.eraseIdx j ++ ι.fx.hd from List.mem_append_right _ m)⟩
theorem not_erase {l : List Addr} (hn : l.Nodup) (ha : l[j]? = some a) : a ∉ l.eraseIdx j := fun m => by
  obtain ⟨i, e⟩ := List.mem_iff_getElem?.mp m
  obtain ⟨hj, ej⟩ := List.getElem?_eq_some_iff.mp ha
  by_cases hl : i < j
  · rw [List.getElem?_eraseIdx_of_lt hl] at e
    obtain ⟨hi, ei⟩ := List.getElem?_eq_some_iff.mp e
    have := (List.getElem_inj hn).mp (ei.trans ej.symm)
    omega
  · rw [List.getElem?_eraseIdx_of_ge (by omega)] at e
    obtain ⟨hi, ei⟩ := List.getElem?_eq_some_iff.mp e
    have := (List.getElem_inj hn).mp (ei.trans ej.symm)
    omega
theorem h1_rc (hp : xc.Plain) (c : RC K xc ι H C) (ha : ι.cs[j]? = some a) {d : List A} (hd : C[j]? = some d) (nd : noLocs d = true) : RC K xc (ι.hide1 j a) H [d] := by
  obtain ⟨k0, p0⟩ := hp _ _ _ _ c.g
  refine ⟨rfl, by show [a].Nodup; simp, fun n xs b h1 h2 => ?_, ⟨fun b hb => ?_, c.side.tabs, fun p hq => ?_, fun p hq => ?_⟩, c.g⟩
  · have h2 : [a][n]? = some b := h2
    cases n with
    | succ n => simp at h1
    | zero =>
      simp at h1 h2
      subst h1; subst h2
      obtain ⟨vs, q, r⟩ := c.at_ j d a hd ha
      exact ⟨vs, q, r.move (h1_out ha) rfl rfl nd⟩
  · have hb : b ∈ ι.cs.eraseIdx j ++ ι.fx.hd := hb
    refine ⟨fun m => ?_, ?_⟩
    · have m : b ∈ [a] := m
      rw [List.mem_singleton] at m
      subst m
      rcases List.mem_append.mp hb with m | m
      · exact not_erase c.nd ha m
      · exact (c.side.hid b m).1 (List.mem_of_getElem? ha)
    · rcases List.mem_append.mp hb with m | m
      · obtain ⟨n, hn, e⟩ := List.mem_iff_getElem.mp (List.mem_of_mem_eraseIdx m)
        have hn' : n < C.length := by rw [← c.len]; exact hn
        obtain ⟨vs, q, _⟩ := c.at_ n C[n] b (by simp) (by rw [List.getElem?_eq_getElem hn, e])
        exact ⟨_, q, .lst _⟩
      · exact (c.side.hid b m).2
  · have hq : p ∈ ι.fx.kp := hq
    rw [k0] at hq; cases hq
  · have hq : p ∈ ι.fx.pv := hq
    rw [p0] at hq; cases hq
theorem h1_ext (c : RC K xc ι H C) (ha : ι.cs[j]? = some a) (e : Ext (ι.hide1 j a) H ι1 H1) : Ext ι H ι H1 := ⟨⟨[], by simp⟩, rfl, fun b o h t n => ⟨(e.keep b o h t fun m => n (by
  have m : b ∈ [a] := m
  rw [List.mem_singleton] at m
  rw [m]; exact List.mem_of_getElem? ha)).1, n⟩, e.tabs⟩
theorem h1_bout (hn : ι.cs.Nodup) (ha : ι.cs[j]? = some a) (e : Ext (ι.hide1 j a) H ι1 H1) : ∀ b, ι1.Out b → ι.Out b := fun b h => h1_back_out hn ha b (go_out e b h)
theorem h1_back (c : RC K xc ι H C) (ha : ι.cs[j]? = some a) {d : List A} (e : Ext (ι.hide1 j a) H ι1 H1) (c1 : RC K xc ι1 H1 [d]) (nd : noLocs d = true) : RC K xc ι H1 (C.set j d) := by
  have ex := h1_ext c ha e
  have h1 : ι1.cs[0]? = some a := by
    obtain ⟨t, et⟩ := e.pre
    rw [et]; rfl
  refine ⟨by rw [List.length_set]; exact c.len, c.nd, fun n xs b q1 q2 => ?_, c.side.ext ex, c.g⟩
  by_cases hnj : j = n
  · subst hnj
    rw [ha] at q2; cases q2
    have hl : j < C.length := by rw [← c.len]; exact (List.getElem?_eq_some_iff.mp ha).1
    rw [List.getElem?_set_self hl] at q1
    cases q1
    obtain ⟨vs, r1, r2⟩ := c1.at_ 0 d a rfl h1
    exact ⟨vs, r1, r2.move (h1_bout c.nd ha e) (by rw [e.fx]; rfl) (by rw [e.fx]; rfl) nd⟩
  · rw [List.getElem?_set_ne hnj] at q1
    obtain ⟨vs, r1, r2⟩ := c.at_ n xs b q1 q2
    have nb : b ≠ a := fun z => by
      subst z
      obtain ⟨l1, e1⟩ := List.getElem?_eq_some_iff.mp q2
      obtain ⟨l2, e2⟩ := List.getElem?_eq_some_iff.mp ha
      exact hnj ((List.getElem_inj c.nd).mp (e2.trans e1.symm))
    exact ⟨vs, (e.keep b _ r1 lst_nt fun m => nb (List.mem_singleton.mp m)).1, r2.ext ex⟩
theorem spD_one (hp : xc.Plain) {np n : Nat} {b : En → Cs → SR} : ∀ vs H Q E, spD K xc np (runD n b) vs H Q E → spD K xc np (runF n b) vs H Q E := fun vs H Q E ⟨ι, as, C, c, r, hl, p⟩ => by
  unfold runD at p
  split at p
  · rename_i j as'
    split at p
    · rename_i d hd
      split at p
      · rename_i hn
        simp only [Bool.and_eq_true] at hn
        cases r with
        | cons r0 rs =>
          cases r0 with
          | @loc _ a ha =>
            have c' := h1_rc hp c ha hd hn.2
            have r' : Rps K (ι.hide1 j a) H (.loc 0 :: as') _ := .cons (.loc (by rfl)) (rs.move (h1_out ha) rfl rfl hn.1)
            refine ⟨ι.hide1 j a, .loc 0 :: as', [d], c', r', hl, post_letGo c' ?_⟩
            show Post K xc _ (Rp K) (ι.hide1 j a) H [] (letGo 1 _) Q
            generalize letGo 1 (runF n b (.loc 0 :: as') [d]) = rr at p ⊢
            cases rr with
            | ok v D =>
              unfold backD at p
              split at p
              · rename_i v' d' heq
                cases heq
                split at p
                · rename_i hv
                  rw [Bool.and_eq_true] at hv
                  obtain ⟨hv, nd'⟩ := hv
                  intro ι1 H1 x e1 c1 r1
                  exact p ι H1 x (h1_ext c ha e1) (h1_back c ha e1 c1 nd') (r1.move (h1_bout c.nd ha e1) (by rw [e1.fx]; rfl) (by rw [e1.fx]; rfl) hv)
                · exact p.elim
              · rename_i heq; cases heq
              · rename_i heq; cases heq
              · exact p.elim
            | ex cc pp D =>
              unfold backD at p
              split at p
              · rename_i heq; cases heq
              · rename_i d' heq
                cases heq
                split at p
                · rename_i nd'
                  intro ι1 H1 x e1 c1 rx
                  exact p ι H1 x (h1_ext c ha e1) (h1_back c ha e1 c1 nd') rx
                · exact p.elim
              · rename_i av d' heq
                cases heq
                split at p
                · rename_i hv
                  rw [Bool.and_eq_true] at hv
                  obtain ⟨hv, nd'⟩ := hv
                  intro ι1 H1 x e1 c1 rx
                  obtain ⟨dx, v, q1, q2, q3⟩ := rx
                  exact p ι H1 x (h1_ext c ha e1) (h1_back c ha e1 c1 nd') ⟨dx, v, q1, q2, q3.move (h1_bout c.nd ha e1) (by rw [e1.fx]; rfl) (by rw [e1.fx]; rfl) hv⟩
                · exact p.elim
              · exact p.elim
            | bad => exact p.elim
      · exact p.elim
    · exact p.elim
  · exact p.elim
end
section
variable {P : Program} {w : World} {K : PySem.W.Frag} {mg : Str → Option Value} {base : Heap} {xc : XC}
theorem fn_d (hp : xc.Plain) {x qual : Str} {st : Stmt} {f : Addr} {fd : FuncData} {N ps : List Str} {k : Nat} {b : En → Cs → SR} (F : Fun K x qual st f fd) (S : FnScope N ps (defScope st))
    (hbody : ∀ (cdv : Value) (A : Around) (outer : List Env) (s : Shared) (H : Hp) (E : XK), Room k (A.deeper (envOfC qual (defScope st) s.heap.objs.size f cdv)) →
      Takes (cxOf (L2.CX P w) P w K mg base N qual (defScope st) f cdv A outer s H E) (fun c d _ H => E c d H) →
      PassesOwn (model P w) (A.deeper (envOfC qual (defScope st) s.heap.objs.size f cdv)) (envOfC qual (defScope st) s.heap.objs.size f cdv) (cxOf (L2.CX P w) P w K mg base N qual (defScope st) f cdv A outer s H E).xe →
      PSs (cxOf (L2.CX P w) P w K mg base N qual (defScope st) f cdv A outer s H E) (defBody st) (sD K xc (fun c d _ H => E c d H) b)) :
    FnOk P w K mg base (L2.CX P w) (k + 1) f fd ps (spD K xc ps.length (runD (N.length - ps.length) b)) := (fn_ok F S hbody).imp (spD_one hp)
theorem fn_gd (hp : xc.Plain) {x qual : Str} {st : Stmt} {f : Addr} {fd : FuncData} {N ps : List Str} {k : Nat} {b : En → Cs → SR} (F : Fun K x qual st f fd) (S : FnScope N ps (defScope st))
    (hbody : ∀ (cdv : Value) (A : Around) (outer : List Env) (s : Shared) (H : Hp) (E : XK), PySem.W.codeIn K cdv qual = true → fd.code = cdv → A.guards = some [] → Room k (A.deeper (envOfC qual (defScope st) s.heap.objs.size f cdv)) →
      Takes (cxOf (L2.CX P w) P w K mg base N qual (defScope st) f cdv A outer s H E) (fun c d _ H => E c d H) →
      PassesOwn (model P w) (A.deeper (envOfC qual (defScope st) s.heap.objs.size f cdv)) (envOfC qual (defScope st) s.heap.objs.size f cdv) (cxOf (L2.CX P w) P w K mg base N qual (defScope st) f cdv A outer s H E).xe →
      (∃ (oc : Value) (od an : Option Addr) (kV doc pm ct : Value) (osl : Array (Option Value)), K.lookup f = some ⟨oc, od, .func (PySem.W.fnOf x qual (defArgs st) (defBody st) (defScope st) .none kV doc pm an cdv ct), osl⟩) →
      PSs (cxOf (L2.CX P w) P w K mg base N qual (defScope st) f cdv A outer s H E) (defBody st) (sD K xc (fun c d _ H => E c d H) b)) :
    FnG P w K mg base (k + 1) f fd ps (spD K xc ps.length (runD (N.length - ps.length) b)) := (fn_g0 F S hbody).imp (spD_one hp)
end
end FM

namespace FM
open PySem PySem.Spec PyProof.Rows L2 RZ
/-! ### lists that are written later: list + list, list * int -/
def gCatM : A → A → Cs → R A := fun v w C => match lstOf v C, lstOf w C with
  | some xs, some ys => if xs.length + ys.length ≤ big then .ok (.loc C.length) (C ++ [xs ++ ys]) else .bad
  | _, _ => .bad
def gRepM : A → A → Cs → R A := fun v w C => match lstOf v C, w with
  | some xs, .int k => if -(2 ^ 63) ≤ k ∧ k < 2 ^ 63 ∧ xs.length * k.toNat ≤ big then .ok (.loc C.length) (C ++ [(List.replicate k.toNat xs).flatten]) else .bad
  | _, _ => .bad
section
variable {K : PySem.W.Frag} {xc : XC}
theorem ad_catM : Adq2 K xc gCatM rCat := by
  intro W ι H σ C v w x y Q c r1 r2 p
  unfold gCatM at p
  split at p
  · rename_i xs ys h1 h2
    split at p
    · rename_i h
      obtain ⟨a, us, rfl, f1, q1⟩ := lst_of c r1 h1
      obtain ⟨b, vs, rfl, f2, q2⟩ := lst_of c r2 h2
      exact ⟨a, b, us, vs, rfl, rfl, f1, f2, by rw [← q1.length, ← q2.length]; exact big_line h, mk_loc c (q1.append q2) p⟩
    · exact p.elim
  · exact p.elim
theorem ad_repM : Adq2 K xc gRepM rRep := by
  intro W ι H σ C v w x y Q c r1 r2 p
  unfold gRepM at p
  split at p
  · rename_i xs k h1
    split at p
    · rename_i h
      obtain ⟨a, us, rfl, f1, q1⟩ := lst_of c r1 h1
      exact ⟨a, k, us, rfl, r2.of_int, f1, h.1, h.2.1, by rw [← q1.length]; exact big_line h.2.2, mk_loc c (q1.rep _) p⟩
    · exact p.elim
  · exact p.elim
end
end FM

namespace FM
open PySem PySem.Spec PyProof.Rows L2 RZ
/-! ### [elt for T in it if tst for T1 in it1 if tst1] -/
def comp2F (T : Tgt) (tst : En → Cs → R Bool) (it1 : En → Cs → R Wk) (own1 : List Nat) (T1 : Tgt) (tst1 : En → Cs → R Bool) (elt : En → Cs → R A) (chk : Cs → Bool) (s : En) : List A → Cs → R (List A)
  | [], C => if chk C = true then .ok [] C else .bad
  | x :: xs, C => if chk C = true then match T.upd x with
      | none => .bad
      | some us => match tst (setAll us s) C with
        | .ok true C1 => match it1 (setAll us s) C1 with
          | .ok i C2 => match compF T1 tst1 elt i.2 (wipeE own1 (setAll us s)) i.1 C2 with
            | .ok vs C3 => match comp2F T tst it1 own1 T1 tst1 elt chk s xs C3 with
              | .ok ws C4 => .ok (vs ++ ws) C4
              | _ => .bad
            | _ => .bad
          | _ => .bad
        | .ok false C1 => comp2F T tst it1 own1 T1 tst1 elt chk s xs C1
        | _ => .bad
    else .bad
def xLc2 (own : List Nat) (T : Tgt) (it : En → Cs → R Wk) (tst : En → Cs → R Bool) (own1 : List Nat) (T1 : Tgt) (it1 : En → Cs → R Wk) (tst1 : En → Cs → R Bool) (elt : En → Cs → R A) : En → Cs → R A := fun s C => (it s C).bind fun i C1 => match comp2F T tst it1 own1 T1 tst1 elt i.2 (wipeE own s) i.1 C1 with
  | .ok vs C2 => if vs.length ≤ 100000 then .ok (.lst vs) C2 else .bad
  | _ => .bad
theorem comp2F_chk {T T1 : Tgt} {tst tst1 : En → Cs → R Bool} {it1 : En → Cs → R Wk} {own1 : List Nat} {elt : En → Cs → R A} {chk : Cs → Bool} {s : En} {l : List A} {C : Cs} {vs : List A} {C' : Cs} (h : comp2F T tst it1 own1 T1 tst1 elt chk s l C = .ok vs C') : chk C = true := by
  cases l with
  | nil => unfold comp2F at h; split at h; assumption; cases h
  | cons x xs => unfold comp2F at h; split at h; assumption; cases h
theorem Mv.refl (ι : Lay) (H : Hp) : Mv ι H ι H := ⟨⟨[], by simp⟩, fun _ _ h => h, rfl, fun b o h _ n => ⟨h, n⟩⟩
theorem Mv.trans {ι ι1 ι2 : Lay} {H H1 H2 : Hp} (a : Mv ι H ι1 H1) (b : Mv ι1 H1 ι2 H2) : Mv ι H ι2 H2 := by
  obtain ⟨t, e1⟩ := a.pre
  obtain ⟨u, e2⟩ := b.pre
  exact ⟨⟨t ++ u, by rw [e2, e1]; simp⟩, fun n q h => b.pv n q (a.pv n q h), b.fa.trans a.fa, fun x o h t n => let ⟨h1, n1⟩ := a.keep x o h t n; b.keep x o h1 t n1⟩
theorem lc_at {J : It} {n : Nat} {G : Hp → Prop} {Y : Nat → Hp → V → Hp → Prop} (w : Walk J n G Y) {g : TG} {tt : TT} {te : TE} {vs : List Nat} {σ : L2.St} {H0 : Hp} {D : Addr} {Qd : Hp → Prop} (Pv : Nat → Hp → Prop) (h0 : Pv 0 H0) (hG : ∀ i H, i ≤ n → Pv i H → G H)
    (hs : ∀ i x H H', i < n → Pv i H → Y i H x H' → g x (wipe σ vs) H' fun σ2 H2 => wipe σ2 vs = wipe σ vs ∧ tt σ2 H2 fun b H3 =>
      if b = true then te σ2 H3 fun y H4 => ∃ acc, H4 D = some (.lst acc) ∧ acc.length < sizeLine ∧ Pv (i + 1) (upd H4 D (.lst (acc ++ [y]))) else Pv (i + 1) H3) (hd : ∀ H, Pv n H → Qd H) :
    ∃ W : Nat → Nat → Hp → Prop, (∃ m, W 0 m H0) ∧ ∀ i m H, W i m H →
      (J.stop i H ∧ Qd H) ∨ (J.go i H ∧ ∃ Nx : Hp → Prop, (∀ H', Nx H' → ∃ m', m' < m ∧ W (i + 1) m' H') ∧ ∀ x H', J.yld i H x H' → g x (wipe σ vs) H' fun σ2 H2 => wipe σ2 vs = wipe σ vs ∧ tt σ2 H2 fun b H3 =>
        if b = true then te σ2 H3 fun y H4 => ∃ acc, H4 D = some (.lst acc) ∧ acc.length < sizeLine ∧ Nx (upd H4 D (.lst (acc ++ [y]))) else Nx H3) := by
  refine ⟨fun i m H => m = n - i ∧ i ≤ n ∧ Pv i H, ⟨n, by simp, Nat.zero_le _, h0⟩, ?_⟩
  rintro i m H ⟨rfl, hi, p⟩
  have q := hG i H hi p
  by_cases hlt : i < n
  · refine .inr ⟨w.goes i H hlt q, Pv (i + 1), fun H' p' => ⟨n - (i + 1), by omega, rfl, hlt, p'⟩, fun x H' y => hs i x H H' hlt p (w.yields i H x H' hlt q y)⟩
  · have e : i = n := by omega
    subst e
    exact .inl ⟨w.stops H q, hd H p⟩
section
variable {X : Cx} {xc : XC} {W : WX} {pos : Pos}
theorem useLc2 {own : List (Str × Nat)} {vs1 : List Nat} {T T1 : Tgt} {it it1 : En → Cs → R Wk} {ft ft1 : En → Cs → R Bool} {fe : En → Cs → R A} (hT : ∀ i ∈ T.slots, i ∈ own.map (·.2)) (hT1 : ∀ i ∈ T1.slots, i ∈ vs1) {σ : L2.St} {H : Hp} {Q : VK} (h : xD X.K xc W (xLc2 (own.map (·.2)) T it ft vs1 T1 it1 ft1 fe) σ H Q) :
    tLc2 (iD X.K xc W it) (gD X.K xc T) (tD X.K xc (fun _ _ _ _ => False) ft) (iD X.K xc (fun _ _ _ _ => False) it1) (gD X.K xc T1) (tD X.K xc (fun _ _ _ _ => False) ft1) (xD X.K xc (fun _ _ _ _ => False) fe) (own.map (·.2)) vs1 σ H Q := by
  obtain ⟨ι, s, C, c, r, p⟩ := h
  refine Dn.step c r p fun ι1 H1 C1 its J e1 c1 r1 q1 p1 => ?_
  intro D hD
  obtain ⟨items, chk⟩ := its
  obtain ⟨G, Y, w, hG, hY⟩ := q1
  simp only at w hG hY p1
  cases ec : comp2F T ft it1 vs1 T1 ft1 fe chk (wipeE (own.map (·.2)) s) items C1 with
  | ex cc pp C2 => rw [ec] at p1; exact (show False from p1).elim
  | bad => rw [ec] at p1; exact (show False from p1).elim
  | ok total Ce =>
    rw [ec] at p1
    simp only at p1
    by_cases hlen : total.length ≤ 100000
    · rw [if_pos hlen] at p1
      have r1w := r1.wipe (own.map (·.2))
      let Po : Nat → Hp → Prop := fun i H2 => ∃ ι2 C2 acc accA vs, ExtD D ι1 H1 ι2 H2 ∧ RC X.K xc ι2 H2 C2 ∧ H2 D = some (.lst acc) ∧
          Rps X.K ι2 H2 accA acc ∧ comp2F T ft it1 vs1 T1 ft1 fe chk (wipeE (own.map (·.2)) s) (items.drop i) C2 = .ok vs Ce ∧ accA ++ vs = total
      have h0 : Po 0 (upd H1 D (.lst [])) := by
        obtain ⟨d0, k0⟩ := ExtD.new c1 hD
        exact ⟨_, C1, [], [], total, d0, k0, upd_same, .nil, by simpa using ec, by simp⟩
      refine ⟨fun i m H => m = items.length - i ∧ i ≤ items.length ∧ Po i H, ⟨items.length, by simp, Nat.zero_le _, h0⟩, ?_⟩
      rintro i m H2 ⟨rfl, hi, po⟩
      have q : G H2 := by
        obtain ⟨ι2, C2, acc, accA, vs, d2, c2, hDa, ra, ecf, etot⟩ := po
        exact hG ι2 H2 C2 (d2.mv hD) c2 (comp2F_chk ecf)
      by_cases hlt : i < items.length
      · refine .inr ⟨w.goes i H2 hlt q, Po (i + 1), fun H' p' => ⟨items.length - (i + 1), by omega, rfl, hlt, p'⟩, fun x H3 yy => ?_⟩
        have y := w.yields i H2 x H3 hlt q yy
        obtain ⟨ι2, C2, acc, accA, vs, d2, c2, hDa, ra, ecf, etot⟩ := po
        have hck := comp2F_chk ecf
        obtain ⟨a, ea, e3, c3, rx⟩ := hY ι2 H2 C2 i x H3 (d2.mv hD) c2 hck hlt y
        have ed : items.drop i = a :: items.drop (i + 1) := by
          obtain ⟨hlt, e⟩ := List.getElem?_eq_some_iff.mp ea
          rw [List.drop_eq_getElem_cons hlt, e]
        rw [ed] at ecf
        unfold comp2F at ecf
        rw [if_pos hck] at ecf
        have r2 : RS X.K ι2 H3 (wipeE (own.map (·.2)) s) (wipe σ (own.map (·.2))) := (r1w.mv (d2.mv hD)).ext e3
        have nD := (c2.side.hid D d2.mem).1
        cases eu : T.upd a with
        | none => rw [eu] at ecf; cases ecf
        | some us =>
          rw [eu] at ecf
          simp only at ecf
          refine ⟨ι2, C2, a, us, c3, rx, eu, fun ws W1 S1 => ⟨?_, ι2, setAll us (wipeE (own.map (·.2)) s), C2, c3, RS.upds W1 r2, ?_⟩⟩
          · rw [wipe_all fun p hp => hT _ (S1 p hp), wipe_wipe]
          · cases et : ft (setAll us (wipeE (own.map (·.2)) s)) C2 with
            | ex cc pp C4 => rw [et] at ecf; cases ecf
            | bad => rw [et] at ecf; cases ecf
            | ok bb C4 =>
              rw [et] at ecf
              intro ι4 H4 b e4 c4 eb
              subst eb
              cases bb with
              | false =>
                simp only [Bool.false_eq_true, if_false] at ecf ⊢
                have e24 := e3.trans e4
                exact ⟨ι4, C4, acc, accA, vs, d2.more e24, c4, (e24.keep D _ hDa lst_nt nD).1, ra.ext e24, ecf, etot⟩
              | true =>
                simp only [if_true] at ecf ⊢
                cases ei : it1 (setAll us (wipeE (own.map (·.2)) s)) C4 with
                | ex cc pp C5 => rw [ei] at ecf; cases ecf
                | bad => rw [ei] at ecf; cases ecf
                | ok ii C5 =>
                  rw [ei] at ecf
                  simp only at ecf
                  obtain ⟨ys, ck1⟩ := ii
                  simp only at ecf
                  refine ⟨ι4, setAll us (wipeE (own.map (·.2)) s), C4, c4, (RS.upds W1 r2).ext e4, ?_⟩
                  rw [ei]
                  intro ι5 H5 J1 e5 c5 q5
                  obtain ⟨G1, Y1, w1, hG1, hY1⟩ := q5
                  simp only at w1 hG1 hY1
                  have e25 := (e3.trans e4).trans e5
                  have d5 := d2.more e25
                  have hD5 := (e25.keep D _ hDa lst_nt nD).1
                  have r5 : RS X.K ι5 H5 (setAll us (wipeE (own.map (·.2)) s)) (FM.setAll ws (wipe σ (own.map (·.2)))) := ((RS.upds W1 r2).ext e4).ext e5
                  have r5w := r5.wipe vs1
                  cases ecc : compF T1 ft1 fe ck1 (wipeE vs1 (setAll us (wipeE (own.map (·.2)) s))) ys C5 with
                  | ex cc pp C6 => rw [ecc] at ecf; cases ecf
                  | bad => rw [ecc] at ecf; cases ecf
                  | ok vin C7 =>
                    rw [ecc] at ecf
                    simp only at ecf
                    cases er : comp2F T ft it1 vs1 T1 ft1 fe chk (wipeE (own.map (·.2)) s) (List.drop (i + 1) items) C7 with
                    | ex cc pp C6 => rw [er] at ecf; cases ecf
                    | bad => rw [er] at ecf; cases ecf
                    | ok wsr Cf =>
                      rw [er] at ecf
                      simp only at ecf
                      cases ecf
                      refine lc_at (D := D) (g := gD X.K xc T1) (tt := tD X.K xc (fun _ _ _ _ => False) ft1) (te := xD X.K xc (fun _ _ _ _ => False) fe) w1
                        (fun j H6 => ∃ ι6 C6 acc accA vr, ExtD D ι1 H1 ι6 H6 ∧ Mv ι5 H5 ι6 H6 ∧ RC X.K xc ι6 H6 C6 ∧ H6 D = some (.lst acc) ∧ Rps X.K ι6 H6 accA acc ∧
                          compF T1 ft1 fe ck1 (wipeE vs1 (setAll us (wipeE (own.map (·.2)) s))) (ys.drop j) C6 = .ok vr C7 ∧ accA ++ (vr ++ wsr) = total) ?_ ?_ ?_ ?_
                      · exact ⟨ι5, C5, acc, accA, vin, d5, Mv.refl _ _, c5, hD5, ra.ext e25, by simpa using ecc, etot⟩
                      · rintro j H6 hj ⟨ι6, C6, acc, accA, vr, d6, m6, c6, hDa, ra, ecf, etot⟩
                        exact hG1 ι6 H6 C6 m6 c6 (compF_chk ecf)
                      · rintro j x1 H6 H7 hj ⟨ι6, C6, acc, accA, vr, d6, m6, c6, hDa, ra, ecf, etot⟩ y1
                        have hck1 := compF_chk ecf
                        obtain ⟨a1, ea1, e7, c7, rx1⟩ := hY1 ι6 H6 C6 j x1 H7 m6 c6 hck1 hj y1
                        have ed1 : ys.drop j = a1 :: ys.drop (j + 1) := by
                          obtain ⟨hlt, e⟩ := List.getElem?_eq_some_iff.mp ea1
                          rw [List.drop_eq_getElem_cons hlt, e]
                        rw [ed1] at ecf
                        unfold compF at ecf
                        rw [if_pos hck1] at ecf
                        have r6 : RS X.K ι6 H7 (wipeE vs1 (setAll us (wipeE (own.map (·.2)) s))) (wipe (FM.setAll ws (wipe σ (own.map (·.2)))) vs1) := (r5w.mv m6).ext e7
                        have nD6 := (c6.side.hid D d6.mem).1
                        cases eu1 : T1.upd a1 with
                        | none => rw [eu1] at ecf; cases ecf
                        | some us1 =>
                          rw [eu1] at ecf
                          simp only at ecf
                          refine ⟨ι6, C6, a1, us1, c7, rx1, eu1, fun ws1 W2 S2 => ⟨?_, ι6, setAll us1 (wipeE vs1 (setAll us (wipeE (own.map (·.2)) s))), C6, c7, RS.upds W2 r6, ?_⟩⟩
                          · rw [wipe_all fun p hp => hT1 _ (S2 p hp), wipe_wipe]
                          · cases et1 : ft1 (setAll us1 (wipeE vs1 (setAll us (wipeE (own.map (·.2)) s)))) C6 with
                            | ex cc pp C8 => rw [et1] at ecf; cases ecf
                            | bad => rw [et1] at ecf; cases ecf
                            | ok bb C8 =>
                              rw [et1] at ecf
                              intro ι8 H8 b e8 c8 eb
                              subst eb
                              cases bb with
                              | false =>
                                simp only [Bool.false_eq_true, if_false] at ecf ⊢
                                have e68 := e7.trans e8
                                exact ⟨ι8, C8, acc, accA, vr, d6.more e68, m6.trans e68.mv, c8, (e68.keep D _ hDa lst_nt nD6).1, ra.ext e68, ecf, etot⟩
                              | true =>
                                simp only [if_true] at ecf ⊢
                                refine ⟨ι8, setAll us1 (wipeE vs1 (setAll us (wipeE (own.map (·.2)) s))), C8, c8, (RS.upds W2 r6).ext e8, ?_⟩
                                cases ee : fe (setAll us1 (wipeE vs1 (setAll us (wipeE (own.map (·.2)) s)))) C8 with
                                | ex cc pp C9 => rw [ee] at ecf; cases ecf
                                | bad => rw [ee] at ecf; cases ecf
                                | ok v C9 =>
                                  rw [ee] at ecf
                                  simp only at ecf
                                  intro ι9 H9 y9 e9 c9 r9
                                  have e69 := (e7.trans e8).trans e9
                                  have k9 := (e69.keep D _ hDa lst_nt nD6).1
                                  have k7 := ra.ext e69
                                  have d9 := d6.more e69
                                  cases er2 : compF T1 ft1 fe ck1 (wipeE vs1 (setAll us (wipeE (own.map (·.2)) s))) (List.drop (j + 1) ys) C9 with
                                  | ex cc pp C6 => rw [er2] at ecf; cases ecf
                                  | bad => rw [er2] at ecf; cases ecf
                                  | ok vs2 C10 =>
                                    rw [er2] at ecf
                                    simp only at ecf
                                    cases ecf
                                    refine ⟨acc, k9, ?_, ι9, C9, acc ++ [y9], accA ++ [v], vs2, d9.write hD _, (m6.trans e69.mv).trans (mv_aside d9.mem _), c9.aside d9.mem k9, upd_same, ?_, er2, ?_⟩
                                    · have h1 := k7.length
                                      have h2 : accA.length ≤ total.length := by rw [← etot]; simp
                                      exact Nat.lt_of_le_of_lt (by omega : acc.length ≤ 100000) (by decide)
                                    · exact (k7.append (.cons r9 .nil)).mv (mv_aside d9.mem _)
                                    · rw [← etot]; simp
                      · rintro H6 ⟨ι6, C6, acc, accA, vr, d6, m6, c6, hDa, ra, ecf, etot⟩
                        rw [List.drop_length] at ecf
                        unfold compF at ecf
                        rw [if_pos (by split at ecf; assumption; cases ecf)] at ecf
                        cases ecf
                        exact ⟨ι6, C7, acc, accA, wsr, d6, c6, hDa, ra, er, by simpa using etot⟩
      · have e : i = items.length := by omega
        subst e
        refine .inl ⟨w.stops H2 q, ?_⟩
        obtain ⟨ι2, C2, acc, accA, vs, d2, c2, hDa, ra, ecf, etot⟩ := po
        rw [List.drop_length] at ecf
        unfold comp2F at ecf
        rw [if_pos (by split at ecf; assumption; cases ecf)] at ecf
        cases ecf
        obtain ⟨m2, e2, k2⟩ := d2.out c2
        rw [List.append_nil] at etot
        subst etot
        exact p1 ⟨ι2.cs, ι1.fx⟩ H2 _ e2 k2 (.lst hDa ⟨(c2.side.hid D d2.mem).1, (c1.ne_none hD).2⟩ (ra.mv m2))
    · rw [if_neg hlen] at p1
      exact (show False from p1).elim
/-- [elt for T in it if tst for T1 in it1 if tst1]: a list that nobody writes -/
theorem r_lc2 {elt tg iter tg1 iter1 : Expr} {ifs ifs1 : List Expr} {scope : Scope} {own : List (Str × Nat)} {vs1 : List Nat} {T T1 : Tgt} {it it1 : En → Cs → R Wk} {ft ft1 : En → Cs → R Bool} {fe : En → Cs → R A} (hc : X.calm = true) (hN : X.N.Nodup) (hi : PI X tg iter (iD X.K xc W it)) (ok : BlkOk X.N X.env.scope scope own)
    (hT : ∀ i ∈ T.slots, i ∈ own.map (·.2)) (hT1 : ∀ i ∈ T1.slots, i ∈ vs1) (hv : ∀ i ∈ vs1, i ∈ own.map (·.2))
    (hg : ∀ (s : Shared) (H : Hp) (C : Addr) (cl : List (Str × Addr)) (fp : List Addr), PT1 (X.blk s H scope (compEnvC scope cl C X.env) fp) xc tg T)
    (ht : ∀ (s : Shared) (H : Hp) (C : Addr) (cl : List (Str × Addr)) (fp : List Addr), PTs (X.blk s H scope (compEnvC scope cl C X.env) fp) ifs (tD X.K xc (fun _ _ _ _ => False) ft))
    (hi1 : ∀ (s : Shared) (H : Hp) (C : Addr) (cl : List (Str × Addr)) (fp : List Addr), PI (X.blk s H scope (compEnvC scope cl C X.env) fp) tg1 iter1 (iD X.K xc (fun _ _ _ _ => False) it1))
    (hg1 : ∀ (s : Shared) (H : Hp) (C : Addr) (cl : List (Str × Addr)) (fp : List Addr), PT1 (X.blk s H scope (compEnvC scope cl C X.env) fp) xc tg1 T1)
    (ht1 : ∀ (s : Shared) (H : Hp) (C : Addr) (cl : List (Str × Addr)) (fp : List Addr), PTs (X.blk s H scope (compEnvC scope cl C X.env) fp) ifs1 (tD X.K xc (fun _ _ _ _ => False) ft1))
    (he : ∀ (s : Shared) (H : Hp) (C : Addr) (cl : List (Str × Addr)) (fp : List Addr), PE (X.blk s H scope (compEnvC scope cl C X.env) fp) elt (xD X.K xc (fun _ _ _ _ => False) fe))
    (hs : ∀ x, foldedSetIterable iter X.env x = pure x := by intro _; rfl) (hs1 : ∀ env x, foldedSetIterable iter1 env x = pure x := by intro _ _; rfl) : PE X (.ListComp elt [⟨tg, iter, ifs, 0⟩, ⟨tg1, iter1, ifs1, 0⟩] scope pos) (xD X.K xc W (xLc2 (own.map (·.2)) T it ft vs1 T1 it1 ft1 fe)) :=
  PE.imp (pe_lc2 (g := gD X.K xc T) (g1 := gD X.K xc T1) hc hN hi ok hv (fun s H C cl fp => (hg s H C cl fp).pg) ht hi1 (fun s H C cl fp => (hg1 s H C cl fp).pg) ht1 he hs hs1) fun _ _ _ h => useLc2 hT hT1 h
theorem r_setLc2 {i : Nat} {y : Str} {py : Pos} {spos : Pos} {elt tg iter tg1 iter1 : Expr} {ifs ifs1 : List Expr} {scope : Scope} {own : List (Str × Nat)} {vs1 : List Nat} {T T1 : Tgt} {it it1 : En → Cs → R Wk} {ft ft1 : En → Cs → R Bool} {fe : En → Cs → R A} (hc : X.calm = true) (hN : X.N.Nodup) (hy : X.N[i]? = some y) (hyl : X.env.scope.names.lookup y = some .local)
    (hsw : swapsWith (.ListComp elt [⟨tg, iter, ifs, 0⟩, ⟨tg1, iter1, ifs1, 0⟩] scope pos) (some (.Name y py)) spos.line X.env = pure true) (hi : PI X tg iter (iD X.K xc W it)) (ok : BlkOk X.N X.env.scope scope own)
    (hT : ∀ i ∈ T.slots, i ∈ own.map (·.2)) (hT1 : ∀ i ∈ T1.slots, i ∈ vs1) (hv : ∀ i ∈ vs1, i ∈ own.map (·.2))
    (hg : ∀ (s : Shared) (H : Hp) (C : Addr) (cl : List (Str × Addr)) (fp : List Addr), PT1 (X.blk s H scope (compEnvC scope cl C X.env) fp) xc tg T)
    (ht : ∀ (s : Shared) (H : Hp) (C : Addr) (cl : List (Str × Addr)) (fp : List Addr), PTs (X.blk s H scope (compEnvC scope cl C X.env) fp) ifs (tD X.K xc (fun _ _ _ _ => False) ft))
    (hi1 : ∀ (s : Shared) (H : Hp) (C : Addr) (cl : List (Str × Addr)) (fp : List Addr), PI (X.blk s H scope (compEnvC scope cl C X.env) fp) tg1 iter1 (iD X.K xc (fun _ _ _ _ => False) it1))
    (hg1 : ∀ (s : Shared) (H : Hp) (C : Addr) (cl : List (Str × Addr)) (fp : List Addr), PT1 (X.blk s H scope (compEnvC scope cl C X.env) fp) xc tg1 T1)
    (ht1 : ∀ (s : Shared) (H : Hp) (C : Addr) (cl : List (Str × Addr)) (fp : List Addr), PTs (X.blk s H scope (compEnvC scope cl C X.env) fp) ifs1 (tD X.K xc (fun _ _ _ _ => False) ft1))
    (he : ∀ (s : Shared) (H : Hp) (C : Addr) (cl : List (Str × Addr)) (fp : List Addr), PE (X.blk s H scope (compEnvC scope cl C X.env) fp) elt (xD X.K xc (fun _ _ _ _ => False) fe))
    (hs : ∀ x, foldedSetIterable iter X.env x = pure x := by intro _; rfl) (hs1 : ∀ env x, foldedSetIterable iter1 env x = pure x := by intro _ _; rfl) : PS X (.Assign [.Name y py] (.ListComp elt [⟨tg, iter, ifs, 0⟩, ⟨tg1, iter1, ifs1, 0⟩] scope pos) spos) (sD X.K xc W (sSet i (xLc2 (own.map (·.2)) T it ft vs1 T1 it1 ft1 fe))) := by
  refine PS.imp (ps_setLc2 (g := gD X.K xc T) (g1 := gD X.K xc T1) hc hN hy hyl hsw hi ok hv (fun s H C cl fp => (hg s H C cl fp).pg) ht hi1 (fun s H C cl fp => (hg1 s H C cl fp).pg) ht1 he hs hs1) fun D σ H ⟨ι, s, C, c, r, p⟩ => ?_
  refine useLc2 (W := W) hT hT1 ?_
  refine Dn.stepS c r p fun ι1 H1 C1 v x e1 c1 r1 q1 p1 => ?_
  exact p1 ι1 H1 _ (Ext.refl _ _) c1 (r1.set q1 i)
end
end FM

namespace FM
open PySem PySem.Spec PyProof.Rows L2 RZ
/-! ### bits -/
def gAnd := gI fun i j => .int (PySem.Builtin.bitAnd i j)
def shlOk (i j : Int) : Bool := decide (0 ≤ j ∧ (PySem.Builtin.Int.intBits i : Int) + j ≤ 2 ^ 27)
def gShl := gIc shlOk fun i j => .int (i * 2 ^ j.toNat)
def gShr := gIc (fun _ j => decide (0 ≤ j)) fun i j => .int (i / 2 ^ j.toNat)
section
variable {K : PySem.W.Frag} {xc : XC}
theorem ad_and : Adq2 K xc gAnd (rI0 fun i j => .int (PySem.Builtin.bitAnd i j)) := ad_I fun _ _ _ _ => .int _
theorem ad_shl : Adq2 K xc gShl (rI CShl fun i j => .int (i * 2 ^ j.toNat)) := ad_Ic (fun i j h => (of_decide_eq_true h : _)) fun _ _ _ _ => .int _
theorem ad_shr : Adq2 K xc gShr (rI (fun _ j => 0 ≤ j) fun i j => .int (i / 2 ^ j.toNat)) := ad_Ic (fun i j h => (of_decide_eq_true h : _)) fun _ _ _ _ => .int _
end
def xBits (f : En → Cs → R A) : En → Cs → R A := fun s C => (f s C).bind fun v C1 => match v with
  | .int i => .ok (.int (PySem.Builtin.Int.intBits i : Nat)) C1
  | _ => .bad
section
variable {X : Cx} {xc : XC} {W : WX} {pos apos : Pos}
theorem r_bits {e : Expr} {f : En → Cs → R A} (he : PE X e (xD X.K xc W f)) (hbase : attributeBase e "bit_length" X.env (eval e X.env) = eval e X.env := by rfl) (hline : (apos.endLine == pos.line) = true := by rfl) : PE X (.Call (.Attribute e "bit_length" apos) [] [] pos) (xD X.K xc W (xBits f)) := by
  refine PE.imp (pe_bits he hbase hline) fun σ H Q ⟨ι, s, C, c, r, p⟩ => ?_
  refine Dn.step c r p fun ι1 H1 C1 v x e1 c1 r1 q1 p1 => ?_
  cases q1 with
  | int i => exact ⟨i, rfl, p1.fin c1 (.int _)⟩
  | _ => exact (show False from p1).elim
/-! ### list(range(..)) -/
theorem rps_rg {K : PySem.W.Frag} {ι : Lay} {H : Hp} {a b : Int} : Rps K ι H (upto a (b - a).toNat) (rgV a b) := by
  unfold upto rgV
  generalize List.range (b - a).toNat = l
  induction l with
  | nil => exact .nil
  | cons i l ih => exact .cons (.int _) ih
def rgB (a b : Int) : Bool := decide (-(2 ^ 62) ≤ a ∧ a < 2 ^ 62 ∧ -(2 ^ 62) ≤ b ∧ b < 2 ^ 62 ∧ (b - a).toNat ≤ 2 ^ 24)
theorem rgB_ok {a b : Int} (h : rgB a b = true) : RgOk a b := by
  have q := of_decide_eq_true h
  exact q
def xLR (f g : En → Cs → R A) : En → Cs → R A := fun s C => (f s C).bind fun v C1 => (g s C1).bind fun w C2 => match v, w with
  | .int a, .int b => if rgB a b = true then .ok (.lst (upto a (b - a).toNat)) C2 else .bad
  | _, _ => .bad
def xLR1 (g : En → Cs → R A) : En → Cs → R A := fun s C => (g s C).bind fun w C2 => match w with
  | .int b => if rgB 0 b = true then .ok (.lst (upto 0 (b - 0).toNat)) C2 else .bad
  | _ => .bad
theorem r_listRg2 {a b : Expr} {f g : En → Cs → R A} {p p' pos' : Pos} (hc : X.calm = true) (hl : X.mg "list" = none) (hr : X.mg "range" = none) (ha : PE X a (xD X.K xc W f)) (hb : PE X b (xD X.K xc W g)) (hgl : Gl X "list" := by rfl) (hgr : Gl X "range" := by rfl) 
    (na : starEach [a, b] X.env = (false, eval a X.env) :: starEach [b] X.env := by rfl) (nb : starEach [b] X.env = (false, eval b X.env) :: starEach [] X.env := by rfl) (hp : (backTo pos' (starEach [b] X.env)).any (·.1) = false := by rfl) (nc : starEach [Expr.Call (.Name "range" p') [a, b] [] pos'] X.env = (false, eval (Expr.Call (.Name "range" p') [a, b] [] pos') X.env) :: starEach [] X.env := by rfl) :
    PE X (.Call (.Name "list" p) [.Call (.Name "range" p') [a, b] [] pos'] [] pos) (xD X.K xc W (xLR f g)) := by
  refine PE.imp (pe_listRg hc hgl hl (prg_2 hgr hr ha hb na nb hp) nc) fun σ H Q ⟨ι, s, C, c, r, p⟩ => ?_
  refine Dn.step c r p fun ι1 H1 C1 v x e1 c1 r1 q1 p1 => ?_
  refine Dn.step c1 r1 p1 fun ι2 H2 C2 w y e2 c2 r2 q2 p2 => ?_
  have q1 := q1.ext e2
  cases q1 with
  | int i =>
    cases q2 with
    | int j =>
      simp only at p2
      split at p2
      · rename_i h
        exact ⟨i, j, rfl, rfl, rgB_ok h, mk_lst c2 rps_rg p2⟩
      · exact p2.elim
    | _ => exact (show False from p2).elim
  | _ => exact (show False from p2).elim
theorem r_listRg1 {b : Expr} {g : En → Cs → R A} {p p' pos' : Pos} (hc : X.calm = true) (hl : X.mg "list" = none) (hr : X.mg "range" = none) (hb : PE X b (xD X.K xc W g)) (hgl : Gl X "list" := by rfl) (hgr : Gl X "range" := by rfl) 
    (nb : starEach [b] X.env = (false, eval b X.env) :: starEach [] X.env := by rfl) (nc : starEach [Expr.Call (.Name "range" p') [b] [] pos'] X.env = (false, eval (Expr.Call (.Name "range" p') [b] [] pos') X.env) :: starEach [] X.env := by rfl) :
    PE X (.Call (.Name "list" p) [.Call (.Name "range" p') [b] [] pos'] [] pos) (xD X.K xc W (xLR1 g)) := by
  refine PE.imp (pe_listRg hc hgl hl (prg_1 hgr hr hb nb) nc) fun σ H Q ⟨ι, s, C, c, r, p⟩ => ?_
  refine Dn.step c r p fun ι1 H1 C1 v x e1 c1 r1 q1 p1 => ?_
  cases q1 with
  | int i =>
    simp only at p1
    split at p1
    · rename_i h
      exact ⟨i, rfl, rgB_ok h, mk_lst c1 rps_rg p1⟩
    · exact p1.elim
  | _ => exact (show False from p1).elim
end
end FM

namespace FM
open PySem PySem.Spec PyProof.Rows L2 RZ
/-! ### defs that call themselves -/
theorem pss_bad {X : Cx} {xc : XC} {W : WX} {l : List Stmt} : PSs X l (sD X.K xc W sBad) := ⟨fun pins s σ H D I h => by
  obtain ⟨ι, t, C, c, r, p⟩ := h
  exact (show False from p).elim⟩
/-- a def with so many calls of itself within one another -/
def recI (nl : Nat) (b : (List A → Cs → R A) → En → Cs → SR) : Nat → List A → Cs → R A
  | 0 => runI nl sBad
  | n + 1 => runI nl (b (recI nl b n))
end FM

namespace FM
open PySem PySem.Spec PyProof.Rows L2 RZ
/-! ### the truth of a value -/
def truA (v : A) (C : Cs) : Option Bool := match v with
  | .non => some false
  | .bl b => some b
  | .int i => some (i != 0)
  | .lst xs => some (!xs.isEmpty)
  | .kl xs => some (!xs.isEmpty)
  | .tup xs => some (!xs.isEmpty)
  | .loc n => (C[n]?).map fun xs => !xs.isEmpty
  | _ => none
def tTru (f : En → Cs → R A) : En → Cs → R Bool := fun s C => (f s C).bind fun v C1 => match truA v C1 with
  | some b => .ok b C1
  | none => .bad
section
variable {X : Cx} {xc : XC} {W : WX}
theorem Rps.emp {K : PySem.W.Frag} {ι : Lay} {H : Hp} {xs : List A} {vs : List V} (r : Rps K ι H xs vs) : (!xs.isEmpty) = !vs.isEmpty := by cases r <;> rfl
theorem tru_of {K : PySem.W.Frag} {ι : Lay} {H : Hp} {C : Cs} {v : A} {x : V} {b : Bool} (c : RC K xc ι H C) (r : Rp K ι H v x) (h : truA v C = some b) : TruV K x H b := by
  cases r with
  | non => cases h; rfl
  | bl b => cases h; rfl
  | int i => cases h; rfl
  | lst h1 n r => cases h; exact .inl ⟨_, .inl (.inl h1), r.emp⟩
  | kl f r => cases h; exact .inl ⟨_, f.sq, r.emp⟩
  | tup f r => cases h; exact .inr (.inl ⟨_, f.sq, r.emp⟩)
  | @loc n a e =>
    obtain ⟨xs, h1, h2⟩ := Option.map_eq_some_iff.mp h
    obtain ⟨vs, q, r⟩ := c.at_ n xs a h1 e
    exact .inl ⟨vs, .inl (.inl q), by rw [← h2]; exact r.emp⟩
  | _ => cases h
theorem r_ttru {e : Expr} {f : En → Cs → R A} (h : PE X e (xD X.K xc W f)) (he : ∀ whole, isTrue e X.env whole = (do let v ← whole; standAt e.pos; holding [v] (truthy v)) := by intro _; rfl) : PT X e (tD X.K xc W (tTru f)) :=
  PT.imp (pt_truth h he) fun σ H Q ⟨ι, s, C, c, r, p⟩ => by
    refine Dn.step c r p fun ι1 H1 C1 v x e1 c1 r1 q1 p1 => ?_
    split at p1
    · rename_i b hb
      exact ⟨b, tru_of c1 q1 hb, p1.fin c1 rfl⟩
    · exact p1.elim
end
end FM

namespace FM
open PySem PySem.Spec PyProof.Rows L2 RZ
/-! ### max and min with default= -/
def rExt (K : PySem.W.Frag) (f : PyData → List PyData → PyData) : List V → List V → Hp → VK → Prop := fun vs zs H Q => ∃ (a : Addr) (xs : List V) (ds : List PyData) (d : V), vs = [.ref a] ∧ zs = [d] ∧ (SqL K H a xs ∨ SqT K H a xs) ∧ DpAll K H xs ds ∧ PySem.W.AlikeAll ds ∧ PyData.depthAll ds ≤ 10 ∧
  (ds = [] → Q d H) ∧ ∀ y ys, ds = y :: ys → ∀ (i : Nat) (u : V), xs[i]? = some u → (y :: ys)[i]? = some (f y ys) → Q u H
theorem reads_at : ∀ {us : List Value} {ds : List PyData} {as : List Addr} {i : Nat} {v : Value} {h : Heap}, ReadsAll h us ds as → us[i]? = some v → ∃ d bs, ds[i]? = some d ∧ Reads h v d bs
  | _, _, _, _, _, _, .nil, e => by simp at e
  | _, _, _, 0, _, _, .cons r _, e => by simp at e; subst e; exact ⟨_, _, rfl, r⟩
  | _, _, _, i + 1, _, _, .cons _ t, e => by
    obtain ⟨d, bs, h1, h2⟩ := reads_at (i := i) t (by simpa using e)
    exact ⟨d, bs, by simpa using h1, h2⟩
theorem pick_at {h g : Heap} {xs : List V} {us : List Value} {ds : List PyData} {as bs : List Addr} {i : Nat} {v : Value} {m : PyData} (rv : Vals xs us) (rd : ReadsAll h us ds as) (hv : us.toArray[i]? = some v) (keep : ∀ b o, h.get? b = some o → g.get? b = some o) (rm : Reads g v m bs) :
    ∃ u, xs[i]? = some u ∧ RelV u v ∧ ds[i]? = some m := by
  have hv : us[i]? = some v := by simpa using hv
  obtain ⟨u, h1, h2⟩ := vals_at rv hv
  obtain ⟨d, cs, h3, h4⟩ := reads_at rd hv
  have e : d = m := ((Reads.keeps keep h4).unique m bs rm).1
  exact ⟨u, h1, h2, e ▸ h3⟩

theorem cr_maxD {X : Cx} (hc : X.calm = true) (hu : X.A.units + 64 < cLine) : CallRK X (.builtin "max") [Str.ofString "default"] (rExt X.K PySem.W.maxD) := by
  intro pins s σ H vs zs us ws Q I r rz h
  obtain ⟨a, xs, ds, d, rfl, rfl, sq, dp, al, dd, q0, q1⟩ := h
  obtain rfl := Vals.ref1 r
  obtain ⟨w1, rfl, e1⟩ := vals1 rz
  have hu2 : X.A.units + 1 + PyData.depthAll ds < cLine := by omega
  rcases sq with sq | sq
  · obtain ⟨its, rv, hl, hz⟩ := I.list sq
    obtain ⟨as, rd⟩ := Dp.readsAll I ds xs its dp rv
    refine PySem.W.max_list_default (I.ok.hd hc) hl.isList (show ReadsAll s.heap its.toArray.toList ds as by simpa using rd) al hu2 (fun z g k keep => ?_) fun y ys i v g k bs ed hv rm keep => ?_
    · exact ⟨d, H, I.kept keep, e1, q0 z⟩
    · obtain ⟨u, hu, ru, hd⟩ := pick_at rv rd hv (keep := keep) rm
      exact ⟨u, H, I.kept keep, ru, q1 y ys ed i u hu (ed ▸ hd)⟩
  · obtain ⟨its, rv, ht, hz⟩ := I.tuple sq
    obtain ⟨as, rd⟩ := Dp.readsAll I ds xs its dp rv
    refine PySem.W.max_tuple_default (I.ok.hd hc) (show s.heap.IsTuple a its.toArray from ht) (show ReadsAll s.heap its.toArray.toList ds as by simpa using rd) al hu2 (fun z g k keep => ?_) fun y ys i v g k bs ed hv rm keep => ?_
    · exact ⟨d, H, I.kept keep, e1, q0 z⟩
    · obtain ⟨u, hu, ru, hd⟩ := pick_at rv rd hv (keep := keep) rm
      exact ⟨u, H, I.kept keep, ru, q1 y ys ed i u hu (ed ▸ hd)⟩

theorem cr_minD {X : Cx} (hc : X.calm = true) (hu : X.A.units + 64 < cLine) : CallRK X (.builtin "min") [Str.ofString "default"] (rExt X.K PySem.W.minD) := by
  intro pins s σ H vs zs us ws Q I r rz h
  obtain ⟨a, xs, ds, d, rfl, rfl, sq, dp, al, dd, q0, q1⟩ := h
  obtain rfl := Vals.ref1 r
  obtain ⟨w1, rfl, e1⟩ := vals1 rz
  have hu2 : X.A.units + 1 + PyData.depthAll ds < cLine := by omega
  rcases sq with sq | sq
  · obtain ⟨its, rv, hl, hz⟩ := I.list sq
    obtain ⟨as, rd⟩ := Dp.readsAll I ds xs its dp rv
    refine PySem.W.min_list_default (I.ok.hd hc) hl.isList (show ReadsAll s.heap its.toArray.toList ds as by simpa using rd) al hu2 (fun z g k keep => ?_) fun y ys i v g k bs ed hv rm keep => ?_
    · exact ⟨d, H, I.kept keep, e1, q0 z⟩
    · obtain ⟨u, hu, ru, hd⟩ := pick_at rv rd hv (keep := keep) rm
      exact ⟨u, H, I.kept keep, ru, q1 y ys ed i u hu (ed ▸ hd)⟩
  · obtain ⟨its, rv, ht, hz⟩ := I.tuple sq
    obtain ⟨as, rd⟩ := Dp.readsAll I ds xs its dp rv
    refine PySem.W.min_tuple_default (I.ok.hd hc) (show s.heap.IsTuple a its.toArray from ht) (show ReadsAll s.heap its.toArray.toList ds as by simpa using rd) al hu2 (fun z g k keep => ?_) fun y ys i v g k bs ed hv rm keep => ?_
    · exact ⟨d, H, I.kept keep, e1, q0 z⟩
    · obtain ⟨u, hu, ru, hd⟩ := pick_at rv rd hv (keep := keep) rm
      exact ⟨u, H, I.kept keep, ru, q1 y ys ed i u hu (ed ▸ hd)⟩
def seqX (v : A) (C : Cs) : Option (List A) := match v with
  | .lst xs => some xs
  | .kl xs => some xs
  | .tup xs => some xs
  | .loc n => C[n]?
  | _ => none
theorem seqX_of {K : PySem.W.Frag} {xc : XC} {ι : Lay} {H : Hp} {C : Cs} {v : A} {x : V} {xs : List A} (c : RC K xc ι H C) (r : Rp K ι H v x) (h : seqX v C = some xs) : ∃ a vs, x = .ref a ∧ (SqL K H a vs ∨ SqT K H a vs) ∧ Rps K ι H xs vs := by
  cases r with
  | lst h1 n q => cases h; exact ⟨_, _, rfl, .inl (SqL.of h1), q⟩
  | loc h1 => obtain ⟨vs, q1, q2⟩ := c.at_ _ _ _ h h1; exact ⟨_, vs, rfl, .inl (SqL.of q1), q2⟩
  | kl f q => cases h; exact ⟨_, _, rfl, .inl f.sq, q⟩
  | tup f q => cases h; exact ⟨_, _, rfl, .inr f.sq, q⟩
  | _ => cases h
def isI : A → Bool
  | .int _ => true
  | _ => false
def isP : A → Bool
  | .tup [.int _, .int _] => true
  | _ => false
def ofP : PyData → A
  | .int i => .int i
  | .tuple [.int i, .int j] => .tup [.int i, .int j]
  | _ => .non
def kExt (f : PyData → List PyData → PyData) : List A → List A → Cs → R A := fun vs zs C => match vs, zs with
  | [v], [d] => match seqX v C with
    | none => .bad
    | some xs => if (xs.all isI || xs.all isP) = true then (match toDs xs with
      | some [] => .ok d C
      | some (y :: ys) => .ok (ofP (f y ys)) C
      | none => .bad) else .bad
  | _, _ => .bad
theorem toDs_mem : ∀ {xs : List A} {ds : List PyData}, toDs xs = some ds → ∀ d ∈ ds, ∃ x ∈ xs, toD0 x = some d
  | [], ds, h => by cases h; intro d m; cases m
  | x :: xs, ds, h => by
    unfold toDs at h
    split at h
    · rename_i d ds h1 h2
      cases h
      intro e m
      rcases List.mem_cons.mp m with rfl | m
      · exact ⟨x, .head _, h1⟩
      · obtain ⟨y, hy, h3⟩ := toDs_mem h2 e m
        exact ⟨y, .tail _ hy, h3⟩
    · cases h
theorem toDs_at : ∀ {xs : List A} {ds : List PyData} {i : Nat} {d : PyData}, toDs xs = some ds → ds[i]? = some d → ∃ x, xs[i]? = some x ∧ toD0 x = some d
  | [], ds, i, d, h, e => by cases h; simp at e
  | x :: xs, ds, i, d, h, e => by
    unfold toDs at h
    split at h
    · rename_i d0 ds h1 h2
      cases h
      cases i with
      | zero => simp at e; subst e; exact ⟨x, rfl, h1⟩
      | succ i =>
        obtain ⟨y, q1, q2⟩ := toDs_at (i := i) h2 (by simpa using e)
        exact ⟨y, by simpa using q1, q2⟩
    · cases h
theorem isI_eq {x : A} (h : isI x = true) : ∃ i, x = .int i := by
  cases x <;> first | (cases h; done) | exact ⟨_, rfl⟩
theorem isP_eq {x : A} (h : isP x = true) : ∃ i j, x = .tup [.int i, .int j] := by
  unfold isP at h
  split at h
  · exact ⟨_, _, rfl⟩
  · cases h
theorem toD_int {i : Int} {d : PyData} (h : toD0 (.int i) = some d) : d = .int i := by cases h; rfl
theorem toD_pair {i j : Int} {d : PyData} (h : toD0 (.tup [.int i, .int j]) = some d) : d = .tuple [.int i, .int j] := by
  have e : toD0 (.tup [.int i, .int j]) = some (.tuple [.int i, .int j]) := rfl
  rw [e] at h
  exact (Option.some.inj h).symm
theorem ofP_at {x : A} {d : PyData} (h : (isI x || isP x) = true) (e : toD0 x = some d) : ofP d = x := by
  rw [Bool.or_eq_true] at h
  rcases h with h | h
  · obtain ⟨i, rfl⟩ := isI_eq h
    cases toD_int e; rfl
  · obtain ⟨i, j, rfl⟩ := isP_eq h
    cases toD_pair e; rfl
theorem alike_of {xs : List A} {ds : List PyData} (h : (xs.all isI || xs.all isP) = true) (e : toDs xs = some ds) : PySem.W.AlikeAll ds ∧ PyData.depthAll ds ≤ 10 := by
  have dep : ∀ {l : List PyData} {n : Nat}, (∀ d ∈ l, d.depth ≤ n) → PyData.depthAll l ≤ n := by
    intro l n
    induction l with
    | nil => intro _; exact Nat.zero_le _
    | cons x l ih =>
      intro q
      simp only [PyData.depthAll]
      exact Nat.max_le.mpr ⟨q x (.head _), ih fun d m => q d (.tail _ m)⟩
  rw [Bool.or_eq_true] at h
  rcases h with h | h
  · have k : ∀ d ∈ ds, ∃ i, d = .int i := fun d m => by
      obtain ⟨x, hx, h1⟩ := toDs_mem e d m
      obtain ⟨i, rfl⟩ := isI_eq (List.all_eq_true.mp h x hx)
      exact ⟨i, toD_int h1⟩
    refine ⟨⟨fun x hx y hy => ?_, fun x hx => ?_⟩, dep fun d m => ?_⟩
    · obtain ⟨i, rfl⟩ := k x hx
      obtain ⟨j, rfl⟩ := k y hy
      rfl
    · obtain ⟨i, rfl⟩ := k x hx
      exact fun z => by cases z
    · obtain ⟨i, rfl⟩ := k d m
      simp [PyData.depth]
  · have k : ∀ d ∈ ds, ∃ i j, d = .tuple [.int i, .int j] := fun d m => by
      obtain ⟨x, hx, h1⟩ := toDs_mem e d m
      obtain ⟨i, j, rfl⟩ := isP_eq (List.all_eq_true.mp h x hx)
      exact ⟨i, j, toD_pair h1⟩
    refine ⟨⟨fun x hx y hy => ?_, fun x hx => ?_⟩, dep fun d m => ?_⟩
    · obtain ⟨i, j, rfl⟩ := k x hx
      obtain ⟨i', j', rfl⟩ := k y hy
      rfl
    · obtain ⟨i, j, rfl⟩ := k x hx
      exact fun z => by cases z
    · obtain ⟨i, j, rfl⟩ := k d m
      simp [PyData.depth, PyData.depthAll]
theorem ext_use {K : PySem.W.Frag} {xc : XC} {W : WX} {ι : Lay} {H : Hp} {σ : L2.St} {C : Cs} {vs zs : List A} {us ws : List V} {f : PyData → List PyData → PyData} {Q : VK} (c : RC K xc ι H C) (r1 : Rps K ι H vs us) (r2 : Rps K ι H zs ws) (p : Post K xc W (Rp K) ι H σ (kExt f vs zs C) Q) : rExt K f us ws H Q := by
  unfold kExt at p
  split at p
  · rename_i v d
    obtain ⟨u, rfl, ru⟩ := r1.one
    obtain ⟨w, rfl, rw⟩ := r2.one
    split at p
    · exact p.elim
    · rename_i xs hx
      split at p
      · rename_i hk
        obtain ⟨a, ys, rfl, sq, q⟩ := seqX_of c ru hx
        cases e : toDs xs with
        | none => rw [e] at p; exact p.elim
        | some ds =>
          rw [e] at p
          obtain ⟨al, dd⟩ := alike_of hk e
          refine ⟨a, ys, ds, w, rfl, rfl, sq, dps_of q e, al, dd, fun z => ?_, fun y l z i u hu hd => ?_⟩
          · subst z
            exact p.fin c rw
          · subst z
            obtain ⟨x, h1, h2⟩ := toDs_at e hd
            obtain ⟨x', h3, rx⟩ := q.get' hu
            rw [h1] at h3
            cases h3
            have hxx : (isI x || isP x) = true := by
              rw [Bool.or_eq_true] at hk ⊢
              rcases hk with hk | hk
              · exact .inl (List.all_eq_true.mp hk x (List.mem_of_getElem? h1))
              · exact .inr (List.all_eq_true.mp hk x (List.mem_of_getElem? h1))
            exact p.fin c (by rw [ofP_at hxx h2]; exact rx)
      · exact p.elim
  · exact p.elim
def xExt (f : PyData → List PyData → PyData) (fs : En → Cs → R (List A)) (g : En → Cs → R A) : En → Cs → R A := fun s C => (fs s C).bind fun vs C1 => (g s C1).bind fun w C2 => kExt f vs [w] C2
theorem r_ext {X : Cx} {xc : XC} {W : WX} {id : String} {x : Str} {p pos kpos : Pos} {e ke : Expr} {fs : En → Cs → R (List A)} {g : En → Cs → R A} {f : PyData → List PyData → PyData} (cr : CallRK X (.builtin id) [Str.ofString "default"] (rExt X.K f)) (hg : Gl X x) (hm : X.mg x = none) (hv : bootBuiltins x = some (.builtin id)) (ha : PA X [e] (aD X.K xc W fs)) (hk : PE X ke (xD X.K xc W g))
    (hn : x ≠ "__name__" := by decide) (hdb : (x == ("__debug__" : Str)) = false := by decide)
    (he : backTo pos (starEach [e] X.env) = (false, eval e X.env) :: backTo pos (starEach [] X.env) := by rfl) (hpl : (backTo pos (starEach [e] X.env)).any (·.1) = false := by rfl)
    (hall : (backToKw pos (keywordEach [⟨some (Str.ofString "default"), ke, kpos⟩] X.env)).all (·.1.isSome) = true := by rfl) (hnone : (backToKw pos (keywordEach [⟨some (Str.ofString "default"), ke, kpos⟩] X.env)).any (·.1.isNone) = false := by rfl)
    (hks : (backToKw pos (keywordEach [⟨some (Str.ofString "default"), ke, kpos⟩] X.env)).filterMap (·.1) = [Str.ofString "default"] := by rfl) :
    PE X (.Call (.Name x p) [e] [⟨some (Str.ofString "default"), ke, kpos⟩] pos) (xD X.K xc W (xExt f fs g)) := by
  refine PE.imp (pe_callBK cr hg hm hv ha (pk_cons hk pk_nil) hn hdb he hpl hall hnone hks) fun σ H Q ⟨ι, s, C, c, r, pp⟩ => ?_
  unfold xExt at pp
  refine Dn.step c r pp fun ι1 H1 C1 vs xs e1 c1 r1 q1 p1 => ?_
  refine Dn.step c1 r1 p1 fun ι2 H2 C2 w y e2 c2 r2 q2 p2 => ?_
  exact ext_use c2 (q1.ext e2) (.cons q2 .nil) p2
end FM

namespace FM
open PySem PySem.Spec PyProof.Rows L2 RZ
/-! ### min and max of three -/
def kMin3 : List A → Cs → R A := fun vs C => match vs with
  | [.int i, .int j, .int k] => .ok (.int (let m := if j < i then j else i; if k < m then k else m)) C
  | _ => .bad
theorem nu_min2 (i j : Int) : nuMin2 (.int i) (.int j) = some (.int (if j < i then j else i)) := by
  show ((some (decide (j < i))).map fun c => if c = true then V.int j else V.int i) = _
  by_cases h : j < i <;> simp [h]
theorem ad_min3 {K : PySem.W.Frag} {xc : XC} : AdqN K xc kMin3 (rNuC3 nuMin3) := by
  intro W ι H σ C vs xs Q c r p
  unfold kMin3 at p
  split at p
  · rename_i i j k
    obtain ⟨x, r⟩ : ∃ x, xs = [.int i, .int j, .int k] ∧ x = () := by
      cases r with
      | cons r1 r => cases r with
        | cons r2 r => cases r with
          | cons r3 r =>
            cases r
            cases r1; cases r2; cases r3
            exact ⟨(), rfl, rfl⟩
    obtain ⟨rfl, _⟩ := r
    refine ⟨_, _, _, .int (let m := if j < i then j else i; if k < m then k else m), rfl, ?_, p.fin c (.int _)⟩
    show (nuMin2 (.int i) (.int j)).bind (fun m => nuMin2 m (.int k)) = _
    rw [nu_min2]
    exact nu_min2 _ _
  · exact p.elim
/-! ### slices with a step -/
def pickI {α : Type} (xs : List α) (js : List Nat) : List α := js.filterMap (xs[·]?)
def idxT (lo hi : Option Int) (c : Int) (n : Nat) : List Nat := (List.range (Builtin.Slice.slicePlaces (Builtin.Slice.sliceAdjust lo hi c (n : Int)).1 (Builtin.Slice.sliceAdjust lo hi c (n : Int)).2 c)).map fun (k : Nat) => ((Builtin.Slice.sliceAdjust lo hi c (n : Int)).1 + (k : Int) * c).toNat
def idxL (lo hi : Option Int) (c : Int) (n : Nat) : List Nat := sliceRange (sliceBounds lo hi (some c) n).1 (sliceBounds lo hi (some c) n).2.1 (sliceBounds lo hi (some c) n).2.2
theorem Rps.pick {K : PySem.W.Frag} {ι : Lay} {H : Hp} {xs : List A} {vs : List V} (r : Rps K ι H xs vs) : ∀ js : List Nat, Rps K ι H (pickI xs js) (pickI vs js)
  | [] => .nil
  | j :: js => by
    unfold pickI
    simp only [List.filterMap_cons]
    cases e : xs[j]? with
    | none =>
      have : vs[j]? = Option.none := by
        rw [List.getElem?_eq_none_iff] at e ⊢
        rw [← r.length]; exact e
      rw [this]
      exact Rps.pick r js
    | some x =>
      obtain ⟨v, h1, h2⟩ := r.get e
      rw [h1]
      exact .cons h2 (Rps.pick r js)
theorem vals_pick {xs : List V} {us : List Value} (r : Vals xs us) : ∀ js : List Nat, Vals (pickI xs js) (pickI us js)
  | [] => .nil
  | j :: js => by
    unfold pickI
    simp only [List.filterMap_cons]
    cases e : us[j]? with
    | none =>
      have : xs[j]? = Option.none := by
        rw [List.getElem?_eq_none_iff] at e ⊢
        rw [r.length]; exact e
      rw [this]
      exact vals_pick r js
    | some v =>
      obtain ⟨x, h1, h2⟩ := vals_at r e
      rw [h1]
      exact .cons h2 (vals_pick r js)
theorem applied_step {prog : Program} {w : World} {A : Around} {E : Value → Shared → Prop} {s : Shared} {sl : Addr} {vl vu vc : Value} {lo hi : Option Int} {c : Int} {n : Nat} {Q : Int × Int × Nat → Shared → Prop} (hs : s.heap.IsSliceOf sl vl vu vc) (pl : IsPart vl lo) (pu : IsPart vu hi) (pc : IsPart vc (some c)) (h0 : c ≠ 0)
    (h : Q ((Builtin.Slice.sliceAdjust lo hi c (n : Int)).1, c, Builtin.Slice.slicePlaces (Builtin.Slice.sliceAdjust lo hi c (n : Int)).1 (Builtin.Slice.sliceAdjust lo hi c (n : Int)).2 c) s) : wpAny (model prog w) A (Builtin.Slice.sliceApplied (.ref sl) (pure (n : Int))) Q E s := by
  obtain ⟨os, hos, hcs, hds⟩ := id hs
  unfold Builtin.Slice.sliceApplied Builtin.Slice.sliceFields
  refine wpAny_bind (wpAny_bind (wpAny_field hos hds (x := vl) rfl (wpAny_bind (wpAny_field hos hds (x := vu) rfl (wpAny_bind (wpAny_field hos hds (x := vc) rfl (wpAny_pure ?_)))))))
  refine wpAny_bind (HT.slicePart_ pc ?_)
  have hb : ¬ ((c == 0) = true) := by simpa using h0
  show wpAny _ _ (if (c == 0) = true then _ else _) _ _ s
  rw [if_neg hb]
  refine wpAny_bind (HT.slicePart_ pl (wpAny_bind (HT.slicePart_ pu (wpAny_bind (wpAny_pure ?_)))))
  exact wpAny_pure h
theorem tuple_step {prog : Program} {w : World} {A : Around} {E : Value → Shared → Prop} {s : Shared} {t sl : Addr} {its : List Value} {vl vu vc : Value} {lo hi : Option Int} {c : Int} {Q : Value → Shared → Prop} (ht : IsTup s.heap t its.toArray) (hs : s.heap.IsSliceOf sl vl vu vc) (pl : IsPart vl lo) (pu : IsPart vu hi) (pc : IsPart vc (some c)) (h0 : c ≠ 0) (h1 : c ≠ 1)
    (hz : (pickI its (idxT lo hi c its.length)).length ≤ sizeLine)
    (h : Q (.ref s.heap.objs.size) { s with heap := s.heap.push { cls := .type "tuple", data := .seq (pickI its (idxT lo hi c its.length)).toArray } }) : wpAny (model prog w) A (getItem (.ref t) (.ref sl)) Q E s := by
  obtain ⟨os, hos, hcs, hds⟩ := id hs
  have hT : s.TypeIs (.ref sl) "slice" := ⟨os, hos, hcs⟩
  have hz2 : sizeOk (.seq (pickI its (idxT lo hi c its.length)).toArray) := by
    show (pickI its (idxT lo hi c its.length)).toArray.size ≤ sizeLine
    rw [List.size_toArray]; exact hz
  unfold getItem
  try with_reducible refine wpAny_holding ?_
  first | refine wpAny_bind (wpAny_pure ?_) | skip
  refine wpAny_bind (wpAny_sequenceKey ht.typeIs (by decide) ?_)
  refine wpAny_bind (wpAny_callSpecial?_slot (name := Str.ofString "__getitem__") ht.typeIs PyProof.Rows.slot_tuple_getitem (wpAny_call_entry PyProof.Rows.slot_tuple_getitem ht.typeIs PyProof.Rows.entry_tuple_getitem ?_ (PyProof.Rows.args_tuple_getitem _ _)))
  refine wpAny_bind (m := Builtin.Tuple.tupleItemsOf (.ref t)) (PyProof.Rows.tupleItemsOf_ ht ?_)
  refine wpAny_bind (wpAny_typeOf hT ?_)
  rw [if_pos (by decide)]
  have en : its.toArray.size = its.length := List.size_toArray
  rw [en]
  refine wpAny_bind (applied_step hs pl pu pc h0 ?_)
  have hno : ¬ ((((Builtin.Slice.sliceAdjust lo hi c (its.length : Int)).1 == 0 && c == 1) && (Builtin.Slice.slicePlaces (Builtin.Slice.sliceAdjust lo hi c (its.length : Int)).1 (Builtin.Slice.sliceAdjust lo hi c (its.length : Int)).2 c == its.length)) = true) := by
    intro q
    rw [Bool.and_eq_true, Bool.and_eq_true] at q
    exact h1 (eq_of_beq q.1.2)
  dsimp only
  rw [if_neg hno]
  have e : ((List.range (Builtin.Slice.slicePlaces (Builtin.Slice.sliceAdjust lo hi c (its.length : Int)).1 (Builtin.Slice.sliceAdjust lo hi c (its.length : Int)).2 c)).filterMap fun (k : Nat) => its.toArray[((Builtin.Slice.sliceAdjust lo hi c (its.length : Int)).1 + (k : Int) * c).toNat]?) = pickI its (idxT lo hi c its.length) := by
    unfold pickI idxT
    rw [List.filterMap_map]
    congr 1
    funext k
    simp
  rw [e]
  first
    | exact wpAny_bind (m := Builtin.Tuple.tupleExact _) (wpAny_newObj_type (wpAny_pure ⟨_, rfl, wpAny_pure h⟩) hz2)
    | exact wpAny_bind (m := Builtin.Tuple.tupleExact _) (wpAny_newObj_type (wpAny_bind (wpAny_pure (wpAny_pure ⟨_, rfl, wpAny_pure h⟩))) hz2)
    | exact wpAny_bind (wpAny_bind (m := Builtin.Tuple.tupleExact _) (wpAny_newObj_type (wpAny_pure (wpAny_pure ⟨_, rfl, wpAny_pure h⟩)) hz2))
    | exact wpAny_bind (wpAny_bind (m := Builtin.Tuple.tupleExact _) (wpAny_newObj_type (wpAny_pure ⟨_, rfl, wpAny_pure h⟩) hz2))
def idxS (lo hi : Option Int) (c : Int) (n : Nat) : List Nat := Builtin.Str.strSliceIndices lo hi c n
def rSl3 (K : PySem.W.Frag) (c : Int) : V → Option Int → Option Int → Hp → VK → Prop := fun x lo hi H Q =>
  (∃ a xs, x = .ref a ∧ SqL K H a xs ∧ (pickI xs (idxL lo hi c xs.length)).length ≤ sizeLine ∧ ∀ p, H p = none → Q (.ref p) (upd H p (.lst (pickI xs (idxL lo hi c xs.length))))) ∨
  (∃ a xs, x = .ref a ∧ SqT K H a xs ∧ (pickI xs (idxT lo hi c xs.length)).length ≤ sizeLine ∧ ∀ p (o : Obj), H p = none → o.dict = none → Q (.ref p) (upd H p (.frz o (.tup (pickI xs (idxT lo hi c xs.length)))))) ∨
  ∃ z, x = .str z ∧ (pickI z.cps.toList (idxS lo hi c z.length)).length ≤ sizeLine ∧ Q (.str ⟨(pickI z.cps.toList (idxS lo hi c z.length)).toArray⟩) H
def tSl3 (K : PySem.W.Frag) (c : Int) (te : TE) (tl th : TO) : TE := fun σ H Q => te σ H fun x H1 => tl σ H1 fun l H2 => th σ H2 fun u H3 => rSl3 K c x l u H3 Q
theorem pe_slice3 {X : Cx} {e st : Expr} {te : TE} {lo hi : Option Expr} {tl th ts : TO} {c : Int} {pos p2 : Pos} (hc : ∀ σ H Q, Q (some c) H → ts σ H Q) (h0 : c ≠ 0) (h1 : c ≠ 1) (he : PE X e te) (hl : PO X lo tl) (hu : PO X hi th) (hs : PO X (some st) ts) : PE X (.Subscript e (.Slice lo hi (some st) p2) pos) (tSl3 X.K c te tl th) := by
  refine ⟨fun pins s σ H Q I h => ?_⟩
  refine Subscript_ (thn (he.run pins s σ H _ I h) fun v s1 ⟨x, H1, I1, r1, q1⟩ => ?_)
  refine wpAny_Slice (thn (hl.run pins s1 σ H1 _ I1 q1) fun vl s2 ⟨l, H2, I2, pl, q2⟩ => thn (hu.run pins s2 σ H2 _ I2 q2) fun vu s3 ⟨u, H3, I3, pu, q3⟩ => ?_)
  refine thn (hs.run pins s3 σ H3 (fun o H4 => o = some c ∧ H4 = H3) I3 (hc _ _ _ ⟨rfl, rfl⟩)) fun vs s4 ⟨o, H4, I4, ps, eo, e4⟩ => ?_
  subst eo e4
  have I5 : Inv X pins σ H4 { s4 with heap := s4.heap.push { cls := .type "slice", data := .fields #[vl, vu, vs] } } := I4.kept (t' := s4.toks) fun b ob q => Heap.get?_push_of_some _ q
  show wpAny (model X.prog X.w) X.A (subscriptTail e (.Slice lo hi (some st) p2) v (.ref s4.heap.objs.size)) (EP X pins σ Q) X.xe { s4 with heap := s4.heap.push { cls := .type "slice", data := .fields #[vl, vu, vs] } }
  rcases q3 with ⟨a, xs, ex, hx, hz2, q⟩ | ⟨a, xs, ex, hx, hz2, q⟩ | ⟨z, ex, hz2, q⟩
  · subst ex
    cases r1
    obtain ⟨its, r, ht, hz⟩ := I5.list hx
    have hlen := r.length
    refine tail_any (ops := [.ref a, .ref s4.heap.objs.size]) ht.isList.typeIs (PySem.F.slot_list_getitem.lookup) ?_ (by with_unfolding_all rfl)
    refine wpAny_getItem_list_slice ht.isList (Heap.IsSliceOf.new _ vl vu vs) pl pu ps (by simpa using h0) ?_ (by rw [List.size_toArray]; omega)
    have e : slicePick its.toArray l u (some c) = (pickI its (idxL l u c xs.length)).toArray := by
      unfold slicePick pickI idxL
      rw [List.size_toArray, ← hlen]
      congr 1
      congr 1
      funext k
      simp
    rw [e]
    have rr := vals_pick r (idxL l u c xs.length)
    exact ⟨.ref _, _, I5.laid (t' := s4.toks) (o := .lst (pickI xs (idxL l u c xs.length))) (fun b ob q => Heap.get?_push_of_some _ q) (Nat.le_refl _) ⟨hz2, _, 0, rr, Heap.get?_push_size _ rfl⟩, rfl, q _ (I5.hok.fresh (Nat.le_refl _))⟩
  · subst ex
    cases r1
    obtain ⟨its, r, ht, hz⟩ := I5.tuple hx
    have hlen := r.length
    refine tail_any (ops := [.ref a, .ref s4.heap.objs.size]) ht.typeIs (PyProof.Rows.slot_tuple_getitem.lookup) ?_ (by with_unfolding_all rfl)
    have rr := vals_pick r (idxT l u c xs.length)
    rw [hlen] at rr hz2 q
    refine tuple_step ht (Heap.IsSliceOf.new _ vl vu vs) pl pu ps h0 h1 (by rw [← rr.length]; exact hz2) ?_
    exact ep_newT (tk := s4.toks) I5 hz2 rr q
  · subst ex
    obtain ⟨t, rfl⟩ := r1
    obtain ⟨l, rfl, rfl⟩ := IsPart.raw pl
    obtain ⟨u, rfl, rfl⟩ := IsPart.raw pu
    obtain ⟨k, rfl, ek⟩ := IsPart.raw ps
    refine tail_any (ops := [.str z t, .ref s4.heap.objs.size]) (typeIs_str _ _ _) (F.slot_str_getitem.lookup) ?_ (by with_unfolding_all rfl)
    have ec : (k.map (·.1)).getD 1 = c := by rw [ek]; rfl
    refine wpAny_getItem_str_slice (l := l) (u := u) (st := k) (Heap.IsSliceOf.new _ _ _ _) (by rw [ec]; simpa using h0) ?_
    unfold sliceMade slicePicked
    rw [ec]
    have hn : ¬ ((c == 1 && (Builtin.Str.strSliceIndices (l.map (·.1)) (u.map (·.1)) c z.length).length == z.length) = true) := by
      intro q
      rw [Bool.and_eq_true] at q
      exact h1 (eq_of_beq q.1)
    rw [if_neg hn]
    have e : (Builtin.Str.strSliceIndices (l.map (·.1)) (u.map (·.1)) c z.length).filterMap (z.cps[·]?) = pickI z.cps.toList (idxS (l.map (·.1)) (u.map (·.1)) c z.length) := by
      unfold pickI idxS
      congr 1
      funext k
      simp
    rw [e]
    exact ⟨by show (pickI z.cps.toList _).toArray.size ≤ sizeLine; rw [List.size_toArray]; exact hz2, .str _, _, I5.tok _, ⟨_, rfl⟩, q⟩
def gSl3 (c : Int) : A → Option Int → Option Int → Cs → R A := fun v lo hi C => match v with
  | .tup xs => let ys := pickI xs (idxT lo hi c xs.length); if ys.length ≤ big then .ok (.tup ys) C else .bad
  | .str z => let ys := pickI z.cps.toList (idxS lo hi c z.length); if ys.length ≤ big then .ok (.str ⟨ys.toArray⟩) C else .bad
  | v => match lstOf v C with
    | some xs => let ys := pickI xs (idxL lo hi c xs.length); if ys.length ≤ big then .ok (.lst ys) C else .bad
    | none => .bad
theorem pick_len {K : PySem.W.Frag} {ι : Lay} {H : Hp} {xs : List A} {vs : List V} {js : List Nat} (r : Rps K ι H xs vs) (h : (pickI xs js).length ≤ big) : (pickI vs js).length ≤ sizeLine := by
  rw [← (r.pick js).length]
  exact big_line h
theorem r_sl3 {X : Cx} {xc : XC} {W : WX} {e st : Expr} {lo hi : Option Expr} {ts : TO} {c : Int} {pos p2 : Pos} {f : En → Cs → R A} {fl fu : En → Cs → R (Option Int)} (hs : PO X (some st) ts) (hc : ∀ σ H Q, Q (some c) H → ts σ H Q) (h0 : c ≠ 0) (h1 : c ≠ 1) (he : PE X e (xD X.K xc W f)) (hl : PO X lo (PartD X xc W fl)) (hu : PO X hi (PartD X xc W fu)) :
    PE X (.Subscript e (.Slice lo hi (some st) p2) pos) (xD X.K xc W (xSl (gSl3 c) f fl fu)) := by
  refine PE.imp (pe_slice3 hc h0 h1 he hl hu hs) fun σ H Q ⟨ι, s, C, cc, r, p⟩ => ?_
  refine Dn.step cc r p fun ι1 H1 C1 v x e1 c1 r1 q1 p1 => ?_
  refine Dn.step c1 r1 p1 fun ι2 H2 C2 l l' e2 c2 r2 q2 p2 => ?_
  refine Dn.step c2 r2 p2 fun ι3 H3 C3 u u' e3 c3 r3 q3 p3 => ?_
  cases q2
  cases q3
  have q9 := (q1.ext e2).ext e3
  unfold gSl3 at p3
  split at p3
  · rename_i xs
    simp only at p3
    split at p3
    · rename_i hz
      obtain ⟨a, vs, rfl, f, q⟩ := q9.tup_inv
      rw [q.length] at p3 hz
      exact .inr (.inl ⟨a, vs, rfl, f.sq, pick_len q hz, mk_tup c3 (q.pick _) p3⟩)
    · exact p3.elim
  · rename_i z
    simp only at p3
    split at p3
    · rename_i hz
      exact .inr (.inr ⟨z, q9.of_str, big_line hz, p3.fin c3 (.str _)⟩)
    · exact p3.elim
  · split at p3
    · rename_i xs hx
      simp only at p3
      split at p3
      · rename_i hz
        obtain ⟨a, vs, rfl, f, q⟩ := lst_of c3 q9 hx
        rw [q.length] at p3 hz
        exact .inl ⟨a, vs, rfl, SqL.of f, pick_len q hz, mk_lst c3 (q.pick _) p3⟩
      · exact p3.elim
    · exact p3.elim
theorem st_neg {X : Cx} {k : Nat} {p1 p2 : Pos} {i : Int} : PO X (some (.UnaryOp .USub (.Constant (.int i) k p1) p2)) (tPart (tUn (rU fun i => .int (-i)) (tC (.int i)))) := po_some (pe_un un_neg pe_int)
theorem st_neg_c {i : Int} : ∀ σ H Q, Q (some (-i)) H → (tPart (tUn (rU fun i => .int (-i)) (tC (.int i)))) σ H Q := fun σ H Q q => ⟨i, rfl, -i, rfl, q⟩
theorem st_pos {X : Cx} {k : Nat} {p1 : Pos} {i : Int} : PO X (some (.Constant (.int i) k p1)) (tPart (tC (.int i))) := po_some pe_int
theorem st_pos_c {i : Int} : ∀ σ H Q, Q (some i) H → (tPart (tC (.int i))) σ H Q := fun σ H Q q => ⟨i, rfl, q⟩
end FM

namespace FM
open PySem PySem.Spec PyProof.Rows L2 RZ
/-! ### ranges with any step -/
def stepto (lo c : Int) (n : Nat) : List A := (List.range n).map fun (i : Nat) => .int (lo + (i : Int) * c)
def RgK (i j c : Int) : Prop := c ≠ 0 ∧ c.natAbs < 1073741824 ∧ Builtin.Range.small i j c = true ∧ 0 ≤ Builtin.Range.rangeSize i j c
instance (i j c : Int) : Decidable (RgK i j c) := by unfold RgK; infer_instance
def itRg3 (fs : En → Cs → R (List A)) : En → Cs → R Wk := fun s C => (fs s C).bind fun vs C1 => match vs with
  | [.int i, .int j, .int k] => if RgK i j k then .ok (stepto i k (Builtin.Range.rangeSize i j k).toNat, fun _ => true) C1 else .bad
  | _ => .bad
theorem isw_step {K : PySem.W.Frag} {xc : XC} {ι : Lay} {H : Hp} {lo c : Int} {n : Nat} : IsW K xc ι H (Itc lo c n) (stepto lo c n, fun _ => true) := by
  refine ⟨_, _, by rw [show (stepto lo c n, fun (_ : Cs) => true).1.length = n by simp [stepto]]; exact walk_rangeC, fun _ _ _ _ _ _ => True.intro, fun ι2 H2 C2 i x H3 e c hck hi y => ?_⟩
  obtain ⟨rfl, rfl⟩ := y
  have hi' : i < n := by simpa [stepto] using hi
  exact ⟨_, by simp [stepto, hi'], Ext.refl _ _, c, .int _⟩
theorem i_rg3 {X : Cx} {xc : XC} {W : WX} {tg : Expr} {pos : Pos} {a b d : Expr} {p : Pos} {fs : En → Cs → R (List A)} (hg : Gl X "range") (hm : X.mg "range" = none) (ha : PA X [a, b, d] (aD X.K xc W fs)) (hs : starEach [a, b, d] X.env = (false, eval a X.env) :: starEach [b, d] X.env := by rfl)
    (hs2 : ((backTo pos (starEach [b, d] X.env)).any fun x => x.1) = false := by rfl) : PI X tg (.Call (.Name "range" p) [a, b, d] [] pos) (iD X.K xc W (itRg3 fs)) := by
  refine PI.imp (pi_range3 hg hm ha hs hs2) fun σ H Q ⟨ι, s, C, c, r, p⟩ => ?_
  refine Dn.step c r p fun ι1 H1 C1 v x e1 c1 r1 q1 p1 => ?_
  split at p1
  · rename_i i j k
    split at p1
    · rename_i hj
      exact ⟨i, j, k, _, q1.int3, ⟨hj.1, hj.2.1, hj.2.2.1, (Int.toNat_of_nonneg hj.2.2.2).symm⟩, p1.fin c1 isw_step⟩
    · exact p1.elim
  · exact p1.elim
end FM

namespace FM
open PySem PySem.Spec PyProof.Rows L2 RZ
def isT : A → Bool
  | .tup _ => true
  | _ => false
def chkS (v : A) (xs : List A) : Cs → Bool := match v with
  | .loc n => holds n xs
  | _ => fun _ => true
theorem seqB_at {K : PySem.W.Frag} {xc : XC} {ι : Lay} {H : Hp} {C : Cs} {v : A} {x : V} {xs : List A} {C0 : Cs} (c : RC K xc ι H C) (r : Rp K ι H v x) (h : seqX v C0 = some xs) (hc : chkS v xs C = true) : ∃ a us, x = .ref a ∧ SqB K (isT v) H a us ∧ Rps K ι H xs us := by
  cases r with
  | lst h1 n q => cases h; exact ⟨_, _, rfl, SqL.of h1, q⟩
  | loc h1 =>
    obtain ⟨vs, q1, q2⟩ := c.at_ _ _ _ (holds_eq hc) h1
    exact ⟨_, vs, rfl, SqL.of q1, q2⟩
  | kl f q => cases h; exact ⟨_, _, rfl, f.sq, q⟩
  | tup f q => cases h; exact ⟨_, _, rfl, f.sq, q⟩
  | _ => cases h
theorem chk_now {v : A} {xs : List A} {C : Cs} (h : seqX v C = some xs) : chkS v xs C = true := by
  cases v <;> first | rfl | (simp only [chkS, holds]; simp only [seqX] at h; rw [h]; exact beqAs_refl _)
def itZipB (fs : En → Cs → R (List A)) : En → Cs → R Wk := fun s C => (fs s C).bind fun vs C1 => match vs with
  | [v, w] => match seqX v C1, seqX w C1 with
    | some xs, some ys => .ok (pairsOf xs ys, fun D => chkS v xs D && chkS w ys D) C1
    | _, _ => .bad
  | _ => .bad
theorem i_zipB {X : Cx} {xc : XC} {W : WX} {pos : Pos} {e e2 : Expr} {fs : En → Cs → R (List A)} {p tpos : Pos} {elts : List Expr} {kk : Nat} (hg : Gl X "zip") (hm : X.mg "zip" = none) (ha : PA X [e, e2] (aD X.K xc W fs))
    (hs : starEach [e, e2] X.env = (false, eval e X.env) :: starEach [e2] X.env := by rfl) (hpl : (backTo pos (starEach [e2] X.env)).any (·.1) = false := by rfl) :
    PI X (.Tuple elts kk tpos) (.Call (.Name "zip" p) [e, e2] [] pos) (iD X.K xc W (itZipB fs)) := by
  refine PI.imp (pi_zipB hg hm ha hs hpl) fun σ H Q ⟨ι, s, C, c, r, p⟩ => ?_
  refine Dn.step c r p fun ι1 H1 C1 v x e1 c1 r1 q1 p1 => ?_
  split at p1
  · rename_i v w
    split at p1
    · rename_i xs ys hx hy
      obtain ⟨u, u2, rfl, h1, h2⟩ := q1.two
      obtain ⟨a, us, rfl, s1, t1⟩ := seqB_at c1 h1 hx (chk_now hx)
      obtain ⟨b, ws, rfl, s2, t2⟩ := seqB_at c1 h2 hy (chk_now hy)
      refine ⟨isT v, isT w, a, b, us, ws, rfl, s1, s2, p1.fin c1 ?_⟩
      refine ⟨fun H2 => ∃ us vs, SqB X.K (isT v) H2 a us ∧ us.length = xs.length ∧ SqB X.K (isT w) H2 b vs ∧ vs.length = ys.length, (ItzB X.K (isT v) (isT w) a b).yld, ⟨fun i H2 hi ⟨us, vs, g1, g2, g3, g4⟩ => ?_, fun H2 ⟨us, vs, g1, g2, g3, g4⟩ => ?_, fun i H2 x H3 hi _ y => y⟩, fun ι2 H2 C2 e c2 hc => ?_, fun ι2 H2 C2 i x H3 e c2 hc hi y => ?_⟩
      · exact ⟨us, vs, g1, g3, by rw [g2, g4, ← pairs_len]; exact hi⟩
      · exact ⟨us, vs, g1, g3, by rw [g2, g4]; exact pairs_len xs ys⟩
      · rw [Bool.and_eq_true] at hc
        obtain ⟨a', us', ea, k1, k2⟩ := seqB_at c2 (h1.mv e) hx hc.1
        obtain ⟨b', ws', eb, k3, k4⟩ := seqB_at c2 (h2.mv e) hy hc.2
        cases ea; cases eb
        exact ⟨us', ws', k1, k2.length.symm, k3, k4.length.symm⟩
      · rw [Bool.and_eq_true] at hc
        obtain ⟨a', us', ea, k1, k2⟩ := seqB_at c2 (h1.mv e) hx hc.1
        obtain ⟨b', ws', eb, k3, k4⟩ := seqB_at c2 (h2.mv e) hy hc.2
        cases ea; cases eb
        obtain ⟨T, m, n, o, rfl, hT, d, rfl, y1, y2⟩ := y
        obtain ⟨x1, hx1, rx⟩ := k2.get' (y1 _ k1)
        obtain ⟨z1, hz1, rz⟩ := k4.get' (y2 _ k3)
        obtain ⟨l1, l2, l3⟩ := pair_new c2 hT d rx rz
        exact ⟨_, pairs_get hx1 hz1, l1, l2, l3⟩
    · exact p1.elim
  · exact p1.elim
/-! ### enumerate of a list, a tuple -/
def itEn (fs : En → Cs → R (List A)) : En → Cs → R Wk := fun s C => (fs s C).bind fun vs C1 => match vs with
  | [v] => match seqX v C1 with
    | some xs => .ok (numbered xs, chkS v xs) C1
    | none => .bad
  | _ => .bad
theorem i_enum {X : Cx} {xc : XC} {W : WX} {pos : Pos} {e : Expr} {fs : En → Cs → R (List A)} {p tpos : Pos} {elts : List Expr} {kk : Nat} (hg : Gl X "enumerate") (hm : X.mg "enumerate" = none) (ha : PA X [e] (aD X.K xc W fs)) (hs : starEach [e] X.env = [(false, eval e X.env)] := by rfl) :
    PI X (.Tuple elts kk tpos) (.Call (.Name "enumerate" p) [e] [] pos) (iD X.K xc W (itEn fs)) := by
  refine PI.imp (pi_enumB hg hm ha hs) fun σ H Q ⟨ι, s, C, c, r, p⟩ => ?_
  refine Dn.step c r p fun ι1 H1 C1 v x e1 c1 r1 q1 p1 => ?_
  split at p1
  · rename_i v
    split at p1
    · rename_i xs hx
      obtain ⟨u, rfl, h1⟩ := q1.one
      obtain ⟨a, us, rfl, s1, t1⟩ := seqB_at c1 h1 hx (chk_now hx)
      refine ⟨isT v, a, us, rfl, s1, p1.fin c1 ?_⟩
      refine ⟨fun H2 => ∃ us, SqB X.K (isT v) H2 a us ∧ us.length = xs.length, (ItnB X.K (isT v) a).yld, ⟨fun i H2 hi ⟨us, g1, g2⟩ => ?_, fun H2 ⟨us, g1, g2⟩ => ?_, fun i H2 x H3 hi _ y => y⟩, fun ι2 H2 C2 e c2 hc => ?_, fun ι2 H2 C2 i x H3 e c2 hc hi y => ?_⟩
      · exact ⟨us, g1, by rw [g2, ← numbered_len]; exact hi⟩
      · exact ⟨us, g1, by rw [g2]; exact numbered_len xs⟩
      · obtain ⟨a', us', ea, k1, k2⟩ := seqB_at c2 (h1.mv e) hx hc
        cases ea
        exact ⟨us', k1, k2.length.symm⟩
      · obtain ⟨a', us', ea, k1, k2⟩ := seqB_at c2 (h1.mv e) hx hc
        cases ea
        obtain ⟨T, m, o, rfl, hT, d, rfl, y1⟩ := y
        obtain ⟨x1, hx1, rx⟩ := k2.get' (y1 _ k1)
        obtain ⟨l1, l2, l3⟩ := pair_new c2 hT d (.int (i : Nat)) rx
        exact ⟨_, numbered_get hx1, l1, l2, l3⟩
    · exact p1.elim
  · exact p1.elim
end FM

/-! sorted(list of tuples of ints), the first of them empty or none of them -/
namespace SrtT
open PySem PySem.W PyProof.Rows SrtO PySem.Calls
open Sem (wp)
def TI (h : Heap) (v : Value) (ns : List Int) : Prop := ∃ a items, v = .ref a ∧ h.IsTuple a items ∧ IntsAre items.toList ns
theorem TI.keeps {h h' : Heap} {v : Value} {ns : List Int} (x : TI h v ns) (k : ∀ b o, h.get? b = some o → o.cls = .type "tuple" → h'.get? b = some o) : TI h' v ns := by
  obtain ⟨a, items, e, ⟨o, ho, hc, n, hd⟩, ia⟩ := x
  exact ⟨a, items, e, ⟨o, k a o ho hc, hc, n, hd⟩, ia⟩
section
variable {prog : Program} {w : World} {A : Around} {E : Value → Shared → Prop} {s : Shared}
theorem lt_one {v u : Value} {ns ms : List Int} {Q : Bool → Shared → Prop} (hu : A.units < cLine) (hv : TI s.heap v ns) (hw : TI s.heap u ms) (h : Q (HT.lexLt ns ms) s) : wpAny (model prog w) A (keyLt' oneType' v u) Q E s := by
  obtain ⟨a, items, rfl, ⟨⟨cls, dd, data, sl⟩, ho, hc, n, hd⟩, ia⟩ := hv
  obtain ⟨b, items2, rfl, ⟨⟨cls2, dd2, data2, sl2⟩, ho2, hc2, n2, hd2⟩, ib⟩ := hw
  simp only at hc hd hc2 hd2
  subst hc hd hc2 hd2
  rw [keyLt'_oneType, oneLt'_eq]
  simp only [if_true]
  refine wpAny_bind (wpAny_cRoomFor hu ?_)
  refine wpAny_bind (wpAny_callSpecialIfBound?_slot ⟨_, ho, rfl⟩ F.slot_tuple_lt (call_meets F.slot_tuple_lt ⟨_, ho, rfl⟩ F.entry_tuple_lt (F.args_tuple_lt_2 _ _) (NtL.nt_lt_ints a b _ _ items items2 n n2 dd dd2 sl sl2 ns ms ia ib) ⟨ho, ho2, fun M => ((Looks.ld ho2).andThen .now).andThen (Looks.of_pure isSubtype_tuple_tuple), ?_⟩))
  exact wpAny_truthy_bool h
theorem lex_kat {fin : Bool} {Q : Bool → Shared → Prop} : ∀ {vs ws : List Value} {ns ms : List Int} (i : Nat), IntsAre vs ns → IntsAre ws ms → decide (ns.length < ms.length) = fin → Q (HT.lexLt ns ms) s → KatLex prog w A true fin Q (vs.zip ws) i s
  | _, _, _, _, i, .nil, .nil, hf, h => by
    subst hf
    exact kat_nil h
  | _, _, _, _, i, .nil, .cons _ _ _, hf, h => by
    subst hf
    rw [List.zip_nil_left]
    refine kat_nil ?_
    rw [show decide (([] : List Int).length < (_ :: _ : List Int).length) = true from decide_eq_true (by simp)]
    exact h
  | _, _, _, _, i, .cons _ _ _, .nil, hf, h => by
    subst hf
    rw [List.zip_nil_right]
    refine kat_nil ?_
    rw [show decide ((_ :: _ : List Int).length < ([] : List Int).length) = false from decide_eq_false (by simp)]
    exact h
  | _, _, _, _, i, .cons (vs := vs) (ns := ns) x t ha, .cons (vs := ws) (ns := ms) y u hb, hf, h => by
    rw [List.zip_cons_cons]
    rw [HT.lexLt_cons] at h
    refine kat_cons (SeqAt.EqAt.int_int x t y u prog w _ _ ?_)
    refine kat_go (fun e1 => ?_) (fun e1 => ?_)
    · have ex : x = y := by simpa using e1
      rw [if_pos ex] at h
      exact kat_yes (lex_kat (i + 1) ha hb (by rw [← hf]; simp) h)
    · have ex : ¬ x = y := by simpa using e1
      rw [if_neg ex] at h
      cases i with
      | zero => exact kat_no (oneLt_int h)
      | succ i => exact kat_no (kat_one _ _ (PyProof.Rows.lt_int h))
theorem lt_tup {v u : Value} {ns ms : List Int} {Q : Bool → Shared → Prop} (hv : TI s.heap v ns) (hw : TI s.heap u ms) (h : Q (HT.lexLt ns ms) s) : wpAny (model prog w) A (keyLt' (tuples' true) v u) Q (fun _ _ => False) s := by
  obtain ⟨a, items, rfl, ⟨o, ho, hc, n, hd⟩, ia⟩ := hv
  obtain ⟨b, items2, rfl, ⟨o2, ho2, hc2, n2, hd2⟩, ib⟩ := hw
  refine kat_lt ho hd ho2 hd2 ?_
  refine lex_kat 0 ia ib ?_ h
  rw [← ia.length, ← ib.length, Array.length_toList, Array.length_toList]
inductive KO (h : Heap) : List Value → List (Option Value) → Prop
  | nil : KO h [] []
  | cons {a : Addr} {items : Array Value} {vs : List Value} {os : List (Option Value)} : ∀ {f : Option Value}, h.IsTuple a items → items[0]? = f → KO h vs os → KO h (.ref a :: vs) (f :: os)
end
section
variable {M : Model} {A : Around} {E : Value → Shared → Prop} {s : Shared}
theorem firstsO : ∀ {vs : List Value} {os : List (Option Value)} {Q : List (Option Value) → Shared → Prop}, KO s.heap vs os → Q os s → wpAny M A (vs.mapM firstOfTuple') Q E s
  | _, _, _, .nil, h => by rw [List.mapM_nil]; exact wpAny_pure h
  | _, _, Q, .cons (vs := vs) (os := os) (items := items) ⟨o, ho, hc, n, hd⟩ rfl t, h => by
    rw [List.mapM_cons]
    refine wpAny_bind ?_
    rw [kas_first_eq]
    refine wpAny_bind (Looks.here (show Looks M s.heap (typeOf (.ref _)) o.cls from (Looks.ld ho).andThen .now) ?_)
    rw [hc, if_neg (by first | decide | simp)]
    refine wpAny_bind (listItems_at ho hd (wpAny_pure ?_))
    exact wpAny_bind (firstsO (Q := fun bs s' => wpAny M A (pure (items[0]? :: bs)) Q E s') t (wpAny_pure h))
theorem kind_one {vs : List Value} {os : List (Option Value)} {Q : SortKind → Shared → Prop} (t : KO s.heap vs (none :: os)) (h : Q oneType' s) : wpAny M A (keyKind' vs.toArray) Q E s := by
  have hT : ∀ {vs os}, KO s.heap vs os → ∀ v ∈ vs, Looks M s.heap (typeOf v) (.type "tuple") := by
    intro vs os k
    induction k with
    | nil => intro v hv; exact absurd hv (by simp)
    | cons g _ _ ih =>
      intro v hv
      rcases List.mem_cons.mp hv with rfl | hv
      · obtain ⟨⟨cls, dd, data, sl⟩, ho, hc, _⟩ := g
        simp only at hc
        subst hc
        exact (Looks.ld ho).andThen .now
      · exact ih v hv
  have hT' := hT t
  rw [keyKind'_eq, List.mapM_toArray, map_eq_pure_bind]
  refine wpAny_bind (wpAny_bind (firstsO t (wpAny_pure ?_)))
  rw [if_neg (by simp), if_neg (by simp)]
  rw [oneTypeOnly'_eq, List.mapM_toArray, map_eq_pure_bind]
  refine wpAny_bind (wpAny_bind (wpAny_bind (kas_mapM (r := Value.type "tuple") _ (fun v hv Q' hq => (hT' v hv).here hq) (wpAny_pure ?_))))
  obtain ⟨v₁, rest, rfl⟩ : ∃ v₁ rest, vs = v₁ :: rest := by
    cases t with
    | cons g _ k => exact ⟨_, _, rfl⟩
  have hall : ((List.map (fun _ => Value.type "tuple") (v₁ :: rest)).toArray.all fun x => x == Value.type "tuple") = true := by
    simp only [List.all_toArray, List.all_map, List.all_eq_true]
    intro _ _
    exact beq_self_eq_true _
  have h0 : (List.map (fun _ => Value.type "tuple") (v₁ :: rest)).toArray[0]? = some (Value.type "tuple") := by simp
  rw [h0]
  simp only [hall, if_true]
  exact wpAny_pure (wpAny_pure h)
end
section
variable {prog : Program} {w : World} {A : Around} {E : Value → Shared → Prop} {s : Shared}
/-- none is empty, or the first is -/
def Headed (k : Value → List Int) (vs : List Value) : Prop := (∀ v ∈ vs, k v ≠ []) ∨ ∃ v r, vs = v :: r ∧ k v = []
theorem katTups {h : Heap} {k : Value → List Int} : ∀ {vs : List Value}, (∀ v ∈ vs, TI h v (k v)) → (∀ v ∈ vs, k v ≠ []) → ∃ fs, KatTups h vs fs ∧ fs.length = vs.length ∧ ∀ f ∈ fs, ∃ i t, f = .int i t
  | [], _, _ => ⟨[], .nil, rfl, fun f hf => absurd hf (by simp)⟩
  | v :: vs, h1, h2 => by
    obtain ⟨fs, g1, g2, g3⟩ := katTups (fun v hv => h1 v (List.mem_cons_of_mem _ hv)) (fun v hv => h2 v (List.mem_cons_of_mem _ hv))
    obtain ⟨a, items, rfl, ⟨o, ho, hc, n, hd⟩, ia⟩ := h1 v List.mem_cons_self
    have ne := h2 (.ref a) List.mem_cons_self
    generalize k (.ref a) = ns at ia ne
    rcases items with ⟨l⟩
    cases ia with
    | nil => exact absurd rfl ne
    | cons x t hr => exact ⟨.int x t :: fs, .cons ho hc hd rfl g1, by simp [g2], fun f hf => by
        rcases List.mem_cons.mp hf with e | hf
        · exact ⟨x, t, e⟩
        · exact g3 f hf⟩
theorem koOf {h : Heap} {k : Value → List Int} : ∀ {vs : List Value}, (∀ v ∈ vs, TI h v (k v)) → ∃ os, KO h vs os
  | [], _ => ⟨[], .nil⟩
  | v :: vs, h1 => by
    obtain ⟨os, g⟩ := koOf (fun v hv => h1 v (List.mem_cons_of_mem _ hv))
    obtain ⟨a, items, rfl, it, ia⟩ := h1 v List.mem_cons_self
    exact ⟨_, .cons it rfl g⟩
theorem sortable {a : Addr} {vs : List Value} {k : Value → List Int} (hu : A.units < cLine) (h0 : 0 < vs.length) (hp : ∀ v ∈ vs, TI s.heap v (k v)) (hh : Headed k vs) (ha : ∀ o, s.heap.get? a = some o → o.cls ≠ .type "tuple") : SortableO prog w A s a vs fun v u => HT.lexLt (k v) (k u) := by
  intro h' keep
  have hp' : ∀ v ∈ vs, TI h' v (k v) := fun v hm => (hp v hm).keeps fun b o e c => keep b o (fun z => by subst z; exact ha o e c) e
  rcases hh with hh | ⟨v, r, rfl, hv⟩
  · obtain ⟨fs, g1, g2, g3⟩ := katTups hp' hh
    refine ⟨tuples' true, fun Q E hq => ?_, fun p q m1 m2 => lt_tup (hp' _ m1) (hp' _ m2) ⟨rfl, rfl⟩⟩
    refine kat_kind (T := .type "int") g1 (by omega) (fun f hm => ?_) (by rfl) ?_
    · obtain ⟨x, t, rfl⟩ := g3 f hm
      exact PySem.W.Looks.now
    · have e : (Value.type "int" != Value.type "tuple") = true := by first | decide +kernel | rfl | decide
      rw [e]
      exact hq
  · refine ⟨oneType', fun Q E hq => ?_, fun p q m1 m2 => lt_one hu (hp' _ m1) (hp' _ m2) ⟨rfl, rfl⟩⟩
    obtain ⟨os, g⟩ := koOf (fun v hv => hp' v (List.mem_cons_of_mem _ hv))
    obtain ⟨a, items, rfl, it, ia⟩ := hp' v List.mem_cons_self
    rw [hv] at ia
    rcases items with ⟨l⟩
    have e : l = [] := by cases ia; rfl
    subst e
    exact kind_one (s := { s with heap := h' }) (os := os) (KO.cons (items := ⟨[]⟩) it rfl g) hq
theorem sorted_tis {l : Addr} {vs : List Value} {k : Value → List Int} {Q : Value → Shared → Prop} (hu : A.units + 8 < cLine) (hl : s.heap.IsList l vs.toArray) (hz : vs.length ≤ sizeLine) (hp : ∀ v ∈ vs, TI s.heap v (k v)) (hh : Headed k vs)
    (h : ∀ (h' : Heap) (d : Addr) (out : List Value), Srtd (fun v u => HT.lexLt (k v) (k u)) out → Stb (fun v u => HT.lexLt (k v) (k u)) out vs → (∀ b o, s.heap.get? b = some o → h'.get? b = some o) → s.heap.objs.size ≤ d → (∃ n, h'.get? d = some (seqObj "list" out.toArray n)) → Q (.ref d) { s with heap := h' }) :
    wpAny (model prog w) A (call (.builtin "sorted") [.ref l]) Q E s := by
  refine sorted_ord (NtL.swo_lexL k) hl hz (fun h2 h₁ a ha kk => ?_) fun out hs hb => ?_
  · refine sortable (s := { s with heap := h₁ }) (by first | exact Nat.lt_of_le_of_lt (Nat.le_add_right _ _) hu | (show A.units + 1 + 1 < cLine; omega) | (show A.units + 2 < cLine; omega)) (by omega) (fun v hm => (hp v hm).keeps fun b o e _ => (kk b o e).2) hh fun o e => ?_
    have e' : some o = some (seqObj "list" vs.toArray 0) := e.symm.trans ha
    cases e'
    intro c
    exact absurd (Value.type.inj c) (by decide)
  · exact h _ _ out hs hb (fun b o e => sortedAll_old e) (Nat.le_succ _) (sortedAll_at s.heap vs out.toArray)
end
end SrtT

namespace FM
open PySem PySem.Spec PyProof.Rows L2 RZ
/-- sorted by hand: the kernel computes it -/
def insB {α : Type} (lt : α → α → Bool) (x : α) : List α → List α
  | [] => [x]
  | y :: r => if lt y x = true then y :: insB lt x r else x :: y :: r
def srtB {α : Type} (lt : α → α → Bool) : List α → List α
  | [] => []
  | x :: r => insB lt x (srtB lt r)
theorem insB_perm {α : Type} (lt : α → α → Bool) (x : α) : ∀ l : List α, (insB lt x l).Perm (x :: l)
  | [] => List.Perm.refl _
  | y :: r => by
    unfold insB
    split
    · exact ((insB_perm lt x r).cons y).trans (List.Perm.swap x y r)
    · exact List.Perm.refl _
theorem srtB_perm {α : Type} (lt : α → α → Bool) : ∀ l : List α, (srtB lt l).Perm l
  | [] => List.Perm.refl _
  | x :: r => (insB_perm lt x _).trans ((srtB_perm lt r).cons x)
theorem insB_srtd {α : Type} {lt : α → α → Bool} (O : SrtO.Swo lt) (x : α) : ∀ {l : List α}, SrtO.Srtd lt l → SrtO.Srtd lt (insB lt x l)
  | [], _ => List.pairwise_singleton _ _
  | y :: r, h => by
    obtain ⟨h1, h2⟩ := List.pairwise_cons.mp h
    unfold insB
    split
    · rename_i c
      refine List.pairwise_cons.mpr ⟨fun z hz => ?_, insB_srtd O x h2⟩
      rcases List.mem_cons.mp ((insB_perm lt x r).mem_iff.mp hz) with e | hz
      · rw [e]; exact O.asym _ _ c
      · exact h1 z hz
    · rename_i c
      have c' : lt y x = false := by cases e : lt y x with | true => exact absurd e c | false => rfl
      refine List.pairwise_cons.mpr ⟨fun z hz => ?_, h⟩
      rcases List.mem_cons.mp hz with e | hz
      · rw [e]; exact c'
      · exact O.tr _ _ _ c' (h1 z hz)
theorem srtB_srtd {α : Type} {lt : α → α → Bool} (O : SrtO.Swo lt) : ∀ l : List α, SrtO.Srtd lt (srtB lt l)
  | [] => List.Pairwise.nil
  | x :: r => insB_srtd O x (srtB_srtd O r)
theorem srtB_is {α : Type} {lt : α → α → Bool} (O : SrtO.Swo lt) (anti : ∀ a b, lt a b = false → lt b a = false → a = b) {l m : List α} (h1 : m.Perm l) (h2 : SrtO.Srtd lt m) : m = srtB lt l :=
  List.Perm.eq_of_pairwise (le := fun a b => lt b a = false) (fun a b _ _ h1 h2 => anti _ _ h2 h1) h2 (srtB_srtd O l) (h1.trans (srtB_perm lt l).symm)
def sortL (l : List (List Int)) : List (List Int) := srtB HT.lexLt l
inductive TIs (K : PySem.W.Frag) (H : Hp) : List V → List (List Int) → Prop
  | nil : TIs K H [] []
  | cons {t : Addr} {ns : List Int} {xs : List V} {nss : List (List Int)} : SqT K H t (ns.map V.int) → TIs K H xs nss → TIs K H (.ref t :: xs) (ns :: nss)
def headed : List (List Int) → Bool
  | [] => true
  | ns :: l => ns.isEmpty || (ns :: l).all (fun ns => !ns.isEmpty)
theorem lex_antisymm : ∀ {a b : List Int}, HT.lexLt a b = false → HT.lexLt b a = false → a = b
  | [], [], _, _ => rfl
  | [], y :: ys, h, _ => by rw [HT.lexLt_nil_cons] at h; cases h
  | x :: xs, [], _, h => by rw [HT.lexLt_nil_cons] at h; cases h
  | x :: xs, y :: ys, h1, h2 => by
    rw [HT.lexLt_cons] at h1 h2
    by_cases e : x = y
    · subst e
      rw [if_pos rfl] at h1 h2
      rw [lex_antisymm h1 h2]
    · rw [if_neg e] at h1
      rw [if_neg (Ne.symm e)] at h2
      have := of_decide_eq_false h1
      have := of_decide_eq_false h2
      omega
theorem lex_swo : SrtO.Swo HT.lexLt := ⟨NtL.lex_asym, NtL.lex_tr⟩
theorem sortL_is {l m : List (List Int)} (h1 : m.Perm l) (h2 : m.Pairwise (fun a b => HT.lexLt b a = false)) : m = sortL l := srtB_is lex_swo (fun _ _ a b => lex_antisymm a b) h1 h2
theorem sortL_perm (l : List (List Int)) : (sortL l).Perm l := srtB_perm _ l
def rSortT2 (K : PySem.W.Frag) : List V → Hp → VK → Prop := fun vs H Q => ∃ a xs nss, vs = [V.ref a] ∧ SqL K H a xs ∧ TIs K H xs nss ∧ headed nss = true ∧
  ∀ (ps : List (V × List Int)) p, ps.Perm (xs.zip nss) → ps.map (·.2) = sortL nss → H p = none → Q (.ref p) (upd H p (.lst (ps.map (·.1))))
theorem TIs.mem {K : PySem.W.Frag} {H : Hp} : ∀ {xs : List V} {nss : List (List Int)}, TIs K H xs nss → ∀ x ∈ xs, ∃ (t : Addr) (ns : List Int), x = V.ref t ∧ SqT K H t (ns.map V.int)
  | _, _, .nil, x, hx => absurd hx (by simp)
  | _, _, .cons h r, x, hx => by
    rcases List.mem_cons.mp hx with e | hx
    · exact ⟨_, _, e, h⟩
    · exact r.mem x hx
theorem TIs.keys {K : PySem.W.Frag} {H : Hp} {k : V → List Int} (kk : ∀ (t : Addr) (ns : List Int), SqT K H t (ns.map V.int) → k (.ref t) = ns) : ∀ {xs : List V} {nss : List (List Int)}, TIs K H xs nss → nss = xs.map k
  | _, _, .nil => rfl
  | _, _, .cons h r => by rw [List.map_cons, kk _ _ h, ← r.keys kk]
theorem map_int_inj : ∀ {a b : List Int}, a.map V.int = b.map V.int → a = b
  | [], [], _ => rfl
  | [], _ :: _, h => by cases h
  | _ :: _, [], h => by cases h
  | x :: a, y :: b, h => by
    rw [List.map_cons, List.map_cons] at h
    injection h with h1 h2
    injection h1 with h1
    rw [h1, map_int_inj h2]
theorem zip_map {α β : Type} (k : α → β) : ∀ l : List α, l.zip (l.map k) = l.map fun x => (x, k x)
  | [] => rfl
  | x :: l => by rw [List.map_cons, List.zip_cons_cons, zip_map k l, List.map_cons]
theorem cr_sortT2 {X : Cx} (hu : X.A.units + 64 < cLine) : CallR X (.builtin "sorted") (rSortT2 X.K) := by
  classical
  intro pins s σ H vs us Q I r h
  obtain ⟨a, xs, nss, rfl, hs, ht, hh, q⟩ := h
  obtain ⟨its, rv, hl, hz⟩ := I.list hs
  obtain ⟨u, rfl, ru⟩ := vals1 r
  obtain rfl : u = Value.ref a := ru
  obtain ⟨e1, e2⟩ := refs_back rv fun x m => by
    obtain ⟨t, ns, e, _⟩ := ht.mem x m
    exact ⟨t, e⟩
  obtain ⟨k, kk⟩ : ∃ k : V → List Int, ∀ (t : Addr) (ns : List Int), SqT X.K H t (ns.map V.int) → k (.ref t) = ns := by
    refine ⟨fun x => if h : ∃ (ns : List Int) (t : Addr), x = V.ref t ∧ SqT X.K H t (ns.map V.int) then Classical.choose h else [], fun t ns h => ?_⟩
    have ex : ∃ (ns : List Int) (t' : Addr), V.ref t = V.ref t' ∧ SqT X.K H t' (ns.map V.int) := ⟨ns, t, rfl, h⟩
    show (if h : ∃ (ns : List Int) (t' : Addr), V.ref t = V.ref t' ∧ SqT X.K H t' (ns.map V.int) then Classical.choose h else []) = ns
    rw [dif_pos ex]
    obtain ⟨t', e, g⟩ := Classical.choose_spec ex
    cases e
    exact map_int_inj (I.tuple_inj g h)
  have ek : nss = xs.map k := ht.keys kk
  have hp : ∀ v ∈ its, SrtT.TI s.heap v (k (backV v)) := fun v hv => by
    obtain ⟨t, rfl⟩ := e2 v hv
    have hm : V.ref t ∈ xs := by rw [e1]; exact List.mem_map.mpr ⟨_, hv, rfl⟩
    obtain ⟨t', ns, e, g⟩ := ht.mem _ hm
    cases e
    show SrtT.TI s.heap (.ref t) (k (.ref t))
    rw [kk t ns g]
    obtain ⟨its2, r2, hT, _⟩ := I.tuple g
    exact ⟨t, _, rfl, hT, r2.ints⟩
  have hH : SrtT.Headed (fun u => k (backV u)) its := by
    have em : nss = its.map fun u => k (backV u) := by rw [ek, e1, List.map_map]; rfl
    cases its with
    | nil => exact .inl fun v hv => absurd hv (by simp)
    | cons v r =>
      rw [em] at hh
      rw [List.map_cons] at hh
      have hh : ((k (backV v)).isEmpty || (k (backV v) :: r.map fun u => k (backV u)).all (fun ns => !ns.isEmpty)) = true := hh
      rw [Bool.or_eq_true] at hh
      rcases hh with hh | hh
      · exact .inr ⟨v, r, rfl, List.isEmpty_iff.mp hh⟩
      · refine .inl fun w hw e => ?_
        have e : k (backV w) = [] := e
        have := List.all_eq_true.mp hh (k (backV w)) (by
          rcases List.mem_cons.mp hw with rfl | hw
          · exact List.mem_cons_self
          · exact List.mem_cons_of_mem _ (List.mem_map.mpr ⟨w, hw, rfl⟩))
        rw [e] at this
        cases this
  refine SrtT.sorted_tis (k := fun u => k (backV u)) (by omega) hl.isList (by rw [← rv.length]; exact hz) hp hH fun h' d out h1 h2 kp hd hn => ?_
  have h3 : ∀ u ∈ out, ∃ a, u = Value.ref a := fun u hu => e2 u (h2.perm.mem_iff.mp hu)
  obtain ⟨n, hn⟩ := hn
  have hperm : (out.map backV).Perm xs := by rw [e1]; exact h2.perm.map _
  have z := q ((out.map backV).map fun x => (x, k x)) d (by
      rw [ek, zip_map]
      exact hperm.map _) (by
      rw [List.map_map]
      refine sortL_is ?_ ?_
      · rw [ek]; exact hperm.map _
      · rw [List.map_map]
        exact List.pairwise_map.mpr h1) (I.hok.fresh hd)
  rw [List.map_map] at z
  have ee : (out.map backV).map (Prod.fst ∘ fun x => (x, k x)) = out.map backV := by
    rw [show (Prod.fst ∘ fun x : V => (x, k x)) = id from rfl, List.map_id]
  have z' : Q (.ref d) (upd H d (.lst (out.map backV))) := by
    have := z
    rw [show ((fun x : V × List Int => x.1) ∘ fun x : V => (x, k x)) = id from rfl, List.map_id] at this
    exact this
  exact ⟨.ref d, upd H d (.lst (out.map backV)), I.laid (t' := s.toks) kp hd ⟨by rw [hperm.length_eq]; exact hz, out, n, vals_back h3, hn⟩, rfl, z'⟩
/-! ### over the values of the layer -/
def tupsOf : List A → Option (List (List Int))
  | [] => some []
  | .tup xs :: r => match intsOf xs, tupsOf r with
    | some ns, some l => some (ns :: l)
    | _, _ => none
  | _ => none
def kSortT : List A → Cs → R A := fun vs C => match vs with
  | [v] => match (seqL v C).bind tupsOf with
    | some nss => if headed nss = true then .ok (.lst ((sortL nss).map fun ns => .tup (ns.map A.int))) C else .bad
    | none => .bad
  | _ => .bad
theorem tups_of {K : PySem.W.Frag} {ι : Lay} {H : Hp} : ∀ {xs : List A} {vs : List V} {nss : List (List Int)}, Rps K ι H xs vs → tupsOf xs = some nss → TIs K H vs nss ∧ ∀ p ∈ vs.zip nss, Rp K ι H (.tup (p.2.map A.int)) p.1
  | _, _, _, .nil, h => by cases h; exact ⟨.nil, fun p hp => absurd hp (by simp)⟩
  | _, _, nss, .cons (x := x) (xs := xs) r t, h => by
    cases x with
    | tup ys =>
      rw [tupsOf] at h
      split at h
      · rename_i ns l h1 h2
        cases h
        obtain ⟨g1, g2⟩ := tups_of t h2
        obtain ⟨a, us, rfl, f, q⟩ := r.tup_inv
        have e := ints_of q h1
        subst e
        refine ⟨.cons f.sq g1, fun p hp => ?_⟩
        rw [List.zip_cons_cons] at hp
        rcases List.mem_cons.mp hp with rfl | hp
        · exact .tup f (rps_ints _)
        · exact g2 p hp
      · cases h
    | _ => cases h
theorem rps_of {K : PySem.W.Frag} {ι : Lay} {H : Hp} : ∀ {ps : List (V × List Int)}, (∀ p ∈ ps, Rp K ι H (.tup (p.2.map A.int)) p.1) → Rps K ι H ((ps.map (·.2)).map fun ns => .tup (ns.map A.int)) (ps.map (·.1))
  | [], _ => .nil
  | p :: ps, h => .cons (h p List.mem_cons_self) (rps_of fun x hx => h x (List.mem_cons_of_mem _ hx))
theorem ad_sortT {K : PySem.W.Frag} {xc : XC} : AdqN K xc kSortT (rSortT2 K) := by
  intro W ι H σ C vs xs Q c r p
  unfold kSortT at p
  split at p
  · split at p
    · rename_i v nss h
      split at p
      · rename_i hh
        obtain ⟨u, rfl, r1⟩ := r.one
        obtain ⟨ys, h1, h2⟩ := Option.bind_eq_some_iff.mp h
        obtain ⟨a, us, rfl, sq, q⟩ := seqL_of c r1 h1
        obtain ⟨t1, t2⟩ := tups_of q h2
        refine ⟨a, us, nss, rfl, sq, t1, hh, fun ps l hp hs hl => ?_⟩
        rw [← hs] at p
        exact mk_lst c (rps_of fun x hx => t2 x (hp.mem_iff.mp hx)) p l hl
      · exact p.elim
    · exact p.elim
  · exact p.elim
/-! texts -/
theorem ltCps_lex : ∀ a b : List Nat, PySem.Spec.ltCps a b = HT.lexLt (a.map fun (n : Nat) => (n : Int)) (b.map fun (n : Nat) => (n : Int))
  | [], [] => rfl
  | [], _ :: _ => rfl
  | _ :: _, [] => rfl
  | x :: a, y :: b => by
    rw [List.map_cons, List.map_cons, HT.lexLt_cons, ← ltCps_lex a b]
    show (decide (x < y) || (x == y && PySem.Spec.ltCps a b)) = _
    by_cases e : x = y
    · subst e; simp
    · have e2 : ¬ ((x : Int) = (y : Int)) := by omega
      have e3 : (x == y) = false := by simpa using e
      rw [if_neg e2, e3]
      by_cases l : x < y
      · have : (x : Int) < (y : Int) := by omega
        simp [l, this]
      · have : ¬ (x : Int) < (y : Int) := by omega
        simp [l, this]
def ltS (a b : Str) : Bool := PySem.Spec.ltCps a.cps.toList b.cps.toList
theorem ltS_swo : SrtO.Swo ltS := ⟨fun x y h => by
    unfold ltS at h ⊢; rw [ltCps_lex] at h ⊢; exact NtL.lex_asym _ _ h, fun x y z h1 h2 => by
    unfold ltS at h1 h2 ⊢; rw [ltCps_lex] at h1 h2 ⊢; exact NtL.lex_tr _ _ _ h1 h2⟩
theorem nat_map_inj : ∀ {a b : List Nat}, (a.map fun (n : Nat) => (n : Int)) = (b.map fun (n : Nat) => (n : Int)) → a = b
  | [], [], _ => rfl
  | [], _ :: _, h => by cases h
  | _ :: _, [], h => by cases h
  | x :: a, y :: b, h => by
    rw [List.map_cons, List.map_cons] at h
    injection h with h1 h2
    rw [nat_map_inj h2, show x = y by omega]
theorem ltS_anti {a b : Str} (h1 : ltS a b = false) (h2 : ltS b a = false) : a = b := by
  unfold ltS at h1 h2
  rw [ltCps_lex] at h1 h2
  have := nat_map_inj (lex_antisymm h1 h2)
  cases a with | mk x => cases b with | mk y =>
    have e : x = y := Array.toList_inj.mp this
    rw [e]
theorem sorted_pw : ∀ {l : List Str}, sortedS l = true → SrtO.Srtd ltS l
  | [], _ => List.Pairwise.nil
  | [x], _ => List.pairwise_singleton _ _
  | x :: y :: r, h => by
    have h' : (!PySem.Spec.ltCps y.cps.toList x.cps.toList && risingS y r) = true := h
    rw [Bool.and_eq_true, Bool.not_eq_true'] at h'
    have ih : SrtO.Srtd ltS (y :: r) := sorted_pw (l := y :: r) h'.2
    refine List.pairwise_cons.mpr ⟨fun z hz => ?_, ih⟩
    have c : ltS y x = false := h'.1
    rcases List.mem_cons.mp hz with e | hz
    · rw [e]; exact c
    · exact ltS_swo.tr _ _ _ c ((List.pairwise_cons.mp ih).1 z hz)
def kSortS : List A → Cs → R A := fun vs C => match vs with
  | [v] => match (seqL v C).bind strsA with
    | some zs => if zs.length < 64 then .ok (.lst ((srtB ltS zs).map A.str)) C else .bad
    | none => .bad
  | _ => .bad
theorem ad_sortS {K : PySem.W.Frag} {xc : XC} : AdqN K xc kSortS (rSortedS K) := by
  intro W ι H σ C vs xs Q c r p
  unfold kSortS at p
  split at p
  · split at p
    · rename_i v zs h
      split at p
      · rename_i hh
        obtain ⟨u, rfl, r1⟩ := r.one
        obtain ⟨ys, h1, h2⟩ := Option.bind_eq_some_iff.mp h
        obtain ⟨a, us, rfl, sq, q⟩ := seqL_of c r1 h1
        rw [strs_are q h2] at sq
        refine ⟨a, zs, rfl, sq, hh, fun ms l hp hs hl => ?_⟩
        rw [srtB_is ltS_swo (fun _ _ => ltS_anti) hp (sorted_pw hs)]
        exact mk_lst c (rps_strs _) p l hl
      · exact p.elim
    · exact p.elim
  · exact p.elim
/-- ints, texts, or tuples of ints -/
def kSortB : List A → Cs → R A := fun vs C => match vs with
  | [v] => match (seqL v C).bind intsOf with
    | some _ => kSorted [v] C
    | none => match (seqL v C).bind strsA with
      | some _ => kSortS [v] C
      | none => kSortT [v] C
  | _ => .bad
theorem cr_sortB {X : Cx} (hu : X.A.units + 64 < cLine) : CallR X (.builtin "sorted") (fun vs H Q => rSortedI X.K vs H Q ∨ rSortedS X.K vs H Q ∨ rSortT2 X.K vs H Q) := by
  intro pins s σ H vs us Q I r h
  rcases h with h | h | h
  · exact cr_sortedI pins s σ H vs us Q I r h
  · exact cr_sortedS pins s σ H vs us Q I r h
  · exact cr_sortT2 hu pins s σ H vs us Q I r h
theorem ad_sortB {K : PySem.W.Frag} {xc : XC} : AdqN K xc kSortB (fun vs H Q => rSortedI K vs H Q ∨ rSortedS K vs H Q ∨ rSortT2 K vs H Q) := by
  intro W ι H σ C vs xs Q c r p
  unfold kSortB at p
  split at p
  · split at p
    · exact .inl (ad_sorted W ι H σ C _ xs Q c r p)
    · split at p
      · exact .inr (.inl (ad_sortS W ι H σ C _ xs Q c r p))
      · exact .inr (.inr (ad_sortT W ι H σ C _ xs Q c r p))
  · exact p.elim
end FM

/-! len(set(texts)), any number of them, no two alike -/
namespace SetT
open PySem PySem.Spec PyProof.Rows
abbrev so (led : Bool) : Obj := { cls := .type "set", dict := none, data := .set #[] 0 (.fresh 0 0 led) }
abbrev SetIs (prog : Program) (w : World) (h : Heap) (S : Addr) (ys : List Str) (n : Nat) : Prop := h.SetOf (PySem.strKind prog w) S (fun z => ys.any (· == z)) n
theorem kept {prog : Program} {w : World} {h h' : Heap} {S : Addr} {ys : List Str} {n : Nat} (x : SetIs prog w h S ys n) (k : ∀ o, h.get? S = some o → h'.get? S = some o) : SetIs prog w h' S ys n := by
  obtain ⟨o, es, ep, tb, ho, more⟩ := x
  exact ⟨o, es, ep, tb, k o ho, more⟩
theorem grown {prog : Program} {w : World} {h : Heap} {S : Addr} {ys : List Str} {n : Nat} {y : Str} {k : Str → Bool} {m : Nat} (hk : ∀ z, k z = (ys.any (· == z) || decide (z = y))) (hm : m = if ys.any (· == y) then n else n + 1) (hn : y ∉ ys) (x : h.SetOf (PySem.strKind prog w) S k m) : SetIs prog w h S (ys ++ [y]) (n + 1) := by
  have hf : ys.any (· == y) = false := by
    cases e : ys.any (· == y) with
    | false => rfl
    | true =>
      obtain ⟨z, hz, ez⟩ := List.any_eq_true.mp e
      exact absurd (eq_of_beq ez ▸ hz) hn
  rw [hf, if_neg Bool.false_ne_true] at hm
  refine SetOf_congr x (fun z => ?_) hm
  rw [hk z, List.any_append]
  congr 1
  by_cases e : z = y
  · subst e; simp
  · have q : (y == z) = false := beq_eq_false_iff_ne.mpr fun q => e q.symm
    simp [e, q]
theorem fresh_at {xs : List Str} (hd : xs.Nodup) {i : Nat} (hi : i < xs.length) : xs.take (i + 1) = xs.take i ++ [xs.getD i Str.empty] ∧ xs.getD i Str.empty ∉ xs.take i := by
  have e : xs.getD i Str.empty = xs[i] := by simp [List.getD, List.getElem?_eq_getElem hi]
  have t : xs.take (i + 1) = xs.take i ++ [xs[i]] := by simp
  refine ⟨by rw [e, t], fun m => ?_⟩
  rw [e] at m
  have n2 : (xs.take (i + 1)).Nodup := hd.sublist (List.take_sublist _ _)
  rw [t] at n2
  exact (List.nodup_append.mp n2).2.2 _ m _ (List.mem_singleton.mpr rfl) rfl
section
variable {prog : Program} {w : World} {A : Around} {R : Result → Shared → Prop} {I S : Addr} {fp wr : List Addr} {G : Array GenState → Array GenState → Prop} {n : Nat} {P : Nat → Value → Prop} {St : Nat → Shared → Prop} {xs : List Str}
theorem walk (W : WalksS prog w A.in1 I fp wr G n P St) (out : S ∉ fp) (hl : xs.length = n) (few : n + 1 < scanBound) (hd : xs.Nodup) (val : ∀ i v, P i v → ∃ t, v = .str (xs.getD i Str.empty) t) :
    ∀ (left i : Nat) (s : Shared), n - i = left → i ≤ n → St i s → SetIs prog w s.heap S (xs.take i) i → (∀ s', Moved (S :: wr) G s s' → SetIs prog w s'.heap S (xs.take n) n → R (.ok (.ret .none)) s') →
      codeAny (model prog w) A (.builtin "set.update.loop" ⟨[.ref S, .ref I], []⟩) R s
  | 0, i, s, hk, hi, st, hS, q => by
    obtain rfl : i = n := by omega
    refine codeAny_builtin PyProof.Rows.F.entry_set_update_loop (by
      rw [Around.under_plainId PyProof.Rows.F.plain_set_update_loop _]
      show wpAny _ A.in1 (pyNext (.ref I) >>= _) _ _ s
      exact wpAny_bind (W.done s _ _ st fun s' mv => by
        show wpAny _ A.in1 (ret Value.none) _ _ s'
        exact wpAny_pure (q s' (mv.mono fun b hb => List.mem_cons_of_mem _ hb) (kept hS fun o e => mv.heap S o (fun h => out (W.sub _ h)) e))))
  | left + 1, i, s, hk, hi, st, hS, q => by
    have lt : i < n := by omega
    obtain ⟨t1, t2⟩ := fresh_at hd (i := i) (by omega)
    refine codeAny_builtin PyProof.Rows.F.entry_set_update_loop (by
      rw [Around.under_plainId PyProof.Rows.F.plain_set_update_loop _]
      show wpAny _ A.in1 (pyNext (.ref I) >>= _) _ _ s
      refine wpAny_bind (W.item i s _ _ lt st fun v s1 hP st1 mv => ?_)
      obtain ⟨t, rfl⟩ := val i v hP
      have hS1 : SetIs prog w s1.heap S (xs.take i) i := kept hS fun o e => mv.heap S o (fun h => out (W.sub _ h)) e
      generalize xs.getD i Str.empty = y at t1 t2
      show wpAny _ A.in1 (holding [Value.str y t] (setAdd S (.str y t)) >>= _) _ _ s1
      unfold setAdd
      refine wpAny_bind (wpAny_holding (wpAny_holding (wpAny_bind ((PySem.strKind prog w).pyHash (k := y) (strKind_is _ _ _ _) ?_))))
      refine wpAny_setAddHashed_of (knd := PySem.strKind prog w) (s := { s1 with toks := s1.toks + 1 }) (strKind_is _ _ _ _) rfl hS1 (by omega) fun h2 sb hS2 => wpAny_pure ?_
      have hS3 : SetIs prog w h2 S (xs.take (i + 1)) (i + 1) := by
        rw [t1]
        exact grown (fun z => rfl) rfl t2 hS2
      have far : ∀ b, b ≠ S → ∀ o, s1.heap.get? b = some o → h2.get? b = some o := fun b hb o e => (sb.2 b hb).trans e
      refine ⟨plainId_quiet PyProof.Rows.F.plain_set_update_loop _, walk W out hl few hd val left (i + 1) _ (by omega) lt (W.frame _ s1 _ _ st1 (Nat.le_succ _) fun b hb o e => far b (fun z => out (z ▸ hb)) o e) hS3 fun s2 m2 hS4 => ?_⟩
      exact q s2 (Moved.trans W.gtrans ((mv.mono fun b hb => List.mem_cons_of_mem _ hb).then_heap (Nat.le_succ _) fun b o hb e => far b (fun z => hb (z ▸ List.mem_cons_self)) o e) m2) hS4)
end
section
variable {prog : Program} {w : World} {A : Around} {E : Value → Shared → Prop} {s : Shared}
theorem call_set {l : Addr} {items : Array Value} {xs : List Str} {Q : Value → Shared → Prop} (hh : A.handled = none) (hl : s.heap.IsList l items) (hi : StrsAre items.toList xs) (few : xs.length + 1 < scanBound) (hd : xs.Nodup)
    (h : ∀ (h' : Heap) (tk : Nat), SetIs prog w h' s.heap.objs.size xs xs.length → (∀ b o, b < s.heap.objs.size → s.heap.get? b = some o → h'.get? b = some o) → Q (.ref s.heap.objs.size) { s with heap := h', toks := tk }) :
    wpAny (model prog w) A (call (.type "set") [.ref l]) Q E s := by
  have len : xs.length = items.size := by rw [← StrsAre.len_eq hi, Array.length_toList]
  obtain ⟨c, tl, hmro⟩ := F.called_set.mro
  have f1 := F.called_set.made; have f2 := F.called_set.sub; have f3 := F.called_set.notType; have f4 := F.called_set.canCreate; have f5 := F.typeCall_set_1 (.ref l)
  refine wpAny_call (codeAny_of_tree (by
    show wpAny _ _ (callAny (.type "set") _) _ _ _
    refine wpAny_pure ⟨Code.quiet_builtin _ (by decide +kernel), codeAny_builtin F.entry_type_call ?_⟩
    rw [Around.under_plain (weight_type_call_type "set" [.ref l] []) rfl]
    repeat (any_goals (first | assumption | wp_step))
    refine codeAny_mono (code_set_new_1 (.ref l) (E := E) (Q₁ := fun v z => ∃ led : Bool, v = .ref s.heap.objs.size ∧ z = { s with heap := s.heap.push (so led) }) fun led => ⟨led, rfl, rfl⟩) fun r z hr => ?_
    cases r with
    | error e => exact hr
    | ok fl =>
      cases fl with
      | ret v =>
        obtain ⟨led, rfl, rfl⟩ := hr
        have at0 : (s.heap.push (so led)).get? s.heap.objs.size = some (so led) := Heap.get?_push_size _ rfl
        have ty : Shared.TypeIs { s with heap := s.heap.push (so led) } (.ref s.heap.objs.size) "set" := ⟨_, at0, rfl⟩
        have f6 := F.called_set.init.lookup; have f7 := F.called_set.init.bind (.ref s.heap.objs.size)
        repeat (any_goals (first | assumption | wp_step))
        refine codeAny_mono (codeAny_call_builtin (R := wants (fun v z => v = .none ∧ ∃ h' tk, z = { s with heap := h', toks := tk } ∧ SetIs prog w h' s.heap.objs.size xs xs.length ∧ (∀ b o, b < s.heap.objs.size → s.heap.get? b = some o → h'.get? b = some o)) E) F.called_set.init.plain F.entry_set_init (check_set_init_1 ty ?_)) fun r2 z2 hr2 => ?_
        · obtain ⟨⟨oc, od, oda, osl⟩, g0, gc, nl, gd⟩ := hl
          simp only at gc gd
          subst gc gd
          have gl : (s.heap.push (so led)).get? l = some { cls := .type "list", dict := od, data := .seq items nl, slots := osl } := Heap.get?_push_of_some _ g0
          have f8 := F.sub_list_set; have f9 := F.sub_list_frozenset
          have f10 : (Value.type "list" == Value.type "dict") = false := by decide
          have isl : (s.heap.push (so led)).IsList l items := ⟨_, gl, rfl, nl, rfl⟩
          have ll : l < s.heap.objs.size := Heap.lt_size g0
          have sz1 : (s.heap.push (so led)).objs.size = s.heap.objs.size + 1 := Heap.size_push ..
          unfold Builtin.«set.__init__» noKeywords Builtin.Frozenset.updateFrom
          generalize hPI : pyIter = PI
          wp_walk
          subst hPI
          refine wpAny_pyIter_list isl (wpAny_bind (wpAny_runValue ?_))
          have h3 : A.in1.in1.in1.handled = none := by simp [hh]
          have n1 : l ≠ (s.heap.push (so led)).objs.size := by rw [sz1]; exact Nat.ne_of_lt (Nat.lt_succ_of_lt ll)
          have n2 : s.heap.objs.size ∉ [(s.heap.push (so led)).objs.size, l] := by
            rw [sz1]; simp only [List.mem_cons, List.not_mem_nil, or_false, not_or]; exact ⟨Nat.ne_of_lt (Nat.lt_succ_self _), Nat.ne_of_gt ll⟩
          refine walk (xs := xs) ((Walks.list h3 _ l n1 items).toS) n2 len (by omega) hd (fun i v hv => SS.strs_at hi i v (by rw [Array.getElem?_toList]; exact hv)) items.size 0 _ (by omega) (Nat.zero_le _) ⟨⟨_, Heap.get?_push_size _ rfl, rfl, rfl⟩, (isl.push _)⟩ ?_ fun z mv hS => ?_
          · exact SetOf_congr ((setObjOf_fresh (knd := PySem.strKind prog w) led).setOf (Heap.get?_push_of_some _ at0) (by unfold scanBound; omega)) (fun _ => rfl) rfl
          · obtain ⟨h', g', d', tk', os'⟩ := z
            obtain rfl : g' = s.gens := mv.gens
            obtain rfl : d' = s.drawn := mv.drawn
            obtain rfl : os' = s.os := mv.os
            show wpAny _ _ _ _ _ _
            refine wpAny_pure (by
              show wpAny _ _ (ret Value.none) _ _ _
              refine wpAny_pure ⟨rfl, h', tk', rfl, by rw [← len, List.take_length] at hS; exact hS, fun b o hb e => ?_⟩
              exact mv.heap b o (by rw [sz1]; simp only [List.mem_cons, List.not_mem_nil, or_false, not_or]; exact ⟨Nat.ne_of_lt hb, Nat.ne_of_lt (Nat.lt_succ_of_lt hb)⟩) (Heap.get?_push_of_some _ (Heap.get?_push_of_some _ e)))
        · cases r2 with
          | error e => exact hr2
          | ok f => cases f with
            | ret v =>
              obtain ⟨rfl, h', tk, rfl, a, b⟩ := hr2
              repeat (any_goals (first | assumption | wp_step))
              exact h _ _ a b
            | _ => exact hr2.elim
      | _ => exact hr.elim))
end
end SetT

namespace FM
open PySem PySem.Spec PyProof.Rows L2 RZ
def ndB : List Str → Bool
  | [] => true
  | z :: r => !(r.any (· == z)) && ndB r
theorem ndB_nd : ∀ {l : List Str}, ndB l = true → l.Nodup
  | [], _ => List.nodup_nil
  | z :: r, h => by
    have h' : (!(r.any (· == z)) && ndB r) = true := h
    rw [Bool.and_eq_true, Bool.not_eq_true'] at h'
    refine List.nodup_cons.mpr ⟨fun m => ?_, ndB_nd h'.2⟩
    have : r.any (· == z) = true := List.any_eq_true.mpr ⟨z, m, beq_self_eq_true z⟩
    rw [h'.1] at this
    cases this
def tLenSetT (K : PySem.W.Frag) (ta : TE) : TE := fun σ H Q => ta σ H fun x H1 => ∃ l, ∃ xs : List Str, x = .ref l ∧ SqL K H1 l (xs.map V.str) ∧ xs.Nodup ∧ xs.length ≤ 1000 ∧ Q (.int (xs.length : Nat)) H1
theorem pe_lenSetT {X : Cx} {a : Expr} {ta : TE} {p p2 q pos : Pos} (hc : X.calm = true) (hg : Gl X "len") (hm : X.mg "len" = none) (hg2 : Gl X "set") (hm2 : X.mg "set" = none) (ha : PE X a ta)
    (na : starEach [a] X.env = (false, eval a X.env) :: starEach [] X.env := by rfl) : PE X (.Call (.Name "len" p) [.Call (.Name "set" p2) [a] [] q] [] pos) (tLenSetT X.K ta) := ⟨fun pins s σ H Q I h => by
  refine Call_ (ld_blt I hg hm boot_len (PyProof.Rows.callWith_builtin1 (PyProof.Rows.args_cons (Call_ (ld_blt I hg2 hm2 boot_set (PyProof.Rows.callWith_type1 (PyProof.Rows.args_cons (thn (ha.run pins s σ H _ I h) fun v s1 ⟨x, H1, I1, r1, q1⟩ => PyProof.Rows.args_nil ?_) na) na rfl))) rfl) rfl rfl))
  obtain ⟨l, xs, rfl, hq, nd, few, q1⟩ := q1
  cases r1
  obtain ⟨its, r, pl, hz⟩ := I1.list hq
  refine SetT.call_set (I1.ok.hd hc) pl.isList (by simpa using r.strs) (by unfold scanBound; omega) nd fun h' tk hS hk => PyProof.Rows.args_nil ?_
  obtain ⟨o, es, ep, t, ho, hex, hd, _, _, _, hf, hn⟩ := hS
  have I2 : Inv X pins σ H1 { s1 with heap := h', toks := tk } := I1.kept fun b o e => hk b o (Heap.lt_size e) e
  exact call_len_set ho hex hd hf (by rw [hn] <;> omega) ⟨.int xs.length, H1, I2.tok _, ⟨_, by rw [hn]⟩, q1⟩⟩
def xLenSet (f : En → Cs → R A) : En → Cs → R A := fun s C => (f s C).bind fun v C1 => match (seqL v C1).bind strsA with
  | some zs => if (ndB zs && decide (zs.length ≤ 1000)) = true then .ok (.int (zs.length : Nat)) C1 else .bad
  | none => .bad
theorem r_lenSet {X : Cx} {xc : XC} {W : WX} {a : Expr} {f : En → Cs → R A} {p p2 q pos : Pos} (hc : X.calm = true) (hg : Gl X "len") (hm : X.mg "len" = none) (hg2 : Gl X "set") (hm2 : X.mg "set" = none) (ha : PE X a (xD X.K xc W f))
    (na : starEach [a] X.env = (false, eval a X.env) :: starEach [] X.env := by rfl) : PE X (.Call (.Name "len" p) [.Call (.Name "set" p2) [a] [] q] [] pos) (xD X.K xc W (xLenSet f)) := by
  refine PE.imp (pe_lenSetT hc hg hm hg2 hm2 ha na) fun σ H Q ⟨ι, s, C, c, r, pp⟩ => ?_
  refine Dn.step c r pp fun ι1 H1 C1 v x e1 c1 r1 q1 p1 => ?_
  split at p1
  · rename_i zs h
    split at p1
    · rename_i hb
      rw [Bool.and_eq_true, decide_eq_true_eq] at hb
      obtain ⟨ys, h1, h2⟩ := Option.bind_eq_some_iff.mp h
      obtain ⟨l, us, rfl, sq, rr⟩ := seqL_of c1 q1 h1
      rw [strs_are rr h2] at sq
      exact ⟨l, zs, rfl, sq, ndB_nd hb.1, hb.2, p1.fin c1 (.int _)⟩
    · exact p1.elim
  · exact p1.elim
end FM

/-! x in a list or tuple of plain values; list.extend(tuple) -/
namespace FM
open PySem PySem.Spec PyProof.Rows L2 RZ
def fV : A → Option V
  | .non => some .non
  | .bl b => some (.bl b)
  | .int i => some (.int i)
  | .str z => some (.str z)
  | _ => none
def fVs : List A → Option (List V)
  | [] => some []
  | x :: r => match fV x, fVs r with
    | some v, some vs => some (v :: vs)
    | _, _ => none
theorem fV_is {K : PySem.W.Frag} {ι : Lay} {H : Hp} {v : A} {x y : V} (r : Rp K ι H v x) (h : fV v = some y) : x = y ∧ flatV y = true := by
  cases v <;> first | (cases h; cases r; exact ⟨rfl, rfl⟩) | cases h
theorem fVs_are {K : PySem.W.Frag} {ι : Lay} {H : Hp} : ∀ {vs : List A} {xs ys : List V}, Rps K ι H vs xs → fVs vs = some ys → xs = ys ∧ ys.all flatV = true
  | _, _, _, .nil, h => by cases h; exact ⟨rfl, rfl⟩
  | _, _, ys, .cons r t, h => by
    unfold fVs at h
    split at h
    · rename_i v vs h1 h2
      cases h
      obtain ⟨rfl, f1⟩ := fV_is r h1
      obtain ⟨rfl, f2⟩ := fVs_are t h2
      exact ⟨rfl, by rw [List.all_cons, f1, f2]; rfl⟩
    · cases h
def gInF (neg : Bool) : A → A → Cs → R A := fun v w C => match fV v, (seqOf w C).bind fVs with
  | some x, some ys => .ok (.bl (if neg then !inV x ys else inV x ys)) C
  | _, _ => .bad
theorem ad_inF {K : PySem.W.Frag} {xc : XC} {neg : Bool} : Adq2 K xc (gInF neg) (rIn K neg) := by
  intro W ι H σ C v w x y Q c r1 r2 p
  unfold gInF at p
  split at p
  · rename_i a ys h1 h2
    obtain ⟨zs, h3, h4⟩ := Option.bind_eq_some_iff.mp h2
    obtain ⟨q, us, rfl, sq, rr⟩ := seq_of c r2 h3
    obtain ⟨rfl, f1⟩ := fV_is r1 h1
    obtain ⟨rfl, f2⟩ := fVs_are rr h4
    exact ⟨q, _, rfl, sq, f1, f2, p.fin c (.bl _)⟩
  · exact p.elim
def gInB (neg : Bool) : A → A → Cs → R A := fun v w C => match w with
  | .str z => gInS neg v (.str z) C
  | w => gInF neg v w C
theorem op_inB {X : Cx} : OpR X (compareOp .In) (fun x y H Q => (∃ (c : Nat) (z : Str), x = .str ⟨#[c]⟩ ∧ y = .str z ∧ Q (.bl (decide (c ∈ z.cps.toList))) H) ∨ rIn X.K false x y H Q) := by
  intro pins s σ H x y v u Q I rx ry h
  rcases h with h | h
  · exact op_in_sign pins s σ H x y v u Q I rx ry h
  · exact op_in_seq pins s σ H x y v u Q I rx ry h
theorem op_notInB {X : Cx} : OpR X (compareOp .NotIn) (fun x y H Q => (∃ (c : Nat) (z : Str), x = .str ⟨#[c]⟩ ∧ y = .str z ∧ Q (.bl (!decide (c ∈ z.cps.toList))) H) ∨ rIn X.K true x y H Q) := by
  intro pins s σ H x y v u Q I rx ry h
  rcases h with h | h
  · exact op_notIn_sign pins s σ H x y v u Q I rx ry h
  · exact op_notIn_seq pins s σ H x y v u Q I rx ry h
theorem ad_inB {K : PySem.W.Frag} {xc : XC} : Adq2 K xc (gInB false) (fun x y H Q => (∃ (c : Nat) (z : Str), x = .str ⟨#[c]⟩ ∧ y = .str z ∧ Q (.bl (decide (c ∈ z.cps.toList))) H) ∨ rIn K false x y H Q) := by
  intro W ι H σ C v w x y Q c r1 r2 p
  unfold gInB at p
  split at p
  · exact .inl (ad_inS W ι H σ C _ _ x y Q c r1 r2 p)
  · exact .inr (ad_inF W ι H σ C _ _ x y Q c r1 r2 p)
theorem ad_notInB {K : PySem.W.Frag} {xc : XC} : Adq2 K xc (gInB true) (fun x y H Q => (∃ (c : Nat) (z : Str), x = .str ⟨#[c]⟩ ∧ y = .str z ∧ Q (.bl (!decide (c ∈ z.cps.toList))) H) ∨ rIn K true x y H Q) := by
  intro W ι H σ C v w x y Q c r1 r2 p
  unfold gInB at p
  split at p
  · exact .inl (ad_notInS W ι H σ C _ _ x y Q c r1 r2 p)
  · exact .inr (ad_inF W ι H σ C _ _ x y Q c r1 r2 p)
section
open Builtin PyProof.Rows
/-- list.extend, a list or a tuple -/
def rExtB (K : PySem.W.Frag) : V → List V → Hp → VK → Prop := fun x vs H Q => rExtend x vs H Q ∨ ∃ l b xs zs, x = .ref l ∧ vs = [.ref b] ∧ H l = some (.lst xs) ∧ SqT K H b zs ∧ xs.length + zs.length ≤ sizeLine ∧ Q .non (upd H l (.lst (xs ++ zs)))
theorem mt_extendB {X : Cx} : MtM X "list.extend" (rExtB X.K) := by
  intro pins s σ H x vs v us Q I rx rv h
  rcases h with h | h
  · exact mt_extend pins s σ H x vs v us Q I rx rv h
  obtain ⟨l, b, xs, zs, rfl, rfl, hH, hB, hz, q⟩ := h
  cases rx
  obtain ⟨u, rfl, ru⟩ := rv.one
  cases ru
  obtain ⟨z, its, n, r, hl, e⟩ := I.lstM hH
  obtain ⟨its2, r2, ⟨o, ho, hc, n2, hd⟩, z2⟩ := I.tuple hB
  have hl2 := r2.length
  have fits : its.toArray.size + its2.toArray.size ≤ sizeLine := by rw [List.size_toArray, List.size_toArray]; omega
  refine wpAny_call_entry F.slot_list_extend ⟨_, e, rfl⟩ F.entry_list_extend (by
    unfold Builtin.«list.extend»
    show wpAny _ _ (Builtin.List.listExtendWith (.ref l) (.ref b) .none) _ _ _
    unfold Builtin.List.listExtendWith
    refine wpAny_bind (wpAny_typeOf (T := "tuple") ⟨o, ho, hc⟩ ?_)
    rw [if_pos (by rw [show (Value.type "tuple" == Value.type "tuple") = true from rfl, Bool.or_true])]
    refine wpAny_bind (listItems_at ho hd (wpAny_bind (listItems_at e rfl ?_)))
    rw [if_neg (by rw [notLongL fits, Bool.and_false]; exact Bool.false_ne_true)]
    refine wpAny_bind (listUpdate_at e rfl (wpAny_pure ⟨_, rfl, ?_⟩) (by omega) (by rw [Array.size_append]; omega))
    refine ⟨.non, _, I.lset (its' := its ++ its2) (f := (· ++ its2.toArray)) (t' := s.toks) hH e (by simp) (r.append r2) (by rw [List.length_append]; omega), rfl, q⟩) (F.args_list_extend_2 _ _)
end
def mExtendB : A → List A → Cs → R A := fun v vs C => match v, vs with
  | .loc n, [.tup ys] => match C[n]? with
    | some xs => if xs.length + ys.length ≤ big then .ok .non (C.set n (xs ++ ys)) else .bad
    | none => .bad
  | v, vs => mExtend v vs C
theorem ad_extendB {K : PySem.W.Frag} {xc : XC} : AdqM K xc mExtendB (rExtB K) := by
  intro W ι H σ C v vs x xs Q c r rs p
  unfold mExtendB at p
  split at p
  · rename_i n ys
    split at p
    · rename_i zs hz
      split at p
      · rename_i hl
        obtain ⟨a, rfl, ha⟩ := r.loc_inv
        obtain ⟨u, rfl, r1⟩ := rs.one
        obtain ⟨ws, q1, q2⟩ := c.at_ n zs a hz ha
        obtain ⟨b, us, rfl, f, q4⟩ := r1.tup_inv
        exact .inr ⟨a, b, ws, us, rfl, rfl, q1, f.sq, by rw [← q2.length, ← q4.length]; exact big_line hl, p.to (ext_set c ha _) (c.set ha (q2.append q4)) .non⟩
      · exact p.elim
    · exact p.elim
  · exact .inl (ad_extend W ι H σ C _ _ x xs Q c r rs p)
end FM

/-! x.count(y) of a text, a list of ints, a tuple of ints -/
namespace FM
open PySem PySem.Spec PyProof.Rows L2 RZ
/-- what may be asked so, and of which type it is -/
def cntK (v : A) (C : Cs) : Bool := match v with
  | .str _ => true
  | .tup _ => true
  | .lst _ => true
  | .loc n => (C[n]?).isSome
  | _ => false
def cntI (xs : List A) (w : A) (C : Cs) : R A := match w, intsOf xs with
  | .int k, some ns => .ok (.int (ns.count k : Nat)) C
  | _, _ => .bad
def gCnt (v w : A) (C : Cs) : R A := match v with
  | .str a => match w with
    | .str b => .ok (.int (Txt.count a b)) C
    | _ => .bad
  | .tup xs => cntI xs w C
  | .lst xs => cntI xs w C
  | .loc n => match C[n]? with
    | some xs => cntI xs w C
    | none => .bad
  | _ => .bad
theorem cntI_ok {K : PySem.W.Frag} {xc : XC} {W : WX} {ι : Lay} {H : Hp} {σ : L2.St} {C : Cs} {Q : VK} {xs : List A} {vs : List V} {w : A} {y : V} (c : RC K xc ι H C) (r : Rps K ι H xs vs) (rw2 : Rp K ι H w y) (p : Post K xc W (Rp K) ι H σ (cntI xs w C) Q) : ∃ (ns : List Int) (k : Int), vs = ns.map V.int ∧ y = .int k ∧ Q (.int (ns.count k : Nat)) H := by
  unfold cntI at p
  split at p
  · rename_i k ns hn
    exact ⟨ns, k, ints_of r hn, rw2.of_int, p.fin c (.int _)⟩
  · exact p.elim
def xCnt (f g : En → Cs → R A) : En → Cs → R A := fun s C => (f s C).bind fun v C1 => if cntK v C1 = true then (g s C1).bind fun w C2 => gCnt v w C2 else .bad
theorem r_cnt {X : Cx} {xc : XC} {W : WX} {apos cpos : Pos} {o e : Expr} {f g : En → Cs → R A} (ho : PE X o (xD X.K xc W f)) (he : PE X e (xD X.K xc W g))
    (hbase : attributeBase o "count" X.env (eval o X.env) = eval o X.env := by rfl)
    (hfew : ((backTo cpos (starEach [e] X.env)).all (fun x => !x.1) && (backToKw cpos (keywordEach [] X.env)).all (fun x => x.1.isSome)
      && decide (([e] : List Expr).length + ([] : List Keyword).length + (if ([] : List Keyword).isEmpty then 0 else 1) < 30)) = true := by rfl)
    (hline : (apos.endLine == cpos.line) = true := by rfl) (hs : starEach [e] X.env = (false, eval e X.env) :: starEach [] X.env := by rfl) (hplain : (backTo cpos (starEach [] X.env)).any (·.1) = false := by rfl) :
    PE X (.Call (.Attribute o "count" apos) [e] [] cpos) (xD X.K xc W (xCnt f g)) := by
  refine PE.imp (pe_bmZ ho (r_aCons he r_aNil (hst := hs)) hbase hfew hline hs hplain) fun σ H Q ⟨ι, s, C, c, r, p⟩ => ?_
  refine Dn.step c r p fun ι1 H1 C1 v x e1 c1 r1 q1 p1 => ?_
  have fin : ∀ (T : String) (rr : V → List V → Hp → VK → Prop), MtOf X "count" T rr → tyZ X.K T x H1 → (∀ (ι2 : Lay) (H2 : Hp) (C2 : Cs) (w : A) (y : V), Ext ι1 H1 ι2 H2 → RC X.K xc ι2 H2 C2 → Rp X.K ι2 H2 v x → Rp X.K ι2 H2 w y → Post X.K xc W (Rp X.K) ι2 H2 σ (gCnt v w C2) Q → rr x [y] H2 Q) →
      Post X.K xc W (Rp X.K) ι1 H1 σ ((g s C1).bind fun w C2 => gCnt v w C2) Q →
      ∃ T r, MtOf X "count" T r ∧ tyZ X.K T x H1 ∧ aD X.K xc W (aCons g aNil) σ H1 fun xs H2 => r x xs H2 Q := by
    intro T rr hm ht k p1
    refine ⟨T, rr, hm, ht, ι1, s, C1, c1, r1, ?_⟩
    unfold aCons
    cases eg : g s C1 with
    | ok w C2 =>
      rw [eg] at p1
      intro ι2 H2 xs e2 c2 q2
      cases q2 with
      | cons r2 rn =>
        cases rn
        exact k ι2 H2 C2 w _ e2 c2 (q1.ext e2) r2 (Post.later (r := gCnt v w C2) p1 e2)
    | ex cc pp C2 =>
      rw [eg] at p1
      exact p1
    | bad =>
      rw [eg] at p1
      exact p1
  split at p1
  · rename_i hk
    unfold cntK at hk
    split at hk
    · rename_i z
      have hx := q1.of_str
      subst hx
      refine fin "str" _ ⟨_, PySem.F.plainAttrs_str, PySem.F.slot_str_count, PySem.F.type_str_count, mt_count⟩ (.inl rfl) (fun ι2 H2 C2 w y e2 c2 rv rw2 p2 => ?_) p1
      unfold gCnt at p2
      simp only at p2
      split at p2
      · rename_i b
        rw [rw2.of_str]
        exact ⟨_, _, rfl, rfl, p2.fin c2 (.int _)⟩
      · exact p2.elim
    · rename_i xs
      obtain ⟨a, us, rfl, f, q⟩ := q1.tup_inv
      refine fin "tuple" _ ⟨_, PySem.F.plainAttrs_tuple, PySem.F.slot_tuple_count, PySem.F.type_tuple_count, mt_tcount⟩ (.inr ⟨rfl, _, _, rfl, f.1⟩) (fun ι2 H2 C2 w y e2 c2 rv rw2 p2 => ?_) p1
      obtain ⟨a2, us2, ea, f2, q2⟩ := rv.tup_inv
      cases ea
      obtain ⟨ns, k, rfl, rfl, qq⟩ := cntI_ok c2 q2 rw2 p2
      exact ⟨a, ns, k, rfl, rfl, f2.sq, qq⟩
    · rename_i xs
      cases q1 with
      | lst h1 n q =>
        refine fin "list" _ ⟨_, PySem.F.plainAttrs_list, PySem.F.slot_list_count, PySem.F.type_list_count, mt_lcount⟩ (.inl (.inl ⟨rfl, _, SqL.of h1⟩)) (fun ι2 H2 C2 w y e2 c2 rv rw2 p2 => ?_) p1
        cases rv with
        | lst h2 n2 q2 =>
          obtain ⟨ns, k, rfl, rfl, qq⟩ := cntI_ok c2 q2 rw2 p2
          exact ⟨_, ns, k, rfl, rfl, SqL.of h2, qq⟩
    · rename_i n
      cases q1 with
      | @loc _ a h1 =>
        obtain ⟨ys, hy⟩ := Option.isSome_iff_exists.mp hk
        obtain ⟨vs, g1, g2⟩ := c1.at_ n ys a hy h1
        refine fin "list" _ ⟨_, PySem.F.plainAttrs_list, PySem.F.slot_list_count, PySem.F.type_list_count, mt_lcount⟩ (.inl (.inl ⟨rfl, _, SqL.of g1⟩)) (fun ι2 H2 C2 w y e2 c2 rv rw2 p2 => ?_) p1
        cases rv with
        | loc h2 =>
          unfold gCnt at p2
          simp only at p2
          split at p2
          · rename_i xs hx
            obtain ⟨vs2, g3, g4⟩ := c2.at_ n xs a hx h2
            obtain ⟨ns, k, rfl, rfl, qq⟩ := cntI_ok c2 g4 rw2 p2
            exact ⟨a, ns, k, rfl, rfl, SqL.of g3, qq⟩
          · exact p2.elim
    · cases hk
  · exact p1.elim
end FM

/-! enumerate(zip(a, b), k), list(zip(a, b)) -/
namespace FM
open PySem PySem.Spec PyProof.Rows L2 RZ
section
variable {K : PySem.W.Frag} {xc : XC} {ι : Lay} {C : Cs}
theorem pairs_new : ∀ {as : List (Addr × Obj)} {xs ys : List A} {us vs : List V} {H : Hp}, RC K xc ι H C → Rps K ι H xs us → Rps K ι H ys vs → as.length = min us.length vs.length → (∀ p ∈ as, H p.1 = none ∧ p.2.dict = none) → (as.map (·.1)).Nodup →
    Ext ι H ι (updM H (pairHO as us vs)) ∧ RC K xc ι (updM H (pairHO as us vs)) C ∧ Rps K ι (updM H (pairHO as us vs)) (pairsOf xs ys) (as.map fun p => V.ref p.1)
  | [], xs, ys, us, vs, H, c, r1, r2, hl, hd, nd => by
    refine ⟨Ext.refl _ _, c, ?_⟩
    cases r1 with
    | nil => exact .nil
    | cons _ _ => cases r2 with
      | nil => exact .nil
      | cons _ _ => simp at hl
  | p :: as, _, _, _, _, H, c, .nil, r2, hl, hd, nd => by simp at hl
  | p :: as, _, _, _, _, H, c, .cons _ _, .nil, hl, hd, nd => by simp at hl
  | p :: as, _, _, _, _, H, c, .cons (x := x) (v := u) (xs := xs) (vs := us) rx rxs, .cons (x := y) (v := v) (xs := ys) (vs := vs) ry rys, hl, hd, nd => by
    obtain ⟨h1, d1⟩ := hd p (List.mem_cons_self ..)
    obtain ⟨e1, c1, q1⟩ := pair_new (o := p.2) c h1 d1 rx ry
    rw [List.map_cons, List.nodup_cons] at nd
    obtain ⟨e2, c2, q2⟩ := pairs_new (as := as) c1 (rxs.ext e1) (rys.ext e1) (by simp only [List.length_cons] at hl; omega) (fun p' hp => by
      obtain ⟨h2, d2⟩ := hd p' (List.mem_cons_of_mem _ hp)
      exact ⟨by rw [upd_ne fun e => nd.1 (List.mem_map.mpr ⟨p', hp, e⟩)]; exact h2, d2⟩) nd.2
    exact ⟨e1.trans e2, c2, .cons (q1.ext e2) q2⟩
end
def xListZip (fs : En → Cs → R (List A)) : En → Cs → R A := fun s C => (fs s C).bind fun vs C1 => match vs with
  | [v, w] => match seqX v C1, seqX w C1 with
    | some xs, some ys => if xs.length ≤ 100000 then .ok (.lst (pairsOf xs ys)) C1 else .bad
    | _, _ => .bad
  | _ => .bad
theorem r_listZip {X : Cx} {xc : XC} {W : WX} {pos pos2 : Pos} {e e2 : Expr} {fs : En → Cs → R (List A)} {p p2 : Pos} (hc : X.calm = true) (hgl : Gl X "list") (hml : X.mg "list" = none) (hgz : Gl X "zip") (hmz : X.mg "zip" = none) (ha : PA X [e, e2] (aD X.K xc W fs))
    (hs : starEach [e, e2] X.env = (false, eval e X.env) :: starEach [e2] X.env := by rfl) (hpl : (backTo pos2 (starEach [e2] X.env)).any (·.1) = false := by rfl) :
    PE X (.Call (.Name "list" p) [.Call (.Name "zip" p2) [e, e2] [] pos2] [] pos) (xD X.K xc W (xListZip fs)) := by
  refine PE.imp (pe_listZip hc hgl hml hgz hmz ha hs hpl) fun σ H Q ⟨ι, s, C, c, r, p⟩ => ?_
  refine Dn.step c r p fun ι1 H1 C1 v x e1 c1 r1 q1 p1 => ?_
  split at p1
  · rename_i v w
    split at p1
    · rename_i xs ys hx hy
      split at p1
      · rename_i hz
        obtain ⟨u, u2, rfl, h1, h2⟩ := q1.two
        obtain ⟨a, us, rfl, s1, t1⟩ := seqB_at c1 h1 hx (chk_now hx)
        obtain ⟨b, ws, rfl, s2, t2⟩ := seqB_at c1 h2 hy (chk_now hy)
        refine ⟨isT v, isT w, a, b, us, ws, rfl, s1, s2, by rw [← t1.length, sizeLine_eq]; omega, fun S as hl hd hS nd => ?_⟩
        rw [List.nodup_cons] at nd
        obtain ⟨ex, cx, qx⟩ := pairs_new c1 t1 t2 hl hd nd.2
        have hS2 : updM H1 (pairHO as us ws) S = none := by
          rw [updM_ne fun p hp e => ?_]; exact hS
          obtain ⟨q, hq, e'⟩ := pairHO_fst p hp
          exact nd.1 (List.mem_map.mpr ⟨q, hq, by rw [← e', e]⟩)
        exact p1.to (ex.trans (ext_new cx hS2 _)) (cx.new hS2 _) (.lst upd_same (cx.ne_none hS2) (qx.ext (ext_new cx hS2 _)))
      · exact p1.elim
    · exact p1.elim
  · exact p1.elim
/-! ### enumerate(zip(a, b), k) -/
def numbZ (k : Int) (xs : List A) : List A := pairsOf ((List.range xs.length).map fun (i : Nat) => .int (k + (i : Int))) xs
theorem numbZ_get {k : Int} {xs : List A} {i : Nat} {x : A} (hx : xs[i]? = some x) : (numbZ k xs)[i]? = some (.tup [.int (k + (i : Int)), x]) := by
  have hi : i < xs.length := (List.getElem?_eq_some_iff.mp hx).1
  exact pairs_get (by simp [hi]) hx
theorem numbZ_len (k : Int) (xs : List A) : (numbZ k xs).length = xs.length := by simp [numbZ, pairs_len]
def itEnZ (k : Int) (fs : En → Cs → R (List A)) : En → Cs → R Wk := fun s C => (fs s C).bind fun vs C1 => match vs with
  | [v, w] => match seqX v C1, seqX w C1 with
    | some xs, some ys => .ok (numbZ k (pairsOf xs ys), fun D => chkS v xs D && chkS w ys D) C1
    | _, _ => .bad
  | _ => .bad
theorem i_enumZ {X : Cx} {xc : XC} {W : WX} {pos pos2 : Pos} {e e2 : Expr} {fs : En → Cs → R (List A)} {p p2 p3 tpos : Pos} {elts : List Expr} {kk j : Nat} {k : Int} (hg : Gl X "enumerate") (hm : X.mg "enumerate" = none) (hgz : Gl X "zip") (hmz : X.mg "zip" = none) (hk : -(2 ^ 63) ≤ k ∧ k < 2 ^ 63) (ha : PA X [e, e2] (aD X.K xc W fs))
    (hs : starEach [e, e2] X.env = (false, eval e X.env) :: starEach [e2] X.env := by rfl) (hpl : (backTo pos2 (starEach [e2] X.env)).any (·.1) = false := by rfl) :
    PI X (.Tuple elts kk tpos) (.Call (.Name "enumerate" p) [.Call (.Name "zip" p2) [e, e2] [] pos2, .Constant (.int k) j p3] [] pos) (iD X.K xc W (itEnZ k fs)) := by
  refine PI.imp (pi_enumZ hg hm hgz hmz hk ha hs hpl) fun σ H Q ⟨ι, s, C, c, r, p⟩ => ?_
  refine Dn.step c r p fun ι1 H1 C1 v x e1 c1 r1 q1 p1 => ?_
  split at p1
  · rename_i v w
    split at p1
    · rename_i xs ys hx hy
      obtain ⟨u, u2, rfl, h1, h2⟩ := q1.two
      obtain ⟨a, us, rfl, s1, t1⟩ := seqB_at c1 h1 hx (chk_now hx)
      obtain ⟨b, ws, rfl, s2, t2⟩ := seqB_at c1 h2 hy (chk_now hy)
      refine ⟨isT v, isT w, a, b, us, ws, rfl, s1, s2, p1.fin c1 ?_⟩
      refine ⟨fun H2 => ∃ us vs, SqB X.K (isT v) H2 a us ∧ us.length = xs.length ∧ SqB X.K (isT w) H2 b vs ∧ vs.length = ys.length, (ItezB X.K (isT v) (isT w) a b k).yld, ⟨fun i H2 hi ⟨us, vs, g1, g2, g3, g4⟩ => ?_, fun H2 ⟨us, vs, g1, g2, g3, g4⟩ => ?_, fun i H2 x H3 hi _ y => y⟩, fun ι2 H2 C2 e c2 hc => ?_, fun ι2 H2 C2 i x H3 e c2 hc hi y => ?_⟩
      · exact ⟨us, vs, g1, g3, by rw [g2, g4, ← pairs_len, ← numbZ_len k]; exact hi⟩
      · exact ⟨us, vs, g1, g3, by rw [g2, g4]; exact (numbZ_len k _).trans (pairs_len xs ys)⟩
      · rw [Bool.and_eq_true] at hc
        obtain ⟨a', us', ea, k1, k2⟩ := seqB_at c2 (h1.mv e) hx hc.1
        obtain ⟨b', ws', eb, k3, k4⟩ := seqB_at c2 (h2.mv e) hy hc.2
        cases ea; cases eb
        exact ⟨us', ws', k1, k2.length.symm, k3, k4.length.symm⟩
      · rw [Bool.and_eq_true] at hc
        obtain ⟨a', us', ea, k1, k2⟩ := seqB_at c2 (h1.mv e) hx hc.1
        obtain ⟨b', ws', eb, k3, k4⟩ := seqB_at c2 (h2.mv e) hy hc.2
        cases ea; cases eb
        obtain ⟨T, U, m, n, o, o2, rfl, hT, hU, d, d2, rfl, y1, y2⟩ := y
        obtain ⟨x1, hx1, rx⟩ := k2.get' (y1 _ k1)
        obtain ⟨z1, hz1, rz⟩ := k4.get' (y2 _ k3)
        obtain ⟨l1, l2, l3⟩ := pair_new c2 hT d rx rz
        obtain ⟨m1, m2, m3⟩ := pair_new l2 hU d2 (.int (k + (i : Int))) l3
        exact ⟨_, numbZ_get (pairs_get hx1 hz1), l1.trans m1, m2, m3⟩
    · exact p1.elim
  · exact p1.elim
/-! ### a statement that is never reached -/
theorem r_sbad {X : Cx} {xc : XC} {W : WX} {st : Stmt} : PS X st (sD X.K xc W sBad) := ⟨fun pins s σ H D I h => by
  obtain ⟨ι, s', C, c, r, p⟩ := h
  exact (show False from p).elim⟩
end FM

/-! x in o, where o is an object whose class has its own __contains__ -/
namespace FM
open PySem PySem.Spec PyProof.Rows L2 RZ
theorem contains_own {prog : Program} {w : World} {A : Around} {E : Value → Shared → Prop} {s : Shared} {K : PySem.W.Frag} {x C f : Addr} {ox : Obj} {od : Option Obj} {v : Value} {Q : Bool → Shared → Prop} (X : K.In s.heap) (I : PySem.W.InstAt s.heap x ox C od)
    (hs : PySem.W.findIn K (.ref C) "__contains__" = some (some (.ref f))) (hf : PySem.W.isFn K (.ref f) = true) (h : wpAny (model prog w) A (call (.ref f) [.ref x, v]) (fun r s' => ∃ b, r = .bool b ∧ Q b s') E s) : wpAny (model prog w) A (contains (.ref x) v) Q E s := by
  unfold contains
  refine wpAny_holding ?_
  have e0 : stdlibNamesSay? (.ref x) v = none := rfl
  simp only [e0, callSpecialUnlessNone?, specialOf]
  have look : ∀ {Q' : Option Value → Shared → Prop}, Q' (some (.ref f)) s → wpAny (model prog w) A (typeOf (.ref x) >>= fun T => typeLookup T "__contains__") Q' E s := fun q => wpAny_bind (I.type.here ((PySem.W.looks_findIn X hs).here q))
  refine wpAny_bind (look ?_)
  rw [if_neg fun q => by cases (beq_iff_eq.mp q)]
  refine wpAny_bind (wpAny_bind (look ?_))
  refine wpAny_holding (wpAny_bind ((PySem.W.bind_fn X _ (beq_iff_eq.mp hf)).here ?_))
  rw [if_neg (fun q => by cases (beq_iff_eq.mp q))]
  refine wpAny_bind (wpAny_mono h (fun r s' z => ?_) fun _ _ e => e)
  obtain ⟨b, rfl, q⟩ := z
  exact wpAny_pure (wpAny_truthy_bool q)
/-- the class has its own __contains__, a def of the text -/
def ContOk (X : Cx) (xc : XC) (ad : Nat → Addr) (c : Nat) (m : List A → Cs → R A) : Prop :=
  ∃ f k fd ps, PySem.W.findIn X.K (.ref (ad c)) "__contains__" = some (some (.ref f)) ∧ PySem.W.isFn X.K (.ref f) = true ∧ FnOk X.prog X.w X.K X.mg X.base (L2.CX X.prog X.w) k f fd ps (spD X.K xc 2 m) ∧ Room (k + 1) X.A ∧ Binds X.K fd ps []
def rInO (X : Cx) (xc : XC) (ad : Nat → Addr) (tab : List (Nat × (List A → Cs → R A))) (neg : Bool) (r : R2) : R2 := fun x y H Q =>
  (∃ cn m a dx fs, y = .ref a ∧ H a = some (.ins (ad cn) dx fs) ∧ tab.lookup cn = some m ∧ spD X.K xc 2 m [.ref a, x] H (fun v H' => ∃ b, v = .bl b ∧ Q (.bl (if neg then !b else b)) H') (fun _ _ _ => False)) ∨ r x y H Q
section
variable {X : Cx} {xc : XC} {ad : Nat → Addr} {tab : List (Nat × (List A → Cs → R A))} {r : R2}
theorem in_own (hc : ∀ c m, tab.lookup c = some m → ContOk X xc ad c m) (neg : Bool) {pins : List (Addr × Obj)} {s : Shared} {σ : L2.St} {H : Hp} {x y : V} {v u : Value} {Q : VK} {cn : Nat} {m : List A → Cs → R A} {a dx : Addr} {fs : List (Str × V)} (I : L2.Inv X pins σ H s) (rx : RelV x v) (hy : y = .ref a) (ry : RelV y u) (ha : H a = some (.ins (ad cn) dx fs)) (hm : tab.lookup cn = some m)
    (sp : spD X.K xc 2 m [.ref a, x] H (fun v H' => ∃ b, v = .bl b ∧ Q (.bl (if neg then !b else b)) H') (fun _ _ _ => False)) : wpAny (model X.prog X.w) X.A (contains u v) (fun b s' => EP X pins σ Q (.bool (if neg then !b else b)) s') X.xe s := by
  subst hy
  cases ry
  obtain ⟨f, k, fd, ps, h2, h3, F, hr, hb⟩ := hc cn m hm
  obtain ⟨mA, J, _⟩ := ins_get I.hok ha
  obtain ⟨od, J, _⟩ := J.look
  refine contains_own I.kIn J h2 h3 ?_
  have hl := F.len _ _ _ _ sp
  have r2 : Vals [V.ref a, x] [Value.ref a, v] := .cons rfl (.cons rx .nil)
  have e0 : Env0 X.prog X.w X.K X.mg X.base X.A X.stack s H := I.env0
  refine wpAny_call (codeAny_mono (F.run X.A X.stack s H ⟨[.ref a, v], []⟩ [.ref a, v] [.ref a, x] _ _ (hr.mono (Nat.le_succ _)) e0 (by
    have := hb s [.ref a, v] I.kIn (by simpa using hl)
    simpa using this) r2 sp) fun r s' hq => ?_)
  cases r with
  | error e => exact (by
      obtain ⟨_, _, _, _, _, _, _, _, _, _, _, _, z⟩ := hq
      exact z.elim)
  | ok fl =>
    cases fl with
    | ret w =>
      obtain ⟨z, H', I', rz, b, ez, q⟩ := I.after hq
      subst ez
      cases rz
      exact ⟨b, rfl, .bl _, H', I', rfl, q⟩
    | next => exact False.elim hq
    | brk => exact False.elim hq
    | cont => exact False.elim hq
theorem op_inO (hc : ∀ c m, tab.lookup c = some m → ContOk X xc ad c m) (ho : OpR X (compareOp .In) r) : OpR X (compareOp .In) (rInO X xc ad tab false r) := by
  intro pins s σ H x y v u Q I rx ry h
  rcases h with ⟨cn, m, a, dx, fs, hy, ha, hm, sp⟩ | h
  · show wpAny _ _ (contains u v >>= fun b => pure (Value.bool b)) _ _ _
    exact wpAny_bind (wpAny_mono (in_own hc false I rx hy ry ha hm sp) (fun b s' q => wpAny_pure (by simpa using q)) fun _ _ e => e)
  · exact ho pins s σ H x y v u Q I rx ry h
theorem op_notInO (hc : ∀ c m, tab.lookup c = some m → ContOk X xc ad c m) (ho : OpR X (compareOp .NotIn) r) : OpR X (compareOp .NotIn) (rInO X xc ad tab true r) := by
  intro pins s σ H x y v u Q I rx ry h
  rcases h with ⟨cn, m, a, dx, fs, hy, ha, hm, sp⟩ | h
  · show wpAny _ _ (contains u v >>= fun b => pure (Value.bool (!b))) _ _ _
    exact wpAny_bind (wpAny_mono (in_own hc true I rx hy ry ha hm sp) (fun b s' q => wpAny_pure (by simpa using q)) fun _ _ e => e)
  · exact ho pins s σ H x y v u Q I rx ry h
def flipR (neg : Bool) : R A → R A
  | .ok (.bl b) C => .ok (.bl (if neg then !b else b)) C
  | _ => .bad
def gInO (neg : Bool) (tab : List (Nat × (List A → Cs → R A))) : A → A → Cs → R A := fun v w C => match w with
  | .ob c ns xs => match tab.lookup c with
    | some m => flipR neg (m [.ob c ns xs, v] C)
    | none => .bad
  | w => gInB neg v w C
theorem ad_inO {neg : Bool} (hfa : ∀ T fa kp pv, xc.G T fa kp pv → fa = ad) (had : Adq2 X.K xc (gInB neg) r) : Adq2 X.K xc (gInO neg tab) (rInO X xc ad tab neg r) := by
  intro W ι H σ C v w x y Q c r1 r2 p
  unfold gInO at p
  split at p
  · rename_i cn ns xs
    split at p
    · rename_i m hm
      have hfa := hfa _ _ _ _ c.g
      cases r2 with
      | @ob _ _ _ vs a dx h1 h2 h3 h4 =>
        refine .inl ⟨cn, m, a, dx, _, rfl, by rw [← hfa]; exact h1, hm, ι, [.ob cn ns xs, v], C, c, .cons (.ob h1 h2 h3 h4) (.cons r1 .nil), rfl, ?_⟩
        cases em : m [.ob cn ns xs, v] C with
        | ok y C2 =>
          rw [em] at p
          cases y with
          | bl b =>
            intro ι2 H2 z e2 c2 q2
            cases q2
            exact ⟨b, rfl, p ι2 H2 _ e2 c2 (.bl _)⟩
          | _ => exact (show False from p).elim
        | ex cc pp C2 => rw [em] at p; exact (show False from p).elim
        | bad => rw [em] at p; exact (show False from p).elim
    · exact p.elim
  · exact .inr (had W ι H σ C _ _ x y Q c r1 r2 p)
end
end FM

/-! defs with yield, and list(f(..)) of them -/
namespace FM
open PySem PySem.Spec PyProof.Rows L2 RZ
/-- how a part of such a def ends; Y: what was handed out so far -/
inductive GO where
  | nx (s : En) (C : Cs) (Y : List A) | rt (C : Cs) (Y : List A) | ex (c : Nat) (p : Option A) (s : En) (C : Cs) | bad
abbrev GF := En → Cs → List A → GO
def PostG (K : PySem.W.Frag) (xc : XC) (W : WX) (ι : Lay) (H : Hp) (D : GEnds) : GO → Prop
  | .nx s C Y => ∀ ι' H' σ' ys, Ext ι H ι' H' → RC K xc ι' H' C → RS K ι' H' s σ' → Rps K ι' H' Y ys → D.nx ys σ' H'
  | .rt C Y => ∀ ι' H' ys, Ext ι H ι' H' → RC K xc ι' H' C → Rps K ι' H' Y ys → D.rt ys .non H'
  | .ex c p s C => ∀ ι' H' σ' d, Ext ι H ι' H' → RC K xc ι' H' C → RS K ι' H' s σ' → RX K xc ι' H' c p d → W (.ref (xc.cl c)) d σ' H'
  | .bad => False
def yD (K : PySem.W.Frag) (xc : XC) (W : WX) (g : GF) : TGn := fun D ys σ H => ∃ ι s C Y, RC K xc ι H C ∧ RS K ι H s σ ∧ Rps K ι H Y ys ∧ PostG K xc W ι H D (g s C Y)
def GO.then (r : GO) (f : GF) : GO := match r with
  | .nx s C Y => f s C Y
  | r => r
/-- a statement that hands out nothing -/
def gPl (f : En → Cs → SR) : GF := fun s C Y => match f s C with
  | .nx s1 C1 => .nx s1 C1 Y
  | .ex c p s1 C1 => .ex c p s1 C1
  | .rt .non C1 => .rt C1 Y
  | _ => .bad
def gYield (e : En → Cs → R A) : GF := fun s C Y => if Y.length < 100000 then match e s C with
    | .ok v C1 => .nx s C1 (Y ++ [v])
    | .ex c p C1 => .ex c p s C1
    | .bad => .bad
  else .bad
def gSeq (f g : GF) : GF := fun s C Y => (f s C Y).then g
def gWhile (t : En → Cs → R Bool) (g : GF) : Nat → GF
  | 0, _, _, _ => .bad
  | n + 1, s, C, Y => match t s C with
    | .ok true C1 => (g s C1 Y).then (gWhile t g n)
    | .ok false C1 => .nx s C1 Y
    | .ex c p C1 => .ex c p s C1
    | .bad => .bad
section
variable {K : PySem.W.Frag} {xc : XC} {W : WX} {ι ι' : Lay} {H H' : Hp} {D : GEnds}
theorem PostG.later {r : GO} (p : PostG K xc W ι H D r) (e : Ext ι H ι' H') : PostG K xc W ι' H' D r := by
  cases r with
  | nx s C Y => exact fun ι2 H2 σ2 ys e2 c r2 q => p ι2 H2 σ2 ys (e.trans e2) c r2 q
  | rt C Y => exact fun ι2 H2 ys e2 c q => p ι2 H2 ys (e.trans e2) c q
  | ex cc pp s C => exact fun ι2 H2 σ2 d e2 c r2 q => p ι2 H2 σ2 d (e.trans e2) c r2 q
  | bad => exact p
end
section
variable {X : Cx} {xc : XC} {W : WX} {pos : Pos} {st : Stmt} {rest : List Stmt}
theorem GS.imp {t t' : TGn} (h : GS X st t) (i : ∀ D ys σ H, t' D ys σ H → t D ys σ H) : GS X st t' := ⟨fun A S ip R n ys s₀ c fs K J gd lv s σ H D g hn k hI ht => h.run A S ip R n ys s₀ c fs K J gd lv s σ H D g hn k hI (i _ _ _ _ ht)⟩
theorem GSs.imp {st : List Stmt} {t t' : TGn} (h : GSs X st t) (i : ∀ D ys σ H, t' D ys σ H → t D ys σ H) : GSs X st t' := ⟨fun A S ip R n ys s₀ c fs K J gd lv s σ H D g hn k hI ht => h.run A S ip R n ys s₀ c fs K J gd lv s σ H D g hn k hI (i _ _ _ _ ht)⟩
theorem y_pl {f : En → Cs → SR} (h : PS X st (sD X.K xc W f)) : GS X st (yD X.K xc W (gPl f)) := by
  refine GS.imp (gs_ps h) fun D ys σ H ⟨ι, s, C, Y, c, r, q, p⟩ => ⟨ι, s, C, c, r, ?_⟩
  unfold gPl at p
  cases e : f s C with
  | nx s1 C1 => rw [e] at p; exact fun ι1 H1 σ1 e1 c1 r1 => p ι1 H1 σ1 ys e1 c1 r1 (q.ext e1)
  | ex cc pp s1 C1 => rw [e] at p; exact p
  | rt v C1 =>
    rw [e] at p
    cases v with
    | non => exact fun ι1 H1 x e1 c1 r1 => by cases r1; exact p ι1 H1 ys e1 c1 (q.ext e1)
    | _ => exact (show False from p).elim
  | bk s1 C1 => rw [e] at p; exact (show False from p).elim
  | ct s1 C1 => rw [e] at p; exact (show False from p).elim
  | bad => rw [e] at p; exact (show False from p).elim
theorem y_yield {e : Expr} {yp : Pos} {f : En → Cs → R A} (he : PE X e (xD X.K xc W f)) (hco : X.env.scope.isCoroutine = false := by rfl) (hi : interactive X.env = false := by rfl) : GS X (.Expr (.Yield (some e) yp) pos) (yD X.K xc W (gYield f)) := by
  refine GS.imp (gs_yield he hco hi) fun D ys σ H ⟨ι, s, C, Y, c, r, q, p⟩ => ?_
  unfold gYield at p
  split at p
  · rename_i hl
    refine ⟨by rw [← q.length, sizeLine_eq]; omega, ι, s, C, c, r, ?_⟩
    cases ev : f s C with
    | ok v C1 =>
      rw [ev] at p
      exact fun ι1 H1 x e1 c1 r1 => p ι1 H1 σ _ e1 c1 (r.ext e1) ((q.ext e1).append (.cons r1 .nil))
    | ex cc pp C1 =>
      rw [ev] at p
      exact fun ι1 H1 d e1 c1 rx => p ι1 H1 σ d e1 c1 (r.ext e1) rx
    | bad => rw [ev] at p; exact (show False from p).elim
  · exact p.elim
theorem y_one {f : GF} (h : GS X st (yD X.K xc W f)) : GSs X [st] (yD X.K xc W f) := by
  refine GSs.imp (gss_cons h gss_nil) fun D ys σ H h => ?_
  exact h
theorem y_nil : GSs X [] (yD X.K xc W (gPl sNext)) := by
  refine GSs.imp gss_nil fun D ys σ H ⟨ι, s, C, Y, c, r, q, p⟩ => p ι H σ ys (Ext.refl _ _) c r q
theorem y_cons {f g : GF} (h : GS X st (yD X.K xc W f)) (h2 : GSs X rest (yD X.K xc W g)) : GSs X (st :: rest) (yD X.K xc W (gSeq f g)) := by
  refine GSs.imp (gss_cons h h2) fun D ys σ H ⟨ι, s, C, Y, c, r, q, p⟩ => ⟨ι, s, C, Y, c, r, q, ?_⟩
  unfold gSeq at p
  cases e : f s C Y with
  | nx s1 C1 Y1 => rw [e] at p; exact fun ι1 H1 σ1 ys1 e1 c1 r1 q1 => ⟨ι1, s1, C1, Y1, c1, r1, q1, PostG.later p e1⟩
  | rt C1 Y1 => rw [e] at p; exact p
  | ex cc pp s1 C1 => rw [e] at p; exact p
  | bad => rw [e] at p; exact p
theorem y_while (n : Nat) {c : Expr} {body : List Stmt} {t : En → Cs → R Bool} {g : GF} (hp : PassesOwn (model X.prog X.w) X.A X.env X.xe) (hc : PT X c (tD X.K xc W t)) (hb : GSs X body (yD X.K xc W g)) : GS X (.While c body [] pos) (yD X.K xc W (gWhile t g n)) := by
  refine GS.imp (gs_while hp hc hb) fun D ys σ H ⟨ι, s, C, Y, cc, r, q, p⟩ => ?_
  refine ⟨fun m ys σ H => ∃ ι s C Y, RC X.K xc ι H C ∧ RS X.K ι H s σ ∧ Rps X.K ι H Y ys ∧ PostG X.K xc W ι H D (gWhile t g m s C Y), ⟨n, ι, s, C, Y, cc, r, q, p⟩, ?_⟩
  rintro m ys σ H ⟨ι, s, C, Y, cc, r, q, p⟩
  cases m with
  | zero => exact (show False from p).elim
  | succ m =>
    refine ⟨ι, s, C, cc, r, ?_⟩
    unfold gWhile at p
    cases et : t s C with
    | ok b C1 =>
      rw [et] at p
      intro ι1 H1 x e1 c1 hx
      cases hx
      cases b with
      | false => exact p ι1 H1 σ ys e1 c1 (r.ext e1) (q.ext e1)
      | true =>
        simp only [if_true] at p ⊢
        refine ⟨fun ys' σ' H' => ∃ ι s C Y, RC X.K xc ι H' C ∧ RS X.K ι H' s σ' ∧ Rps X.K ι H' Y ys' ∧ PostG X.K xc W ι H' D (gWhile t g m s C Y), fun ys' σ' H' h => ⟨m, Nat.lt_succ_self m, h⟩, ι1, s, C1, Y, c1, r.ext e1, q.ext e1, ?_⟩
        have p2 := PostG.later p e1
        cases eg : g s C1 Y with
        | nx s4 C4 Y4 => rw [eg] at p2; exact fun ι4 H4 σ4 ys4 e4 c4 r4 q4 => ⟨ι4, s4, C4, Y4, c4, r4, q4, PostG.later p2 e4⟩
        | rt C4 Y4 => rw [eg] at p2; exact p2
        | ex c4 p4 s4 C4 => rw [eg] at p2; exact p2
        | bad => rw [eg] at p2; exact p2
    | ex c1 p1 C1 =>
      rw [et] at p
      exact fun ι1 H1 d e1 c1 rx => p ι1 H1 σ d e1 c1 (r.ext e1) rx
    | bad => rw [et] at p; exact (show False from p).elim
end
/-! ### the def -/
def spG (K : PySem.W.Frag) (xc : XC) (np : Nat) (m : List A → Cs → R (List A)) : SpG := fun vs H Q E => ∃ ι as C, RC K xc ι H C ∧ Rps K ι H as vs ∧ vs.length = np ∧ Post K xc (fun c d _ H' => E c d H') (Rps K) ι H [] (m as C) Q
def runY (n : Nat) (b : GF) (as : List A) (C : Cs) : R (List A) := match b (as.map some ++ List.replicate n none) C [] with
  | .nx _ C1 Y => .ok Y C1
  | .rt C1 Y => .ok Y C1
  | .ex c p _ C1 => .ex c p C1
  | .bad => .bad
def scG (N P : List Str) (sc : Scope) : Bool :=
  decide (sc.kind = .function) && !sc.isCoroutine && sc.isGenerator && decide N.Nodup && decide (N.take P.length = P) && (P.all fun x => decide (sc.names.lookup x = some .local) || decide (sc.names.lookup x = some .cell)) && (sc.names.all fun y => !decide (y.2 = .free))
theorem sg_by {N P : List Str} {sc : Scope} (h : scG N P sc = true) : GScope N P sc := by
  unfold scG at h
  simp only [Bool.and_eq_true, Bool.not_eq_true', decide_eq_true_eq, List.all_eq_true, Bool.or_eq_true, decide_eq_false_iff_not] at h
  obtain ⟨⟨⟨⟨⟨⟨h1, h2⟩, h3⟩, h4⟩, h5⟩, h6⟩, h7⟩ := h
  exact ⟨h1, h2, h3, h4, h5, h6, h7⟩
section
variable {P : Program} {w : World} {K : PySem.W.Frag} {mg : Str → Option Value} {base : Heap} {xc : XC}
theorem fn_gen {x qual : Str} {st : Stmt} {f : Addr} {fd : FuncData} {N ps : List Str} {k : Nat} {b : GF} (F : Fun K x qual st f fd) (S : GScope N ps (defScope st))
    (hbody : ∀ (cdv : Value) (A : Around) (outer : List Env) (s : Shared) (H : Hp) (E : XK) (pn : List (Addr × Obj)), Room k (A.deeper (envOfC qual (defScope st) s.heap.objs.size f cdv)) →
      Takes (gcxOf P w K mg base N qual (defScope st) f cdv A outer s H E pn) (fun c d _ H => E c d H) →
      PassesOwn (model P w) (gcxOf P w K mg base N qual (defScope st) f cdv A outer s H E pn).A (gcxOf P w K mg base N qual (defScope st) f cdv A outer s H E pn).env (gcxOf P w K mg base N qual (defScope st) f cdv A outer s H E pn).xe →
      GSs (gcxOf P w K mg base N qual (defScope st) f cdv A outer s H E pn) (defBody st) (yD K xc (fun c d _ H => E c d H) b)) :
    GFn P w K mg base (k + 1) f fd ps (spG K xc ps.length (runY (N.length - ps.length) b)) := by
  obtain ⟨oc, od, kV, doc, pm, an, cdv, ct, osl, rfl, lk, hcd⟩ := F.ex
  refine gfn_of lk hcd S (fun vs H Q E ⟨_, _, _, _, _, h, _⟩ => h) fun A outer s H vs Q E pn hr ⟨ι, as, C, c, ra, hl, p⟩ => ?_
  refine ⟨_, hbody cdv A outer s H E pn hr takes_gcx owns_gcx, ?_⟩
  refine ⟨ι, as.map some ++ List.replicate (N.length - vs.length) none, C, [], c, RS.start ra, .nil, ?_⟩
  rw [hl]
  unfold runY at p
  generalize b (List.map some as ++ List.replicate (N.length - ps.length) none) C [] = r at p ⊢
  cases r with
  | nx s1 C1 Y => exact fun ι1 H1 σ1 ys e1 c1 r1 q => p ι1 H1 ys e1 c1 q
  | rt C1 Y => exact fun ι1 H1 ys e1 c1 q => ⟨rfl, p ι1 H1 ys e1 c1 q⟩
  | ex cc pp s1 C1 => exact fun ι1 H1 σ1 d e1 c1 r1 rx => p ι1 H1 d e1 c1 rx
  | bad => exact p
end
/-! ### list(f(..)) -/
section
variable {X : Cx} {k : Nat} {pos p : Pos}
theorem listG_at {e : Expr} {tg : TGen} {E : XK} {σ : L2.St} (h : PGen X k e tg E) (hx : PassesAt (L2.CX X.prog X.w) X σ E) (hns : NoStop X.K E) (hr : Room (k + 3) X.A) (hg : Gl X "list") (hmg : X.mg "list" = none) {pins : List (Addr × Obj)} {s : Shared} {H : Hp} {Q : VK} (I : L2.Inv X pins σ H s)
    (hq : tListG tg σ H Q) (he : starEach [e] X.env = (false, eval e X.env) :: starEach [] X.env := by rfl) : wpAny (model X.prog X.w) X.A (eval (.Call (.Name "list" p) [e] [] pos) X.env) (EP X pins σ Q) X.xe s := by
  refine wpAny_Call_Name_kw (ld_blt I hg hmg boot_list ?_)
  refine PyProof.Rows.callWith_type1 ?_ he rfl
  rw [he]
  show wpAny _ _ (spliced ((false, eval e X.env) :: backTo pos (starEach [] X.env))) _ _ s
  refine Calls.spliced_cons (thn (h.run pins s σ H _ I hq) fun u s1 ⟨H1, sc, ex, I1, hex, hG⟩ => Calls.spliced_nil ?_)
  have hsz : sc.heap.objs.size ≤ s1.heap.objs.size := by
    obtain ⟨a, g, c, _, h1, h2, _⟩ := hG
    exact Nat.le_trans h1 (Nat.le_of_lt h2)
  refine call_list_new hr I1.ok.frames hG (fun S s' acc c H' ys q0 q1 q2 hl q3 q4 q5 q6 q7 q8 => ?_) fun e s' g hc => ?_
  · exact ⟨.ref S, upd H' S (.lst ys), I1.drained (Nat.le_trans hsz q0) hl q1 q2 hex q3 q4 q5 q6 q7, rfl, q8 S q7⟩
  · have kin : X.K.In s'.heap := by
      obtain ⟨a, B, H', cls, d, _, fl, _, ub, _⟩ := id hc
      refine I1.ok.mod.kin.keeps fun b o eb => fl.1 b o (ub.keep b o (I1.bs b o eb).1 (I1.bs b o eb).2 fun hm => ?_)
      rcases List.mem_cons.mp (I1.stkSub b hm) with z | z
      · have h1 := Heap.lt_size eb
        have h2 := Nat.le_trans I1.ok.bsz I1.ok.above
        rw [z] at h1
        exact absurd (Nat.lt_of_lt_of_le h1 h2) (Nat.lt_irrefl _)
      · exact I1.ok.nofr eb z
    refine ⟨notStop_of hns kin hc, hx pins H1 sc e _ I1 ?_⟩
    obtain ⟨a, B, H', cls, d, z1, fl, z2, ub, z3, z4, z5, z6⟩ := hc
    exact ⟨a, B, H', cls, d, z1, fl, z2, ub, z3, z4, allBare_setGen z5 rfl, z6⟩
def xListG (n : Nat) (m : List A → Cs → R (List A)) (fs : En → Cs → R (List A)) : En → Cs → R A := fun s C => (fs s C).bind fun vs C1 => match m vs C1 with
  | .ok Y C2 => .ok (.lst Y) C2
  | .ex c p C2 => if c < n then .ex c p C2 else .bad
  | .bad => .bad
theorem r_listG {xc : XC} {W : WX} {n np : Nat} {f : Addr} {fd : FuncData} {ps : List Str} {m : List A → Cs → R (List A)} {x : Str} {p2 pos2 : Pos} {e : Expr} {es : List Expr} {fs : En → Cs → R (List A)} (F : GFn X.prog X.w X.K X.mg X.base k f fd ps (spG X.K xc np m)) (hr : Room (k + 3) X.A) (tk : Takes X W)
    (hst : ∀ c, c < n → PySem.W.subIn X.K (.ref (xc.cl c)) (.type "StopIteration") = some false) (hgl : Gl X "list") (hml : X.mg "list" = none) (hg : Gl X x) (hm : X.mg x = some (.ref f)) (hk : PySem.W.keepIn X.K (.ref f) = true) (hb : Binds X.K fd ps []) (ha : PA X (e :: es) (aD X.K xc W fs)) (hl : es.length + 1 = np)
    (hdb : (x == ("__debug__" : Str)) = false := by decide) (he : starEach (e :: es) X.env = (false, eval e X.env) :: starEach es X.env := by rfl) (hpl : (backTo pos2 (starEach es X.env)).any (·.1) = false := by rfl) (hal : ∀ s C vs C', fs s C = .ok vs C' → vs.length = np) :
    PE X (.Call (.Name "list" p) [.Call (.Name x p2) (e :: es) [] pos2] [] pos) (xD X.K xc W (xListG n m fs)) := by
  refine ⟨fun pins s σ H Q I ⟨ι, t, C, c, r, pp⟩ => ?_⟩
  let E : XK := fun cls d H' => W cls d σ H' ∧ PySem.W.subIn X.K cls (.type "StopIteration") = some false
  have hx : PassesAt (L2.CX X.prog X.w) X σ E := fun pins H s e s' I ⟨a, B, H', cls, d, z1, fl, z2, ub, z3, z4, z5, z6⟩ => passAt tk σ pins H s e s' I ⟨a, B, H', cls, d, z1, fl, z2, ub, z3, z4, z5, z6.1⟩
  refine listG_at (pgen_call (dvs := []) (ds := []) (E := E) F (hr.mono (Nat.le_add_right _ _)) hg hm hk hb .nil ha hdb he hpl) hx (fun cls d H h => h.2) hr hgl hml I ?_ rfl
  show aD X.K xc W fs σ H fun vs H1 => spG X.K xc np m (vs ++ []) H1 (fun out H2 => ∀ p, H2 p = none → Q (.ref p) (upd H2 p (.lst out))) E
  unfold xListG at pp
  refine ⟨ι, t, C, c, r, ?_⟩
  cases ef : fs t C with
  | ok vs C1 =>
    rw [ef] at pp
    intro ι1 H1 xs e1 c1 q1
    have p1 : Post X.K xc W (Rp X.K) ι1 H1 σ (match m vs C1 with | .ok Y C2 => .ok (.lst Y) C2 | .ex c p C2 => if c < n then .ex c p C2 else .bad | .bad => .bad) Q := Post.later pp e1
    refine ⟨ι1, vs, C1, c1, by rw [List.append_nil]; exact q1, by rw [List.append_nil, ← q1.length]; exact hal _ _ _ _ ef, ?_⟩
    cases em : m vs C1 with
    | ok Y C2 =>
      rw [em] at p1
      exact fun ι2 H2 ys e2 c2 q2 a ha => p1 ι2 _ _ (e2.trans (ext_new c2 ha _)) (c2.new ha _) (.lst upd_same (c2.ne_none ha) (q2.ext (ext_new c2 ha _)))
    | ex cc pq C2 =>
      rw [em] at p1
      simp only at p1
      split at p1
      · rename_i hcn
        exact fun ι2 H2 d e2 c2 rx => ⟨p1 ι2 H2 d e2 c2 rx, hst cc hcn⟩
      · exact p1.elim
    | bad => rw [em] at p1; exact (show False from p1).elim
  | ex cc pq C1 => rw [ef] at pp; exact pp
  | bad => rw [ef] at pp; exact pp
end
end FM

/-! for in a def with yield -/
namespace FM
open PySem PySem.Spec PyProof.Rows L2 RZ GenW
section
variable {M : Model} {A : Around} {R : GenEnd} {Y : Protocol} {n : Nat} {s₀ : Shared} {c : Code} {fs : List Frame} {s : Shared} {env : Env} {K : Flow → Sem PySem.Fin} {J : Value → Sem PySem.Fin} {gd : Bool → Bool} {lv : List Value → List Value}
theorem seg_For {target iter : Expr} {body : List Stmt} {pos : Pos} (hs : ∀ x, foldedSetIterable iter env x = pure x)
    (h : wpAny M (A.over c fs) (eval iter env) (fun v s1 => wpAny M (A.over c fs) (pyIter v) (fun itv s2 => ∀ p, Seg M A R Y n s₀ (.forLoop target itv body [] env) (M.den (.forLoop target itv body [] env))
      (.ret (fun r => ((match r with | .ok f => (.pure f : Sem Flow) | .error e => .raise e).onRaise (cameBack env)).wrap K J gd lv) none (gd false) (lv []) c p [] :: fs) s2) (fun x s' => Seg M A R Y n s₀ c (J x) fs s') s1) (fun x s' => Seg M A R Y n s₀ c (J x) fs s') s) :
    Seg M A R Y n s₀ c ((exec (.For target iter body [] pos) env).wrap K J gd lv) fs s := by
  refine seg_at ?_
  simp only [hs, pure_bind]
  refine seg_bind_wrap (m := eval iter env) (wpAny_mono h (fun v s1 h1 => ?_) fun _ _ x => x)
  refine seg_bind_wrap (m := standAt iter.pos) (wpAny_standAt ?_)
  refine seg_bind_wrap (wpAny_holding (wpAny_mono h1 (fun itv s2 h2 => ?_) fun _ _ x => x))
  exact seg_call h2
theorem seg_forLoop {prog : Program} {w : World} {target : Expr} {itv : Value} {body : List Stmt}
    (h : wpAny (model prog w) (A.over (.forLoop target itv body [] env) fs) (pyNext itv) (fun r s1 => match r with
        | none => Seg (model prog w) A R Y n s₀ (.forLoop target itv body [] env) (.pure (.again (.block [] env))) fs s1
        | some v => wpAny (model prog w) (A.over (.forLoop target itv body [] env) fs) (letOwnedTupleGo target itv v) (fun _ s2 => wpAny (model prog w) (A.over (.forLoop target itv body [] env) fs) (assign target env v) (fun _ s3 =>
            Seg (model prog w) A R Y n s₀ (.forLoop target itv body [] env) ((execs body env).wrap (fun f => match f with
              | .next | .cont => .pure (.again (.forLoop target itv body [] env))
              | .brk => .pure (.done .next)
              | .ret v => .pure (.done (.ret v))) (fun e => (do noteFrame e env; theTreesLotGoes e : Sem Unit).wrap (fun _ => .raise e) .raise id id) id id) fs s3)
            (fun x s' => Seg (model prog w) A R Y n s₀ (.forLoop target itv body [] env) ((do noteFrame x env; theTreesLotGoes x : Sem Unit).wrap (fun _ => .raise x) .raise id id) fs s') s2)
            (fun x s' => Seg (model prog w) A R Y n s₀ (.forLoop target itv body [] env) ((do noteFrame x env; theTreesLotGoes x : Sem Unit).wrap (fun _ => .raise x) .raise id id) fs s') s1)
      (fun x s' => Seg (model prog w) A R Y n s₀ (.forLoop target itv body [] env) ((do noteFrame x env; theTreesLotGoes x : Sem Unit).wrap (fun _ => .raise x) .raise id id) fs s') s) :
    Seg (model prog w) A R Y n s₀ (.forLoop target itv body [] env) ((model prog w).den (.forLoop target itv body [] env)) fs s := by
  show Seg _ A R Y n s₀ _ ((forTurn target itv body [] env).onRaise (fun x => do noteFrame x env; theTreesLotGoes x)) fs s
  unfold forTurn
  rw [Sem.onRaise_eq_wrap]
  have hx : ∀ (x : Value), ((do noteFrame x env; theTreesLotGoes x : Sem Unit).bind fun _ => (.raise x : Sem PySem.Fin)) = (do noteFrame x env; theTreesLotGoes x : Sem Unit).wrap (fun _ => .raise x) .raise id id := fun x => by rw [Sem.bind_eq_wrap]
  refine seg_bind_wrap (m := standAt target.pos) (wpAny_standAt ?_)
  refine seg_bind_wrap (wpAny_onRaise (wpAny_mono h (fun r s1 h1 => ?_) fun x s' hx' => ?_))
  · cases r with
    | none => exact h1
    | some v =>
      have back : ∀ (x : Value) (s' : Shared), Seg (model prog w) A R Y n s₀ (.forLoop target itv body [] env) ((do noteFrame x env; theTreesLotGoes x : Sem Unit).wrap (fun _ => .raise x) .raise id id) fs s' →
          Seg (model prog w) A R Y n s₀ (.forLoop target itv body [] env) ((do noteFrame x env; theTreesLotGoes x : Sem Unit).bind fun _ => .raise x) fs s' := fun x s' q => by rw [hx]; exact q
      refine seg_bind_wrap (m := letOwnedTupleGo target itv v) (wpAny_mono h1 (fun _ s2 h2 => ?_) fun x s' q => back x s' q)
      refine seg_bind_wrap (m := assign target env v) (wpAny_mono h2 (fun _ s3 h3 => ?_) fun x s' q => back x s' q)
      rw [Sem.bind_eq_wrap', Sem.wrap_wrap]
      rw [Sem.wrap_congr (execs body env) _ _ (K' := fun f => match f with
            | .next | .cont => .pure (.again (.forLoop target itv body [] env))
            | .brk => .pure (.done .next)
            | .ret v => .pure (.done (.ret v))) (H' := (fun e => (do noteFrame e env; theTreesLotGoes e : Sem Unit).wrap (fun _ => .raise e) .raise id id))
        (fun f => by cases f <;> rfl) (fun e => by exact hx e)]
      exact h3
  · refine wpAny_standAt ?_
    show Seg _ A R Y n s₀ _ ((do noteFrame x env; theTreesLotGoes x : Sem Unit).bind fun _ => .raise x) fs s'
    rw [hx]
    exact hx'
theorem seg_block0 {prog : Program} {w : World} (h : Seg (model prog w) A R Y n s₀ (.block [] env) (.pure (.done .next)) fs s) : Seg (model prog w) A R Y n s₀ (.block [] env) ((model prog w).den (.block [] env)) fs s := by
  exact h
end

section
variable {X : Cx}
def tGFor (wi : TI) (gg : TG) (tb : TGn) : TGn := fun D ys σ H => wi σ H fun J H1 => ∃ W : Nat → Nat → List V → L2.St → Hp → Prop, (∃ m, W 0 m ys σ H1) ∧ ∀ i m ys σ H, W i m ys σ H →
  (J.stop i H ∧ D.nx ys σ H) ∨ (J.go i H ∧ ∃ N : List V → L2.St → Hp → Prop, (∀ ys' σ' H', N ys' σ' H' → ∃ m', m' < m ∧ W (i + 1) m' ys' σ' H') ∧ ∀ x H', J.yld i H x H' → gg x σ H' fun σ2 H2 => tb { D with nx := N, ct := N, bk := D.nx } ys σ2 H2)
theorem gs_for {tg iter : Expr} {body : List Stmt} {pos : Pos} {wi : TI} {gg : TG} {tb : TGn} (hp : PassesOwn (model X.prog X.w) X.A X.env X.xe) (hcalm : X.calm = true) (hi : PI X tg iter wi) (hg : PG X tg gg) (hb : GSs X body tb)
    (hs : ∀ x, foldedSetIterable iter X.env x = pure x) : GS X (.For tg iter body [] pos) (tGFor wi gg tb) := by
  refine ⟨fun A S ip R n ys s₀ c fs K J gd lv s σ H D g hn k hI ht => ?_⟩
  obtain ⟨acc, cc, r, I⟩ := hI
  refine seg_For hs ?_
  rw [g.over]
  refine wpAny_mono (hi.run _ s σ H _ I ht) (fun v s1 h1 => wpAny_mono h1 (fun itv s2 h2 p => ?_) fun x s' hx => k.exc n s₀ x s' hx) fun x s' hx => k.exc n s₀ x s' hx
  obtain ⟨it, fp, tn, Jt, H2, e, I2, T, st2, f2, Wv, ⟨m0, w0⟩, turn⟩ := h2
  subst e
  have gl := fun (kk : Result → Sem PySem.Fin) => gc_loop (k := kk) (c' := .forLoop tg (.ref it) body [] X.env) (l := lv []) (kp := []) (p := p) g rfl rfl
  have stat : ∀ {H' : Hp} {acc' : Array Value} {c' : Nat}, (∀ b ∈ fp, H' b = none) → ∀ b ∈ fp, FpOk X ((S, lstObj acc' c') :: ip) H' b := fun {H' acc' c'} hn b hb => by
    obtain ⟨_, h2, h3, h4, h5, h6⟩ := f2 b hb
    refine ⟨hn b hb, h2, h3, h4, h5, fun q hq => ?_⟩
    rcases List.mem_append.mp hq with hq | hq
    · exact h6 q (List.mem_append_left _ hq)
    · rcases List.mem_cons.mp hq with hq | hq
      · rw [hq]; exact h6 (S, lstObj acc cc) (List.mem_append_right _ List.mem_cons_self)
      · exact h6 q (List.mem_append_right _ (List.mem_cons_of_mem _ hq))
  have loop : ∀ (m i n : Nat) (ys : List V) (s₀ s : Shared) (σ : L2.St) (H : Hp), n + ys.length = sizeLine → Wv i m ys σ H → tn i s.heap → (∀ b ∈ fp, H b = none) → GI X S ip ys σ H s →
      Seg (model X.prog X.w) A R (GY X S) n s₀ (.forLoop tg (.ref it) body [] X.env) ((model X.prog X.w).den (.forLoop tg (.ref it) body [] X.env))
        (.ret (fun r => ((match r with | .ok f => (.pure f : Sem Flow) | .error e => .raise e).onRaise (cameBack X.env)).wrap K J gd lv) none (gd false) (lv []) c p [] :: fs) s := by
    intro m
    induction m using Nat.strongRecOn with
    | ind m ih =>
      intro i n ys s₀ s σ H hn w st fr hI
      have ee : ∀ (n : Nat) (s₀ : Shared) (x : Value) (s' : Shared), X.xe x s' → Seg (model X.prog X.w) A R (GY X S) n s₀ (.forLoop tg (.ref it) body [] X.env)
          ((do noteFrame x X.env; theTreesLotGoes x : Sem Unit).wrap (fun _ => .raise x) .raise id id)
          (.ret (fun r => ((match r with | .ok f => (.pure f : Sem Flow) | .error e => .raise e).onRaise (cameBack X.env)).wrap K J gd lv) none (gd false) (lv []) c p [] :: fs) s' := fun n s₀ x s' hx => by
        refine seg_wrap ?_
        rw [(gl _).over]
        refine wpAny_bind (wpAny_mono (hp x s' hx) (fun _ s'' hcb => wpAny_theTreesLotGoes ?_) fun y s'' hcb => ?_)
        · exact seg_leaf (.error x) (seg_cameBack g k hcb)
        · exact seg_leaf (.error y) (seg_cameBack g k hcb)
      refine seg_forLoop ?_
      rw [(gl _).over]
      obtain ⟨acc, cc, r, I⟩ := hI
      rcases turn i m ys σ H w with ⟨stop, qn⟩ | ⟨go, N, hN, step⟩
      · refine wpAny_mono (T.done X rfl rfl rfl hcalm i _ s σ H X.xe I (stat fr) st stop) (fun r' s4 h4 => ?_) fun x s' hx => ee n s₀ x s' hx
        obtain ⟨hr, I4⟩ := h4
        subst hr
        exact seg_again rfl (seg_block0 (seg_leaf (.ok .next) (k.ok n ys s₀ s4 .next hn ⟨σ, H, ⟨acc, cc, r, I4⟩, qn⟩)))
      · refine wpAny_mono (T.item X rfl rfl rfl hcalm i _ s σ H X.xe I (stat fr) st go) (fun r' s4 h4 => ?_) fun x s' hx => ee n s₀ x s' hx
        obtain ⟨u, hr, h4⟩ := h4
        subst hr
        refine wpAny_mono h4 (fun _ s5 h5 => ?_) fun x s' hx => ee n s₀ x s' hx
        obtain ⟨x, H5, I5, r5, y5, st5, fr5⟩ := h5
        have I5' := I5.pinned (stat fr5) (T.obj _ _ st5)
        refine wpAny_mono (hg.run _ s5 σ H5 x u _ I5' r5 (step x H5 y5)) (fun _ s6 h6 => ?_) fun x s' hx => ee n s₀ x s' hx
        obtain ⟨σ6, H6, I6, q6⟩ := h6
        have gip : GC X S (ip ++ pinsAt fp s5.heap) A (.forLoop tg (.ref it) body [] X.env) (.ret (fun r => ((match r with | .ok f => (.pure f : Sem Flow) | .error e => .raise e).onRaise (cameBack X.env)).wrap K J gd lv) none (gd false) (lv []) c p [] :: fs) id := by
          obtain ⟨g1, g2, g3, g4, g5, g6, g7⟩ := gl (fun r => ((match r with | .ok f => (.pure f : Sem Flow) | .error e => .raise e).onRaise (cameBack X.env)).wrap K J gd lv)
          refine ⟨g1, fun q hq => ?_, g3, g4, g5, g6, g7⟩
          rcases List.mem_append.mp hq with hq | hq
          · exact g2 q hq
          · obtain ⟨hb', _⟩ := of_pinsAt hq
            obtain ⟨_, _, _, _, _, h6⟩ := stat (acc' := acc) (c' := cc) fr5 q.1 hb'
            exact Ne.symm (h6 (S, lstObj acc cc) (List.mem_append_right _ List.mem_cons_self))
        have again : ∀ {σ7 : L2.St} {H7 : Hp} {ys7 : List V} {s7 : Shared} {n7 : Nat} {s₀7 : Shared}, n7 + ys7.length = sizeLine → GI X S (ip ++ pinsAt fp s5.heap) ys7 σ7 H7 s7 → N ys7 σ7 H7 →
            Seg (model X.prog X.w) A R (GY X S) n7 s₀7 (.forLoop tg (.ref it) body [] X.env) ((model X.prog X.w).den (.forLoop tg (.ref it) body [] X.env))
              (.ret (fun r => ((match r with | .ok f => (.pure f : Sem Flow) | .error e => .raise e).onRaise (cameBack X.env)).wrap K J gd lv) none (gd false) (lv []) c p [] :: fs) s7 := fun {σ7 H7 ys7 s7 n7 s₀7} hn7 g7 q7 => by
          obtain ⟨acc7, c7, r7, I7⟩ := g7
          obtain ⟨m', hm, w7⟩ := hN ys7 σ7 H7 q7
          refine ih m' hm (i + 1) n7 ys7 s₀7 s7 σ7 H7 hn7 w7 (T.keep _ _ _ st5 fun b hb o e => (I7.pin (b, o) (List.mem_append_right _ (List.mem_cons_of_mem _ (List.mem_append_right _ (mem_pinsAt hb e))))).1) (fun b hb => ?_) ⟨acc7, c7, r7, Inv.unpinned (pins := (S, lstObj acc7 c7) :: ip) I7⟩
          obtain ⟨o, e, d⟩ := T.obj _ _ st5 b hb
          exact (I7.pin (b, o) (List.mem_append_right _ (List.mem_cons_of_mem _ (List.mem_append_right _ (mem_pinsAt hb e))))).2.1
        have gi : ∀ {σ7 : L2.St} {H7 : Hp} {ys7 : List V} {s7 : Shared}, GI X S (ip ++ pinsAt fp s5.heap) ys7 σ7 H7 s7 → GI X S ip ys7 σ7 H7 s7 := fun {σ7 H7 ys7 s7} g7 => by
          obtain ⟨acc7, c7, r7, I7⟩ := g7
          exact ⟨acc7, c7, r7, Inv.unpinned (pins := (S, lstObj acc7 c7) :: ip) I7⟩
        refine hb.run A S (ip ++ pinsAt fp s5.heap) R n ys s₀ _ _ _ _ id id s6 σ6 H6 { D with nx := N, ct := N, bk := D.nx } gip hn ⟨fun n' ys' s₀' s7 f hn' hs7 => ?_, fun n' s₀' x s7 hx => ee n' s₀' x s7 hx⟩ ⟨acc, cc, r, I6⟩ q6
        cases f with
        | next =>
          obtain ⟨σ7, H7, I7, n7⟩ := hs7
          exact seg_again rfl (again hn' I7 n7)
        | cont =>
          obtain ⟨σ7, H7, I7, n7⟩ := hs7
          exact seg_again rfl (again hn' I7 n7)
        | brk =>
          obtain ⟨σ7, H7, I7, q7⟩ := hs7
          exact seg_leaf (.ok .next) (k.ok n' ys' s₀' s7 .next hn' ⟨σ7, H7, gi I7, q7⟩)
        | ret v =>
          obtain ⟨x7, σ7, H7, I7, r7, q7⟩ := hs7
          exact seg_leaf (.ok (.ret v)) (k.ok n' ys' s₀' s7 (.ret v) hn' ⟨x7, σ7, H7, gi I7, r7, q7⟩)
  exact loop m0 0 n ys s₀ s2 σ H2 hn w0 st2 (fun b hb => (f2 b hb).1) ⟨acc, cc, r, I2⟩
end

theorem gfor_it {J : It} {n : Nat} {Gd : Hp → Prop} {Yd : Nat → Hp → V → Hp → Prop} (w : Walk J n Gd Yd) {g : TG} {tb : TGn} {D : GEnds} {ys : List V} {σ : L2.St} {H : Hp} (Pv : Nat → List V → L2.St → Hp → Prop) (h0 : Pv 0 ys σ H) (hG : ∀ i ys σ H, i ≤ n → Pv i ys σ H → Gd H)
    (hs : ∀ i x ys σ H H', i < n → Pv i ys σ H → Yd i H x H' → g x σ H' fun σ2 H2 => tb { D with nx := Pv (i + 1), ct := Pv (i + 1), bk := D.nx } ys σ2 H2) (hd : ∀ ys σ H, Pv n ys σ H → D.nx ys σ H) :
    ∃ W : Nat → Nat → List V → L2.St → Hp → Prop, (∃ m, W 0 m ys σ H) ∧ ∀ i m ys σ H, W i m ys σ H →
      (J.stop i H ∧ D.nx ys σ H) ∨ (J.go i H ∧ ∃ N : List V → L2.St → Hp → Prop, (∀ ys' σ' H', N ys' σ' H' → ∃ m', m' < m ∧ W (i + 1) m' ys' σ' H') ∧ ∀ x H', J.yld i H x H' → g x σ H' fun σ2 H2 => tb { D with nx := N, ct := N, bk := D.nx } ys σ2 H2) := by
  refine ⟨fun i m ys σ H => m = n - i ∧ i ≤ n ∧ Pv i ys σ H, ⟨n, by simp, Nat.zero_le _, h0⟩, ?_⟩
  rintro i m ys σ H ⟨rfl, hi, p⟩
  have q := hG i ys σ H hi p
  by_cases hlt : i < n
  · exact .inr ⟨w.goes i H hlt q, Pv (i + 1), fun ys' σ' H' p' => ⟨n - (i + 1), by omega, rfl, hlt, p'⟩, fun x H' y => hs i x ys σ H H' hlt p (w.yields i H x H' hlt q y)⟩
  · have e : i = n := by omega
    subst e
    exact .inl ⟨w.stops H q, hd ys σ H p⟩
def gForL (T : Tgt) (g : GF) (chk : Cs → Bool) : List A → GF
  | [], s, C, Y => if chk C = true then .nx s C Y else .bad
  | x :: xs, s, C, Y => if chk C = true then match T.upd x with
      | none => .bad
      | some us => (g (setAll us s) C Y).then (gForL T g chk xs)
    else .bad
def gFor (T : Tgt) (it : En → Cs → R Wk) (g : GF) : GF := fun s C Y => match it s C with
  | .ok i C1 => gForL T g i.2 i.1 s C1 Y
  | .ex c p C1 => .ex c p s C1
  | .bad => .bad
section
variable {X : Cx} {xc : XC} {W : WX} {pos : Pos}
theorem chk_of {K : PySem.W.Frag} {W : WX} {ι : Lay} {H : Hp} {D : GEnds} {T : Tgt} {g : GF} {chk : Cs → Bool} {l : List A} {s : En} {C : Cs} {Y : List A} (p : PostG K xc W ι H D (gForL T g chk l s C Y)) : chk C = true := by
  cases l <;> (unfold gForL at p; split at p; assumption; exact p.elim)
theorem y_for {tg iter : Expr} {body : List Stmt} {T : Tgt} {it : En → Cs → R Wk} {g : GF} (hp : PassesOwn (model X.prog X.w) X.A X.env X.xe) (hc : X.calm = true) (hi : PI X tg iter (iD X.K xc W it)) (hg : PT1 X xc tg T) (hb : GSs X body (yD X.K xc W g))
    (hs : ∀ x, foldedSetIterable iter X.env x = pure x := by intro _; rfl) : GS X (.For tg iter body [] pos) (yD X.K xc W (gFor T it g)) := by
  refine GS.imp (gs_for hp hc hi hg.pg hb hs) fun D ys σ H ⟨ι, s, C, Y, c, r, q, p⟩ => ?_
  refine ⟨ι, s, C, c, r, ?_⟩
  unfold gFor at p
  cases ei : it s C with
  | bad => rw [ei] at p; exact (show False from p).elim
  | ex cc pp C1 =>
    rw [ei] at p
    exact fun ι1 H1 d e1 c1 rx => p ι1 H1 σ d e1 c1 (r.ext e1) rx
  | ok its C1 =>
    rw [ei] at p
    intro ι1 H1 J e1 c1 q1
    have p1 := PostG.later p e1
    have r1 := r.ext e1
    have y1 := q.ext e1
    clear p r q
    obtain ⟨items, chk⟩ := its
    obtain ⟨G, Yd, w, hG, hY⟩ := q1
    simp only at w hG hY p1
    refine gfor_it (D := D) (g := gD X.K xc T) (tb := yD X.K xc W g) w (fun i ys σ H => ∃ ι2 s2 C2 Y2, Ext ι1 H1 ι2 H ∧ RC X.K xc ι2 H C2 ∧ RS X.K ι2 H s2 σ ∧ Rps X.K ι2 H Y2 ys ∧ PostG X.K xc W ι2 H D (gForL T g chk (items.drop i) s2 C2 Y2)) ⟨ι1, s, C1, Y, Ext.refl _ _, c1, r1, y1, by simpa using p1⟩ ?_ ?_ ?_
    · rintro i ys σ2 H2 hi ⟨ι2, s2, C2, Y2, e2, c2, r2, y2, p2⟩
      exact hG ι2 H2 C2 e2.mv c2 (chk_of p2)
    · rintro i x ys σ2 H2 H3 hi ⟨ι2, s2, C2, Y2, e2, c2, r2, y2, p2⟩ y
      have hck : chk C2 = true := chk_of p2
      obtain ⟨a, ea, e3, c3, ra⟩ := hY ι2 H2 C2 i x H3 e2.mv c2 hck hi y
      have ed : items.drop i = a :: items.drop (i + 1) := by
        obtain ⟨hlt, e⟩ := List.getElem?_eq_some_iff.mp ea
        rw [List.drop_eq_getElem_cons hlt, e]
      rw [ed] at p2
      unfold gForL at p2
      rw [if_pos hck] at p2
      cases eu : T.upd a with
      | none =>
        rw [eu] at p2
        exact (show False from p2).elim
      | some us =>
        rw [eu] at p2
        refine ⟨ι2, C2, a, us, c3, ra, eu, fun ws W1 _ => ?_⟩
        have r3 := RS.upds W1 (r2.ext e3)
        refine ⟨ι2, setAll us s2, C2, Y2, c3, r3, y2.ext e3, ?_⟩
        have p3 := PostG.later p2 e3
        simp only at p3
        revert p3
        generalize g (setAll us s2) C2 Y2 = rr
        intro p3
        cases rr with
        | nx s4 C4 Y4 => exact fun ι4 H4 σ4 ys4 e4 c4 r4 y4 => ⟨ι4, s4, C4, Y4, e2.trans (e3.trans e4), c4, r4, y4, PostG.later p3 e4⟩
        | rt C4 Y4 => exact p3
        | ex cc pp s4 C4 => exact p3
        | bad => exact p3
    · rintro ys σ2 H2 ⟨ι2, s2, C2, Y2, e2, c2, r2, y2, p2⟩
      rw [List.drop_length] at p2
      unfold gForL at p2
      split at p2
      · exact p2 ι2 H2 σ2 ys (Ext.refl _ _) c2 r2 y2
      · exact p2.elim
end
end FM

/-! x in a list or tuple of data -/
namespace FM
open PySem PySem.Spec PyProof.Rows L2 RZ
def okIn (xs : List PyData) (d : PyData) : Bool := PyData.canLayAll0 xs && d.canLay0 && decide (min (PyData.depthAll xs) d.depth < 60)
def rInD (K : PySem.W.Frag) (neg : Bool) : R2 := fun x y H Q => ∃ d xs, Dp K H x d ∧ (Dp K H y (.list xs) ∨ Dp K H y (.tuple xs)) ∧ okIn xs d = true ∧ Q (.bl (if neg then !xs.any (fun e => PyData.eqv e d) else xs.any fun e => PyData.eqv e d)) H
theorem op_inD {X : Cx} (hu : X.A.units + 64 < cLine) : OpR X (compareOp .In) (rInD X.K false) := by
  intro pins s σ H x y v u Q I rx ry h
  obtain ⟨d, xs, hd, he, hk, q⟩ := h
  obtain ⟨as, r1⟩ := Dp.reads I d x v hd rx
  unfold okIn at hk
  simp only [Bool.and_eq_true, decide_eq_true_eq] at hk
  obtain ⟨⟨k1, k2⟩, k3⟩ := hk
  rcases he with he | he
  · obtain ⟨bs, r2⟩ := Dp.reads I _ y u he ry
    exact SeqAt.in_list_reads r2 r1 k1 k2 (by omega) ⟨.bl _, H, I, rfl, q⟩
  · obtain ⟨bs, r2⟩ := Dp.reads I _ y u he ry
    exact SeqAt.in_tuple_reads r2 r1 k1 k2 (by omega) ⟨.bl _, H, I, rfl, q⟩
theorem op_notInD {X : Cx} (hu : X.A.units + 64 < cLine) : OpR X (compareOp .NotIn) (rInD X.K true) := by
  intro pins s σ H x y v u Q I rx ry h
  obtain ⟨d, xs, hd, he, hk, q⟩ := h
  obtain ⟨as, r1⟩ := Dp.reads I d x v hd rx
  unfold okIn at hk
  simp only [Bool.and_eq_true, decide_eq_true_eq] at hk
  obtain ⟨⟨k1, k2⟩, k3⟩ := hk
  rcases he with he | he
  · obtain ⟨bs, r2⟩ := Dp.reads I _ y u he ry
    exact SeqAt.notIn_list_reads r2 r1 k1 k2 (by omega) ⟨.bl _, H, I, rfl, q⟩
  · obtain ⟨bs, r2⟩ := Dp.reads I _ y u he ry
    exact SeqAt.notIn_tuple_reads r2 r1 k1 k2 (by omega) ⟨.bl _, H, I, rfl, q⟩
def gInD (neg : Bool) : A → A → Cs → R A := fun v w C => match toD v C, toD w C with
  | some d, some (.list xs) => if okIn xs d = true then .ok (.bl (if neg then !xs.any (fun e => PyData.eqv e d) else xs.any fun e => PyData.eqv e d)) C else .bad
  | some d, some (.tuple xs) => if okIn xs d = true then .ok (.bl (if neg then !xs.any (fun e => PyData.eqv e d) else xs.any fun e => PyData.eqv e d)) C else .bad
  | _, _ => .bad
theorem ad_inD {K : PySem.W.Frag} {xc : XC} {neg : Bool} : Adq2 K xc (gInD neg) (rInD K neg) := by
  intro W ι H σ C v w x y Q c r1 r2 p
  unfold gInD at p
  split at p
  · rename_i d xs h1 h2
    split at p
    · rename_i h
      exact ⟨d, xs, dp_at c r1 h1, .inl (dp_at c r2 h2), h, p.fin c (.bl _)⟩
    · exact p.elim
  · rename_i d xs h1 h2
    split at p
    · rename_i h
      exact ⟨d, xs, dp_at c r1 h1, .inr (dp_at c r2 h2), h, p.fin c (.bl _)⟩
    · exact p.elim
  · exact p.elim
/-- by the plain rule, else by the data's -/
def gInE (neg : Bool) : A → A → Cs → R A := fun v w C => match gInB neg v w C with
  | .bad => gInD neg v w C
  | r => r
theorem op_orR {X : Cx} {f : Value → Value → Sem Value} {r q : R2} (h : OpR X f r) (g : OpR X f q) : OpR X f (fun x y H Q => r x y H Q ∨ q x y H Q) := fun pins s σ H x y v u Q I rx ry z => z.elim (fun z => h pins s σ H x y v u Q I rx ry z) fun z => g pins s σ H x y v u Q I rx ry z
theorem ad_inE {K : PySem.W.Frag} {xc : XC} {neg : Bool} {r : R2} (had : Adq2 K xc (gInB neg) r) : Adq2 K xc (gInE neg) (fun x y H Q => r x y H Q ∨ rInD K neg x y H Q) := by
  intro W ι H σ C v w x y Q c r1 r2 p
  unfold gInE at p
  cases e : gInB neg v w C with
  | bad => rw [e] at p; exact .inr (ad_inD W ι H σ C v w x y Q c r1 r2 p)
  | ok z D => rw [e] at p; exact .inl (had W ι H σ C v w x y Q c r1 r2 (by rw [e]; exact p))
  | ex cc pp D => rw [e] at p; exact .inl (had W ι H σ C v w x y Q c r1 r2 (by rw [e]; exact p))
end FM

/-! the laws of errors: menus, what is told of them, the loop over the script's places -/
namespace FM
open PySem PySem.Spec PyProof.Rows _root_.L2 RZ
def rp (v : A) : Str := match toRp v [] with
  | some d => d.shown
  | none => ""
abbrev wd (z : Str) : A := .tup [.str "refused", .str z]
abbrev numW (v : A) : A := wd ("number " ++ rp v)
def chkX (r : R A) (w : A) : Bool := match letGo 0 r with
  | .ok y _ => beqA y w
  | _ => false
theorem chk_ok {m : List Bool} {f : En → Cs → R A} {s : En} {C : Cs} {w : A} (h : chkX (f (onlyE m s) []) w = true) : isoX m f s C = .ok w C := by
  unfold chkX at h
  unfold isoX
  split at h
  · rename_i y D e
    rw [e, beqA_eq h]
    rfl
  · cases h
/-- a value whose text can be told -/
structure Nw (v : A) : Prop where
  rep : ∀ C, kRepr [v] C = .ok (.str (rp v)) C
  len : (rp v).length ≤ 1000
  lay : PyData.canLay0 (.str ("number " ++ rp v)) = true
def flat : A → Bool
  | .loc _ => false
  | _ => true
def nwB (v : A) : Bool := flat v && (match toRp v [] with
  | some d => d.showable && decide (d.depth ≤ 62) && decide (d.shown.length ≤ 1000) && PyData.canLay0 (.str ("number " ++ d.shown))
  | none => false)
theorem nw_of {v : A} (h : nwB v = true) : Nw v := by
  unfold nwB at h
  rw [Bool.and_eq_true] at h
  obtain ⟨hf, h⟩ := h
  split at h
  · rename_i d hd
    simp only [Bool.and_eq_true, decide_eq_true_eq] at h
    obtain ⟨⟨⟨h1, h2⟩, h3⟩, h4⟩ := h
    have er : rp v = d.shown := by unfold rp; rw [hd]
    refine ⟨fun C => ?_, by rw [er]; exact h3, by rw [er]; exact h4⟩
    have t : toRp v C = some d := by
      cases v <;> first | exact hd | (simp [flat] at hf; done)
    unfold kRepr
    simp only [t, er]
    rw [if_pos]
    have : d.shown.length ≤ big := Nat.le_trans h3 (by decide)
    simp [h1, h2, this]
  · cases h
theorem nw_mem {M : List A} (a : M.all nwB = true) {v : A} (h : v ∈ M) : Nw v := nw_of (List.all_eq_true.mp a v h)
theorem nl_mem {M : List A} (a : M.all noLoc = true) {v : A} (h : v ∈ M) : noLoc v = true := List.all_eq_true.mp a v h
theorem add_str {x y : Str} {C : Cs} (h : x.length + y.length ≤ big) : gAddA (.str x) (.str y) C = .ok (.str (x ++ y)) C := by
  unfold gAddA
  exact if_pos h
theorem number_len : ("number " : Str).length ≤ 10 := by decide +kernel
theorem add_num {v : A} {C : Cs} (hz : Nw v) : gAddA (.str "number ") (.str (rp v)) C = .ok (.str ("number " ++ rp v)) C := add_str (Nat.le_trans (Nat.add_le_add number_len hz.len) (by decide))
theorem rep_nw {v : A} {C : Cs} (hz : Nw v) : kRepr [v] C = .ok (.str (rp v)) C := hz.rep C
/-! lists of words are equal -/
def LayW (w : A) : Prop := ∃ d, toD0 w = some d ∧ d.canLay0 = true ∧ d.depth ≤ 10
inductive LayAll : List A → Prop
  | nil : LayAll []
  | cons {x : A} {xs : List A} : LayW x → LayAll xs → LayAll (x :: xs)
theorem lay_all : ∀ {xs : List A}, LayAll xs → ∃ ds, toDs xs = some ds ∧ PyData.canLayAll0 ds = true ∧ PyData.depthAll ds ≤ 10
  | _, .nil => ⟨[], rfl, rfl, by simp [PyData.depthAll]⟩
  | _, .cons (x := x) (xs := xs) ⟨d, h1, h2, h3⟩ t => by
    obtain ⟨ds, q1, q2, q3⟩ := lay_all t
    exact ⟨d :: ds, by simp only [toDs, h1, q1], by simp only [PyData.canLayAll0, h2, q2, Bool.and_self], by simp only [PyData.depthAll]; omega⟩
theorem eq_same {v w : A} {C : Cs} {d : PyData} (h1 : toD v C = some d) (h2 : toD w C = some d) (hl : d.canLay0 = true) (hd : d.depth ≤ 64) : gEq v w C = .ok (.bl true) C := by
  have s : SeqAt.shaped d = true := by simp [SeqAt.shaped, hl, hd]
  show gEqB false v w C = _
  unfold gEqB
  simp only [h1, h2, s, Bool.and_self, if_true, SeqAt.eqv_refl d hl, Bool.false_eq_true, if_false]
theorem lay_list {ds : List PyData} (h : PyData.canLayAll0 ds = true) (hd : PyData.depthAll ds ≤ 10) : (PyData.list ds).canLay0 = true ∧ (PyData.list ds).depth ≤ 64 := by
  refine ⟨by simpa only [PyData.canLay0] using h, ?_⟩
  simp only [PyData.depth]
  omega
theorem eq_cell {C : Cs} {n : Nat} {T : List A} (hC : C[n]? = some T) (h : LayAll T) : gEq (.loc n) (.lst T) C = .ok (.bl true) C := by
  obtain ⟨ds, h1, h2, h3⟩ := lay_all h
  obtain ⟨q1, q2⟩ := lay_list h2 h3
  refine eq_same (d := .list ds) ?_ ?_ q1 q2
  · unfold toD
    simp only [hC, h1]
    rfl
  · show (toDs T).map _ = _
    rw [h1]; rfl
theorem eq_cells {C : Cs} {n m : Nat} {T : List A} (hC : C[n]? = some T) (hD : C[m]? = some T) (h : LayAll T) : gEq (.loc n) (.loc m) C = .ok (.bl true) C := by
  obtain ⟨ds, h1, h2, h3⟩ := lay_all h
  obtain ⟨q1, q2⟩ := lay_list h2 h3
  refine eq_same (d := .list ds) ?_ ?_ q1 q2
  · unfold toD
    simp only [hC, h1]
    rfl
  · unfold toD
    simp only [hD, h1]
    rfl
theorem lw_str {z : Str} (h : PyData.canLay0 (.str z) = true) : LayW (.str z) := ⟨.str z, rfl, h, by simp [PyData.depth]⟩
theorem lw_wd {z : Str} (h : PyData.canLay0 (.str z) = true) : LayW (wd z) := ⟨.tuple [.str "refused", .str z], rfl, by
  have h1 : PyData.canLay0 (.str "refused") = true := by decide +kernel
  simp only [PyData.canLayAll0, PyData.canLay0] at h h1 ⊢
  simp only [h, h1, Bool.and_self], by simp [PyData.depth, PyData.depthAll]⟩
theorem lw_num {v : A} (h : Nw v) : LayW (numW v) := lw_wd h.lay
/-! the run of a law's cell -/
def forRest (T : Tgt) (body : En → Cs → SR) (chk : Cs → Bool) (xs : List A) : SR → SR
  | .nx s C => forF T body chk xs s C
  | .ct s C => forF T body chk xs s C
  | .bk s C => .nx s C
  | r => r
theorem for_nm {i : Nat} {b : En → Cs → SR} {x : A} {xs : List A} {s : En} {C : Cs} : forF (.nm i) b (fun _ => true) (x :: xs) s C = forRest (.nm i) b (fun _ => true) xs (b (s.set i (some x)) C) := by
  show (if true = true then _ else _) = _
  simp only [if_true, Tgt.upd, setAll]
  cases b (s.set i (some x)) C <;> rfl
theorem for_nil {T : Tgt} {b : En → Cs → SR} {s : En} {C : Cs} : forF T b (fun _ => true) [] s C = .nx s C := rfl
theorem rest_nx {T : Tgt} {b : En → Cs → SR} {chk : Cs → Bool} {xs : List A} {s : En} {C : Cs} : forRest T b chk xs (.nx s C) = forF T b chk xs s C := rfl
section
variable {d T U xs : List A} {r : Cs} {w : A}
theorem app_1 (h : T.length ≤ 1000) : mAppend (.loc 1) [w] (d :: T :: r) = .ok .non (d :: (T ++ [w]) :: r) := by
  unfold mAppend
  exact if_pos (Nat.le_trans h (by decide))
theorem app_2 (h : U.length ≤ 1000) : mAppend (.loc 2) [w] (d :: T :: U :: r) = .ok .non (d :: T :: (U ++ [w]) :: r) := by
  unfold mAppend
  exact if_pos (Nat.le_trans h (by decide))
theorem ext_1 (h : T.length + xs.length ≤ 1000) : mExtend (.loc 1) [.lst xs] (d :: T :: r) = .ok .non (d :: (T ++ xs) :: r) := by
  unfold mExtend
  exact if_pos (Nat.le_trans h (by decide))
theorem ext_2 (h : U.length + xs.length ≤ 1000) : mExtend (.loc 2) [.lst xs] (d :: T :: U :: r) = .ok .non (d :: T :: (U ++ xs) :: r) := by
  unfold mExtend
  exact if_pos (Nat.le_trans h (by decide))
theorem app_0 (h : T.length ≤ 1000) : mAppend (.loc 0) [w] (T :: r) = .ok .non ((T ++ [w]) :: r) := by
  unfold mAppend
  exact if_pos (Nat.le_trans h (by decide))
theorem sl_0 {C : Cs} : seqL (.loc 0) (T :: C) = some T := rfl
theorem sl_1 {C : Cs} : seqL (.loc 1) (d :: T :: C) = some T := rfl
theorem sl_2 {C : Cs} : seqL (.loc 2) (d :: T :: U :: C) = some U := rfl
end
/-- a law's cell is right: the dice stand first, nothing else is held -/
def Good (r : SR) : Prop := ∃ (a b c : Int) (D : Cs), r = .rt (.bl true) ([.int a, .int b, .int c] :: D)
theorem good_one {n : Nat} {b : En → Cs → SR} {C : Cs} {j : Nat} {x y z : Int} (hj : C[j]? = some [.int x, .int y, .int z]) (h : Good (b (some (.loc 0) :: List.replicate n none) [[.int x, .int y, .int z]])) : ∃ x' y' z' : Int, runD n b [.loc j] C = .ok (.bl true) (C.set j [.int x', .int y', .int z']) := by
  obtain ⟨x', y', z', D, e⟩ := h
  refine ⟨x', y', z', ?_⟩
  have e2 : runF n b [.loc 0] [[.int x, .int y, .int z]] = .ok (.bl true) ([.int x', .int y', .int z'] :: D) := by
    unfold runF
    simp only [List.map_cons, List.map_nil, List.cons_append, List.nil_append, e]
  unfold runD
  simp only [hj]
  rw [if_pos (by simp [noLocs, noLoc]), e2]
  have e3 : letGo 1 (.ok (.bl true) ([.int x', .int y', .int z'] :: D)) = .ok (.bl true) [[.int x', .int y', .int z']] := by
    unfold letGo
    have h1 : (([.int x', .int y', .int z'] :: D : Cs).take 1).all noLocs = true := by simp [noLocs, noLoc]
    simp only [h1, if_true, goA_bl]
    rfl
  rw [e3]
  rfl
theorem good_pick {i : Nat} {e : En → Cs → R A} {b : En → Cs → SR} {pk : List A → Cs → R A} (hp : pk = runZ 0 bPick) {s : En} {D : Cs} {M : List A} {x y z : Int} (hs : xVar 0 s ([.int x, .int y, .int z] :: D) = .ok (.loc 0) ([.int x, .int y, .int z] :: D)) (he : e s ([.int x, .int y, .int z] :: D) = .ok (.lst M) ([.int x, .int y, .int z] :: D))
    (hM : (!M.isEmpty && decide (M.length < 1000) && M.all noLoc) = true) (hD : D.all noLocs = true) (h : ∀ v ∈ M, noLoc v = true → ∀ x' y' z' : Int, Good (b (s.set i (some v)) ([.int x', .int y', .int z'] :: D))) :
    Good (sSeq (sSet i (xAp pk (aCons (xVar 0) (aCons e aNil)))) b s ([.int x, .int y, .int z] :: D)) := by
  subst hp
  simp only [Bool.and_eq_true, Bool.not_eq_true', decide_eq_true_eq] at hM
  obtain ⟨⟨m1, m2⟩, m3⟩ := hM
  have hn : M ≠ [] := by cases M <;> simp at m1 ⊢
  have hnl : ∀ l : List A, l.all noLoc = true → noLocs l = true := by
    intro l
    induction l with
    | nil => intro _; rfl
    | cons a l ih => intro h; simp only [List.all_cons, Bool.and_eq_true] at h; simp [noLocs, h.1, ih h.2]
  have hdc : Dc 0 ([.int x, .int y, .int z] :: D) := ⟨by simp [hD, noLocs, noLoc], x, y, z, rfl⟩
  obtain ⟨v, C', q1, q2, q3⟩ := pick_ok hdc hn (Nat.lt_trans m2 (by decide)) (hnl M m3)
  obtain ⟨_, x', y', z', q4⟩ := q3.dc
  have eC : C' = [.int x', .int y', .int z'] :: D := by
    have hl := q3.len
    cases C' with
    | nil => simp at hl
    | cons c0 D' =>
      simp at q4
      subst q4
      congr 1
      refine List.ext_getElem? fun i => ?_
      have := q3.oth (i + 1) (by omega)
      simpa using this
  subst eC
  have e1 : xAp (runZ 0 bPick) (aCons (xVar 0) (aCons e aNil)) s ([.int x, .int y, .int z] :: D) = .ok v ([.int x', .int y', .int z'] :: D) := by
    simp only [ap_ap, ap_cons, ap_nil, hs, he, R.bind_ok, k_cons, k_cons2, q1]
  rw [ap_seq, ap_set, e1, R.toS_ok, k_set, then_nx]
  exact h v q2 (List.all_eq_true.mp m3 v q2) x' y' z'
/-- the tail of a law, by itself -/
def chkT (r : SR) : Bool := match r with
  | .rt v D => (match goA D 0 v with
    | some y => beqA y (.bl true)
    | none => false)
  | _ => false
theorem tail_ok {m : List Bool} {f : En → Cs → SR} {s : En} {C : Cs} (h : chkT (f (onlyE m s) []) = true) : isoS m f s C = .rt (.bl true) C := by
  unfold isoS
  cases e : f (onlyE m s) [] with
  | rt v D =>
    rw [e] at h
    cases hy : goA D 0 v with
    | none => simp [chkT, hy] at h
    | some y =>
      have h2 : beqA y (.bl true) = true := by simpa [chkT, hy] using h
      have h3 := beqA_eq h2
      simp [hy, h3]
  | nx s1 D => rw [e] at h; simp [chkT] at h
  | bk s1 D => rw [e] at h; simp [chkT] at h
  | ct s1 D => rw [e] at h; simp [chkT] at h
  | ex c p s1 D => rw [e] at h; simp [chkT] at h
  | bad => rw [e] at h; simp [chkT] at h
theorem range_le {fs : En → Cs → R (List A)} {s : En} {C C1 : Cs} {j : Int} (h : fs s C = .ok [.int j] C1) (h0 : j ≤ 1000 ∧ -1000 ≤ j) : itRange fs s C = .ok (((List.range j.toNat).map fun (i : Nat) => (i : Int)).map A.int, fun _ => true) C1 := by
  have hL : Line62 j := by unfold Line62; omega
  unfold itRange
  rw [h, R.bind_ok]
  refine Eq.trans (if_pos hL) ?_
  congr 2
  unfold upto
  rw [List.map_map]
  apply List.map_congr_left
  intro i _
  show A.int _ = A.int (i : Int)
  congr 1
  omega
/-- the loop over the places -/
theorem loop_inv {b : En → Cs → SR} {Inv : En → Prop} (hb : ∀ (k : Int) (s : En) (C : Cs), 0 ≤ k → Inv s → ∃ s' C', b (s.set 1 (some (.int k))) C = .nx s' C' ∧ Inv s') : ∀ (ks : List Int) (s : En) (C : Cs), (∀ k ∈ ks, 0 ≤ k) → Inv s → ∃ s' C', forF (.nm 1) b (fun _ => true) (ks.map A.int) s C = .nx s' C' ∧ Inv s'
  | [], s, C, _, hs => ⟨s, C, rfl, hs⟩
  | k :: ks, s, C, hk, hs => by
    obtain ⟨s1, C1, e1, h1⟩ := hb k s C (hk k (by simp)) hs
    obtain ⟨s2, C2, e2, h2⟩ := loop_inv hb ks s1 C1 (fun q hq => hk q (by simp [hq])) h1
    exact ⟨s2, C2, by rw [List.map_cons, for_nm, e1, rest_nx, e2], h2⟩
theorem law_i {n : Nat} {b : En → Cs → SR} {as : List A} {D : Cs} (ha : noLocs as = true) (h : b (as.map some ++ List.replicate n none) [] = .rt (.bl true) D) : runI n b as [] = .ok (.bl true) [] := by
  unfold runI
  rw [if_pos ha]
  unfold runF
  rw [h]
  unfold letGo
  simp only [List.take_zero, List.all_nil, if_true, goA_bl, backR_ok]
theorem noLocs_ints {ns : List Int} : noLocs (ns.map A.int) = true := by
  induction ns with
  | nil => rfl
  | cons n ns ih => simp [noLocs, noLoc, ih]
def chkQ (r : R A) (w : A) : Bool := match r with
  | .ok y _ => beqA y w
  | _ => false
theorem chk_q {m : List Bool} {f : En → Cs → R A} {ent s : En} {C : Cs} {w : A} (h : chkQ (isoX m f ent []) w = true) (e : onlyE m s = onlyE m ent) : isoX m f s C = .ok w C := by
  unfold isoX at h ⊢
  rw [e]
  generalize letGo 0 (f (onlyE m ent) []) = Z at h ⊢
  cases Z with
  | ok y D =>
    unfold chkQ at h
    simp only [backR_ok] at h ⊢
    rw [beqA_eq h]
  | ex c p D => simp [chkQ] at h
  | bad => simp [chkQ] at h
/-- [(word, x) for x in due] -/
theorem lc_words {own : List Nat} {i u : Nat} {z : Str} {s : En} {C : Cs} {U : List A} {n : Nat} (hu : xVar u s C = .ok (.loc n) C) (hC : C[n]? = some U) (hl : U.length ≤ 1000) (hi : i < s.length) :
    xLc own (.nm i) (itSeq (xVar u)) tYesF (xTup (aCons (xC (.str z)) (aCons (xVar i) aNil))) s C = .ok (.lst (U.map fun w => .tup [.str z, w])) C := by
  have hh : ∀ xs : List A, holds n U C = true := fun _ => by simp [holds, hC, beqAs_refl]
  have hw : (wipeE own s).length = s.length := by
    unfold wipeE
    induction own with
    | nil => rfl
    | cons a l ih => simp [ih]
  have step : ∀ xs : List A, compF (.nm i) tYesF (xTup (aCons (xC (.str z)) (aCons (xVar i) aNil))) (holds n U) (wipeE own s) xs C = .ok (xs.map fun w => .tup [.str z, w]) C := by
    intro xs
    induction xs with
    | nil => simp [compF, hh []]
    | cons x xs ih =>
      have hv : xVar i ((wipeE own s).set i (some x)) C = .ok x C := by
        unfold xVar
        rw [List.getElem?_set_self (by rw [hw]; exact hi)]
      have e : xTup (aCons (xC (.str z)) (aCons (xVar i) aNil)) (setAll [(i, x)] (wipeE own s)) C = .ok (.tup [.str z, x]) C := by
        show xTup _ ((wipeE own s).set i (some x)) C = _
        simp only [ap_tup, ap_cons, ap_C, ap_nil, hv, R.bind_ok, k_cons, k_cons2, k_tup, List.length_cons, List.length_nil, Nat.reduceAdd, Nat.reduceLeDiff, if_true]
      unfold compF
      simp only [hh [], if_true, Tgt.upd, tYesF, e, ih, List.map_cons]
  unfold xLc
  have hit : itSeq (xVar u) s C = .ok (U, holds n U) C := by
    simp only [ap_seqI, hu, R.bind_ok, itOf, hC]
  rw [hit, R.bind_ok, step]
  simp only [List.length_map]
  exact if_pos (Nat.le_trans hl (by decide))
theorem eq_strs {z : Str} {C : Cs} (h : PyData.canLay0 (.str z) = true) : gEq (.str z) (.str z) C = .ok (.bl true) C := eq_same (d := .str z) rfl rfl h (by simp [PyData.depth])
theorem eq_fine {C : Cs} : gEq (.str "fine") (.str "fine") C = .ok (.bl true) C := eq_strs (by decide +kernel)
theorem good_rt {x y z : Int} {D : Cs} : Good (.rt (.bl true) ([.int x, .int y, .int z] :: D)) := ⟨x, y, z, D, rfl⟩
/-- max(1, min(k, len(script))) -/
theorem few {ns : List Int} {k : Int} : ∃ j : Int, (if (if (ns.length : Int) < k then (ns.length : Int) else k) > 1 then (if (ns.length : Int) < k then (ns.length : Int) else k) else 1) = j ∧ (1 ≤ k → k ≤ 100 → j ≤ 1000 ∧ -1000 ≤ j) := ⟨_, rfl, fun _ _ => by split <;> split <;> omega⟩
theorem len_ns {ns : List Int} {C : Cs} : kLen [.kl (ns.map A.int)] C = .ok (.int ns.length) C := by simp [kLen, seqOf]
theorem range_few {ns : List Int} {k : Int} {n : Nat} {s : En} (hk : 1 ≤ k ∧ k ≤ 100) (hs : xVar 0 s [] = .ok (.kl (ns.map A.int)) []) : ∃ m : Nat, itRange (aCons (xAp kMax (aCons (xC (.int 1)) (aCons (xAp kMin (aCons (xC (.int k)) (aCons (xAp kLen (aCons (xVar 0) aNil)) aNil))) aNil))) aNil) s [] = .ok (((List.range m).map fun (i : Nat) => (i : Int)).map A.int, fun _ => true) [] := by
  obtain ⟨j, hj, h0⟩ := few (ns := ns) (k := k)
  exact ⟨j.toNat, range_le (by
    simp -implicitDefEqProofs only [ap_cons, ap_nil, ap_ap, ap_C, hs, R.bind_ok, len_ns, v_min, v_max, hj, k_cons, k_cons2]) (h0 hk.1 hk.2)⟩
def parN3 (i j l : Nat) (s : En) (vs : List A) (C : Cs) : SR := match vs with
  | [v, w, u] => .nx (((s.set i (some v)).set j (some w)).set l (some u)) C
  | _ => .bad
theorem ap_par3 {i j l : Nat} {fs : En → Cs → R (List A)} {s : En} {C : Cs} : sPar3 i j l fs s C = (fs s C).toS s (parN3 i j l s) := by
  unfold sPar3
  congr
theorem parN_3 {i j l : Nat} {s : En} {v w u : A} {C : Cs} : parN3 i j l s [v, w, u] C = .nx (((s.set i (some v)).set j (some w)).set l (some u)) C := rfl
theorem add_2 {d T U xs : List A} {r : Cs} (h : U.length + xs.length ≤ 1000) : gAddA (.loc 2) (.lst xs) (d :: T :: U :: r) = .ok (.lst (U ++ xs)) (d :: T :: U :: r) := by
  unfold gAddA
  exact if_pos (Nat.le_trans h (by decide))
theorem add_l {xs ys : List A} {C : Cs} (h : xs.length + ys.length ≤ 1000) : gAddA (.lst xs) (.lst ys) C = .ok (.lst (xs ++ ys)) C := by
  unfold gAddA
  exact if_pos (Nat.le_trans h (by decide))
theorem chk_i {n : Nat} {b : En → Cs → SR} {as : List A} {C : Cs} {w : A} (h : chkQ (runI n b as []) w = true) : runI n b as C = .ok w C := by
  unfold runI at h ⊢
  by_cases a : noLocs as = true
  · rw [if_pos a] at h ⊢
    generalize letGo 0 (runF n b as []) = Z at h ⊢
    cases Z with
    | ok y D =>
      unfold chkQ at h
      simp only [backR_ok] at h ⊢
      rw [beqA_eq h]
    | ex c p D => simp [chkQ] at h
    | bad => simp [chkQ] at h
  · rw [if_neg a] at h
    simp [chkQ] at h
/-! [(fine,) if one is None else (word, one) for one in due] -/
def fineW (a z : Str) : A → A
  | .non => .tup [.str a]
  | w => .tup [.str z, w]
def isWd : A → Bool
  | .non => true
  | .str _ => true
  | _ => false
theorem lc_fine {own : List Nat} {i u : Nat} {a z : Str} {s : En} {C : Cs} {U : List A} {ck : Cs → Bool} (hit : itSeq (xVar u) s C = .ok (U, ck) C) (hh : ck C = true) (hU : U.all isWd = true) (hl : U.length ≤ 1000) (hi : i < s.length) :
    xLc own (.nm i) (itSeq (xVar u)) tYesF (xIf (tVal (xOp gIsN (xVar i) (xC .non))) (xTup (aCons (xC (.str a)) aNil)) (xTup (aCons (xC (.str z)) (aCons (xVar i) aNil)))) s C = .ok (.lst (U.map (fineW a z))) C := by
  have hw : (wipeE own s).length = s.length := by
    unfold wipeE
    induction own with
    | nil => rfl
    | cons a l ih => simp [ih]
  have step : ∀ xs : List A, xs.all isWd = true → compF (.nm i) tYesF (xIf (tVal (xOp gIsN (xVar i) (xC .non))) (xTup (aCons (xC (.str a)) aNil)) (xTup (aCons (xC (.str z)) (aCons (xVar i) aNil)))) ck (wipeE own s) xs C = .ok (xs.map (fineW a z)) C := by
    intro xs
    induction xs with
    | nil => intro _; simp [compF, hh]
    | cons x xs ih =>
      intro hx
      simp only [List.all_cons, Bool.and_eq_true] at hx
      have hv : xVar i ((wipeE own s).set i (some x)) C = .ok x C := by
        unfold xVar
        rw [List.getElem?_set_self (by rw [hw]; exact hi)]
      have e : xIf (tVal (xOp gIsN (xVar i) (xC .non))) (xTup (aCons (xC (.str a)) aNil)) (xTup (aCons (xC (.str z)) (aCons (xVar i) aNil))) (setAll [(i, x)] (wipeE own s)) C = .ok (fineW a z x) C := by
        show xIf _ _ _ ((wipeE own s).set i (some x)) C = _
        have hx1 := hx.1
        cases x <;> simp [isWd] at hx1 <;> simp only [ap_if, ap_tv, ap_op, k_op, gIsN, unB_bl, kIf, fineW, ap_tup, ap_cons, ap_C, ap_nil, hv, R.bind_ok, k_cons, k_cons2, k_tup, List.length_cons, List.length_nil, Nat.reduceAdd, Nat.reduceLeDiff, if_true, Bool.false_eq_true, if_false]
      unfold compF
      simp only [hh, if_true, Tgt.upd, tYesF, e, ih hx.2, List.map_cons]
  unfold xLc
  rw [hit, R.bind_ok, step U hU]
  simp only [List.length_map]
  exact if_pos (Nat.le_trans hl (by decide))
theorem lw_fine : LayW (.tup [.str "fine"]) := ⟨.tuple [.str "fine"], rfl, by decide +kernel, by simp [PyData.depth, PyData.depthAll]⟩
end FM

/-! more of the laws of errors: picks within calls, two picks at once, words of any list -/
namespace FM
open PySem PySem.Spec PyProof.Rows _root_.L2 RZ
theorem wipe_len {own : List Nat} {s : En} : (wipeE own s).length = s.length := by
  unfold wipeE
  induction own with
  | nil => rfl
  | cons a l ih => simp [ih]
/-- a comprehension over a list that is told, each item by itself -/
inductive Each (g : A → A → Prop) : List A → List A → Prop
  | nil : Each g [] []
  | cons {x y : A} {xs ys : List A} : g x y → Each g xs ys → Each g (x :: xs) (y :: ys)
theorem Each.len {g : A → A → Prop} : ∀ {xs ys : List A}, Each g xs ys → xs.length = ys.length
  | _, _, .nil => rfl
  | _, _, .cons _ t => by simp [Each.len t]
theorem lc_each {own : List Nat} {i : Nat} {f g : En → Cs → R A} {s : En} {C : Cs} {U V : List A} {ck : Cs → Bool} (hit : itSeq f s C = .ok (U, ck) C) (hh : ck C = true) (h : Each (fun x y => g ((wipeE own s).set i (some x)) C = .ok y C) U V) (hl : U.length ≤ 1000) :
    xLc own (.nm i) (itSeq f) tYesF g s C = .ok (.lst V) C := by
  have step : ∀ {xs ys : List A}, Each (fun x y => g ((wipeE own s).set i (some x)) C = .ok y C) xs ys → compF (.nm i) tYesF g ck (wipeE own s) xs C = .ok ys C := by
    intro xs ys q
    induction q with
    | nil => simp [compF, hh]
    | cons q1 q2 ih =>
      unfold compF
      simp only [hh, if_true, Tgt.upd, tYesF]
      have e : g (setAll [(i, _)] (wipeE own s)) C = _ := q1
      rw [e]
      simp only [ih]
  unfold xLc
  rw [hit, R.bind_ok, step h]
  simp only
  exact if_pos (by rw [← h.len]; exact Nat.le_trans hl (by decide))
theorem each_map {g : A → A → Prop} {F : A → A} : ∀ {U : List A}, (∀ x ∈ U, g x (F x)) → Each g U (U.map F)
  | [], _ => .nil
  | x :: U, h => .cons (h x (.head _)) (each_map fun y m => h y (.tail _ m))
theorem var_set {s : En} {i : Nat} {x : A} {C : Cs} (hi : i < s.length) {own : List Nat} : xVar i ((wipeE own s).set i (some x)) C = .ok x C := by
  unfold xVar
  rw [List.getElem?_set_self (by rw [wipe_len]; exact hi)]
/-- [(z, w) for w in U] -/
theorem lc_wordsG {own : List Nat} {i : Nat} {z : Str} {f : En → Cs → R A} {s : En} {C : Cs} {U : List A} {ck : Cs → Bool} (hit : itSeq f s C = .ok (U, ck) C) (hh : ck C = true) (hl : U.length ≤ 1000) (hi : i < s.length) :
    xLc own (.nm i) (itSeq f) tYesF (xTup (aCons (xC (.str z)) (aCons (xVar i) aNil))) s C = .ok (.lst (U.map fun w => .tup [.str z, w])) C :=
  lc_each hit hh (each_map fun x _ => by
    simp only [ap_tup, ap_cons, ap_C, ap_nil, var_set hi, R.bind_ok, k_cons, k_cons2, k_tup, List.length_cons, List.length_nil, Nat.reduceAdd, Nat.reduceLeDiff, if_true]) hl
/-- ["number " + repr(v) for v in U] -/
theorem lc_nums {own : List Nat} {i : Nat} {f : En → Cs → R A} {s : En} {C : Cs} {U : List A} {ck : Cs → Bool} (hit : itSeq f s C = .ok (U, ck) C) (hh : ck C = true) (hn : ∀ v ∈ U, Nw v) (hl : U.length ≤ 1000) (hi : i < s.length) :
    xLc own (.nm i) (itSeq f) tYesF (xOp gAddA (xC (.str "number ")) (xAp kRepr (aCons (xVar i) aNil))) s C = .ok (.lst (U.map fun v => .str ("number " ++ rp v))) C :=
  lc_each hit hh (each_map fun x m => by
    simp only [ap_op, ap_ap, ap_cons, ap_C, ap_nil, var_set hi, R.bind_ok, k_cons, k_cons2, k_op, rep_nw (hn x m), add_num (hn x m)]) hl
/-- [(a, b, repr(v)) for v in U] -/
theorem lc_num3 {own : List Nat} {i : Nat} {a b : Str} {f : En → Cs → R A} {s : En} {C : Cs} {U : List A} {ck : Cs → Bool} (hit : itSeq f s C = .ok (U, ck) C) (hh : ck C = true) (hn : ∀ v ∈ U, Nw v) (hl : U.length ≤ 1000) (hi : i < s.length) :
    xLc own (.nm i) (itSeq f) tYesF (xTup (aCons (xC (.str a)) (aCons (xC (.str b)) (aCons (xAp kRepr (aCons (xVar i) aNil)) aNil)))) s C = .ok (.lst (U.map fun v => .tup [.str a, .str b, .str (rp v)])) C :=
  lc_each hit hh (each_map fun x m => by
    simp only [ap_tup, ap_ap, ap_cons, ap_C, ap_nil, var_set hi, R.bind_ok, k_cons, k_cons2, k_tup, rep_nw (hn x m), List.length_cons, List.length_nil, Nat.reduceAdd, Nat.reduceLeDiff, if_true]) hl
theorem it_tup {f : En → Cs → R A} {s : En} {C : Cs} {U : List A} (h : f s C = .ok (.tup U) C) : itSeq f s C = .ok (U, fun _ => true) C := by simp only [ap_seqI, h, R.bind_ok, itOf]
theorem it_lst {f : En → Cs → R A} {s : En} {C : Cs} {U : List A} (h : f s C = .ok (.lst U) C) : itSeq f s C = .ok (U, fun _ => true) C := by simp only [ap_seqI, h, R.bind_ok, itOf]
theorem it_loc {f : En → Cs → R A} {s : En} {C : Cs} {U : List A} {n : Nat} (h : f s C = .ok (.loc n) C) (hC : C[n]? = some U) : itSeq f s C = .ok (U, holds n U) C := by simp only [ap_seqI, h, R.bind_ok, itOf, hC]
theorem hold_at {C : Cs} {U : List A} {n : Nat} (hC : C[n]? = some U) : holds n U C = true := by simp [holds, hC, beqAs_refl]
def layB (w : A) : Bool := match toD0 w with
  | some d => d.canLay0 && decide (d.depth ≤ 10)
  | none => false
theorem lw_b {w : A} (h : layB w = true) : LayW w := by
  unfold layB at h
  split at h
  · rename_i d e
    rw [Bool.and_eq_true, decide_eq_true_eq] at h
    exact ⟨d, e, h.1, h.2⟩
  · cases h
/-- a word of three -/
abbrev num3 (v : A) : A := .tup [.str "refused", .str "number", .str (rp v)]
def nw3B (v : A) : Bool := nwB v && PyData.canLay0 (.str (rp v))
structure Nw3 (v : A) : Prop where
  nw : Nw v
  lay3 : PyData.canLay0 (.str (rp v)) = true
theorem nw3_of {v : A} (h : nw3B v = true) : Nw3 v := by
  unfold nw3B at h
  rw [Bool.and_eq_true] at h
  exact ⟨nw_of h.1, h.2⟩
theorem nw3_mem {M : List A} (a : M.all nw3B = true) {v : A} (h : v ∈ M) : Nw3 v := nw3_of (List.all_eq_true.mp a v h)
theorem lw_num3 {v : A} (h : Nw3 v) : LayW (num3 v) := ⟨.tuple [.str "refused", .str "number", .str (rp v)], rfl, by
  have h1 : PyData.canLay0 (.str "refused") = true := by decide +kernel
  have h2 : PyData.canLay0 (.str "number") = true := by decide +kernel
  have h3 := h.lay3
  simp only [PyData.canLayAll0, PyData.canLay0] at h1 h2 h3 ⊢
  simp only [h1, h2, h3, Bool.and_self], by simp [PyData.depth, PyData.depthAll]⟩
theorem eq_list {C : Cs} {n : Nat} {T : List A} (hC : C[n]? = some T) (h : LayAll T) : gEq (.loc n) (.lst T) C = .ok (.bl true) C := eq_cell hC h
theorem mul_l {xs : List A} {k : Int} {C : Cs} (h : -(2 ^ 63) ≤ k ∧ k < 2 ^ 63 ∧ xs.length * k.toNat ≤ big) : gMulA (.lst xs) (.int k) C = .ok (.lst (List.replicate k.toNat xs).flatten) C := by
  unfold gMulA gRepL
  exact if_pos h
/-! ### two picks at once; a pick within a call -/
theorem pick_at0 {e : En → Cs → R A} {pk : List A → Cs → R A} (hp : pk = runZ 0 bPick) {s : En} {D : Cs} {M : List A} {x y z : Int} (hs : s[0]? = some (some (.loc 0))) (he : e s ([.int x, .int y, .int z] :: D) = .ok (.lst M) ([.int x, .int y, .int z] :: D))
    (hM : (!M.isEmpty && decide (M.length < 1000) && M.all noLoc) = true) (hD : D.all noLocs = true) : ∃ v ∈ M, noLoc v = true ∧ ∃ x' y' z' : Int, xAp pk (aCons (xVar 0) (aCons e aNil)) s ([.int x, .int y, .int z] :: D) = .ok v ([.int x', .int y', .int z'] :: D) := by
  subst hp
  simp only [Bool.and_eq_true, Bool.not_eq_true', decide_eq_true_eq] at hM
  obtain ⟨⟨m1, m2⟩, m3⟩ := hM
  have hn : M ≠ [] := by cases M <;> simp at m1 ⊢
  have hnl : ∀ l : List A, l.all noLoc = true → noLocs l = true := by
    intro l
    induction l with
    | nil => intro _; rfl
    | cons a l ih => intro h; simp only [List.all_cons, Bool.and_eq_true] at h; simp [noLocs, h.1, ih h.2]
  have hdc : Dc 0 ([.int x, .int y, .int z] :: D) := ⟨by simp [hD, noLocs, noLoc], x, y, z, rfl⟩
  obtain ⟨v, C', q1, q2, q3⟩ := pick_ok hdc hn (Nat.lt_trans m2 (by decide)) (hnl M m3)
  obtain ⟨_, x', y', z', q4⟩ := q3.dc
  have eC : C' = [.int x', .int y', .int z'] :: D := by
    have hl := q3.len
    cases C' with
    | nil => simp at hl
    | cons c0 D' =>
      simp at q4
      subst q4
      congr 1
      refine List.ext_getElem? fun i => ?_
      have := q3.oth (i + 1) (by omega)
      simpa using this
  subst eC
  refine ⟨v, q2, List.all_eq_true.mp m3 v q2, x', y', z', ?_⟩
  have hs' : xVar 0 s ([.int x, .int y, .int z] :: D) = .ok (.loc 0) ([.int x, .int y, .int z] :: D) := by unfold xVar; rw [hs]
  simp only [ap_ap, ap_cons, ap_nil, hs', he, R.bind_ok, k_cons, k_cons2, q1]
theorem good_two {i j : Nat} {e1 e2 : En → Cs → R A} {b : En → Cs → SR} {pk : List A → Cs → R A} (hp : pk = runZ 0 bPick) {s : En} {D : Cs} {M N : List A} {x y z : Int} (hs : s[0]? = some (some (.loc 0)))
    (h1 : ∀ x y z : Int, e1 s ([.int x, .int y, .int z] :: D) = .ok (.lst M) ([.int x, .int y, .int z] :: D)) (h2 : ∀ x y z : Int, e2 s ([.int x, .int y, .int z] :: D) = .ok (.lst N) ([.int x, .int y, .int z] :: D))
    (hM : (!M.isEmpty && decide (M.length < 1000) && M.all noLoc) = true) (hN : (!N.isEmpty && decide (N.length < 1000) && N.all noLoc) = true) (hD : D.all noLocs = true)
    (h : ∀ v ∈ M, noLoc v = true → ∀ w ∈ N, noLoc w = true → ∀ x' y' z' : Int, Good (b ((s.set i (some v)).set j (some w)) ([.int x', .int y', .int z'] :: D))) :
    Good (sSeq (sPar i j (aCons (xAp pk (aCons (xVar 0) (aCons e1 aNil))) (aCons (xAp pk (aCons (xVar 0) (aCons e2 aNil))) aNil))) b s ([.int x, .int y, .int z] :: D)) := by
  obtain ⟨v, v1, v2, x1, y1, z1, q1⟩ := pick_at0 hp hs (h1 x y z) hM hD
  obtain ⟨w, w1, w2, x2, y2, z2, q2⟩ := pick_at0 hp hs (h2 x1 y1 z1) hN hD
  rw [ap_seq, ap_par, ap_cons, q1, R.bind_ok, k_cons, ap_cons, q2, R.bind_ok, k_cons, ap_nil, R.bind_ok, k_cons2, R.bind_ok, k_cons2, R.toS_ok, parN_2, then_nx]
  exact h v v1 v2 w w1 w2 x2 y2 z2
theorem good_twoT {i j : Nat} {e1 e2 : En → Cs → R A} {b : En → Cs → SR} {pk : List A → Cs → R A} (hp : pk = runZ 0 bPick) {s : En} {D : Cs} {M N : List A} {x y z : Int} (hs : s[0]? = some (some (.loc 0)))
    (h1 : ∀ x y z : Int, e1 s ([.int x, .int y, .int z] :: D) = .ok (.lst M) ([.int x, .int y, .int z] :: D)) (h2 : ∀ x y z : Int, e2 s ([.int x, .int y, .int z] :: D) = .ok (.lst N) ([.int x, .int y, .int z] :: D))
    (hM : (!M.isEmpty && decide (M.length < 1000) && M.all noLoc) = true) (hN : (!N.isEmpty && decide (N.length < 1000) && N.all noLoc) = true) (hD : D.all noLocs = true)
    (h : ∀ v ∈ M, noLoc v = true → ∀ w ∈ N, noLoc w = true → ∀ x' y' z' : Int, Good (b ((s.set i (some v)).set j (some w)) ([.int x', .int y', .int z'] :: D))) :
    Good (sSeq (sAsg (.tp2 (.nm i) (.nm j)) (xTup (aCons (xAp pk (aCons (xVar 0) (aCons e1 aNil))) (aCons (xAp pk (aCons (xVar 0) (aCons e2 aNil))) aNil)))) b s ([.int x, .int y, .int z] :: D)) := by
  obtain ⟨v, v1, v2, x1, y1, z1, q1⟩ := pick_at0 hp hs (h1 x y z) hM hD
  obtain ⟨w, w1, w2, x2, y2, z2, q2⟩ := pick_at0 hp hs (h2 x1 y1 z1) hN hD
  have e : sAsg (.tp2 (.nm i) (.nm j)) (xTup (aCons (xAp pk (aCons (xVar 0) (aCons e1 aNil))) (aCons (xAp pk (aCons (xVar 0) (aCons e2 aNil))) aNil))) s ([.int x, .int y, .int z] :: D) = .nx ((s.set i (some v)).set j (some w)) ([.int x2, .int y2, .int z2] :: D) := by
    unfold sAsg
    rw [ap_tup, ap_cons, q1, R.bind_ok, k_cons, ap_cons, q2, R.bind_ok, k_cons, ap_nil, R.bind_ok, k_cons2, R.bind_ok, k_cons2, R.bind_ok]
    rfl
  rw [ap_seq, e, then_nx]
  exact h v v1 v2 w w1 w2 x2 y2 z2
/-- the arguments of a call, the last of them picked -/
def PickA (s : En) (D : Cs) (M : List A) (gs : En → Cs → R (List A)) (as : List A) : Prop := ∀ x y z : Int, ∃ v ∈ M, ∃ x' y' z' : Int, gs s ([.int x, .int y, .int z] :: D) = .ok (as ++ [v]) ([.int x', .int y', .int z'] :: D)
theorem PickA.last {e : En → Cs → R A} {pk : List A → Cs → R A} {s : En} {D : Cs} {M : List A} (hp : pk = runZ 0 bPick) (hs : s[0]? = some (some (.loc 0))) (he : ∀ x y z : Int, e s ([.int x, .int y, .int z] :: D) = .ok (.lst M) ([.int x, .int y, .int z] :: D))
    (hM : (!M.isEmpty && decide (M.length < 1000) && M.all noLoc) = true) (hD : D.all noLocs = true) : PickA s D M (aCons (xAp pk (aCons (xVar 0) (aCons e aNil))) aNil) [] := fun x y z => by
  obtain ⟨v, v1, _, x1, y1, z1, q1⟩ := pick_at0 hp hs (he x y z) hM hD
  exact ⟨v, v1, x1, y1, z1, by rw [ap_cons, q1, R.bind_ok, k_cons, ap_nil, R.bind_ok, k_cons2]; rfl⟩
theorem PickA.cons {f : En → Cs → R A} {gs : En → Cs → R (List A)} {s : En} {D : Cs} {M as : List A} {a : A} (hf : ∀ C, f s C = .ok a C) (h : PickA s D M gs as) : PickA s D M (aCons f gs) (a :: as) := fun x y z => by
  obtain ⟨v, v1, x1, y1, z1, q1⟩ := h x y z
  exact ⟨v, v1, x1, y1, z1, by rw [ap_cons, hf, R.bind_ok, k_cons, q1, R.bind_ok, k_cons2]; rfl⟩
theorem good_lamp {t : Nat} {mt : R A → R A} {m : List A → Cs → R A} {gs : En → Cs → R (List A)} {b : En → Cs → SR} {s : En} {T : List A} {r : Cs} {M as : List A} {w : A} {x y z : Int} (ht : s[t]? = some (some (.loc 1))) (hg : PickA s (T :: r) M gs as)
    (hm : ∀ v ∈ M, ∀ C : Cs, C.all noKns = true → calm0 (mt (m (as ++ [v]) C)) = .ok w C) (hT : T.length ≤ 1000) (hK : (T :: r).all noKns = true) (h : ∀ x' y' z' : Int, Good (b s ([.int x', .int y', .int z'] :: (T ++ [w]) :: r))) :
    Good (sSeq (sExp (xMtL mAppend (xVar t) (aCons (xLam mt (xAp m gs)) aNil))) b s ([.int x, .int y, .int z] :: T :: r)) := by
  obtain ⟨v, v1, x1, y1, z1, q1⟩ := hg x y z
  have e1 : ∀ C, xVar t s C = .ok (.loc 1) C := fun C => by unfold xVar; rw [ht]
  have e2 : xLam mt (xAp m gs) s ([.int x, .int y, .int z] :: T :: r) = .ok w ([.int x1, .int y1, .int z1] :: T :: r) := by
    unfold xLam
    rw [ap_ap, q1, R.bind_ok]
    exact hm v v1 _ (by simpa [noKns, noKn] using hK)
  simp only [ap_seq, ap_exp, ap_mt, e1, R.bind_ok, k_mt, ap_cons, e2, k_cons, ap_nil, k_cons2, app_1 hT, sl_1, Option.isSome_some, if_true, R.toS_ok, k_exp, then_nx]
  exact h x1 y1 z1
/-! ### cells with more parameters; the loop that holds what it picks -/
theorem good_oneP {n : Nat} {b : En → Cs → SR} {C : Cs} {j : Nat} {as : List A} {x y z : Int} (hj : C[j]? = some [.int x, .int y, .int z]) (ha : noLocs as = true) (h : Good (b (some (.loc 0) :: as.map some ++ List.replicate n none) [[.int x, .int y, .int z]])) : ∃ x' y' z' : Int, runD n b (.loc j :: as) C = .ok (.bl true) (C.set j [.int x', .int y', .int z']) := by
  obtain ⟨x', y', z', D, e⟩ := h
  refine ⟨x', y', z', ?_⟩
  have e2 : runF n b (.loc 0 :: as) [[.int x, .int y, .int z]] = .ok (.bl true) ([.int x', .int y', .int z'] :: D) := by
    unfold runF
    simp only [List.map_cons, e]
  unfold runD
  simp only [hj]
  rw [if_pos (by simp [noLocs, noLoc, ha]), e2]
  have e3 : letGo 1 (.ok (.bl true) ([.int x', .int y', .int z'] :: D)) = .ok (.bl true) [[.int x', .int y', .int z']] := by
    unfold letGo
    have h1 : (([.int x', .int y', .int z'] :: D : Cs).take 1).all noLocs = true := by simp [noLocs, noLoc]
    simp only [h1, if_true, goA_bl]
    rfl
  rw [e3]
  rfl
theorem loop_invC {b : En → Cs → SR} {Inv : En → Cs → Prop} (hb : ∀ (k : Int) (s : En) (C : Cs), 0 ≤ k → Inv s C → ∃ s' C', b (s.set 1 (some (.int k))) C = .nx s' C' ∧ Inv s' C') : ∀ (ks : List Int) (s : En) (C : Cs), (∀ k ∈ ks, 0 ≤ k) → Inv s C → ∃ s' C', forF (.nm 1) b (fun _ => true) (ks.map A.int) s C = .nx s' C' ∧ Inv s' C'
  | [], s, C, _, hs => ⟨s, C, rfl, hs⟩
  | k :: ks, s, C, hk, hs => by
    obtain ⟨s1, C1, e1, h1⟩ := hb k s C (hk k (by simp)) hs
    obtain ⟨s2, C2, e2, h2⟩ := loop_invC hb ks s1 C1 (fun q hq => hk q (by simp [hq])) h1
    exact ⟨s2, C2, by rw [List.map_cons, for_nm, e1, rest_nx, e2], h2⟩
theorem all_app {C : Cs} {x y z : Int} (h : C.all noLocs = true) : (C ++ [[A.int x, .int y, .int z]]).all noLocs = true := by simp [h, noLocs, noLoc]
theorem dc_app {C : Cs} {x y z : Int} (h : C.all noLocs = true) : Dc C.length (C ++ [[A.int x, .int y, .int z]]) := ⟨all_app h, x, y, z, by simp⟩
/-- a pick in the loop -/
theorem pick_in {e : En → Cs → R A} {pk : List A → Cs → R A} (hp : pk = runZ 0 bPick) {s : En} {C : Cs} {M : List A} {i j : Nat} (hd : Dc j C) (hs : s[i]? = some (some (.loc j))) (he : e s C = .ok (.lst M) C) (hM : (!M.isEmpty && decide (M.length < 1000) && M.all noLoc) = true) :
    ∃ v ∈ M, noLoc v = true ∧ ∃ C', Dc j C' ∧ xAp pk (aCons (xVar i) (aCons e aNil)) s C = .ok v C' := by
  subst hp
  simp only [Bool.and_eq_true, Bool.not_eq_true', decide_eq_true_eq] at hM
  obtain ⟨⟨m1, m2⟩, m3⟩ := hM
  have hn : M ≠ [] := by cases M <;> simp at m1 ⊢
  have hnl : ∀ l : List A, l.all noLoc = true → noLocs l = true := by
    intro l
    induction l with
    | nil => intro _; rfl
    | cons a l ih => intro h; simp only [List.all_cons, Bool.and_eq_true] at h; simp [noLocs, h.1, ih h.2]
  obtain ⟨v, C', q1, q2, q3⟩ := pick_ok hd hn (Nat.lt_trans m2 (by decide)) (hnl M m3)
  refine ⟨v, q2, List.all_eq_true.mp m3 v q2, C', q3.dc, ?_⟩
  have hs' : xVar i s C = .ok (.loc j) C := by unfold xVar; rw [hs]
  simp only [ap_ap, ap_cons, ap_nil, hs', he, R.bind_ok, k_cons, k_cons2, q1]
theorem good_in {n : Nat} {b : En → Cs → SR} {C : Cs} {j : Nat} {as : List A} (hd : Dc j C) (ha : noLocs as = true) (h : ∀ x y z : Int, Good (b (some (.loc 0) :: as.map some ++ List.replicate n none) [[.int x, .int y, .int z]])) : ∃ C', Dc j C' ∧ runD n b (.loc j :: as) C = .ok (.bl true) C' := by
  obtain ⟨h1, x, y, z, hj⟩ := hd
  obtain ⟨x', y', z', e⟩ := good_oneP hj ha (h x y z)
  have hl : j < C.length := (List.getElem?_eq_some_iff.mp hj).1
  exact ⟨_, ⟨all_set h1 (by simp [noLocs, noLoc]), x', y', z', by rw [List.getElem?_set_self hl]⟩, e⟩
end FM
namespace FM
open PySem PySem.Spec PyProof.Rows _root_.L2 RZ
theorem cat_ll {xs ys : List A} {C : Cs} (h : xs.length + ys.length ≤ 1000) : gCatM (.lst xs) (.lst ys) C = .ok (.loc C.length) (C ++ [xs ++ ys]) := by
  unfold gCatM
  exact if_pos (Nat.le_trans h (by decide))
theorem sl_3 {d T U V : List A} {C : Cs} : seqL (.loc 3) (d :: T :: U :: V :: C) = some V := rfl
end FM
namespace FM
open PySem PySem.Spec PyProof.Rows _root_.L2 RZ
theorem big_1000 : (1000 : Nat) ≤ big := by decide
theorem mul_2 {xs : List A} {C : Cs} (h : xs.length ≤ 100) : gMulA (.lst xs) (.int 2) C = .ok (.lst (xs ++ (xs ++ ([])))) C := by
  have e : (List.replicate (((2 : Int)).toNat) xs).flatten = xs ++ (xs ++ ([])) := by simp [List.replicate]
  have n : ((2 : Int)).toNat = 2 := rfl
  have b := big_1000
  rw [mul_l (k := 2) ⟨by decide, by decide, by rw [n]; omega⟩, e]
theorem mul_3 {xs : List A} {C : Cs} (h : xs.length ≤ 100) : gMulA (.lst xs) (.int 3) C = .ok (.lst (xs ++ (xs ++ (xs ++ ([]))))) C := by
  have e : (List.replicate (((3 : Int)).toNat) xs).flatten = xs ++ (xs ++ (xs ++ ([]))) := by simp [List.replicate]
  have n : ((3 : Int)).toNat = 3 := rfl
  have b := big_1000
  rw [mul_l (k := 3) ⟨by decide, by decide, by rw [n]; omega⟩, e]
theorem mul_4 {xs : List A} {C : Cs} (h : xs.length ≤ 100) : gMulA (.lst xs) (.int 4) C = .ok (.lst (xs ++ (xs ++ (xs ++ (xs ++ ([])))))) C := by
  have e : (List.replicate (((4 : Int)).toNat) xs).flatten = xs ++ (xs ++ (xs ++ (xs ++ ([])))) := by simp [List.replicate]
  have n : ((4 : Int)).toNat = 4 := rfl
  have b := big_1000
  rw [mul_l (k := 4) ⟨by decide, by decide, by rw [n]; omega⟩, e]
theorem mul_5 {xs : List A} {C : Cs} (h : xs.length ≤ 100) : gMulA (.lst xs) (.int 5) C = .ok (.lst (xs ++ (xs ++ (xs ++ (xs ++ (xs ++ ([]))))))) C := by
  have e : (List.replicate (((5 : Int)).toNat) xs).flatten = xs ++ (xs ++ (xs ++ (xs ++ (xs ++ ([]))))) := by simp [List.replicate]
  have n : ((5 : Int)).toNat = 5 := rfl
  have b := big_1000
  rw [mul_l (k := 5) ⟨by decide, by decide, by rw [n]; omega⟩, e]
theorem mul_6 {xs : List A} {C : Cs} (h : xs.length ≤ 100) : gMulA (.lst xs) (.int 6) C = .ok (.lst (xs ++ (xs ++ (xs ++ (xs ++ (xs ++ (xs ++ ([])))))))) C := by
  have e : (List.replicate (((6 : Int)).toNat) xs).flatten = xs ++ (xs ++ (xs ++ (xs ++ (xs ++ (xs ++ ([])))))) := by simp [List.replicate]
  have n : ((6 : Int)).toNat = 6 := rfl
  have b := big_1000
  rw [mul_l (k := 6) ⟨by decide, by decide, by rw [n]; omega⟩, e]
theorem mul_7 {xs : List A} {C : Cs} (h : xs.length ≤ 100) : gMulA (.lst xs) (.int 7) C = .ok (.lst (xs ++ (xs ++ (xs ++ (xs ++ (xs ++ (xs ++ (xs ++ ([]))))))))) C := by
  have e : (List.replicate (((7 : Int)).toNat) xs).flatten = xs ++ (xs ++ (xs ++ (xs ++ (xs ++ (xs ++ (xs ++ ([]))))))) := by simp [List.replicate]
  have n : ((7 : Int)).toNat = 7 := rfl
  have b := big_1000
  rw [mul_l (k := 7) ⟨by decide, by decide, by rw [n]; omega⟩, e]
theorem mul_8 {xs : List A} {C : Cs} (h : xs.length ≤ 100) : gMulA (.lst xs) (.int 8) C = .ok (.lst (xs ++ (xs ++ (xs ++ (xs ++ (xs ++ (xs ++ (xs ++ (xs ++ ([])))))))))) C := by
  have e : (List.replicate (((8 : Int)).toNat) xs).flatten = xs ++ (xs ++ (xs ++ (xs ++ (xs ++ (xs ++ (xs ++ (xs ++ ([])))))))) := by simp [List.replicate]
  have n : ((8 : Int)).toNat = 8 := rfl
  have b := big_1000
  rw [mul_l (k := 8) ⟨by decide, by decide, by rw [n]; omega⟩, e]
theorem mul_9 {xs : List A} {C : Cs} (h : xs.length ≤ 100) : gMulA (.lst xs) (.int 9) C = .ok (.lst (xs ++ (xs ++ (xs ++ (xs ++ (xs ++ (xs ++ (xs ++ (xs ++ (xs ++ ([]))))))))))) C := by
  have e : (List.replicate (((9 : Int)).toNat) xs).flatten = xs ++ (xs ++ (xs ++ (xs ++ (xs ++ (xs ++ (xs ++ (xs ++ (xs ++ ([]))))))))) := by simp [List.replicate]
  have n : ((9 : Int)).toNat = 9 := rfl
  have b := big_1000
  rw [mul_l (k := 9) ⟨by decide, by decide, by rw [n]; omega⟩, e]
end FM
namespace FM
open PySem PySem.Spec PyProof.Rows _root_.L2 RZ
theorem add_3 {d T U V xs : List A} {r : Cs} (h : V.length + xs.length ≤ 1000) : gAddA (.loc 3) (.lst xs) (d :: T :: U :: V :: r) = .ok (.lst (V ++ xs)) (d :: T :: U :: V :: r) := by
  show (if V.length + xs.length ≤ big then _ else _) = _
  exact if_pos (Nat.le_trans h big_1000)
/-- return told == [(z, w) for w in U] -/
theorem good_words {own : List Nat} {i : Nat} {z : Str} {f : En → Cs → R A} {s s' : En} {a b c : Int} {D : Cs} {U : List A} {ck : Cs → Bool} (hit : itSeq f s ([.int a, .int b, .int c] :: D) = .ok (U, ck) ([.int a, .int b, .int c] :: D)) (hh : ck ([.int a, .int b, .int c] :: D) = true) (hl : U.length ≤ 1000) (hi : i < s.length)
    (hT : D[0]? = some (U.map fun w => .tup [.str z, w])) (hL : LayAll (U.map fun w => .tup [.str z, w])) : Good ((((xLc own (.nm i) (itSeq f) tYesF (xTup (aCons (xC (.str z)) (aCons (xVar i) aNil))) s ([.int a, .int b, .int c] :: D)).bind (gEq (.loc 1))).toS s' kRet)) := by
  rw [lc_wordsG hit hh hl hi, R.bind_ok, eq_list (by simpa using hT) hL]
  simp -implicitDefEqProofs only [R.toS_ok, k_ret]
  exact good_rt
/-- return told == due -/
theorem good_lists {n : Nat} {s' : En} {a b c : Int} {D : Cs} {T : List A} (hT : D[0]? = some T) (hU : ([A.int a, .int b, .int c] :: D)[n]? = some T) (hL : LayAll T) : Good ((gEq (.loc 1) (.loc n) ([.int a, .int b, .int c] :: D)).toS s' kRet) := by
  rw [eq_cells (by simpa using hT) hU hL]
  simp -implicitDefEqProofs only [R.toS_ok, k_ret]
  exact good_rt
/-- return told == [(z, w) for w in U] and .. -/
theorem good_wordsA {own : List Nat} {i : Nat} {z : Str} {f g : En → Cs → R A} {s s2 s' : En} {a b c : Int} {D : Cs} {U : List A} {ck : Cs → Bool} (hit : itSeq f s ([.int a, .int b, .int c] :: D) = .ok (U, ck) ([.int a, .int b, .int c] :: D)) (hh : ck ([.int a, .int b, .int c] :: D) = true) (hl : U.length ≤ 1000) (hi : i < s.length)
    (hT : D[0]? = some (U.map fun w => .tup [.str z, w])) (hL : LayAll (U.map fun w => .tup [.str z, w])) (hg : g s2 ([.int a, .int b, .int c] :: D) = .ok (.bl true) ([.int a, .int b, .int c] :: D)) :
    Good (((((xLc own (.nm i) (itSeq f) tYesF (xTup (aCons (xC (.str z)) (aCons (xVar i) aNil))) s ([.int a, .int b, .int c] :: D)).bind (gEq (.loc 1))).bind (selV g s2 true)).toS s' kRet)) := by
  rw [lc_wordsG hit hh hl hi, R.bind_ok, eq_list (by simpa using hT) hL, R.bind_ok, selV_tt, hg]
  simp -implicitDefEqProofs only [R.toS_ok, k_ret]
  exact good_rt
theorem ne_list {C : Cs} {n : Nat} {T : List A} (hC : C[n]? = some T) (h : LayAll T) : gNe (.loc n) (.lst T) C = .ok (.bl false) C := by
  have e := eq_list hC h
  unfold gEq gEqB at e
  unfold gNe gEqB
  cases h1 : toD (.loc n) C with
  | none => rw [h1] at e; cases e
  | some d =>
    cases h2 : toD (.lst T) C with
    | none => rw [h1, h2] at e; cases e
    | some d2 =>
      rw [h1, h2] at e
      simp only [Bool.false_eq_true, if_false, if_true] at e ⊢
      split at e
      · rename_i hs
        injection e with e1
        injection e1 with e2
        rw [if_pos hs, e2]
        rfl
      · cases e
theorem app_3 {d T U V : List A} {v : A} {r : Cs} (h : V.length ≤ 1000) : mAppend (.loc 3) [v] (d :: T :: U :: V :: r) = .ok .non (d :: T :: U :: (V ++ [v]) :: r) := by
  show (if V.length ≤ big then _ else _) = _
  exact if_pos (Nat.le_trans h big_1000)
end FM

namespace K22
open PySem PySem.Spec PyProof.Rows L2 FM LamX
def top (i : Nat) : Stmt := PySem.Challenge.pw_hookstrips_k22_errors_of_words.main.body.getD i (.Pass ⟨0, 0, 0, 0⟩)
def subT : Nat → Nat → Bool := fun c h => match c, h with | 0, 0 => true | 0, 1 => false | 0, 2 => false | 0, 3 => false | 1, 0 => false | 1, 1 => true | 1, 2 => false | 1, 3 => false | 2, 0 => false | 2, 1 => false | 2, 2 => true | 2, 3 => false | 3, 0 => false | 3, 1 => false | 3, 2 => false | 3, 3 => true | _, _ => false
def fldT : Nat → Str := fun n => match n with | 3 => "limit" | _ => ""
def CS : List Nat := []
def T0 (tp : Nat → Addr) : List (Addr × Str) := [(tp 43, (("_law_right" : Str) ++ ".<locals>." ++ "<lambda>")), (tp 44, (("law" : Str) ++ ".<locals>." ++ "<lambda>"))]
def xcL (cl : Nat → Addr) (T : List (Addr × Str)) (ad : Nat → Addr) : XC := ⟨cl, fldT, subT, fun T' fa kp pv => T' = T ∧ fa = ad ∧ kp = [] ∧ pv = []⟩
theorem plainL {cl : Nat → Addr} {T : List (Addr × Str)} {ad : Nat → Addr} : (xcL cl T ad).Plain := fun _ _ _ _ h => h.2.2
theorem hfaL {cl : Nat → Addr} {T : List (Addr × Str)} {ad : Nat → Addr} : ∀ T' fa kp pv, (xcL cl T ad).G T' fa kp pv → fa = ad := fun _ _ _ _ h => h.2.1
structure TBs (base : Heap) (mg : Str → Option Value) (tc tp : Nat → Addr) : Prop where
  tb__law_right : TabB base mg (tc 43) (tp 43)
  tb_law : TabB base mg (tc 44) (tp 44)
structure Txt (K : PySem.W.Frag) (mg : Str → Option Value) (ad : Nat → Addr) (fd : Nat → FuncData) (cl fi tc tp : Nat → Addr) : Prop where
  F_is_integer : Fun K "is_integer" "is_integer" (top 8) (ad 8) (fd 8)
  m_is_integer : mg "is_integer" = some (.ref (ad 8))
  b_is_integer : Binds K (fd 8) ["value"] []
  F_is_word : Fun K "is_word" "is_word" (top 18) (ad 18) (fd 18)
  m_is_word : mg "is_word" = some (.ref (ad 18))
  b_is_word : Binds K (fd 18) ["value"] []
  F_check_letters : Fun K "check_letters" "check_letters" (top 20) (ad 20) (fd 20)
  m_check_letters : mg "check_letters" = some (.ref (ad 20))
  b_check_letters : Binds K (fd 20) ["many"] []
  F_row_below : Fun K "row_below" "row_below" (top 22) (ad 22) (fd 22)
  m_row_below : mg "row_below" = some (.ref (ad 22))
  b_row_below : Binds K (fd 22) ["row"] []
  F_row_above : Fun K "row_above" "row_above" (top 24) (ad 24) (fd 24)
  m_row_above : mg "row_above" = some (.ref (ad 24))
  b_row_above : Binds K (fd 24) ["row", "letter"] []
  F_heights_along : Fun K "heights_along" "heights_along" (top 30) (ad 30) (fd 30)
  m_heights_along : mg "heights_along" = some (.ref (ad 30))
  b_heights_along : Binds K (fd 30) ["word"] []
  F_descents_along : Fun K "descents_along" "descents_along" (top 32) (ad 32) (fd 32)
  m_descents_along : mg "descents_along" = some (.ref (ad 32))
  b_descents_along : Binds K (fd 32) ["word"] []
  F__law_dice : Fun K "_law_dice" "_law_dice" (top 39) (ad 39) (fd 39)
  m__law_dice : mg "_law_dice" = some (.ref (ad 39))
  b__law_dice : Binds K (fd 39) ["script", "spot"] []
  F__law_roll : Fun K "_law_roll" "_law_roll" (top 40) (ad 40) (fd 40)
  m__law_roll : mg "_law_roll" = some (.ref (ad 40))
  b__law_roll : Binds K (fd 40) ["dice", "most"] []
  F__law_met : Fun K "_law_met" "_law_met" (top 42) (ad 42) (fd 42)
  m__law_met : mg "_law_met" = some (.ref (ad 42))
  b__law_met : Binds K (fd 42) ["call"] []
  F_is_between : Fun K "is_between" "is_between" (top 9) (ad 9) (fd 9)
  m_is_between : mg "is_between" = some (.ref (ad 9))
  b_is_between : Binds K (fd 9) ["value", "least", "most"] []
  F_check_word : Fun K "check_word" "check_word" (top 19) (ad 19) (fd 19)
  m_check_word : mg "check_word" = some (.ref (ad 19))
  b_check_word : Binds K (fd 19) ["word"] []
  F_letters_of : Fun K "letters_of" "letters_of" (top 26) (ad 26) (fd 26)
  m_letters_of : mg "letters_of" = some (.ref (ad 26))
  b_letters_of : Binds K (fd 26) ["row"] []
  F_row_with_word : Fun K "row_with_word" "row_with_word" (top 28) (ad 28) (fd 28)
  m_row_with_word : mg "row_with_word" = some (.ref (ad 28))
  b_row_with_word : Binds K (fd 28) ["word"] []
  F__law_pick : Fun K "_law_pick" "_law_pick" (top 41) (ad 41) (fd 41)
  m__law_pick : mg "_law_pick" = some (.ref (ad 41))
  b__law_pick : Binds K (fd 41) ["dice", "items"] []
  F_is_falling : Fun K "is_falling" "is_falling" (top 14) (ad 14) (fd 14)
  m_is_falling : mg "is_falling" = some (.ref (ad 14))
  b_is_falling : Binds K (fd 14) ["numbers", "least", "most"] []
  F_row_of_word : Fun K "row_of_word" "row_of_word" (top 27) (ad 27) (fd 27)
  m_row_of_word : mg "row_of_word" = some (.ref (ad 27))
  b_row_of_word : Binds K (fd 27) ["word"] []
  F_heights_of : Fun K "heights_of" "heights_of" (top 29) (ad 29) (fd 29)
  m_heights_of : mg "heights_of" = some (.ref (ad 29))
  b_heights_of : Binds K (fd 29) ["word"] []
  F_descents_of : Fun K "descents_of" "descents_of" (top 31) (ad 31) (fd 31)
  m_descents_of : mg "descents_of" = some (.ref (ad 31))
  b_descents_of : Binds K (fd 31) ["word"] []
  F_word_size : Fun K "word_size" "word_size" (top 33) (ad 33) (fd 33)
  m_word_size : mg "word_size" = some (.ref (ad 33))
  b_word_size : Binds K (fd 33) ["word"] []
  F_depth_of : Fun K "depth_of" "depth_of" (top 34) (ad 34) (fd 34)
  m_depth_of : mg "depth_of" = some (.ref (ad 34))
  b_depth_of : Binds K (fd 34) ["word"] []
  F_drop_of : Fun K "drop_of" "drop_of" (top 35) (ad 35) (fd 35)
  m_drop_of : mg "drop_of" = some (.ref (ad 35))
  b_drop_of : Binds K (fd 35) ["word"] []
  F_is_row : Fun K "is_row" "is_row" (top 13) (ad 13) (fd 13)
  m_is_row : mg "is_row" = some (.ref (ad 13))
  b_is_row : Binds K (fd 13) ["value"] []
  F_check_row : Fun K "check_row" "check_row" (top 15) (ad 15) (fd 15)
  m_check_row : mg "check_row" = some (.ref (ad 15))
  b_check_row : Binds K (fd 15) ["row"] []
  F_lowered : Fun K "lowered" "lowered" (top 21) (ad 21) (fd 21)
  m_lowered : mg "lowered" = some (.ref (ad 21))
  b_lowered : Binds K (fd 21) ["row"] []
  F_raised : Fun K "raised" "raised" (top 23) (ad 23) (fd 23)
  m_raised : mg "raised" = some (.ref (ad 23))
  b_raised : Binds K (fd 23) ["row", "letter"] []
  F_word_of : Fun K "word_of" "word_of" (top 25) (ad 25) (fd 25)
  m_word_of : mg "word_of" = some (.ref (ad 25))
  b_word_of : Binds K (fd 25) ["row"] []
  F_closest_parts : Fun K "closest_parts" "closest_parts" (top 36) (ad 36) (fd 36)
  m_closest_parts : mg "closest_parts" = some (.ref (ad 36))
  b_closest_parts : Binds K (fd 36) ["row"] []
  F_steps_of : Fun K "steps_of" "steps_of" (top 37) (ad 37) (fd 37)
  m_steps_of : mg "steps_of" = some (.ref (ad 37))
  b_steps_of : Binds K (fd 37) ["row"] []
  F__law_right : Fun K "_law_right" "_law_right" (top 43) (ad 43) (fd 43)
  m__law_right : mg "_law_right" = some (.ref (ad 43))
  b__law_right : Binds K (fd 43) ["dice"] []
  cd__law_right : (fd 43).code = .ref (tc 43)
  F_law : Fun K "law" "law" (top 44) (ad 44) (fd 44)
  m_law : mg "law" = some (.ref (ad 44))
  b_law : Binds K (fd 44) ["script"] []
  cd_law : (fd 44).code = .ref (tc 44)
  g_InvalidRow : mg "InvalidRow" = some (.ref (cl 0))
  e_InvalidRow : Er0 K mg "InvalidRow" [.type "ValueError", .type "Exception", .type "BaseException", .type "object"] "ValueError.__new__" (cl 0)
  g_InvalidWord : mg "InvalidWord" = some (.ref (cl 1))
  e_InvalidWord : Er0 K mg "InvalidWord" [.type "ValueError", .type "Exception", .type "BaseException", .type "object"] "ValueError.__new__" (cl 1)
  g_InvalidOperation : mg "InvalidOperation" = some (.ref (cl 2))
  e_InvalidOperation : Er0 K mg "InvalidOperation" [.type "ValueError", .type "Exception", .type "BaseException", .type "object"] "ValueError.__new__" (cl 2)
  g_TooMany : mg "TooMany" = some (.ref (cl 3))
  er_TooMany : PySem.ErX.ErTxt K mg "TooMany" "TooMany.__init__" "limit" [.type "OverflowError", .type "ArithmeticError", .type "Exception", .type "BaseException", .type "object"] "OverflowError.__new__" (cl 3) (fi 3)
  exm : ∀ c h, c < 4 → h < 4 → PySem.W.exmOne K (.ref (cl c)) (.ref (cl h)) = some (subT c h)
  nst : ∀ c, c < 4 → PySem.W.subIn K (.ref (cl c)) (.type "StopIteration") = some false
  ne_law__law_right : tp 44 ≠ tp 43
  z_abs : mg "abs" = none
  z_all : mg "all" = none
  z_bool : mg "bool" = none
  z_enumerate : mg "enumerate" = none
  z_int : mg "int" = none
  z_isinstance : mg "isinstance" = none
  z_len : mg "len" = none
  z_list : mg "list" = none
  z_max : mg "max" = none
  z_min : mg "min" = none
  z_range : mg "range" = none
  z_repr : mg "repr" = none
  z_str : mg "str" = none
  z_sum : mg "sum" = none
  z_tuple : mg "tuple" = none
  z_zip : mg "zip" = none
  c_MAX_PART : ∃ u, mg "MAX_PART" = some u ∧ RelV (.int 200) u
  c_MAX_PARTS : ∃ u, mg "MAX_PARTS" = some u ∧ RelV (.int 60) u
  c_MOST_INTEGER : ∃ u, mg "MOST_INTEGER" = some u ∧ RelV (.int 999999999999999999999999999999999999999999999999999999999999) u
  c_MOST_LETTERS : ∃ u, mg "MOST_LETTERS" = some u ∧ RelV (.int 400) u
theorem hexL {K : PySem.W.Frag} {mg : Str → Option Value} {ad : Nat → Addr} {fd : Nat → FuncData} {cl fi tc tp : Nat → Addr} (T : Txt K mg ad fd cl fi tc tp) : ∀ c h, c < 4 → PySem.W.exmOne K (.ref ((xcL cl (T0 tp) ad).cl c)) (.ref ((xcL cl (T0 tp) ad).cl h)) = some ((xcL cl (T0 tp) ad).sub c h) ∨ 4 ≤ h := fun c h hc => by
  by_cases hh : h < 4
  · exact .inl (T.exm c h hc hh)
  · exact .inr (Nat.le_of_not_lt hh)
theorem mT__law_right (tp : Nat → Addr) : (tp 43, (("_law_right" : Str) ++ ".<locals>." ++ "<lambda>")) ∈ T0 tp := .head _
theorem hu__law_right {K : PySem.W.Frag} {mg : Str → Option Value} {ad : Nat → Addr} {fd : Nat → FuncData} {cl fi tc tp : Nat → Addr} (T : Txt K mg ad fd cl fi tc tp) : ∀ p ∈ T0 tp, p.1 = tp 43 → p.2 = (("_law_right" : Str) ++ ".<locals>." ++ "<lambda>") := by
  intro p hp e
  simp only [T0, List.mem_cons, List.not_mem_nil, or_false] at hp
  rcases hp with rfl | rfl
  · rfl
  · exact absurd e T.ne_law__law_right
theorem mT_law (tp : Nat → Addr) : (tp 44, (("law" : Str) ++ ".<locals>." ++ "<lambda>")) ∈ T0 tp := .tail _ (.head _)
theorem hu_law {K : PySem.W.Frag} {mg : Str → Option Value} {ad : Nat → Addr} {fd : Nat → FuncData} {cl fi tc tp : Nat → Addr} (T : Txt K mg ad fd cl fi tc tp) : ∀ p ∈ T0 tp, p.1 = tp 44 → p.2 = (("law" : Str) ++ ".<locals>." ++ "<lambda>") := by
  intro p hp e
  simp only [T0, List.mem_cons, List.not_mem_nil, or_false] at hp
  rcases hp with rfl | rfl
  · exact absurd e T.ne_law__law_right.symm
  · rfl
section
variable {P : Program} {w : World} {K : PySem.W.Frag} {mg : Str → Option Value} {base : Heap} {ad : Nat → Addr} {fd : Nat → FuncData} {cl fi tc tp : Nat → Addr}
abbrev s_is_integer : Stmt := (top 8)
def b_is_integer : En → Cs → SR := (sSeq (sIf (tOrF (tVal (xAp kIsi (aCons (xVar 0) (aCons (xC (.opq (.ty "bool"))) aNil)))) (tNotF (tVal (xAp kIsi (aCons (xVar 0) (aCons (xC (.opq (.ty "int"))) aNil)))))) (sRet (xC (.bl false))) sNext) (sRet (xChain gLe gLe (xUn gNeg (xC (.int 999999999999999999999999999999999999999999999999999999999999))) (xVar 0) (xC (.int 999999999999999999999999999999999999999999999999999999999999)))))
def m_is_integer : List A → Cs → R A := runI 0 b_is_integer
theorem sc_is_integer : FnScope ["value"] ["value"] (defScope s_is_integer) := sc_by (by decide +kernel)
theorem ok_is_integer (T : Txt K mg ad fd cl fi tc tp) : FnOk P w K mg base (L2.CX P w) 1 (ad 8) (fd 8) ["value"] (spD K (xcL cl (T0 tp) ad) 1 m_is_integer) := by
  refine fn_i plainL (N := ["value"]) T.F_is_integer sc_is_integer fun cdv A outer s H E hr tk po => ?_
  have hN := sc_is_integer.nd
  have hfa := hfaL (cl := cl) (T := T0 tp) (ad := ad)
  exact (r_cons (r_ifS (PW.pt (r_tor (r_tval (r_callB call_isi ad_isi rfl T.z_isinstance boot_isinstance (r_aCons (r_var (pv 0)) (r_aCons (r_gT T.z_bool boot_bool) r_aNil)))) (pw_or1 (r_tnot (r_tval (r_callB call_isi ad_isi rfl T.z_isinstance boot_isinstance (r_aCons (r_var (pv 0)) (r_aCons (r_gT T.z_int boot_int) r_aNil)))))))) (r_one (r_ret r_bl)) r_nil) (r_one (r_ret (r_chain (op_le) (op_le) ad_le ad_le (np_I _) (r_un un_neg ad_neg (r_gI T.c_MOST_INTEGER)) (r_var (pv 0)) (r_gI T.c_MOST_INTEGER)))))
abbrev s_is_word : Stmt := (top 18)
def b_is_word : En → Cs → SR := (sSeq (sIf (tOrF (tNotF (tVal (xAp kIsi (aCons (xVar 0) (aCons (xC (.opq (.ty "str"))) aNil))))) (tVal (xOp gGt (xAp kLen (aCons (xVar 0) aNil)) (xC (.int 400))))) (sRet (xC (.bl false))) sNext) (sRet (xAndV (xAp kAll (aCons (xLc [1] (.nm 1) (itSeq (xVar 0)) tYesF (xOp (gInE false) (xVar 1) (xTup (aCons (xC (.str "a")) (aCons (xC (.str "b")) aNil))))) aNil)) (xNotV (xM1 gEnds (xVar 0) (xC (.str "a")))))))
def m_is_word : List A → Cs → R A := runI 1 b_is_word
theorem sc_is_word : FnScope ["value", "letter"] ["value"] (defScope s_is_word) := sc_by (by decide +kernel)
theorem ok_is_word (T : Txt K mg ad fd cl fi tc tp) : FnOk P w K mg base (L2.CX P w) 1 (ad 18) (fd 18) ["value"] (spD K (xcL cl (T0 tp) ad) 1 m_is_word) := by
  refine fn_i plainL (N := ["value", "letter"]) T.F_is_word sc_is_word fun cdv A outer s H E hr tk po => ?_
  have hN := sc_is_word.nd
  have hfa := hfaL (cl := cl) (T := T0 tp) (ad := ad)
  exact (r_cons (r_ifS (PW.pt (r_tor (r_tnot (r_tval (r_callB call_isi ad_isi rfl T.z_isinstance boot_isinstance (r_aCons (r_var (pv 0)) (r_aCons (r_gT T.z_str boot_str) r_aNil))))) (pw_or1 (r_tcmp (op_gt) ad_gt (r_callB call_lenA ad_len rfl T.z_len boot_len (r_aCons (r_var (pv 0)) r_aNil)) (r_gI T.c_MOST_LETTERS) (by rfl))))) (r_one (r_ret r_bl)) r_nil) (r_one (r_ret (r_and (r_callB (cr_all rfl) ad_all rfl T.z_all boot_all (r_aCons (r_lc (own := [("letter", 1)]) rfl hN (i_seq (r_var (pv 0))) (blk_by (by rfl)) (by decide) (fun _ _ _ _ _ => (r_gn (i := 1) hN rfl (by first | exact Or.inl rfl | exact Or.inr rfl))) (fun _ _ _ _ _ => r_yes) (fun _ _ _ _ _ => (r_cmp (op_orR op_inB (op_inD hr.units)) (ad_inE ad_inB) (r_var (pv 1)) (r_tup (r_aCons r_str (r_aCons r_str r_aNil))) (by rfl)))) r_aNil)) (pe_one (r_not (r_m1 PySem.F.slot_str_endswith PySem.F.type_str_endswith mt_endswith ad_ends (r_var (pv 0)) r_str)))))))
abbrev s_check_letters : Stmt := (top 20)
def b_check_letters : En → Cs → SR := (sIf (tVal (xOp gGt (xVar 0) (xC (.int 400)))) (sRaise 3 (xC (.int 400))) sNext)
def m_check_letters : List A → Cs → R A := runI 0 b_check_letters
theorem sc_check_letters : FnScope ["many"] ["many"] (defScope s_check_letters) := sc_by (by decide +kernel)
theorem ok_check_letters (T : Txt K mg ad fd cl fi tc tp) : FnOk P w K mg base (L2.CX P w) 1 (ad 20) (fd 20) ["many"] (spD K (xcL cl (T0 tp) ad) 1 m_check_letters) := by
  refine fn_i plainL (N := ["many"]) T.F_check_letters sc_check_letters fun cdv A outer s H E hr tk po => ?_
  have hN := sc_check_letters.nd
  have hfa := hfaL (cl := cl) (T := T0 tp) (ad := ad)
  exact (r_one (r_ifS (r_tcmp (op_gt) ad_gt (r_var (pv 0)) (r_gI T.c_MOST_LETTERS) (by rfl)) (r_one (r_raise (n := 3) rfl tk PySem.ErX.tail_OE PySem.ErX.fld_limit T.er_TooMany rfl hr (r_gI T.c_MOST_LETTERS) rfl)) r_nil))
abbrev s_row_below : Stmt := (top 22)
def b_row_below : En → Cs → SR := (sSeq (sSet 1 (xLstM aNil)) (sSeq (sSet 2 (xOp gIx (xVar 0) (xC (.int 0)))) (sSeq (sFor (.tp2 (.nm 3) (.nm 4)) (itEn (aCons (xVar 0) aNil)) (sIf (tAndF (tVal (xOp gLe (xVar 4) (xVar 2))) (tOrF (tVal (xOp gEq (xOp gAddA (xVar 3) (xC (.int 1))) (xAp kLen (aCons (xVar 0) aNil)))) (tVal (xOp gLt (xOp gIx (xVar 0) (xOp gAddA (xVar 3) (xC (.int 1)))) (xVar 4))))) (sSeq (sExp (xMtL mAppend (xVar 1) (aCons (xOp gSub (xVar 4) (xC (.int 1))) aNil))) (sSet 2 (xOp gSub (xVar 4) (xC (.int 2))))) (sExp (xMtL mAppend (xVar 1) (aCons (xVar 4) aNil))))) (sSeq (sIf (tVal (xOp gEq (xOp gIx (xVar 1) (xUn gNeg (xC (.int 1)))) (xC (.int 0)))) (sRet (xTup (aCons (xAp kTuple (aCons (xSl gSl (xVar 1) pNo (pAt (xUn gNeg (xC (.int 1))))) aNil)) (aCons (xC (.str "b")) aNil)))) sNext) (sRet (xTup (aCons (xAp kTuple (aCons (xVar 1) aNil)) (aCons (xC (.str "a")) aNil))))))))
def m_row_below : List A → Cs → R A := runI 4 b_row_below
theorem sc_row_below : FnScope ["row", "parts", "most", "at", "part"] ["row"] (defScope s_row_below) := sc_by (by decide +kernel)
theorem ok_row_below (T : Txt K mg ad fd cl fi tc tp) : FnOk P w K mg base (L2.CX P w) 1 (ad 22) (fd 22) ["row"] (spD K (xcL cl (T0 tp) ad) 1 m_row_below) := by
  refine fn_i plainL (N := ["row", "parts", "most", "at", "part"]) T.F_row_below sc_row_below fun cdv A outer s H E hr tk po => ?_
  have hN := sc_row_below.nd
  have hfa := hfaL (cl := cl) (T := T0 tp) (ad := ad)
  exact (r_cons (r_set (i := 1) hN rfl (by first | exact Or.inl rfl | exact Or.inr rfl) (r_lstM r_aNil)) (r_cons (r_set (i := 2) hN rfl (by first | exact Or.inl rfl | exact Or.inr rfl) (r_ix ix_seq ad_ix (r_var (pv 0)) r_int)) (r_cons (r_for po rfl (i_enum rfl T.z_enumerate (r_aCons (r_var (pv 0)) r_aNil)) (r_g2 rfl (r_gn (i := 3) hN rfl (by first | exact Or.inl rfl | exact Or.inr rfl)) (r_gn (i := 4) hN rfl (by first | exact Or.inl rfl | exact Or.inr rfl))) (r_one (r_ifS (PW.pt (r_tand (r_tcmp (op_le) ad_le (r_var (pv 4)) (r_var (pv 2)) (by rfl)) (pw_and1 (PW.pt (r_tor (r_tcmp (op_eqD hr.units) ad_eq (r_op op_addA ad_addA (r_var (pv 3)) r_int) (r_callB call_lenA ad_len rfl T.z_len boot_len (r_aCons (r_var (pv 0)) r_aNil)) (by rfl)) (pw_or1 (r_tcmp (op_lt) ad_lt (r_ix ix_seq ad_ix (r_var (pv 0)) (r_op op_addA ad_addA (r_var (pv 3)) r_int)) (r_var (pv 4)) (by rfl)))))))) (r_cons (r_expr (r_mtL PySem.F.plainAttrs_list PySem.F.slot_list_append PySem.F.type_list_append mt_append ad_append (r_var (pv 1)) (r_aCons (r_op op_sub ad_sub (r_var (pv 4)) r_int) r_aNil))) (r_one (r_set (i := 2) hN rfl (by first | exact Or.inl rfl | exact Or.inr rfl) (r_op op_sub ad_sub (r_var (pv 4)) r_int)))) (r_one (r_expr (r_mtL PySem.F.plainAttrs_list PySem.F.slot_list_append PySem.F.type_list_append mt_append ad_append (r_var (pv 1)) (r_aCons (r_var (pv 4)) r_aNil))))))) (r_cons (r_ifS (r_tcmp (op_eqD hr.units) ad_eq (r_ix ix_seq ad_ix (r_var (pv 1)) (r_un un_neg ad_neg r_int)) r_int (by rfl)) (r_one (r_ret (r_tup (r_aCons (r_callTy call_tupleZ ad_tuple rfl T.z_tuple boot_tuple (r_aCons (r_sl (r_var (pv 1)) r_pno (r_pat (r_un un_neg ad_neg r_int))) r_aNil)) (r_aCons r_str r_aNil))))) r_nil) (r_one (r_ret (r_tup (r_aCons (r_callTy call_tupleZ ad_tuple rfl T.z_tuple boot_tuple (r_aCons (r_var (pv 1)) r_aNil)) (r_aCons r_str r_aNil)))))))))
abbrev s_row_above : Stmt := (top 24)
def b_row_above : En → Cs → SR := (sSeq (sSet 2 (xIf (tVal (xOp gEq (xVar 1) (xC (.str "b")))) (xLstM (aCons (xC (.int 0)) aNil)) (xLstM aNil))) (sSeq (sExp (xMtL mExtendB (xVar 2) (aCons (xSl (gSl3 (-1)) (xVar 0) pNo pNo) aNil))) (sSeq (sSet 3 (xLstM aNil)) (sSeq (sSet 4 (xC (.int 0))) (sSeq (sFor (.tp2 (.nm 5) (.nm 6)) (itEn (aCons (xVar 2) aNil)) (sIf (tAndF (tVal (xOp gGe (xVar 6) (xVar 4))) (tOrF (tVal (xOp gEq (xOp gAddA (xVar 5) (xC (.int 1))) (xAp kLen (aCons (xVar 2) aNil)))) (tVal (xOp gGt (xOp gIx (xVar 2) (xOp gAddA (xVar 5) (xC (.int 1)))) (xVar 6))))) (sSeq (sExp (xMtL mAppend (xVar 3) (aCons (xOp gAddA (xVar 6) (xC (.int 1))) aNil))) (sSet 4 (xOp gAddA (xVar 6) (xC (.int 2))))) (sExp (xMtL mAppend (xVar 3) (aCons (xVar 6) aNil))))) (sRet (xAp kTuple (aCons (xSl (gSl3 (-1)) (xVar 3) pNo pNo) aNil))))))))
def m_row_above : List A → Cs → R A := runI 5 b_row_above
theorem sc_row_above : FnScope ["row", "letter", "rising", "parts", "least", "at", "part"] ["row", "letter"] (defScope s_row_above) := sc_by (by decide +kernel)
theorem ok_row_above (T : Txt K mg ad fd cl fi tc tp) : FnOk P w K mg base (L2.CX P w) 1 (ad 24) (fd 24) ["row", "letter"] (spD K (xcL cl (T0 tp) ad) 2 m_row_above) := by
  refine fn_i plainL (N := ["row", "letter", "rising", "parts", "least", "at", "part"]) T.F_row_above sc_row_above fun cdv A outer s H E hr tk po => ?_
  have hN := sc_row_above.nd
  have hfa := hfaL (cl := cl) (T := T0 tp) (ad := ad)
  exact (r_cons (r_set (i := 2) hN rfl (by first | exact Or.inl rfl | exact Or.inr rfl) (r_if (r_tcmp (op_eqD hr.units) ad_eq (r_var (pv 1)) r_str (by rfl)) (r_lstM (r_aCons r_int r_aNil)) (r_lstM r_aNil))) (r_cons (r_expr (r_mtL PySem.F.plainAttrs_list PySem.F.slot_list_extend PySem.F.type_list_extend mt_extendB ad_extendB (r_var (pv 2)) (r_aCons (r_sl3 st_neg st_neg_c (by decide) (by decide) (r_var (pv 0)) r_pno r_pno) r_aNil))) (r_cons (r_set (i := 3) hN rfl (by first | exact Or.inl rfl | exact Or.inr rfl) (r_lstM r_aNil)) (r_cons (r_set (i := 4) hN rfl (by first | exact Or.inl rfl | exact Or.inr rfl) r_int) (r_cons (r_for po rfl (i_enum rfl T.z_enumerate (r_aCons (r_var (pv 2)) r_aNil)) (r_g2 rfl (r_gn (i := 5) hN rfl (by first | exact Or.inl rfl | exact Or.inr rfl)) (r_gn (i := 6) hN rfl (by first | exact Or.inl rfl | exact Or.inr rfl))) (r_one (r_ifS (PW.pt (r_tand (r_tcmp (op_ge) ad_ge (r_var (pv 6)) (r_var (pv 4)) (by rfl)) (pw_and1 (PW.pt (r_tor (r_tcmp (op_eqD hr.units) ad_eq (r_op op_addA ad_addA (r_var (pv 5)) r_int) (r_callB call_lenA ad_len rfl T.z_len boot_len (r_aCons (r_var (pv 2)) r_aNil)) (by rfl)) (pw_or1 (r_tcmp (op_gt) ad_gt (r_ix ix_seq ad_ix (r_var (pv 2)) (r_op op_addA ad_addA (r_var (pv 5)) r_int)) (r_var (pv 6)) (by rfl)))))))) (r_cons (r_expr (r_mtL PySem.F.plainAttrs_list PySem.F.slot_list_append PySem.F.type_list_append mt_append ad_append (r_var (pv 3)) (r_aCons (r_op op_addA ad_addA (r_var (pv 6)) r_int) r_aNil))) (r_one (r_set (i := 4) hN rfl (by first | exact Or.inl rfl | exact Or.inr rfl) (r_op op_addA ad_addA (r_var (pv 6)) r_int)))) (r_one (r_expr (r_mtL PySem.F.plainAttrs_list PySem.F.slot_list_append PySem.F.type_list_append mt_append ad_append (r_var (pv 3)) (r_aCons (r_var (pv 6)) r_aNil))))))) (r_one (r_ret (r_callTy call_tupleZ ad_tuple rfl T.z_tuple boot_tuple (r_aCons (r_sl3 st_neg st_neg_c (by decide) (by decide) (r_var (pv 3)) r_pno r_pno) r_aNil)))))))))
abbrev s_heights_along : Stmt := (top 30)
def b_heights_along : En → Cs → SR := (sSeq (sSet 1 (xLstM (aCons (xC (.int 0)) aNil))) (sSeq (sFor (.nm 2) (itSeq (xVar 0)) (sExp (xMtL mAppend (xVar 1) (aCons (xOp gAddA (xOp gIx (xVar 1) (xUn gNeg (xC (.int 1)))) (xIf (tVal (xOp gEq (xVar 2) (xC (.str "a")))) (xC (.int 1)) (xUn gNeg (xC (.int 1))))) aNil)))) (sRet (xVar 1))))
def m_heights_along : List A → Cs → R A := runI 2 b_heights_along
theorem sc_heights_along : FnScope ["word", "heights", "letter"] ["word"] (defScope s_heights_along) := sc_by (by decide +kernel)
theorem ok_heights_along (T : Txt K mg ad fd cl fi tc tp) : FnOk P w K mg base (L2.CX P w) 1 (ad 30) (fd 30) ["word"] (spD K (xcL cl (T0 tp) ad) 1 m_heights_along) := by
  refine fn_i plainL (N := ["word", "heights", "letter"]) T.F_heights_along sc_heights_along fun cdv A outer s H E hr tk po => ?_
  have hN := sc_heights_along.nd
  have hfa := hfaL (cl := cl) (T := T0 tp) (ad := ad)
  exact (r_cons (r_set (i := 1) hN rfl (by first | exact Or.inl rfl | exact Or.inr rfl) (r_lstM (r_aCons r_int r_aNil))) (r_cons (r_for po rfl (i_seq (r_var (pv 0))) (r_gn (i := 2) hN rfl (by first | exact Or.inl rfl | exact Or.inr rfl)) (r_one (r_expr (r_mtL PySem.F.plainAttrs_list PySem.F.slot_list_append PySem.F.type_list_append mt_append ad_append (r_var (pv 1)) (r_aCons (r_op op_addA ad_addA (r_ix ix_seq ad_ix (r_var (pv 1)) (r_un un_neg ad_neg r_int)) (r_if (r_tcmp (op_eqD hr.units) ad_eq (r_var (pv 2)) r_str (by rfl)) r_int (r_un un_neg ad_neg r_int))) r_aNil))))) (r_one (r_ret (r_var (pv 1))))))
abbrev s_descents_along : Stmt := (top 32)
def b_descents_along : En → Cs → SR := (sRet (xLc [1] (.nm 1) (itRange (aCons (xC (.int 1)) (aCons (xOp gAddA (xAp kLen (aCons (xVar 0) aNil)) (xC (.int 1))) aNil))) (tAndF (tVal (xOp gEq (xOp gIx (xVar 0) (xOp gSub (xVar 1) (xC (.int 1)))) (xC (.str "b")))) (tVal (xOp gNe (xSl gSl (xVar 0) (pAt (xVar 1)) (pAt (xOp gAddA (xVar 1) (xC (.int 1))))) (xC (.str "b"))))) (xVar 1)))
def m_descents_along : List A → Cs → R A := runI 1 b_descents_along
theorem sc_descents_along : FnScope ["word", "at"] ["word"] (defScope s_descents_along) := sc_by (by decide +kernel)
theorem ok_descents_along (T : Txt K mg ad fd cl fi tc tp) : FnOk P w K mg base (L2.CX P w) 1 (ad 32) (fd 32) ["word"] (spD K (xcL cl (T0 tp) ad) 1 m_descents_along) := by
  refine fn_i plainL (N := ["word", "at"]) T.F_descents_along sc_descents_along fun cdv A outer s H E hr tk po => ?_
  have hN := sc_descents_along.nd
  have hfa := hfaL (cl := cl) (T := T0 tp) (ad := ad)
  exact (r_one (r_ret (r_lc (own := [("at", 1)]) rfl hN (i_range2 rfl T.z_range (r_aCons r_int (r_aCons (r_op op_addA ad_addA (r_callB call_lenA ad_len rfl T.z_len boot_len (r_aCons (r_var (pv 0)) r_aNil)) r_int) r_aNil)) (alen_cons (alen_cons alen_nil))) (blk_by (by rfl)) (by decide) (fun _ _ _ _ _ => (r_gn (i := 1) hN rfl (by first | exact Or.inl rfl | exact Or.inr rfl))) (fun _ _ _ _ _ => (r_test1 (PW.pt (r_tand (r_tcmp (op_eqD hr.units) ad_eq (r_ix ix_seq ad_ix (r_var (pv 0)) (r_op op_sub ad_sub (r_var (pv 1)) r_int)) r_str (by rfl)) (pw_and1 (r_tcmp (op_neD hr.units) ad_ne (r_sl (r_var (pv 0)) (r_pat (r_var (pv 1))) (r_pat (r_op op_addA ad_addA (r_var (pv 1)) r_int))) r_str (by rfl))))))) (fun _ _ _ _ _ => (r_var (pv 1))))))
abbrev s__law_dice : Stmt := (top 39)
def b__law_dice : En → Cs → SR := (sSeq (sSet 2 (xIf (tVal (xOp gLt (xVar 1) (xAp kLen (aCons (xVar 0) aNil)))) (xAp kInt (aCons (xOp gIx (xVar 0) (xVar 1)) aNil)) (xOp gAddA (xOp gMulA (xC (.int 97)) (xVar 1)) (xC (.int 61))))) (sSeq (sSet 3 (xOp gMod (xAp kMax (aCons (xC (.int 0)) (aCons (xOp gSub (xAp kAbs (aCons (xVar 2) aNil)) (xOp gPow (xC (.int 10)) (xC (.int 16)))) aNil))) (xOp gMulA (xOp gPow (xC (.int 10)) (xC (.int 56))) (xOp gPow (xC (.int 10)) (xC (.int 60)))))) (sRet (xLstM (aCons (xVar 3) (aCons (xOp gAddA (xOp gAddA (xOp gAddA (xOp gMulA (xOp gMod (xAp kAbs (aCons (xVar 2) aNil)) (xC (.int 1152921504606846869))) (xC (.int 67))) (xOp gMulA (xC (.int 1013)) (xVar 1))) (xOp gMulA (xC (.int 47)) (xAp kInt (aCons (xOp gLt (xVar 2) (xC (.int 0))) aNil)))) (xC (.int 19))) (aCons (xC (.int 0)) aNil)))))))
def m__law_dice : List A → Cs → R A := runF 2 b__law_dice
theorem sc__law_dice : FnScope ["script", "spot", "cell", "left"] ["script", "spot"] (defScope s__law_dice) := sc_by (by decide +kernel)
theorem ok__law_dice (T : Txt K mg ad fd cl fi tc tp) : FnOk P w K mg base (L2.CX P w) 1 (ad 39) (fd 39) ["script", "spot"] (spD K (xcL cl (T0 tp) ad) 2 m__law_dice) := by
  refine fn_ok (N := ["script", "spot", "cell", "left"]) T.F__law_dice sc__law_dice fun cdv A outer s H E hr tk po => ?_
  have hN := sc__law_dice.nd
  have hfa := hfaL (cl := cl) (T := T0 tp) (ad := ad)
  exact (r_cons (r_set (i := 2) hN rfl (by first | exact Or.inl rfl | exact Or.inr rfl) (r_if (r_tcmp (op_lt) ad_lt (r_var (pv 1)) (r_callB call_lenA ad_len rfl T.z_len boot_len (r_aCons (r_var (pv 0)) r_aNil)) (by rfl)) (r_callTy call_int1 ad_int rfl T.z_int boot_int (r_aCons (r_ix ix_seq ad_ix (r_var (pv 0)) (r_var (pv 1))) r_aNil)) (r_op op_addA ad_addA (r_op op_mulA ad_mulA r_int (r_var (pv 1))) r_int))) (r_cons (r_set (i := 3) hN rfl (by first | exact Or.inl rfl | exact Or.inr rfl) (r_op op_mod ad_mod (r_callB (call_max2 rfl) ad_max rfl T.z_max boot_max (r_aCons r_int (r_aCons (r_op op_sub ad_sub (r_callB call_abs ad_abs rfl T.z_abs boot_abs (r_aCons (r_var (pv 2)) r_aNil)) (r_op op_pow ad_pow r_int r_int)) r_aNil))) (r_op op_mulA ad_mulA (r_op op_pow ad_pow r_int r_int) (r_op op_pow ad_pow r_int r_int)))) (r_one (r_ret (r_lstM (r_aCons (r_var (pv 3)) (r_aCons (r_op op_addA ad_addA (r_op op_addA ad_addA (r_op op_addA ad_addA (r_op op_mulA ad_mulA (r_op op_mod ad_mod (r_callB call_abs ad_abs rfl T.z_abs boot_abs (r_aCons (r_var (pv 2)) r_aNil)) r_int) r_int) (r_op op_mulA ad_mulA r_int (r_var (pv 1)))) (r_op op_mulA ad_mulA r_int (r_callTy call_int1 ad_int rfl T.z_int boot_int (r_aCons (r_cmp (op_lt) ad_lt (r_var (pv 2)) r_int (by rfl)) r_aNil)))) r_int) (r_aCons r_int r_aNil))))))))
abbrev s__law_roll : Stmt := (top 40)
def b__law_roll : En → Cs → SR := (sSeq (sIf (tVal (xOp gGt (xOp gIx (xVar 0) (xC (.int 0))) (xC (.int 0)))) (sSeq (sSet 4 (xOp gMod (xAp kInt (aCons (xOp gIx (xVar 0) (xC (.int 0))) aNil)) (xVar 1))) (sSeq (sPut (xOp gDiv (xOp gIx (xVar 0) (xC (.int 0))) (xVar 1)) (xVar 0) (xC (.int 0))) (sRet (xVar 4)))) sNext) (sSeq (sPut (xOp gAddA (xOp gIx (xVar 0) (xC (.int 2))) (xC (.int 1))) (xVar 0) (xC (.int 2))) (sSeq (sSet 2 (xOp gMod (xAp kInt (aCons (xOp gAddA (xOp gIx (xVar 0) (xC (.int 1))) (xOp gMulA (xC (.int 86028157)) (xOp gIx (xVar 0) (xC (.int 2))))) aNil)) (xC (.int 2305843009213693381)))) (sSeq (sSet 3 (xOp gAddA (xOp gMulA (xOp gMod (xAp kInt (aCons (xOp gAddA (xOp gMulA (xVar 2) (xVar 2)) (xOp gMulA (xC (.int 101)) (xOp gIx (xVar 0) (xC (.int 2))))) aNil)) (xC (.int 2305843009213693343))) (xC (.int 7368791))) (xVar 2))) (sRet (xOp gMod (xAp kInt (aCons (xOp gDiv (xVar 3) (xC (.int 65551))) aNil)) (xVar 1)))))))
def m__law_roll : List A → Cs → R A := runZ 3 b__law_roll
theorem sc__law_roll : FnScope ["dice", "most", "one", "two", "found"] ["dice", "most"] (defScope s__law_roll) := sc_by (by decide +kernel)
theorem ok__law_roll (T : Txt K mg ad fd cl fi tc tp) : FnOk P w K mg base (L2.CX P w) 1 (ad 40) (fd 40) ["dice", "most"] (spD K (xcL cl (T0 tp) ad) 2 m__law_roll) := by
  refine fn_z (N := ["dice", "most", "one", "two", "found"]) T.F__law_roll sc__law_roll fun cdv A outer s H E hr tk po => ?_
  have hN := sc__law_roll.nd
  have hfa := hfaL (cl := cl) (T := T0 tp) (ad := ad)
  exact (r_cons (r_ifS (r_tcmp (op_gt) ad_gt (r_ix ix_seq ad_ix (r_var (pv 0)) r_int) r_int (by rfl)) (r_cons (r_set (i := 4) hN rfl (by first | exact Or.inl rfl | exact Or.inr rfl) (r_op op_mod ad_mod (r_callTy call_int1 ad_int rfl T.z_int boot_int (r_aCons (r_ix ix_seq ad_ix (r_var (pv 0)) r_int) r_aNil)) (r_var (pv 1)))) (r_cons (r_put (r_op op_fdivW ad_div (r_ix ix_seq ad_ix (r_var (pv 0)) r_int) (r_var (pv 1))) (r_var (pv 0)) r_int) (r_one (r_ret (r_var (pv 4)))))) r_nil) (r_cons (r_put (r_op op_addA ad_addA (r_ix ix_seq ad_ix (r_var (pv 0)) r_int) r_int) (r_var (pv 0)) r_int) (r_cons (r_set (i := 2) hN rfl (by first | exact Or.inl rfl | exact Or.inr rfl) (r_op op_mod ad_mod (r_callTy call_int1 ad_int rfl T.z_int boot_int (r_aCons (r_op op_addA ad_addA (r_ix ix_seq ad_ix (r_var (pv 0)) r_int) (r_op op_mulA ad_mulA r_int (r_ix ix_seq ad_ix (r_var (pv 0)) r_int))) r_aNil)) r_int)) (r_cons (r_set (i := 3) hN rfl (by first | exact Or.inl rfl | exact Or.inr rfl) (r_op op_addA ad_addA (r_op op_mulA ad_mulA (r_op op_mod ad_mod (r_callTy call_int1 ad_int rfl T.z_int boot_int (r_aCons (r_op op_addA ad_addA (r_op op_mulA ad_mulA (r_var (pv 2)) (r_var (pv 2))) (r_op op_mulA ad_mulA r_int (r_ix ix_seq ad_ix (r_var (pv 0)) r_int))) r_aNil)) r_int) r_int) (r_var (pv 2)))) (r_one (r_ret (r_op op_mod ad_mod (r_callTy call_int1 ad_int rfl T.z_int boot_int (r_aCons (r_op op_fdivW ad_div (r_var (pv 3)) r_int) r_aNil)) (r_var (pv 1)))))))))
abbrev s__law_met : Stmt := (top 42)
theorem sc__law_met : FnScope ["call", "e"] ["call"] (defScope s__law_met) := sc_by (by decide +kernel)
def mt__law_met : R A → R A := handled subT 4 [(0, none, fun _ _ => (xTup (aCons (xC (.str "refused")) (aCons (xC (.str "row")) aNil)))), (1, none, fun _ _ => (xTup (aCons (xC (.str "refused")) (aCons (xC (.str "word")) aNil)))), (2, none, fun _ _ => (xTup (aCons (xC (.str "refused")) (aCons (xC (.str "operation")) aNil)))), (3, some 1, suN 3 fun pl => (xTup (aCons (xC (.str "refused")) (aCons (xOp gAddA (xC (.str "many ")) (xAp kRepr (aCons (xFld 1 pl) aNil))) aNil))))] 2 (sRet (xTup (aCons (xC (.str "fine")) aNil)))
theorem gv__law_met {X : Cx} {k : Nat} (T : Txt X.K X.mg ad fd cl fi tc tp) (hgd : X.A.guards = some []) (hr : Room k X.A) (cdv : Value) (q : Str) : GivesTo X ["call", "e"] "_law_met" (defScope s__law_met) (ad 42) cdv (defBody s__law_met) "call" q (TTF X.K (xcL cl (T0 tp) ad) mt__law_met) := by
  refine lam_gives (xc := xcL cl (T0 tp) ad) (N := 4) (l := [(0, none, fun _ _ => (xTup (aCons (xC (.str "refused")) (aCons (xC (.str "row")) aNil)))), (1, none, fun _ _ => (xTup (aCons (xC (.str "refused")) (aCons (xC (.str "word")) aNil)))), (2, none, fun _ _ => (xTup (aCons (xC (.str "refused")) (aCons (xC (.str "operation")) aNil)))), (3, some 1, suN 3 fun pl => (xTup (aCons (xC (.str "refused")) (aCons (xOp gAddA (xC (.str "many ")) (xAp kRepr (aCons (xFld 1 pl) aNil))) aNil))))]) (gr := (sRet (xTup (aCons (xC (.str "fine")) aNil)))) (fun f => rfl) (fun f => rfl) plainL (hexL T) (by decide) (fun s H => ?_) (fun s H => ?_)
  · have hN := sc__law_met.nd
    have hu : (X.A.deeper (envOfC "_law_met" (defScope s__law_met) s.heap.objs.size (ad 42) cdv)).units + 64 < cLine := by have := hr.un; show X.A.units + 3 + 64 < cLine; omega
    exact (.cons ⟨rfl, by decide, .inl T.g_InvalidRow⟩ (fun a oe d pn c p _ _ => (r_tup (r_aCons r_str (r_aCons r_str r_aNil)))) (.cons ⟨rfl, by decide, .inl T.g_InvalidWord⟩ (fun a oe d pn c p _ _ => (r_tup (r_aCons r_str (r_aCons r_str r_aNil)))) (.cons ⟨rfl, by decide, .inl T.g_InvalidOperation⟩ (fun a oe d pn c p _ _ => (r_tup (r_aCons r_str (r_aCons r_str r_aNil)))) (.as hN rfl rfl ⟨rfl, by decide, .inl T.g_TooMany⟩ (r_suN fun a oe d pn pl hz hf => (r_tup (r_aCons r_str (r_aCons (r_op op_addA ad_addA r_str (r_callB (call_repr hgd hu) ad_repr rfl T.z_repr boot_repr (r_aCons (r_efld T.er_TooMany rfl hz hf rfl (pv 1)) r_aNil))) r_aNil)))) .nil))))
  · have hN := sc__law_met.nd
    exact (r_one (r_ret (r_tup (r_aCons r_str r_aNil))))
abbrev s_is_between : Stmt := (top 9)
def b_is_between : En → Cs → SR := (sRet (xAndV (xAp m_is_integer (aCons (xVar 0) aNil)) (xChain gLe gLe (xVar 1) (xVar 0) (xVar 2))))
def m_is_between : List A → Cs → R A := runI 0 b_is_between
theorem sc_is_between : FnScope ["value", "least", "most"] ["value", "least", "most"] (defScope s_is_between) := sc_by (by decide +kernel)
theorem ok_is_between (T : Txt K mg ad fd cl fi tc tp) : FnOk P w K mg base (L2.CX P w) 2 (ad 9) (fd 9) ["value", "least", "most"] (spD K (xcL cl (T0 tp) ad) 3 m_is_between) := by
  refine fn_i plainL (N := ["value", "least", "most"]) T.F_is_between sc_is_between fun cdv A outer s H E hr tk po => ?_
  have hN := sc_is_between.nd
  have hfa := hfaL (cl := cl) (T := T0 tp) (ad := ad)
  exact (r_one (r_ret (r_and (r_call (ok_is_integer T) (hr.mono (by decide)) tk rfl T.m_is_integer T.F_is_integer.kp T.b_is_integer (r_aCons (r_var (pv 0)) r_aNil) rfl (hal := (alen_cons alen_nil))) (pe_one (r_chain (op_le) (op_le) ad_le ad_le (np_I _) (r_var (pv 1)) (r_var (pv 0)) (r_var (pv 2)))))))
abbrev s_check_word : Stmt := (top 19)
def b_check_word : En → Cs → SR := (sIf (tNotF (tVal (xAp m_is_word (aCons (xVar 0) aNil)))) (sRaise0 1) sNext)
def m_check_word : List A → Cs → R A := runI 0 b_check_word
theorem sc_check_word : FnScope ["word"] ["word"] (defScope s_check_word) := sc_by (by decide +kernel)
theorem ok_check_word (T : Txt K mg ad fd cl fi tc tp) : FnOk P w K mg base (L2.CX P w) 2 (ad 19) (fd 19) ["word"] (spD K (xcL cl (T0 tp) ad) 1 m_check_word) := by
  refine fn_i plainL (N := ["word"]) T.F_check_word sc_check_word fun cdv A outer s H E hr tk po => ?_
  have hN := sc_check_word.nd
  have hfa := hfaL (cl := cl) (T := T0 tp) (ad := ad)
  exact (r_one (r_ifS (r_tnot (r_tval (r_call (ok_is_word T) (hr.mono (by decide)) tk rfl T.m_is_word T.F_is_word.kp T.b_is_word (r_aCons (r_var (pv 0)) r_aNil) rfl (hal := (alen_cons alen_nil))))) (r_one (r_raiseE (n := 1) rfl tk F.excBase_ValueError T.e_InvalidWord rfl)) r_nil))
abbrev s_letters_of : Stmt := (top 26)
def b_letters_of : En → Cs → SR := (sSeq (sSet 1 (xLstM aNil)) (sSeq (sWhile 100000 (tVal (xOp gNe (xVar 0) (xTup aNil))) (sSeq (sExp (xAp m_check_letters (aCons (xOp gAddA (xAp kLen (aCons (xVar 1) aNil)) (xC (.int 1))) aNil))) (sSeq (sAsg (.tp2 (.nm 0) (.nm 2)) (xAp m_row_below (aCons (xVar 0) aNil))) (sExp (xMtL mAppend (xVar 1) (aCons (xVar 2) aNil)))))) (sRet (xM1 gJoin (xC (.str "")) (xVar 1)))))
def m_letters_of : List A → Cs → R A := runI 2 b_letters_of
theorem sc_letters_of : FnScope ["row", "letters", "letter"] ["row"] (defScope s_letters_of) := sc_by (by decide +kernel)
theorem ok_letters_of (T : Txt K mg ad fd cl fi tc tp) : FnOk P w K mg base (L2.CX P w) 2 (ad 26) (fd 26) ["row"] (spD K (xcL cl (T0 tp) ad) 1 m_letters_of) := by
  refine fn_i plainL (N := ["row", "letters", "letter"]) T.F_letters_of sc_letters_of fun cdv A outer s H E hr tk po => ?_
  have hN := sc_letters_of.nd
  have hfa := hfaL (cl := cl) (T := T0 tp) (ad := ad)
  exact (r_cons (r_set (i := 1) hN rfl (by first | exact Or.inl rfl | exact Or.inr rfl) (r_lstM r_aNil)) (r_cons (r_while 100000 po (r_tcmp (op_neD hr.units) ad_ne (r_var (pv 0)) (r_tup r_aNil) (by rfl)) (r_cons (r_expr (r_call (ok_check_letters T) (hr.mono (by decide)) tk rfl T.m_check_letters T.F_check_letters.kp T.b_check_letters (r_aCons (r_op op_addA ad_addA (r_callB call_lenA ad_len rfl T.z_len boot_len (r_aCons (r_var (pv 1)) r_aNil)) r_int) r_aNil) rfl (hal := (alen_cons alen_nil)))) (r_cons (r_asg (r_call (ok_row_below T) (hr.mono (by decide)) tk rfl T.m_row_below T.F_row_below.kp T.b_row_below (r_aCons (r_var (pv 0)) r_aNil) rfl (hal := (alen_cons alen_nil))) (r_g2 rfl (r_gn (i := 0) hN rfl (by first | exact Or.inl rfl | exact Or.inr rfl)) (r_gn (i := 2) hN rfl (by first | exact Or.inl rfl | exact Or.inr rfl)))) (r_one (r_expr (r_mtL PySem.F.plainAttrs_list PySem.F.slot_list_append PySem.F.type_list_append mt_append ad_append (r_var (pv 1)) (r_aCons (r_var (pv 2)) r_aNil))))))) (r_one (r_ret (r_m1 PySem.F.slot_str_join PySem.F.type_str_join mt_join ad_join r_str (r_var (pv 1)))))))
abbrev s_row_with_word : Stmt := (top 28)
def b_row_with_word : En → Cs → SR := (sSeq (sSet 1 (xTup aNil)) (sSeq (sFor (.nm 2) (itSeq (xSl (gSl3 (-1)) (xVar 0) pNo pNo)) (sSet 1 (xAp m_row_above (aCons (xVar 1) (aCons (xVar 2) aNil))))) (sRet (xVar 1))))
def m_row_with_word : List A → Cs → R A := runI 2 b_row_with_word
theorem sc_row_with_word : FnScope ["word", "row", "letter"] ["word"] (defScope s_row_with_word) := sc_by (by decide +kernel)
theorem ok_row_with_word (T : Txt K mg ad fd cl fi tc tp) : FnOk P w K mg base (L2.CX P w) 2 (ad 28) (fd 28) ["word"] (spD K (xcL cl (T0 tp) ad) 1 m_row_with_word) := by
  refine fn_i plainL (N := ["word", "row", "letter"]) T.F_row_with_word sc_row_with_word fun cdv A outer s H E hr tk po => ?_
  have hN := sc_row_with_word.nd
  have hfa := hfaL (cl := cl) (T := T0 tp) (ad := ad)
  exact (r_cons (r_set (i := 1) hN rfl (by first | exact Or.inl rfl | exact Or.inr rfl) (r_tup r_aNil)) (r_cons (r_for po rfl (i_seq (r_sl3 st_neg st_neg_c (by decide) (by decide) (r_var (pv 0)) r_pno r_pno)) (r_gn (i := 2) hN rfl (by first | exact Or.inl rfl | exact Or.inr rfl)) (r_one (r_set (i := 1) hN rfl (by first | exact Or.inl rfl | exact Or.inr rfl) (r_call (ok_row_above T) (hr.mono (by decide)) tk rfl T.m_row_above T.F_row_above.kp T.b_row_above (r_aCons (r_var (pv 1)) (r_aCons (r_var (pv 2)) r_aNil)) rfl (hal := (alen_cons (alen_cons alen_nil))))))) (r_one (r_ret (r_var (pv 1))))))
abbrev s__law_pick : Stmt := (top 41)
def b__law_pick : En → Cs → SR := (sRet (xOp gIx (xVar 1) (xAp m__law_roll (aCons (xVar 0) (aCons (xAp kLen (aCons (xVar 1) aNil)) aNil)))))
def m__law_pick : List A → Cs → R A := runZ 0 b__law_pick
theorem sc__law_pick : FnScope ["dice", "items"] ["dice", "items"] (defScope s__law_pick) := sc_by (by decide +kernel)
theorem ok__law_pick (T : Txt K mg ad fd cl fi tc tp) : FnOk P w K mg base (L2.CX P w) 2 (ad 41) (fd 41) ["dice", "items"] (spD K (xcL cl (T0 tp) ad) 2 m__law_pick) := by
  refine fn_z (N := ["dice", "items"]) T.F__law_pick sc__law_pick fun cdv A outer s H E hr tk po => ?_
  have hN := sc__law_pick.nd
  have hfa := hfaL (cl := cl) (T := T0 tp) (ad := ad)
  exact (r_one (r_ret (r_ix ix_seq ad_ix (r_var (pv 1)) (r_call (ok__law_roll T) (hr.mono (by decide)) tk rfl T.m__law_roll T.F__law_roll.kp T.b__law_roll (r_aCons (r_var (pv 0)) (r_aCons (r_callB call_lenA ad_len rfl T.z_len boot_len (r_aCons (r_var (pv 1)) r_aNil)) r_aNil)) rfl (hal := (alen_cons (alen_cons alen_nil)))))))
abbrev s_is_falling : Stmt := (top 14)
def b_is_falling : En → Cs → SR := (sSeq (sIf (tNotF (tVal (xAp kAll (aCons (xLc [3] (.nm 3) (itSeq (xVar 0)) tYesF (xAp m_is_between (aCons (xVar 3) (aCons (xVar 1) (aCons (xVar 2) aNil))))) aNil)))) (sRet (xC (.bl false))) sNext) (sRet (xAp kAll (aCons (xLc [4, 5] (.tp2 (.nm 4) (.nm 5)) (itZipB (aCons (xVar 0) (aCons (xSl gSl (xVar 0) (pAt (xC (.int 1))) pNo) aNil))) tYesF (xOp gGe (xVar 4) (xVar 5))) aNil))))
def m_is_falling : List A → Cs → R A := runI 3 b_is_falling
theorem sc_is_falling : FnScope ["numbers", "least", "most", "number", "ahead", "behind"] ["numbers", "least", "most"] (defScope s_is_falling) := sc_by (by decide +kernel)
theorem ok_is_falling (T : Txt K mg ad fd cl fi tc tp) : FnOk P w K mg base (L2.CX P w) 3 (ad 14) (fd 14) ["numbers", "least", "most"] (spD K (xcL cl (T0 tp) ad) 3 m_is_falling) := by
  refine fn_i plainL (N := ["numbers", "least", "most", "number", "ahead", "behind"]) T.F_is_falling sc_is_falling fun cdv A outer s H E hr tk po => ?_
  have hN := sc_is_falling.nd
  have hfa := hfaL (cl := cl) (T := T0 tp) (ad := ad)
  exact (r_cons (r_ifS (r_tnot (r_tval (r_callB (cr_all rfl) ad_all rfl T.z_all boot_all (r_aCons (r_lc (own := [("number", 3)]) rfl hN (i_seq (r_var (pv 0))) (blk_by (by rfl)) (by decide) (fun _ _ _ _ _ => (r_gn (i := 3) hN rfl (by first | exact Or.inl rfl | exact Or.inr rfl))) (fun _ _ _ _ _ => r_yes) (fun _ _ _ _ _ => (r_call (ok_is_between T) (hr.mono (by decide)) takes_blk rfl T.m_is_between T.F_is_between.kp T.b_is_between (r_aCons (r_var (pv 3)) (r_aCons (r_var (pv 1)) (r_aCons (r_var (pv 2)) r_aNil))) rfl (hal := (alen_cons (alen_cons (alen_cons alen_nil))))))) r_aNil)))) (r_one (r_ret r_bl)) r_nil) (r_one (r_ret (r_callB (cr_all rfl) ad_all rfl T.z_all boot_all (r_aCons (r_lc (own := [("ahead", 4), ("behind", 5)]) rfl hN (i_zipB rfl T.z_zip (r_aCons (r_var (pv 0)) (r_aCons (r_sl (r_var (pv 0)) (r_pat r_int) r_pno) r_aNil))) (blk_by (by rfl)) (by decide) (fun _ _ _ _ _ => (r_g2 rfl (r_gn (i := 4) hN rfl (by first | exact Or.inl rfl | exact Or.inr rfl)) (r_gn (i := 5) hN rfl (by first | exact Or.inl rfl | exact Or.inr rfl)))) (fun _ _ _ _ _ => r_yes) (fun _ _ _ _ _ => (r_cmp (op_ge) ad_ge (r_var (pv 4)) (r_var (pv 5)) (by rfl)))) r_aNil)))))
abbrev s_row_of_word : Stmt := (top 27)
def b_row_of_word : En → Cs → SR := (sSeq (sExp (xAp m_check_word (aCons (xVar 0) aNil))) (sRet (xAp m_row_with_word (aCons (xVar 0) aNil))))
def m_row_of_word : List A → Cs → R A := runI 0 b_row_of_word
theorem sc_row_of_word : FnScope ["word"] ["word"] (defScope s_row_of_word) := sc_by (by decide +kernel)
theorem ok_row_of_word (T : Txt K mg ad fd cl fi tc tp) : FnOk P w K mg base (L2.CX P w) 3 (ad 27) (fd 27) ["word"] (spD K (xcL cl (T0 tp) ad) 1 m_row_of_word) := by
  refine fn_i plainL (N := ["word"]) T.F_row_of_word sc_row_of_word fun cdv A outer s H E hr tk po => ?_
  have hN := sc_row_of_word.nd
  have hfa := hfaL (cl := cl) (T := T0 tp) (ad := ad)
  exact (r_cons (r_expr (r_call (ok_check_word T) (hr.mono (by decide)) tk rfl T.m_check_word T.F_check_word.kp T.b_check_word (r_aCons (r_var (pv 0)) r_aNil) rfl (hal := (alen_cons alen_nil)))) (r_one (r_ret (r_call (ok_row_with_word T) (hr.mono (by decide)) tk rfl T.m_row_with_word T.F_row_with_word.kp T.b_row_with_word (r_aCons (r_var (pv 0)) r_aNil) rfl (hal := (alen_cons alen_nil))))))
abbrev s_heights_of : Stmt := (top 29)
def b_heights_of : En → Cs → SR := (sSeq (sExp (xAp m_check_word (aCons (xVar 0) aNil))) (sRet (xAp kTuple (aCons (xAp m_heights_along (aCons (xVar 0) aNil)) aNil))))
def m_heights_of : List A → Cs → R A := runI 0 b_heights_of
theorem sc_heights_of : FnScope ["word"] ["word"] (defScope s_heights_of) := sc_by (by decide +kernel)
theorem ok_heights_of (T : Txt K mg ad fd cl fi tc tp) : FnOk P w K mg base (L2.CX P w) 3 (ad 29) (fd 29) ["word"] (spD K (xcL cl (T0 tp) ad) 1 m_heights_of) := by
  refine fn_i plainL (N := ["word"]) T.F_heights_of sc_heights_of fun cdv A outer s H E hr tk po => ?_
  have hN := sc_heights_of.nd
  have hfa := hfaL (cl := cl) (T := T0 tp) (ad := ad)
  exact (r_cons (r_expr (r_call (ok_check_word T) (hr.mono (by decide)) tk rfl T.m_check_word T.F_check_word.kp T.b_check_word (r_aCons (r_var (pv 0)) r_aNil) rfl (hal := (alen_cons alen_nil)))) (r_one (r_ret (r_callTy call_tupleZ ad_tuple rfl T.z_tuple boot_tuple (r_aCons (r_call (ok_heights_along T) (hr.mono (by decide)) tk rfl T.m_heights_along T.F_heights_along.kp T.b_heights_along (r_aCons (r_var (pv 0)) r_aNil) rfl (hal := (alen_cons alen_nil))) r_aNil)))))
abbrev s_descents_of : Stmt := (top 31)
def b_descents_of : En → Cs → SR := (sSeq (sExp (xAp m_check_word (aCons (xVar 0) aNil))) (sRet (xAp kTuple (aCons (xAp m_descents_along (aCons (xVar 0) aNil)) aNil))))
def m_descents_of : List A → Cs → R A := runI 0 b_descents_of
theorem sc_descents_of : FnScope ["word"] ["word"] (defScope s_descents_of) := sc_by (by decide +kernel)
theorem ok_descents_of (T : Txt K mg ad fd cl fi tc tp) : FnOk P w K mg base (L2.CX P w) 3 (ad 31) (fd 31) ["word"] (spD K (xcL cl (T0 tp) ad) 1 m_descents_of) := by
  refine fn_i plainL (N := ["word"]) T.F_descents_of sc_descents_of fun cdv A outer s H E hr tk po => ?_
  have hN := sc_descents_of.nd
  have hfa := hfaL (cl := cl) (T := T0 tp) (ad := ad)
  exact (r_cons (r_expr (r_call (ok_check_word T) (hr.mono (by decide)) tk rfl T.m_check_word T.F_check_word.kp T.b_check_word (r_aCons (r_var (pv 0)) r_aNil) rfl (hal := (alen_cons alen_nil)))) (r_one (r_ret (r_callTy call_tupleZ ad_tuple rfl T.z_tuple boot_tuple (r_aCons (r_call (ok_descents_along T) (hr.mono (by decide)) tk rfl T.m_descents_along T.F_descents_along.kp T.b_descents_along (r_aCons (r_var (pv 0)) r_aNil) rfl (hal := (alen_cons alen_nil))) r_aNil)))))
abbrev s_word_size : Stmt := (top 33)
def b_word_size : En → Cs → SR := (sSeq (sExp (xAp m_check_word (aCons (xVar 0) aNil))) (sRet (xAp kSumA (aCons (xAp m_descents_along (aCons (xVar 0) aNil)) aNil))))
def m_word_size : List A → Cs → R A := runI 0 b_word_size
theorem sc_word_size : FnScope ["word"] ["word"] (defScope s_word_size) := sc_by (by decide +kernel)
theorem ok_word_size (T : Txt K mg ad fd cl fi tc tp) : FnOk P w K mg base (L2.CX P w) 3 (ad 33) (fd 33) ["word"] (spD K (xcL cl (T0 tp) ad) 1 m_word_size) := by
  refine fn_i plainL (N := ["word"]) T.F_word_size sc_word_size fun cdv A outer s H E hr tk po => ?_
  have hN := sc_word_size.nd
  have hfa := hfaL (cl := cl) (T := T0 tp) (ad := ad)
  exact (r_cons (r_expr (r_call (ok_check_word T) (hr.mono (by decide)) tk rfl T.m_check_word T.F_check_word.kp T.b_check_word (r_aCons (r_var (pv 0)) r_aNil) rfl (hal := (alen_cons alen_nil)))) (r_one (r_ret (r_callB (cr_sumA rfl) ad_sumA rfl T.z_sum boot_sum (r_aCons (r_call (ok_descents_along T) (hr.mono (by decide)) tk rfl T.m_descents_along T.F_descents_along.kp T.b_descents_along (r_aCons (r_var (pv 0)) r_aNil) rfl (hal := (alen_cons alen_nil))) r_aNil)))))
abbrev s_depth_of : Stmt := (top 34)
def b_depth_of : En → Cs → SR := (sSeq (sExp (xAp m_check_word (aCons (xVar 0) aNil))) (sRet (xUn gNeg (xAp kMinL (aCons (xAp m_heights_along (aCons (xVar 0) aNil)) aNil)))))
def m_depth_of : List A → Cs → R A := runI 0 b_depth_of
theorem sc_depth_of : FnScope ["word"] ["word"] (defScope s_depth_of) := sc_by (by decide +kernel)
theorem ok_depth_of (T : Txt K mg ad fd cl fi tc tp) : FnOk P w K mg base (L2.CX P w) 3 (ad 34) (fd 34) ["word"] (spD K (xcL cl (T0 tp) ad) 1 m_depth_of) := by
  refine fn_i plainL (N := ["word"]) T.F_depth_of sc_depth_of fun cdv A outer s H E hr tk po => ?_
  have hN := sc_depth_of.nd
  have hfa := hfaL (cl := cl) (T := T0 tp) (ad := ad)
  exact (r_cons (r_expr (r_call (ok_check_word T) (hr.mono (by decide)) tk rfl T.m_check_word T.F_check_word.kp T.b_check_word (r_aCons (r_var (pv 0)) r_aNil) rfl (hal := (alen_cons alen_nil)))) (r_one (r_ret (r_un un_neg ad_neg (r_callB (cr_min rfl) ad_minL rfl T.z_min boot_min (r_aCons (r_call (ok_heights_along T) (hr.mono (by decide)) tk rfl T.m_heights_along T.F_heights_along.kp T.b_heights_along (r_aCons (r_var (pv 0)) r_aNil) rfl (hal := (alen_cons alen_nil))) r_aNil))))))
abbrev s_drop_of : Stmt := (top 35)
def b_drop_of : En → Cs → SR := (sSeq (sExp (xAp m_check_word (aCons (xVar 0) aNil))) (sSeq (sSet 1 (xC (.int 0))) (sSeq (sSet 2 (xC (.int 0))) (sSeq (sFor (.nm 3) (itSeq (xAp m_heights_along (aCons (xVar 0) aNil))) (sSeq (sSet 1 (xAp kMax (aCons (xVar 1) (aCons (xVar 3) aNil)))) (sSet 2 (xAp kMax (aCons (xVar 2) (aCons (xOp gSub (xVar 1) (xVar 3)) aNil)))))) (sRet (xVar 2))))))
def m_drop_of : List A → Cs → R A := runI 3 b_drop_of
theorem sc_drop_of : FnScope ["word", "highest", "drop", "height"] ["word"] (defScope s_drop_of) := sc_by (by decide +kernel)
theorem ok_drop_of (T : Txt K mg ad fd cl fi tc tp) : FnOk P w K mg base (L2.CX P w) 3 (ad 35) (fd 35) ["word"] (spD K (xcL cl (T0 tp) ad) 1 m_drop_of) := by
  refine fn_i plainL (N := ["word", "highest", "drop", "height"]) T.F_drop_of sc_drop_of fun cdv A outer s H E hr tk po => ?_
  have hN := sc_drop_of.nd
  have hfa := hfaL (cl := cl) (T := T0 tp) (ad := ad)
  exact (r_cons (r_expr (r_call (ok_check_word T) (hr.mono (by decide)) tk rfl T.m_check_word T.F_check_word.kp T.b_check_word (r_aCons (r_var (pv 0)) r_aNil) rfl (hal := (alen_cons alen_nil)))) (r_cons (r_set (i := 1) hN rfl (by first | exact Or.inl rfl | exact Or.inr rfl) r_int) (r_cons (r_set (i := 2) hN rfl (by first | exact Or.inl rfl | exact Or.inr rfl) r_int) (r_cons (r_for po rfl (i_seq (r_call (ok_heights_along T) (hr.mono (by decide)) tk rfl T.m_heights_along T.F_heights_along.kp T.b_heights_along (r_aCons (r_var (pv 0)) r_aNil) rfl (hal := (alen_cons alen_nil)))) (r_gn (i := 3) hN rfl (by first | exact Or.inl rfl | exact Or.inr rfl)) (r_cons (r_set (i := 1) hN rfl (by first | exact Or.inl rfl | exact Or.inr rfl) (r_callB (call_max2 rfl) ad_max rfl T.z_max boot_max (r_aCons (r_var (pv 1)) (r_aCons (r_var (pv 3)) r_aNil)))) (r_one (r_set (i := 2) hN rfl (by first | exact Or.inl rfl | exact Or.inr rfl) (r_callB (call_max2 rfl) ad_max rfl T.z_max boot_max (r_aCons (r_var (pv 2)) (r_aCons (r_op op_sub ad_sub (r_var (pv 1)) (r_var (pv 3))) r_aNil))))))) (r_one (r_ret (r_var (pv 2))))))))
abbrev s_is_row : Stmt := (top 13)
def b_is_row : En → Cs → SR := (sRet (xAndV (xAp kIsi (aCons (xVar 0) (aCons (xC (.opq (.ty "tuple"))) aNil))) (xAndV (xOp gLe (xAp kLen (aCons (xVar 0) aNil)) (xC (.int 60))) (xAp m_is_falling (aCons (xVar 0) (aCons (xC (.int 1)) (aCons (xC (.int 200)) aNil)))))))
def m_is_row : List A → Cs → R A := runI 0 b_is_row
theorem sc_is_row : FnScope ["value"] ["value"] (defScope s_is_row) := sc_by (by decide +kernel)
theorem ok_is_row (T : Txt K mg ad fd cl fi tc tp) : FnOk P w K mg base (L2.CX P w) 4 (ad 13) (fd 13) ["value"] (spD K (xcL cl (T0 tp) ad) 1 m_is_row) := by
  refine fn_i plainL (N := ["value"]) T.F_is_row sc_is_row fun cdv A outer s H E hr tk po => ?_
  have hN := sc_is_row.nd
  have hfa := hfaL (cl := cl) (T := T0 tp) (ad := ad)
  exact (r_one (r_ret (r_and (r_callB call_isi ad_isi rfl T.z_isinstance boot_isinstance (r_aCons (r_var (pv 0)) (r_aCons (r_gT T.z_tuple boot_tuple) r_aNil))) (r_and (r_cmp (op_le) ad_le (r_callB call_lenA ad_len rfl T.z_len boot_len (r_aCons (r_var (pv 0)) r_aNil)) (r_gI T.c_MAX_PARTS) (by rfl)) (pe_one (r_call (ok_is_falling T) (hr.mono (by decide)) tk rfl T.m_is_falling T.F_is_falling.kp T.b_is_falling (r_aCons (r_var (pv 0)) (r_aCons r_int (r_aCons (r_gI T.c_MAX_PART) r_aNil))) rfl (hal := (alen_cons (alen_cons (alen_cons alen_nil))))))))))
abbrev s_check_row : Stmt := (top 15)
def b_check_row : En → Cs → SR := (sIf (tNotF (tVal (xAp m_is_row (aCons (xVar 0) aNil)))) (sRaise0 0) sNext)
def m_check_row : List A → Cs → R A := runI 0 b_check_row
theorem sc_check_row : FnScope ["row"] ["row"] (defScope s_check_row) := sc_by (by decide +kernel)
theorem ok_check_row (T : Txt K mg ad fd cl fi tc tp) : FnOk P w K mg base (L2.CX P w) 5 (ad 15) (fd 15) ["row"] (spD K (xcL cl (T0 tp) ad) 1 m_check_row) := by
  refine fn_i plainL (N := ["row"]) T.F_check_row sc_check_row fun cdv A outer s H E hr tk po => ?_
  have hN := sc_check_row.nd
  have hfa := hfaL (cl := cl) (T := T0 tp) (ad := ad)
  exact (r_one (r_ifS (r_tnot (r_tval (r_call (ok_is_row T) (hr.mono (by decide)) tk rfl T.m_is_row T.F_is_row.kp T.b_is_row (r_aCons (r_var (pv 0)) r_aNil) rfl (hal := (alen_cons alen_nil))))) (r_one (r_raiseE (n := 0) rfl tk F.excBase_ValueError T.e_InvalidRow rfl)) r_nil))
abbrev s_lowered : Stmt := (top 21)
def b_lowered : En → Cs → SR := (sSeq (sExp (xAp m_check_row (aCons (xVar 0) aNil))) (sSeq (sIf (tVal (xOp gEq (xVar 0) (xTup aNil))) (sRaise0 2) sNext) (sRet (xAp m_row_below (aCons (xVar 0) aNil)))))
def m_lowered : List A → Cs → R A := runI 0 b_lowered
theorem sc_lowered : FnScope ["row"] ["row"] (defScope s_lowered) := sc_by (by decide +kernel)
theorem ok_lowered (T : Txt K mg ad fd cl fi tc tp) : FnOk P w K mg base (L2.CX P w) 6 (ad 21) (fd 21) ["row"] (spD K (xcL cl (T0 tp) ad) 1 m_lowered) := by
  refine fn_i plainL (N := ["row"]) T.F_lowered sc_lowered fun cdv A outer s H E hr tk po => ?_
  have hN := sc_lowered.nd
  have hfa := hfaL (cl := cl) (T := T0 tp) (ad := ad)
  exact (r_cons (r_expr (r_call (ok_check_row T) (hr.mono (by decide)) tk rfl T.m_check_row T.F_check_row.kp T.b_check_row (r_aCons (r_var (pv 0)) r_aNil) rfl (hal := (alen_cons alen_nil)))) (r_cons (r_ifS (r_tcmp (op_eqD hr.units) ad_eq (r_var (pv 0)) (r_tup r_aNil) (by rfl)) (r_one (r_raiseE (n := 2) rfl tk F.excBase_ValueError T.e_InvalidOperation rfl)) r_nil) (r_one (r_ret (r_call (ok_row_below T) (hr.mono (by decide)) tk rfl T.m_row_below T.F_row_below.kp T.b_row_below (r_aCons (r_var (pv 0)) r_aNil) rfl (hal := (alen_cons alen_nil)))))))
abbrev s_raised : Stmt := (top 23)
def b_raised : En → Cs → SR := (sSeq (sExp (xAp m_check_row (aCons (xVar 0) aNil))) (sSeq (sIf (tVal (xOp (gInE true) (xVar 1) (xTup (aCons (xC (.str "a")) (aCons (xC (.str "b")) aNil))))) (sRaise0 1) sNext) (sRet (xAp m_row_above (aCons (xVar 0) (aCons (xVar 1) aNil))))))
def m_raised : List A → Cs → R A := runI 0 b_raised
theorem sc_raised : FnScope ["row", "letter"] ["row", "letter"] (defScope s_raised) := sc_by (by decide +kernel)
theorem ok_raised (T : Txt K mg ad fd cl fi tc tp) : FnOk P w K mg base (L2.CX P w) 6 (ad 23) (fd 23) ["row", "letter"] (spD K (xcL cl (T0 tp) ad) 2 m_raised) := by
  refine fn_i plainL (N := ["row", "letter"]) T.F_raised sc_raised fun cdv A outer s H E hr tk po => ?_
  have hN := sc_raised.nd
  have hfa := hfaL (cl := cl) (T := T0 tp) (ad := ad)
  exact (r_cons (r_expr (r_call (ok_check_row T) (hr.mono (by decide)) tk rfl T.m_check_row T.F_check_row.kp T.b_check_row (r_aCons (r_var (pv 0)) r_aNil) rfl (hal := (alen_cons alen_nil)))) (r_cons (r_ifS (r_tcmp (op_orR op_notInB (op_notInD hr.units)) (ad_inE ad_notInB) (r_var (pv 1)) (r_tup (r_aCons r_str (r_aCons r_str r_aNil))) (by rfl)) (r_one (r_raiseE (n := 1) rfl tk F.excBase_ValueError T.e_InvalidWord rfl)) r_nil) (r_one (r_ret (r_call (ok_row_above T) (hr.mono (by decide)) tk rfl T.m_row_above T.F_row_above.kp T.b_row_above (r_aCons (r_var (pv 0)) (r_aCons (r_var (pv 1)) r_aNil)) rfl (hal := (alen_cons (alen_cons alen_nil))))))))
abbrev s_word_of : Stmt := (top 25)
def b_word_of : En → Cs → SR := (sSeq (sExp (xAp m_check_row (aCons (xVar 0) aNil))) (sRet (xAp m_letters_of (aCons (xVar 0) aNil))))
def m_word_of : List A → Cs → R A := runI 0 b_word_of
theorem sc_word_of : FnScope ["row"] ["row"] (defScope s_word_of) := sc_by (by decide +kernel)
theorem ok_word_of (T : Txt K mg ad fd cl fi tc tp) : FnOk P w K mg base (L2.CX P w) 6 (ad 25) (fd 25) ["row"] (spD K (xcL cl (T0 tp) ad) 1 m_word_of) := by
  refine fn_i plainL (N := ["row"]) T.F_word_of sc_word_of fun cdv A outer s H E hr tk po => ?_
  have hN := sc_word_of.nd
  have hfa := hfaL (cl := cl) (T := T0 tp) (ad := ad)
  exact (r_cons (r_expr (r_call (ok_check_row T) (hr.mono (by decide)) tk rfl T.m_check_row T.F_check_row.kp T.b_check_row (r_aCons (r_var (pv 0)) r_aNil) rfl (hal := (alen_cons alen_nil)))) (r_one (r_ret (r_call (ok_letters_of T) (hr.mono (by decide)) tk rfl T.m_letters_of T.F_letters_of.kp T.b_letters_of (r_aCons (r_var (pv 0)) r_aNil) rfl (hal := (alen_cons alen_nil))))))
abbrev s_closest_parts : Stmt := (top 36)
def b_closest_parts : En → Cs → SR := (sSeq (sExp (xAp m_check_row (aCons (xVar 0) aNil))) (sRet (xExt PySem.W.maxD (aCons (xLc [1] (.nm 1) (itSeq (xVar 0)) tYesF (xOp gAddA (xCnt (xVar 0) (xVar 1)) (xCnt (xVar 0) (xOp gAddA (xVar 1) (xC (.int 1)))))) aNil) (xC (.int 0)))))
def m_closest_parts : List A → Cs → R A := runI 1 b_closest_parts
theorem sc_closest_parts : FnScope ["row", "part"] ["row"] (defScope s_closest_parts) := sc_by (by decide +kernel)
theorem ok_closest_parts (T : Txt K mg ad fd cl fi tc tp) : FnOk P w K mg base (L2.CX P w) 6 (ad 36) (fd 36) ["row"] (spD K (xcL cl (T0 tp) ad) 1 m_closest_parts) := by
  refine fn_i plainL (N := ["row", "part"]) T.F_closest_parts sc_closest_parts fun cdv A outer s H E hr tk po => ?_
  have hN := sc_closest_parts.nd
  have hfa := hfaL (cl := cl) (T := T0 tp) (ad := ad)
  exact (r_cons (r_expr (r_call (ok_check_row T) (hr.mono (by decide)) tk rfl T.m_check_row T.F_check_row.kp T.b_check_row (r_aCons (r_var (pv 0)) r_aNil) rfl (hal := (alen_cons alen_nil)))) (r_one (r_ret (r_ext (cr_maxD rfl hr.units) rfl T.z_max boot_max (r_aCons (r_lc (own := [("part", 1)]) rfl hN (i_seq (r_var (pv 0))) (blk_by (by rfl)) (by decide) (fun _ _ _ _ _ => (r_gn (i := 1) hN rfl (by first | exact Or.inl rfl | exact Or.inr rfl))) (fun _ _ _ _ _ => r_yes) (fun _ _ _ _ _ => (r_op op_addA ad_addA (r_cnt (r_var (pv 0)) (r_var (pv 1))) (r_cnt (r_var (pv 0)) (r_op op_addA ad_addA (r_var (pv 1)) r_int))))) r_aNil) r_int))))
abbrev s_steps_of : Stmt := (top 37)
def b_steps_of : GF := (gSeq (gPl (sExp (xAp m_word_of (aCons (xVar 0) aNil)))) (gSeq (gYield (xVar 0)) (gWhile (tVal (xOp gNe (xVar 0) (xTup aNil))) (gSeq (gPl (sAsg (.tp2 (.nm 0) (.nm 1)) (xAp m_row_below (aCons (xVar 0) aNil)))) (gYield (xVar 0))) 100000)))
def m_steps_of : List A → Cs → R (List A) := runY 1 b_steps_of
theorem sc_steps_of : GScope ["row", "_"] ["row"] (defScope s_steps_of) := sg_by (by decide +kernel)
theorem ok_steps_of (T : Txt K mg ad fd cl fi tc tp) : GFn P w K mg base 7 (ad 37) (fd 37) ["row"] (spG K (xcL cl (T0 tp) ad) 1 m_steps_of) := by
  refine fn_gen (N := ["row", "_"]) T.F_steps_of sc_steps_of fun cdv A outer s H E pn hr tk po => ?_
  have hN := sc_steps_of.nd
  have hfa := hfaL (cl := cl) (T := T0 tp) (ad := ad)
  exact (y_cons (y_pl (r_expr (r_call (ok_word_of T) (hr.mono (by decide)) tk rfl T.m_word_of T.F_word_of.kp T.b_word_of (r_aCons (r_var (pv 0)) r_aNil) rfl (hal := (alen_cons alen_nil))))) (y_cons (y_yield (r_var (pv 0))) (y_one (y_while 100000 po (r_tcmp (op_neD hr.units) ad_ne (r_var (pv 0)) (r_tup r_aNil) (by rfl)) (y_cons (y_pl (r_asg (r_call (ok_row_below T) (hr.mono (by decide)) tk rfl T.m_row_below T.F_row_below.kp T.b_row_below (r_aCons (r_var (pv 0)) r_aNil) rfl (hal := (alen_cons alen_nil))) (r_g2 rfl (r_gn (i := 0) hN rfl (by first | exact Or.inl rfl | exact Or.inr rfl)) (r_gn (i := 1) hN rfl (by first | exact Or.inl rfl | exact Or.inr rfl))))) (y_one (y_yield (r_var (pv 0)))))))))
def L1 : Nat → Option (List A → Cs → R A) := fun n => match n with | 29 => some m_heights_of | 34 => some m_depth_of | 27 => some m_row_of_word | 25 => some m_word_of | 31 => some m_descents_of | 36 => some m_closest_parts | 35 => some m_drop_of | 21 => some m_lowered | 33 => some m_word_size | _ => none
theorem hL1 {X : Cx} (T : Txt X.K X.mg ad fd cl fi tc tp) (hr : Room 6 X.A) : ∀ n m, L1 n = some m → ∃ fd ps k', FnOk X.prog X.w X.K X.mg X.base (L2.CX X.prog X.w) k' (ad n) fd ps (spD X.K (xcL cl (T0 tp) ad) 1 m) ∧ Room k' X.A ∧ PySem.W.keepIn X.K (.ref (ad n)) = true ∧ Binds X.K fd ps [] := by
  intro n m e
  unfold L1 at e
  split at e
  · cases e; exact ⟨_, _, _, ok_heights_of T, hr.mono (by decide), T.F_heights_of.kp, T.b_heights_of⟩
  · cases e; exact ⟨_, _, _, ok_depth_of T, hr.mono (by decide), T.F_depth_of.kp, T.b_depth_of⟩
  · cases e; exact ⟨_, _, _, ok_row_of_word T, hr.mono (by decide), T.F_row_of_word.kp, T.b_row_of_word⟩
  · cases e; exact ⟨_, _, _, ok_word_of T, hr.mono (by decide), T.F_word_of.kp, T.b_word_of⟩
  · cases e; exact ⟨_, _, _, ok_descents_of T, hr.mono (by decide), T.F_descents_of.kp, T.b_descents_of⟩
  · cases e; exact ⟨_, _, _, ok_closest_parts T, hr.mono (by decide), T.F_closest_parts.kp, T.b_closest_parts⟩
  · cases e; exact ⟨_, _, _, ok_drop_of T, hr.mono (by decide), T.F_drop_of.kp, T.b_drop_of⟩
  · cases e; exact ⟨_, _, _, ok_lowered T, hr.mono (by decide), T.F_lowered.kp, T.b_lowered⟩
  · cases e; exact ⟨_, _, _, ok_word_size T, hr.mono (by decide), T.F_word_size.kp, T.b_word_size⟩
  · cases e

abbrev s__law_right : Stmt := (top 43)
def q_law_right_0 : En → Cs → R A := (isoX [false, true, false, false, false, true] (xLam mt__law_met (xCallV 5 L1 (aCons (xVar 1) aNil))))
def q_law_right_1 : En → Cs → R A := (isoX [false, false, true, false, false, true] (xLam mt__law_met (xCallV 5 L1 (aCons (xVar 2) aNil))))
def q_law_right_2 : En → Cs → R A := (isoX [false, true, false, true] (xLam mt__law_met (xAp m_raised (aCons (xVar 1) (aCons (xVar 3) aNil)))))
def q_law_right_3 : En → Cs → R A := (isoX [false, false, false, true] (xLam mt__law_met (xAp m_raised (aCons (xTup (aCons (xC (.int 2)) (aCons (xC (.int 1)) aNil))) (aCons (xVar 3) aNil)))))
def q_law_right_4 : En → Cs → R A := (isoX [false, true] (xLam mt__law_met (xListG 4 m_steps_of (aCons (xVar 1) aNil))))
def q_law_right_5 : En → Cs → R A := (isoX [] (xLam mt__law_met (xAp m_lowered (aCons (xTup aNil) aNil))))
def q_law_right_6 : En → Cs → R A := (isoX [false, false, false, false, true] (xLam mt__law_met (xAp m_word_of (aCons (xVar 4) aNil))))
def q_law_right_7 : En → Cs → R A := (isoX [false, false, false, false, true] (xLam mt__law_met (xListG 4 m_steps_of (aCons (xVar 4) aNil))))
def q_law_right_8 : En → Cs → R A := (isoX [false, false, false, false, true] (xLam mt__law_met (xAp m_closest_parts (aCons (xVar 4) aNil))))
def q_law_right_9 : En → Cs → R A := (isoX [false, false, false, false, true] (xLam mt__law_met (xAp m_lowered (aCons (xVar 4) aNil))))
def q_law_right_10 : En → Cs → R A := (isoX [false, false, false, false, true] (xLam mt__law_met (xAp m_raised (aCons (xVar 4) (aCons (xC (.str "a")) aNil)))))
def b__law_right : En → Cs → SR := (sSeq (sSet 1 (xLst (aCons (xC .non) (aCons (xC (.int 3)) (aCons (xLst (aCons (xC (.int 2)) (aCons (xC (.int 1)) aNil))) (aCons (xTup (aCons (xC (.int 1)) (aCons (xC (.int 2)) aNil))) (aCons (xTup (aCons (xC (.int 0)) aNil)) (aCons (xTup (aCons (xC (.int 2)) (aCons (xC (.int 0)) aNil))) (aCons (xTup (aCons (xUn gNeg (xC (.int 1))) aNil)) (aCons (xTup (aCons (xC (.bl true)) aNil)) (aCons (xTup (aCons (xC (.str "1")) aNil)) (aCons (xTup (aCons (xC (.int 2)) (aCons (xC .non) aNil))) (aCons xDk0 (aCons (xC (.str "21")) (aCons (xTup (aCons (xC (.int 201)) aNil)) (aCons (xOp gMulA (xTup (aCons (xC (.int 1)) aNil)) (xC (.int 61))) aNil)))))))))))))))) (sSeq (sSet 1 (xAp m__law_pick (aCons (xVar 0) (aCons (xOp gAddA (xVar 1) (xLst (aCons (xTup (aCons (xOp gPow (xC (.int 10)) (xC (.int 60))) aNil)) (aCons (xTup (aCons (xTup (aCons (xC (.int 2)) aNil)) aNil)) aNil)))) aNil)))) (sSeq (sSet 2 (xAp m__law_pick (aCons (xVar 0) (aCons (xLst (aCons (xC .non) (aCons (xC (.int 3)) (aCons (xC (.str "a")) (aCons (xC (.str "ba")) (aCons (xC (.str "abc")) (aCons (xC (.str "B")) (aCons (xTup (aCons (xC (.str "b")) aNil)) (aCons (xLst (aCons (xC (.str "b")) aNil)) (aCons xDk0 (aCons (xOp gMulS (xC (.str "b")) (xC (.int 401))) (aCons (xOp gAddA (xOp gMulS (xC (.str "a")) (xC (.int 400))) (xC (.str "b"))) (aCons (xC (.str "b ")) aNil))))))))))))) aNil)))) (sSeq (sSet 3 (xAp m__law_pick (aCons (xVar 0) (aCons (xLst (aCons (xC .non) (aCons (xC (.str "")) (aCons (xC (.str "c")) (aCons (xC (.str "ab")) (aCons (xC (.str "B")) (aCons (xC (.int 0)) (aCons (xC (.bl true)) (aCons (xTup (aCons (xC (.str "a")) aNil)) (aCons (xLst (aCons (xC (.str "b")) aNil)) (aCons (xC (.str "bb")) aNil))))))))))) aNil)))) (sSeq (sSet 4 (xAp m__law_pick (aCons (xVar 0) (aCons (xLst (aCons (xTup (aCons (xC (.int 134)) (aCons (xC (.int 134)) (aCons (xC (.int 134)) aNil)))) (aCons (xTup (aCons (xC (.int 200)) (aCons (xC (.int 200)) (aCons (xC (.int 200)) aNil)))) (aCons (xOp gMulA (xTup (aCons (xC (.int 200)) aNil)) (xC (.int 4))) (aCons (xTup (aCons (xC (.int 150)) (aCons (xC (.int 150)) (aCons (xC (.int 150)) aNil)))) aNil))))) aNil)))) (sSeq (sPar 6 7 (aCons (xLstM aNil) (aCons (xLstM aNil) aNil))) (sSeq (sFor (.nm 5) (itSeq (xTup (aCons (xC (.fn 21)) (aCons (xC (.fn 25)) (aCons (xC (.fn 36)) aNil))))) (sSeq (sExp (xMtL mAppend (xVar 6) (aCons q_law_right_0 aNil))) (sExp (xMtL mAppend (xVar 7) (aCons (xC (.str "row")) aNil))))) (sSeq (sFor (.nm 5) (itSeq (xTup (aCons (xC (.fn 27)) (aCons (xC (.fn 29)) (aCons (xC (.fn 31)) (aCons (xC (.fn 33)) (aCons (xC (.fn 34)) (aCons (xC (.fn 35)) aNil)))))))) (sSeq (sExp (xMtL mAppend (xVar 6) (aCons q_law_right_1 aNil))) (sExp (xMtL mAppend (xVar 7) (aCons (xC (.str "word")) aNil))))) (sSeq (sExp (xMtL mAppend (xVar 6) (aCons q_law_right_2 aNil))) (sSeq (sExp (xMtL mAppend (xVar 6) (aCons q_law_right_3 aNil))) (sSeq (sExp (xMtL mAppend (xVar 6) (aCons q_law_right_4 aNil))) (sSeq (sExp (xMtL mAppend (xVar 6) (aCons q_law_right_5 aNil))) (sSeq (sExp (xMtL mAppend (xVar 6) (aCons q_law_right_6 aNil))) (sSeq (sExp (xMtL mAppend (xVar 6) (aCons q_law_right_7 aNil))) (sSeq (sExp (xMtL mAppend (xVar 6) (aCons q_law_right_8 aNil))) (sSeq (sExp (xMtL mAppend (xVar 6) (aCons q_law_right_9 aNil))) (sSeq (sExp (xMtL mAppend (xVar 6) (aCons q_law_right_10 aNil))) (sSeq (sExp (xMtL mExtend (xVar 7) (aCons (xLst (aCons (xC (.str "row")) (aCons (xC (.str "word")) (aCons (xC (.str "row")) (aCons (xC (.str "operation")) (aCons (xC (.str "many 400")) (aCons (xC (.str "many 400")) (aCons (xC .non) (aCons (xC .non) (aCons (xC .non) aNil)))))))))) aNil))) (sRet (xOp gEq (xVar 6) (xLc [8] (.nm 8) (itSeq (xVar 7)) tYesF (xIf (tVal (xOp gIsN (xVar 8) (xC .non))) (xTup (aCons (xC (.str "fine")) aNil)) (xTup (aCons (xC (.str "refused")) (aCons (xVar 8) aNil)))))))))))))))))))))))))
def m__law_right : List A → Cs → R A := runD 8 b__law_right
theorem sc__law_right : FnScope ["dice", "row", "word", "letter", "long", "call", "told", "due", "one"] ["dice"] (defScope s__law_right) := sc_by (by decide +kernel)
theorem ok__law_right (T : Txt K mg ad fd cl fi tc tp) (B : TBs base mg tc tp) : FnG P w K mg base 14 (ad 43) (fd 43) ["dice"] (spD K (xcL cl (T0 tp) ad) 1 m__law_right) := by
  refine fn_gd plainL (N := ["dice", "row", "word", "letter", "long", "call", "told", "due", "one"]) T.F__law_right sc__law_right fun cdv A outer s H E hcd hco hgd hr tk po _ => ?_
  have hN := sc__law_right.nd
  have hT0 : ∀ T' fa kp pv, (xcL cl (T0 tp) ad).G T' fa kp pv → T' = T0 tp := fun _ _ _ _ h => h.1
  have hfa := hfaL (cl := cl) (T := T0 tp) (ad := ad)
  have hcode : cdv = .ref (tc 43) := hco.symm.trans T.cd__law_right
  obtain ⟨oc__law_met, od__law_met, kV__law_met, doc__law_met, pm__law_met, an__law_met, cdv__law_met, ct__law_met, osl__law_met, efd__law_met, lk__law_met, hcg__law_met⟩ := T.F__law_met.ex
  have bd__law_met := T.b__law_met
  rw [efd__law_met] at lk__law_met bd__law_met
  exact (r_cons (r_set (i := 1) hN rfl (by first | exact Or.inl rfl | exact Or.inr rfl) (r_lst (r_aCons r_non (r_aCons r_int (r_aCons (r_lst (r_aCons r_int (r_aCons r_int r_aNil))) (r_aCons (r_tup (r_aCons r_int (r_aCons r_int r_aNil))) (r_aCons (r_tup (r_aCons r_int r_aNil)) (r_aCons (r_tup (r_aCons r_int (r_aCons r_int r_aNil))) (r_aCons (r_tup (r_aCons (r_un un_neg ad_neg r_int) r_aNil)) (r_aCons (r_tup (r_aCons r_bl r_aNil)) (r_aCons (r_tup (r_aCons r_str r_aNil)) (r_aCons (r_tup (r_aCons r_int (r_aCons r_non r_aNil))) (r_aCons r_dk0 (r_aCons r_str (r_aCons (r_tup (r_aCons r_int r_aNil)) (r_aCons (r_op op_mulA ad_mulA (r_tup (r_aCons r_int r_aNil)) r_int) r_aNil)))))))))))))))) (r_cons (r_set (i := 1) hN rfl (by first | exact Or.inl rfl | exact Or.inr rfl) (r_call (ok__law_pick T) (hr.mono (by decide)) tk rfl T.m__law_pick T.F__law_pick.kp T.b__law_pick (r_aCons (r_var (pv 0)) (r_aCons (r_op op_addA ad_addA (r_var (pv 1)) (r_lst (r_aCons (r_tup (r_aCons (r_op op_pow ad_pow r_int r_int) r_aNil)) (r_aCons (r_tup (r_aCons (r_tup (r_aCons r_int r_aNil)) r_aNil)) r_aNil)))) r_aNil)) rfl (hal := (alen_cons (alen_cons alen_nil))))) (r_cons (r_set (i := 2) hN rfl (by first | exact Or.inl rfl | exact Or.inr rfl) (r_call (ok__law_pick T) (hr.mono (by decide)) tk rfl T.m__law_pick T.F__law_pick.kp T.b__law_pick (r_aCons (r_var (pv 0)) (r_aCons (r_lst (r_aCons r_non (r_aCons r_int (r_aCons r_str (r_aCons r_str (r_aCons r_str (r_aCons r_str (r_aCons (r_tup (r_aCons r_str r_aNil)) (r_aCons (r_lst (r_aCons r_str r_aNil)) (r_aCons r_dk0 (r_aCons (r_op op_repS ad_mulS r_str r_int) (r_aCons (r_op op_addA ad_addA (r_op op_repS ad_mulS r_str r_int) r_str) (r_aCons r_str r_aNil))))))))))))) r_aNil)) rfl (hal := (alen_cons (alen_cons alen_nil))))) (r_cons (r_set (i := 3) hN rfl (by first | exact Or.inl rfl | exact Or.inr rfl) (r_call (ok__law_pick T) (hr.mono (by decide)) tk rfl T.m__law_pick T.F__law_pick.kp T.b__law_pick (r_aCons (r_var (pv 0)) (r_aCons (r_lst (r_aCons r_non (r_aCons r_str (r_aCons r_str (r_aCons r_str (r_aCons r_str (r_aCons r_int (r_aCons r_bl (r_aCons (r_tup (r_aCons r_str r_aNil)) (r_aCons (r_lst (r_aCons r_str r_aNil)) (r_aCons r_str r_aNil))))))))))) r_aNil)) rfl (hal := (alen_cons (alen_cons alen_nil))))) (r_cons (r_set (i := 4) hN rfl (by first | exact Or.inl rfl | exact Or.inr rfl) (r_call (ok__law_pick T) (hr.mono (by decide)) tk rfl T.m__law_pick T.F__law_pick.kp T.b__law_pick (r_aCons (r_var (pv 0)) (r_aCons (r_lst (r_aCons (r_tup (r_aCons r_int (r_aCons r_int (r_aCons r_int r_aNil)))) (r_aCons (r_tup (r_aCons r_int (r_aCons r_int (r_aCons r_int r_aNil)))) (r_aCons (r_op op_mulA ad_mulA (r_tup (r_aCons r_int r_aNil)) r_int) (r_aCons (r_tup (r_aCons r_int (r_aCons r_int (r_aCons r_int r_aNil)))) r_aNil))))) r_aNil)) rfl (hal := (alen_cons (alen_cons alen_nil))))) (r_cons (r_par (i := 6) (j := 7) rfl hN rfl rfl (by decide) rfl rfl (r_aCons (r_lstM r_aNil) (r_aCons (r_lstM r_aNil) r_aNil))) (r_cons (r_for po rfl (i_seq (r_tup (r_aCons (r_fn (n := 21) hfa T.m_lowered) (r_aCons (r_fn (n := 25) hfa T.m_word_of) (r_aCons (r_fn (n := 36) hfa T.m_closest_parts) r_aNil))))) (r_gn (i := 5) hN rfl (by first | exact Or.inl rfl | exact Or.inr rfl)) (r_cons (r_expr (r_mtL PySem.F.plainAttrs_list PySem.F.slot_list_append PySem.F.type_list_append mt_append ad_append (r_var (pv 6)) (r_aCons (r_isoX [false, true, false, false, false, true] plainL (r_lam hT0 rfl T.m__law_met T.F__law_met.kp lk__law_met hcg__law_met bd__law_met sc__law_met rfl (Or.inl rfl) (gv__law_met T hgd hr _ _) B.tb__law_right hcode (mT__law_right _) (hu__law_right T) (k := 11) (hr.mono (by decide)) (lamS_by rfl) rfl (fun _ _ _ _ _ => rfl) (fun A outer s H E f c hr tk => (r_callV (i := 5) hfa (hL1 T (hr.mono (by decide))) tk rfl (by first | exact Or.inl rfl | exact Or.inr (Or.inl rfl) | exact Or.inr (Or.inr rfl)) (r_aCons (r_var (pv 1)) r_aNil) (hal := (alen_cons alen_nil)))))) r_aNil))) (r_one (r_expr (r_mtL PySem.F.plainAttrs_list PySem.F.slot_list_append PySem.F.type_list_append mt_append ad_append (r_var (pv 7)) (r_aCons r_str r_aNil)))))) (r_cons (r_for po rfl (i_seq (r_tup (r_aCons (r_fn (n := 27) hfa T.m_row_of_word) (r_aCons (r_fn (n := 29) hfa T.m_heights_of) (r_aCons (r_fn (n := 31) hfa T.m_descents_of) (r_aCons (r_fn (n := 33) hfa T.m_word_size) (r_aCons (r_fn (n := 34) hfa T.m_depth_of) (r_aCons (r_fn (n := 35) hfa T.m_drop_of) r_aNil)))))))) (r_gn (i := 5) hN rfl (by first | exact Or.inl rfl | exact Or.inr rfl)) (r_cons (r_expr (r_mtL PySem.F.plainAttrs_list PySem.F.slot_list_append PySem.F.type_list_append mt_append ad_append (r_var (pv 6)) (r_aCons (r_isoX [false, false, true, false, false, true] plainL (r_lam hT0 rfl T.m__law_met T.F__law_met.kp lk__law_met hcg__law_met bd__law_met sc__law_met rfl (Or.inl rfl) (gv__law_met T hgd hr _ _) B.tb__law_right hcode (mT__law_right _) (hu__law_right T) (k := 11) (hr.mono (by decide)) (lamS_by rfl) rfl (fun _ _ _ _ _ => rfl) (fun A outer s H E f c hr tk => (r_callV (i := 5) hfa (hL1 T (hr.mono (by decide))) tk rfl (by first | exact Or.inl rfl | exact Or.inr (Or.inl rfl) | exact Or.inr (Or.inr rfl)) (r_aCons (r_var (pv 2)) r_aNil) (hal := (alen_cons alen_nil)))))) r_aNil))) (r_one (r_expr (r_mtL PySem.F.plainAttrs_list PySem.F.slot_list_append PySem.F.type_list_append mt_append ad_append (r_var (pv 7)) (r_aCons r_str r_aNil)))))) (r_cons (r_expr (r_mtL PySem.F.plainAttrs_list PySem.F.slot_list_append PySem.F.type_list_append mt_append ad_append (r_var (pv 6)) (r_aCons (r_isoX [false, true, false, true] plainL (r_lam hT0 rfl T.m__law_met T.F__law_met.kp lk__law_met hcg__law_met bd__law_met sc__law_met rfl (Or.inl rfl) (gv__law_met T hgd hr _ _) B.tb__law_right hcode (mT__law_right _) (hu__law_right T) (k := 11) (hr.mono (by decide)) (lamS_by rfl) rfl (fun _ _ _ _ _ => rfl) (fun A outer s H E f c hr tk => (r_call (ok_raised T) (hr.mono (by decide)) tk rfl T.m_raised T.F_raised.kp T.b_raised (r_aCons (r_var (pv 1)) (r_aCons (r_var (pv 3)) r_aNil)) rfl (hal := (alen_cons (alen_cons alen_nil))))))) r_aNil))) (r_cons (r_expr (r_mtL PySem.F.plainAttrs_list PySem.F.slot_list_append PySem.F.type_list_append mt_append ad_append (r_var (pv 6)) (r_aCons (r_isoX [false, false, false, true] plainL (r_lam hT0 rfl T.m__law_met T.F__law_met.kp lk__law_met hcg__law_met bd__law_met sc__law_met rfl (Or.inl rfl) (gv__law_met T hgd hr _ _) B.tb__law_right hcode (mT__law_right _) (hu__law_right T) (k := 11) (hr.mono (by decide)) (lamS_by rfl) rfl (fun _ _ _ _ _ => rfl) (fun A outer s H E f c hr tk => (r_call (ok_raised T) (hr.mono (by decide)) tk rfl T.m_raised T.F_raised.kp T.b_raised (r_aCons (r_tup (r_aCons r_int (r_aCons r_int r_aNil))) (r_aCons (r_var (pv 3)) r_aNil)) rfl (hal := (alen_cons (alen_cons alen_nil))))))) r_aNil))) (r_cons (r_expr (r_mtL PySem.F.plainAttrs_list PySem.F.slot_list_append PySem.F.type_list_append mt_append ad_append (r_var (pv 6)) (r_aCons (r_isoX [false, true] plainL (r_lam hT0 rfl T.m__law_met T.F__law_met.kp lk__law_met hcg__law_met bd__law_met sc__law_met rfl (Or.inl rfl) (gv__law_met T hgd hr _ _) B.tb__law_right hcode (mT__law_right _) (hu__law_right T) (k := 11) (hr.mono (by decide)) (lamS_by rfl) rfl (fun _ _ _ _ _ => rfl) (fun A outer s H E f c hr tk => (r_listG (ok_steps_of T) (hr.mono (by decide)) tk T.nst rfl T.z_list rfl T.m_steps_of T.F_steps_of.kp T.b_steps_of (r_aCons (r_var (pv 1)) r_aNil) rfl (hal := (alen_cons alen_nil)))))) r_aNil))) (r_cons (r_expr (r_mtL PySem.F.plainAttrs_list PySem.F.slot_list_append PySem.F.type_list_append mt_append ad_append (r_var (pv 6)) (r_aCons (r_isoX [] plainL (r_lam hT0 rfl T.m__law_met T.F__law_met.kp lk__law_met hcg__law_met bd__law_met sc__law_met rfl (Or.inl rfl) (gv__law_met T hgd hr _ _) B.tb__law_right hcode (mT__law_right _) (hu__law_right T) (k := 11) (hr.mono (by decide)) (lamS_by rfl) rfl (fun _ _ _ _ _ => rfl) (fun A outer s H E f c hr tk => (r_call (ok_lowered T) (hr.mono (by decide)) tk rfl T.m_lowered T.F_lowered.kp T.b_lowered (r_aCons (r_tup r_aNil) r_aNil) rfl (hal := (alen_cons alen_nil)))))) r_aNil))) (r_cons (r_expr (r_mtL PySem.F.plainAttrs_list PySem.F.slot_list_append PySem.F.type_list_append mt_append ad_append (r_var (pv 6)) (r_aCons (r_isoX [false, false, false, false, true] plainL (r_lam hT0 rfl T.m__law_met T.F__law_met.kp lk__law_met hcg__law_met bd__law_met sc__law_met rfl (Or.inl rfl) (gv__law_met T hgd hr _ _) B.tb__law_right hcode (mT__law_right _) (hu__law_right T) (k := 11) (hr.mono (by decide)) (lamS_by rfl) rfl (fun _ _ _ _ _ => rfl) (fun A outer s H E f c hr tk => (r_call (ok_word_of T) (hr.mono (by decide)) tk rfl T.m_word_of T.F_word_of.kp T.b_word_of (r_aCons (r_var (pv 4)) r_aNil) rfl (hal := (alen_cons alen_nil)))))) r_aNil))) (r_cons (r_expr (r_mtL PySem.F.plainAttrs_list PySem.F.slot_list_append PySem.F.type_list_append mt_append ad_append (r_var (pv 6)) (r_aCons (r_isoX [false, false, false, false, true] plainL (r_lam hT0 rfl T.m__law_met T.F__law_met.kp lk__law_met hcg__law_met bd__law_met sc__law_met rfl (Or.inl rfl) (gv__law_met T hgd hr _ _) B.tb__law_right hcode (mT__law_right _) (hu__law_right T) (k := 11) (hr.mono (by decide)) (lamS_by rfl) rfl (fun _ _ _ _ _ => rfl) (fun A outer s H E f c hr tk => (r_listG (ok_steps_of T) (hr.mono (by decide)) tk T.nst rfl T.z_list rfl T.m_steps_of T.F_steps_of.kp T.b_steps_of (r_aCons (r_var (pv 4)) r_aNil) rfl (hal := (alen_cons alen_nil)))))) r_aNil))) (r_cons (r_expr (r_mtL PySem.F.plainAttrs_list PySem.F.slot_list_append PySem.F.type_list_append mt_append ad_append (r_var (pv 6)) (r_aCons (r_isoX [false, false, false, false, true] plainL (r_lam hT0 rfl T.m__law_met T.F__law_met.kp lk__law_met hcg__law_met bd__law_met sc__law_met rfl (Or.inl rfl) (gv__law_met T hgd hr _ _) B.tb__law_right hcode (mT__law_right _) (hu__law_right T) (k := 11) (hr.mono (by decide)) (lamS_by rfl) rfl (fun _ _ _ _ _ => rfl) (fun A outer s H E f c hr tk => (r_call (ok_closest_parts T) (hr.mono (by decide)) tk rfl T.m_closest_parts T.F_closest_parts.kp T.b_closest_parts (r_aCons (r_var (pv 4)) r_aNil) rfl (hal := (alen_cons alen_nil)))))) r_aNil))) (r_cons (r_expr (r_mtL PySem.F.plainAttrs_list PySem.F.slot_list_append PySem.F.type_list_append mt_append ad_append (r_var (pv 6)) (r_aCons (r_isoX [false, false, false, false, true] plainL (r_lam hT0 rfl T.m__law_met T.F__law_met.kp lk__law_met hcg__law_met bd__law_met sc__law_met rfl (Or.inl rfl) (gv__law_met T hgd hr _ _) B.tb__law_right hcode (mT__law_right _) (hu__law_right T) (k := 11) (hr.mono (by decide)) (lamS_by rfl) rfl (fun _ _ _ _ _ => rfl) (fun A outer s H E f c hr tk => (r_call (ok_lowered T) (hr.mono (by decide)) tk rfl T.m_lowered T.F_lowered.kp T.b_lowered (r_aCons (r_var (pv 4)) r_aNil) rfl (hal := (alen_cons alen_nil)))))) r_aNil))) (r_cons (r_expr (r_mtL PySem.F.plainAttrs_list PySem.F.slot_list_append PySem.F.type_list_append mt_append ad_append (r_var (pv 6)) (r_aCons (r_isoX [false, false, false, false, true] plainL (r_lam hT0 rfl T.m__law_met T.F__law_met.kp lk__law_met hcg__law_met bd__law_met sc__law_met rfl (Or.inl rfl) (gv__law_met T hgd hr _ _) B.tb__law_right hcode (mT__law_right _) (hu__law_right T) (k := 11) (hr.mono (by decide)) (lamS_by rfl) rfl (fun _ _ _ _ _ => rfl) (fun A outer s H E f c hr tk => (r_call (ok_raised T) (hr.mono (by decide)) tk rfl T.m_raised T.F_raised.kp T.b_raised (r_aCons (r_var (pv 4)) (r_aCons r_str r_aNil)) rfl (hal := (alen_cons (alen_cons alen_nil))))))) r_aNil))) (r_cons (r_expr (r_mtL PySem.F.plainAttrs_list PySem.F.slot_list_extend PySem.F.type_list_extend mt_extend ad_extend (r_var (pv 7)) (r_aCons (r_lst (r_aCons r_str (r_aCons r_str (r_aCons r_str (r_aCons r_str (r_aCons r_str (r_aCons r_str (r_aCons r_non (r_aCons r_non (r_aCons r_non r_aNil)))))))))) r_aNil))) (r_one (r_ret (r_cmp (op_eqD hr.units) ad_eq (r_var (pv 6)) (r_lc (own := [("one", 8)]) rfl hN (i_seq (r_var (pv 7))) (blk_by (by rfl)) (by decide) (fun _ _ _ _ _ => (r_gn (i := 8) hN rfl (by first | exact Or.inl rfl | exact Or.inr rfl))) (fun _ _ _ _ _ => r_yes) (fun _ _ _ _ _ => (r_if (r_tcmp (op_isN) ad_isN (r_var (pv 8)) r_non (by rfl)) (r_tup (r_aCons r_str r_aNil)) (r_tup (r_aCons r_str (r_aCons (r_var (pv 8)) r_aNil)))))) (by rfl))))))))))))))))))))))
abbrev s_law : Stmt := (top 44)
def qlaw_0 : En → Cs → R A := (isoX [] (xLam mt__law_met (xAp m_word_of (aCons (xTup (aCons (xC (.int 200)) (aCons (xC (.int 200)) (aCons (xC (.int 1)) aNil)))) aNil))))
def qlaw_1 : En → Cs → R A := (isoX [] (xLam mt__law_met (xListG 4 m_steps_of (aCons (xTup (aCons (xC (.int 200)) (aCons (xC (.int 200)) aNil))) aNil))))
def qlaw_2 : En → Cs → R A := (isoX [] (xLam mt__law_met (xAp m_row_of_word (aCons (xOp gMulS (xC (.str "b")) (xC (.int 400))) aNil))))
def qlaw_3 : En → Cs → R A := (isoX [] (xLam mt__law_met (xAp m_row_of_word (aCons (xOp gAddA (xOp gMulS (xC (.str "a")) (xC (.int 399))) (xC (.str "b"))) aNil))))
def b_law : En → Cs → SR := (sSeq (sFor (.nm 1) (itRange (aCons (xAp kMax (aCons (xC (.int 1)) (aCons (xAp kMin (aCons (xC (.int 4)) (aCons (xAp kLen (aCons (xVar 0) aNil)) aNil))) aNil))) aNil)) (sIf (tNotF (tVal (xAp m__law_right (aCons (xAp m__law_dice (aCons (xVar 0) (aCons (xVar 1) aNil))) aNil)))) (sRet (xC (.bl false))) sNext)) (isoS [] (sSeq (sSet 2 (xLstM (aCons qlaw_0 aNil))) (sSeq (sExp (xMtL mAppend (xVar 2) (aCons qlaw_1 aNil))) (sSeq (sExp (xMtL mAppend (xVar 2) (aCons qlaw_2 aNil))) (sSeq (sExp (xMtL mAppend (xVar 2) (aCons qlaw_3 aNil))) (sRet (xAndV (xOp gEq (xVar 2) (xOp gMulA (xLst (aCons (xTup (aCons (xC (.str "fine")) aNil)) aNil)) (xC (.int 4)))) (xOp gEq (xC (.int 400)) (xC (.int 400)))))))))))
def m_law : List A → Cs → R A := runI 2 b_law
theorem sc_law : FnScope ["script", "spot", "told"] ["script"] (defScope s_law) := sc_by (by decide +kernel)
theorem ok_law (T : Txt K mg ad fd cl fi tc tp) (B : TBs base mg tc tp) : FnG P w K mg base 18 (ad 44) (fd 44) ["script"] (spD K (xcL cl (T0 tp) ad) 1 m_law) := by
  refine fn_gi plainL (N := ["script", "spot", "told"]) T.F_law sc_law fun cdv A outer s H E hcd hco hgd hr tk po _ => ?_
  have hN := sc_law.nd
  have hT0 : ∀ T' fa kp pv, (xcL cl (T0 tp) ad).G T' fa kp pv → T' = T0 tp := fun _ _ _ _ h => h.1
  have hfa := hfaL (cl := cl) (T := T0 tp) (ad := ad)
  have hcode : cdv = .ref (tc 44) := hco.symm.trans T.cd_law
  obtain ⟨oc__law_met, od__law_met, kV__law_met, doc__law_met, pm__law_met, an__law_met, cdv__law_met, ct__law_met, osl__law_met, efd__law_met, lk__law_met, hcg__law_met⟩ := T.F__law_met.ex
  have bd__law_met := T.b__law_met
  rw [efd__law_met] at lk__law_met bd__law_met
  exact (r_cons (r_for po rfl (i_range1 rfl T.z_range (r_aCons (r_callB (call_max2 rfl) ad_max rfl T.z_max boot_max (r_aCons r_int (r_aCons (r_callB (call_min2 rfl) ad_min rfl T.z_min boot_min (r_aCons r_int (r_aCons (r_callB call_lenA ad_len rfl T.z_len boot_len (r_aCons (r_var (pv 0)) r_aNil)) r_aNil))) r_aNil))) r_aNil) (alen_cons alen_nil)) (r_gn (i := 1) hN rfl (by first | exact Or.inl rfl | exact Or.inr rfl)) (r_one (r_ifS (r_tnot (r_tval (r_callG (ok__law_right T B) hgd (hr.mono (by decide)) tk rfl T.m__law_right T.F__law_right.kp T.b__law_right (r_aCons (r_call (ok__law_dice T) (hr.mono (by decide)) tk rfl T.m__law_dice T.F__law_dice.kp T.b__law_dice (r_aCons (r_var (pv 0)) (r_aCons (r_var (pv 1)) r_aNil)) rfl (hal := (alen_cons (alen_cons alen_nil)))) r_aNil) rfl (hal := (alen_cons alen_nil))))) (r_one (r_ret r_bl)) r_nil))) (r_isoS [] plainL (r_cons (r_set (i := 2) hN rfl (by first | exact Or.inl rfl | exact Or.inr rfl) (r_lstM (r_aCons (r_isoX [] plainL (r_lam hT0 rfl T.m__law_met T.F__law_met.kp lk__law_met hcg__law_met bd__law_met sc__law_met rfl (Or.inl rfl) (gv__law_met T hgd hr _ _) B.tb_law hcode (mT_law _) (hu_law T) (k := 15) (hr.mono (by decide)) (lamS_by rfl) rfl (fun _ _ _ _ _ => rfl) (fun A outer s H E f c hr tk => (r_call (ok_word_of T) (hr.mono (by decide)) tk rfl T.m_word_of T.F_word_of.kp T.b_word_of (r_aCons (r_tup (r_aCons r_int (r_aCons r_int (r_aCons r_int r_aNil)))) r_aNil) rfl (hal := (alen_cons alen_nil)))))) r_aNil))) (r_cons (r_expr (r_mtL PySem.F.plainAttrs_list PySem.F.slot_list_append PySem.F.type_list_append mt_append ad_append (r_var (pv 2)) (r_aCons (r_isoX [] plainL (r_lam hT0 rfl T.m__law_met T.F__law_met.kp lk__law_met hcg__law_met bd__law_met sc__law_met rfl (Or.inl rfl) (gv__law_met T hgd hr _ _) B.tb_law hcode (mT_law _) (hu_law T) (k := 15) (hr.mono (by decide)) (lamS_by rfl) rfl (fun _ _ _ _ _ => rfl) (fun A outer s H E f c hr tk => (r_listG (ok_steps_of T) (hr.mono (by decide)) tk T.nst rfl T.z_list rfl T.m_steps_of T.F_steps_of.kp T.b_steps_of (r_aCons (r_tup (r_aCons r_int (r_aCons r_int r_aNil))) r_aNil) rfl (hal := (alen_cons alen_nil)))))) r_aNil))) (r_cons (r_expr (r_mtL PySem.F.plainAttrs_list PySem.F.slot_list_append PySem.F.type_list_append mt_append ad_append (r_var (pv 2)) (r_aCons (r_isoX [] plainL (r_lam hT0 rfl T.m__law_met T.F__law_met.kp lk__law_met hcg__law_met bd__law_met sc__law_met rfl (Or.inl rfl) (gv__law_met T hgd hr _ _) B.tb_law hcode (mT_law _) (hu_law T) (k := 15) (hr.mono (by decide)) (lamS_by rfl) rfl (fun _ _ _ _ _ => rfl) (fun A outer s H E f c hr tk => (r_call (ok_row_of_word T) (hr.mono (by decide)) tk rfl T.m_row_of_word T.F_row_of_word.kp T.b_row_of_word (r_aCons (r_op op_repS ad_mulS r_str r_int) r_aNil) rfl (hal := (alen_cons alen_nil)))))) r_aNil))) (r_cons (r_expr (r_mtL PySem.F.plainAttrs_list PySem.F.slot_list_append PySem.F.type_list_append mt_append ad_append (r_var (pv 2)) (r_aCons (r_isoX [] plainL (r_lam hT0 rfl T.m__law_met T.F__law_met.kp lk__law_met hcg__law_met bd__law_met sc__law_met rfl (Or.inl rfl) (gv__law_met T hgd hr _ _) B.tb_law hcode (mT_law _) (hu_law T) (k := 15) (hr.mono (by decide)) (lamS_by rfl) rfl (fun _ _ _ _ _ => rfl) (fun A outer s H E f c hr tk => (r_call (ok_row_of_word T) (hr.mono (by decide)) tk rfl T.m_row_of_word T.F_row_of_word.kp T.b_row_of_word (r_aCons (r_op op_addA ad_addA (r_op op_repS ad_mulS r_str r_int) r_str) r_aNil) rfl (hal := (alen_cons alen_nil)))))) r_aNil))) (r_one (r_ret (r_and (r_cmp (op_eqD hr.units) ad_eq (r_var (pv 2)) (r_op op_mulA ad_mulA (r_lst (r_aCons (r_tup (r_aCons r_str r_aNil)) r_aNil)) r_int) (by rfl)) (pe_one (r_cmp (op_eqD hr.units) ad_eq (r_gI T.c_MOST_LETTERS) r_int (by rfl))))))))))))
end
section
variable {l : PySem.W.OpenLaw} {q : Program} {w : World} {K : PySem.W.Frag} {h : Heap} {mg : Str → Option Value}
theorem all_mk {fa f8 f18 f20 f22 f24 f30 f32 f39 f40 f42 f9 f19 f26 f28 f41 f14 f27 f29 f31 f33 f34 f35 f13 f15 f21 f23 f25 f36 f37 f43 f44 : Addr} (X : K.In h) (G : h.Ns mainGlobals mg) (hfa : mg "law" = some (.ref fa))
    {od8 an8 : Option Addr} {sl8 : Array (Option Value)} {oc8 kV8 dc8 pm8 cd8 ct8 : Value} {od18 an18 : Option Addr} {sl18 : Array (Option Value)} {oc18 kV18 dc18 pm18 cd18 ct18 : Value} {od20 an20 : Option Addr} {sl20 : Array (Option Value)} {oc20 kV20 dc20 pm20 cd20 ct20 : Value} {od22 an22 : Option Addr} {sl22 : Array (Option Value)} {oc22 kV22 dc22 pm22 cd22 ct22 : Value} {od24 an24 : Option Addr} {sl24 : Array (Option Value)} {oc24 kV24 dc24 pm24 cd24 ct24 : Value} {od30 an30 : Option Addr} {sl30 : Array (Option Value)} {oc30 kV30 dc30 pm30 cd30 ct30 : Value} {od32 an32 : Option Addr} {sl32 : Array (Option Value)} {oc32 kV32 dc32 pm32 cd32 ct32 : Value} {od39 an39 : Option Addr} {sl39 : Array (Option Value)} {oc39 kV39 dc39 pm39 cd39 ct39 : Value} {od40 an40 : Option Addr} {sl40 : Array (Option Value)} {oc40 kV40 dc40 pm40 cd40 ct40 : Value} {od42 an42 : Option Addr} {sl42 : Array (Option Value)} {oc42 kV42 dc42 pm42 cd42 ct42 : Value} {od9 an9 : Option Addr} {sl9 : Array (Option Value)} {oc9 kV9 dc9 pm9 cd9 ct9 : Value} {od19 an19 : Option Addr} {sl19 : Array (Option Value)} {oc19 kV19 dc19 pm19 cd19 ct19 : Value} {od26 an26 : Option Addr} {sl26 : Array (Option Value)} {oc26 kV26 dc26 pm26 cd26 ct26 : Value} {od28 an28 : Option Addr} {sl28 : Array (Option Value)} {oc28 kV28 dc28 pm28 cd28 ct28 : Value} {od41 an41 : Option Addr} {sl41 : Array (Option Value)} {oc41 kV41 dc41 pm41 cd41 ct41 : Value} {od14 an14 : Option Addr} {sl14 : Array (Option Value)} {oc14 kV14 dc14 pm14 cd14 ct14 : Value} {od27 an27 : Option Addr} {sl27 : Array (Option Value)} {oc27 kV27 dc27 pm27 cd27 ct27 : Value} {od29 an29 : Option Addr} {sl29 : Array (Option Value)} {oc29 kV29 dc29 pm29 cd29 ct29 : Value} {od31 an31 : Option Addr} {sl31 : Array (Option Value)} {oc31 kV31 dc31 pm31 cd31 ct31 : Value} {od33 an33 : Option Addr} {sl33 : Array (Option Value)} {oc33 kV33 dc33 pm33 cd33 ct33 : Value} {od34 an34 : Option Addr} {sl34 : Array (Option Value)} {oc34 kV34 dc34 pm34 cd34 ct34 : Value} {od35 an35 : Option Addr} {sl35 : Array (Option Value)} {oc35 kV35 dc35 pm35 cd35 ct35 : Value} {od13 an13 : Option Addr} {sl13 : Array (Option Value)} {oc13 kV13 dc13 pm13 cd13 ct13 : Value} {od15 an15 : Option Addr} {sl15 : Array (Option Value)} {oc15 kV15 dc15 pm15 cd15 ct15 : Value} {od21 an21 : Option Addr} {sl21 : Array (Option Value)} {oc21 kV21 dc21 pm21 cd21 ct21 : Value} {od23 an23 : Option Addr} {sl23 : Array (Option Value)} {oc23 kV23 dc23 pm23 cd23 ct23 : Value} {od25 an25 : Option Addr} {sl25 : Array (Option Value)} {oc25 kV25 dc25 pm25 cd25 ct25 : Value} {od36 an36 : Option Addr} {sl36 : Array (Option Value)} {oc36 kV36 dc36 pm36 cd36 ct36 : Value} {od37 an37 : Option Addr} {sl37 : Array (Option Value)} {oc37 kV37 dc37 pm37 cd37 ct37 : Value} {od43 an43 : Option Addr} {sl43 : Array (Option Value)} {oc43 kV43 dc43 pm43 ct43 : Value} {c43 P43 : Addr} {cc143 : Value} {dd143 : Option Addr} {vs143 : Array Value} {sc143 : Array (Option Value)} {od44 an44 : Option Addr} {sl44 : Array (Option Value)} {oc44 kV44 dc44 pm44 ct44 : Value} {c44 P44 : Addr} {cc144 : Value} {dd144 : Option Addr} {vs144 : Array Value} {sc144 : Array (Option Value)} {C0 : Addr} {C1 : Addr} {C2 : Addr} {C3 : Addr} {nm3 qn3 : Str} {N3 : Addr} {bs3 : List Value} {sn3 : List Str} {su3 : List Value} {ab3 : Bool} {co3 : Option Bool} {dd3 : Option Addr} {m03 m13 m23 m33 m53 : Option Value} {fi3 : Addr} {odi3 ani3 : Option Addr} {sli3 : Array (Option Value)} {oci3 dci3 pmi3 cdi3 cti3 : Value} {t_MAX_PART : Tok} {t_MAX_PARTS : Tok} {t_MOST_INTEGER : Tok} {t_MOST_LETTERS : Tok}
        (a8 : PySem.W.nsIn K mainGlobals "is_integer" = some (some (.ref f8)))
    (l8 : K.lookup f8 = some ⟨oc8, od8, .func (PySem.W.fnOf "is_integer" "is_integer" (defArgs (top 8)) (defBody (top 8)) (defScope (top 8)) .none kV8 dc8 pm8 an8 cd8 ct8), sl8⟩)
    (cc8 : PySem.W.codeIn K cd8 "is_integer" = true)
    (k8 : PySem.W.keepIn K (.ref f8) = true)
    (a18 : PySem.W.nsIn K mainGlobals "is_word" = some (some (.ref f18)))
    (l18 : K.lookup f18 = some ⟨oc18, od18, .func (PySem.W.fnOf "is_word" "is_word" (defArgs (top 18)) (defBody (top 18)) (defScope (top 18)) .none kV18 dc18 pm18 an18 cd18 ct18), sl18⟩)
    (cc18 : PySem.W.codeIn K cd18 "is_word" = true)
    (k18 : PySem.W.keepIn K (.ref f18) = true)
    (a20 : PySem.W.nsIn K mainGlobals "check_letters" = some (some (.ref f20)))
    (l20 : K.lookup f20 = some ⟨oc20, od20, .func (PySem.W.fnOf "check_letters" "check_letters" (defArgs (top 20)) (defBody (top 20)) (defScope (top 20)) .none kV20 dc20 pm20 an20 cd20 ct20), sl20⟩)
    (cc20 : PySem.W.codeIn K cd20 "check_letters" = true)
    (k20 : PySem.W.keepIn K (.ref f20) = true)
    (a22 : PySem.W.nsIn K mainGlobals "row_below" = some (some (.ref f22)))
    (l22 : K.lookup f22 = some ⟨oc22, od22, .func (PySem.W.fnOf "row_below" "row_below" (defArgs (top 22)) (defBody (top 22)) (defScope (top 22)) .none kV22 dc22 pm22 an22 cd22 ct22), sl22⟩)
    (cc22 : PySem.W.codeIn K cd22 "row_below" = true)
    (k22 : PySem.W.keepIn K (.ref f22) = true)
    (a24 : PySem.W.nsIn K mainGlobals "row_above" = some (some (.ref f24)))
    (l24 : K.lookup f24 = some ⟨oc24, od24, .func (PySem.W.fnOf "row_above" "row_above" (defArgs (top 24)) (defBody (top 24)) (defScope (top 24)) .none kV24 dc24 pm24 an24 cd24 ct24), sl24⟩)
    (cc24 : PySem.W.codeIn K cd24 "row_above" = true)
    (k24 : PySem.W.keepIn K (.ref f24) = true)
    (a30 : PySem.W.nsIn K mainGlobals "heights_along" = some (some (.ref f30)))
    (l30 : K.lookup f30 = some ⟨oc30, od30, .func (PySem.W.fnOf "heights_along" "heights_along" (defArgs (top 30)) (defBody (top 30)) (defScope (top 30)) .none kV30 dc30 pm30 an30 cd30 ct30), sl30⟩)
    (cc30 : PySem.W.codeIn K cd30 "heights_along" = true)
    (k30 : PySem.W.keepIn K (.ref f30) = true)
    (a32 : PySem.W.nsIn K mainGlobals "descents_along" = some (some (.ref f32)))
    (l32 : K.lookup f32 = some ⟨oc32, od32, .func (PySem.W.fnOf "descents_along" "descents_along" (defArgs (top 32)) (defBody (top 32)) (defScope (top 32)) .none kV32 dc32 pm32 an32 cd32 ct32), sl32⟩)
    (cc32 : PySem.W.codeIn K cd32 "descents_along" = true)
    (k32 : PySem.W.keepIn K (.ref f32) = true)
    (a39 : PySem.W.nsIn K mainGlobals "_law_dice" = some (some (.ref f39)))
    (l39 : K.lookup f39 = some ⟨oc39, od39, .func (PySem.W.fnOf "_law_dice" "_law_dice" (defArgs (top 39)) (defBody (top 39)) (defScope (top 39)) .none kV39 dc39 pm39 an39 cd39 ct39), sl39⟩)
    (cc39 : PySem.W.codeIn K cd39 "_law_dice" = true)
    (k39 : PySem.W.keepIn K (.ref f39) = true)
    (a40 : PySem.W.nsIn K mainGlobals "_law_roll" = some (some (.ref f40)))
    (l40 : K.lookup f40 = some ⟨oc40, od40, .func (PySem.W.fnOf "_law_roll" "_law_roll" (defArgs (top 40)) (defBody (top 40)) (defScope (top 40)) .none kV40 dc40 pm40 an40 cd40 ct40), sl40⟩)
    (cc40 : PySem.W.codeIn K cd40 "_law_roll" = true)
    (k40 : PySem.W.keepIn K (.ref f40) = true)
    (a42 : PySem.W.nsIn K mainGlobals "_law_met" = some (some (.ref f42)))
    (l42 : K.lookup f42 = some ⟨oc42, od42, .func (PySem.W.fnOf "_law_met" "_law_met" (defArgs (top 42)) (defBody (top 42)) (defScope (top 42)) .none kV42 dc42 pm42 an42 cd42 ct42), sl42⟩)
    (cc42 : PySem.W.codeIn K cd42 "_law_met" = true)
    (k42 : PySem.W.keepIn K (.ref f42) = true)
    (a9 : PySem.W.nsIn K mainGlobals "is_between" = some (some (.ref f9)))
    (l9 : K.lookup f9 = some ⟨oc9, od9, .func (PySem.W.fnOf "is_between" "is_between" (defArgs (top 9)) (defBody (top 9)) (defScope (top 9)) .none kV9 dc9 pm9 an9 cd9 ct9), sl9⟩)
    (cc9 : PySem.W.codeIn K cd9 "is_between" = true)
    (k9 : PySem.W.keepIn K (.ref f9) = true)
    (a19 : PySem.W.nsIn K mainGlobals "check_word" = some (some (.ref f19)))
    (l19 : K.lookup f19 = some ⟨oc19, od19, .func (PySem.W.fnOf "check_word" "check_word" (defArgs (top 19)) (defBody (top 19)) (defScope (top 19)) .none kV19 dc19 pm19 an19 cd19 ct19), sl19⟩)
    (cc19 : PySem.W.codeIn K cd19 "check_word" = true)
    (k19 : PySem.W.keepIn K (.ref f19) = true)
    (a26 : PySem.W.nsIn K mainGlobals "letters_of" = some (some (.ref f26)))
    (l26 : K.lookup f26 = some ⟨oc26, od26, .func (PySem.W.fnOf "letters_of" "letters_of" (defArgs (top 26)) (defBody (top 26)) (defScope (top 26)) .none kV26 dc26 pm26 an26 cd26 ct26), sl26⟩)
    (cc26 : PySem.W.codeIn K cd26 "letters_of" = true)
    (k26 : PySem.W.keepIn K (.ref f26) = true)
    (a28 : PySem.W.nsIn K mainGlobals "row_with_word" = some (some (.ref f28)))
    (l28 : K.lookup f28 = some ⟨oc28, od28, .func (PySem.W.fnOf "row_with_word" "row_with_word" (defArgs (top 28)) (defBody (top 28)) (defScope (top 28)) .none kV28 dc28 pm28 an28 cd28 ct28), sl28⟩)
    (cc28 : PySem.W.codeIn K cd28 "row_with_word" = true)
    (k28 : PySem.W.keepIn K (.ref f28) = true)
    (a41 : PySem.W.nsIn K mainGlobals "_law_pick" = some (some (.ref f41)))
    (l41 : K.lookup f41 = some ⟨oc41, od41, .func (PySem.W.fnOf "_law_pick" "_law_pick" (defArgs (top 41)) (defBody (top 41)) (defScope (top 41)) .none kV41 dc41 pm41 an41 cd41 ct41), sl41⟩)
    (cc41 : PySem.W.codeIn K cd41 "_law_pick" = true)
    (k41 : PySem.W.keepIn K (.ref f41) = true)
    (a14 : PySem.W.nsIn K mainGlobals "is_falling" = some (some (.ref f14)))
    (l14 : K.lookup f14 = some ⟨oc14, od14, .func (PySem.W.fnOf "is_falling" "is_falling" (defArgs (top 14)) (defBody (top 14)) (defScope (top 14)) .none kV14 dc14 pm14 an14 cd14 ct14), sl14⟩)
    (cc14 : PySem.W.codeIn K cd14 "is_falling" = true)
    (k14 : PySem.W.keepIn K (.ref f14) = true)
    (a27 : PySem.W.nsIn K mainGlobals "row_of_word" = some (some (.ref f27)))
    (l27 : K.lookup f27 = some ⟨oc27, od27, .func (PySem.W.fnOf "row_of_word" "row_of_word" (defArgs (top 27)) (defBody (top 27)) (defScope (top 27)) .none kV27 dc27 pm27 an27 cd27 ct27), sl27⟩)
    (cc27 : PySem.W.codeIn K cd27 "row_of_word" = true)
    (k27 : PySem.W.keepIn K (.ref f27) = true)
    (a29 : PySem.W.nsIn K mainGlobals "heights_of" = some (some (.ref f29)))
    (l29 : K.lookup f29 = some ⟨oc29, od29, .func (PySem.W.fnOf "heights_of" "heights_of" (defArgs (top 29)) (defBody (top 29)) (defScope (top 29)) .none kV29 dc29 pm29 an29 cd29 ct29), sl29⟩)
    (cc29 : PySem.W.codeIn K cd29 "heights_of" = true)
    (k29 : PySem.W.keepIn K (.ref f29) = true)
    (a31 : PySem.W.nsIn K mainGlobals "descents_of" = some (some (.ref f31)))
    (l31 : K.lookup f31 = some ⟨oc31, od31, .func (PySem.W.fnOf "descents_of" "descents_of" (defArgs (top 31)) (defBody (top 31)) (defScope (top 31)) .none kV31 dc31 pm31 an31 cd31 ct31), sl31⟩)
    (cc31 : PySem.W.codeIn K cd31 "descents_of" = true)
    (k31 : PySem.W.keepIn K (.ref f31) = true)
    (a33 : PySem.W.nsIn K mainGlobals "word_size" = some (some (.ref f33)))
    (l33 : K.lookup f33 = some ⟨oc33, od33, .func (PySem.W.fnOf "word_size" "word_size" (defArgs (top 33)) (defBody (top 33)) (defScope (top 33)) .none kV33 dc33 pm33 an33 cd33 ct33), sl33⟩)
    (cc33 : PySem.W.codeIn K cd33 "word_size" = true)
    (k33 : PySem.W.keepIn K (.ref f33) = true)
    (a34 : PySem.W.nsIn K mainGlobals "depth_of" = some (some (.ref f34)))
    (l34 : K.lookup f34 = some ⟨oc34, od34, .func (PySem.W.fnOf "depth_of" "depth_of" (defArgs (top 34)) (defBody (top 34)) (defScope (top 34)) .none kV34 dc34 pm34 an34 cd34 ct34), sl34⟩)
    (cc34 : PySem.W.codeIn K cd34 "depth_of" = true)
    (k34 : PySem.W.keepIn K (.ref f34) = true)
    (a35 : PySem.W.nsIn K mainGlobals "drop_of" = some (some (.ref f35)))
    (l35 : K.lookup f35 = some ⟨oc35, od35, .func (PySem.W.fnOf "drop_of" "drop_of" (defArgs (top 35)) (defBody (top 35)) (defScope (top 35)) .none kV35 dc35 pm35 an35 cd35 ct35), sl35⟩)
    (cc35 : PySem.W.codeIn K cd35 "drop_of" = true)
    (k35 : PySem.W.keepIn K (.ref f35) = true)
    (a13 : PySem.W.nsIn K mainGlobals "is_row" = some (some (.ref f13)))
    (l13 : K.lookup f13 = some ⟨oc13, od13, .func (PySem.W.fnOf "is_row" "is_row" (defArgs (top 13)) (defBody (top 13)) (defScope (top 13)) .none kV13 dc13 pm13 an13 cd13 ct13), sl13⟩)
    (cc13 : PySem.W.codeIn K cd13 "is_row" = true)
    (k13 : PySem.W.keepIn K (.ref f13) = true)
    (a15 : PySem.W.nsIn K mainGlobals "check_row" = some (some (.ref f15)))
    (l15 : K.lookup f15 = some ⟨oc15, od15, .func (PySem.W.fnOf "check_row" "check_row" (defArgs (top 15)) (defBody (top 15)) (defScope (top 15)) .none kV15 dc15 pm15 an15 cd15 ct15), sl15⟩)
    (cc15 : PySem.W.codeIn K cd15 "check_row" = true)
    (k15 : PySem.W.keepIn K (.ref f15) = true)
    (a21 : PySem.W.nsIn K mainGlobals "lowered" = some (some (.ref f21)))
    (l21 : K.lookup f21 = some ⟨oc21, od21, .func (PySem.W.fnOf "lowered" "lowered" (defArgs (top 21)) (defBody (top 21)) (defScope (top 21)) .none kV21 dc21 pm21 an21 cd21 ct21), sl21⟩)
    (cc21 : PySem.W.codeIn K cd21 "lowered" = true)
    (k21 : PySem.W.keepIn K (.ref f21) = true)
    (a23 : PySem.W.nsIn K mainGlobals "raised" = some (some (.ref f23)))
    (l23 : K.lookup f23 = some ⟨oc23, od23, .func (PySem.W.fnOf "raised" "raised" (defArgs (top 23)) (defBody (top 23)) (defScope (top 23)) .none kV23 dc23 pm23 an23 cd23 ct23), sl23⟩)
    (cc23 : PySem.W.codeIn K cd23 "raised" = true)
    (k23 : PySem.W.keepIn K (.ref f23) = true)
    (a25 : PySem.W.nsIn K mainGlobals "word_of" = some (some (.ref f25)))
    (l25 : K.lookup f25 = some ⟨oc25, od25, .func (PySem.W.fnOf "word_of" "word_of" (defArgs (top 25)) (defBody (top 25)) (defScope (top 25)) .none kV25 dc25 pm25 an25 cd25 ct25), sl25⟩)
    (cc25 : PySem.W.codeIn K cd25 "word_of" = true)
    (k25 : PySem.W.keepIn K (.ref f25) = true)
    (a36 : PySem.W.nsIn K mainGlobals "closest_parts" = some (some (.ref f36)))
    (l36 : K.lookup f36 = some ⟨oc36, od36, .func (PySem.W.fnOf "closest_parts" "closest_parts" (defArgs (top 36)) (defBody (top 36)) (defScope (top 36)) .none kV36 dc36 pm36 an36 cd36 ct36), sl36⟩)
    (cc36 : PySem.W.codeIn K cd36 "closest_parts" = true)
    (k36 : PySem.W.keepIn K (.ref f36) = true)
    (a37 : PySem.W.nsIn K mainGlobals "steps_of" = some (some (.ref f37)))
    (l37 : K.lookup f37 = some ⟨oc37, od37, .func (PySem.W.fnOf "steps_of" "steps_of" (defArgs (top 37)) (defBody (top 37)) (defScope (top 37)) .none kV37 dc37 pm37 an37 cd37 ct37), sl37⟩)
    (cc37 : PySem.W.codeIn K cd37 "steps_of" = true)
    (k37 : PySem.W.keepIn K (.ref f37) = true)
    (a43 : PySem.W.nsIn K mainGlobals "_law_right" = some (some (.ref f43)))
    (l43 : K.lookup f43 = some ⟨oc43, od43, .func (PySem.W.fnOf "_law_right" "_law_right" (defArgs (top 43)) (defBody (top 43)) (defScope (top 43)) .none kV43 dc43 pm43 an43 (.ref c43) ct43), sl43⟩)
    (cc43 : PySem.W.codeIn K (.ref c43) "_law_right" = true)
    (k43 : PySem.W.keepIn K (.ref f43) = true)
    (co43 : K.lookup c43 = some ⟨cc143, dd143, .fields vs143, sc143⟩)
    (v1143 : (vs143[11]? : Option Value) = some (.ref P43))
    (nt43 : K.lookup P43 = none)
    (rc43 : ((recsOf q).any fun e => e.name == "_law_right") = true)
    (a44 : PySem.W.nsIn K mainGlobals "law" = some (some (.ref f44)))
    (l44 : K.lookup f44 = some ⟨oc44, od44, .func (PySem.W.fnOf "law" "law" (defArgs (top 44)) (defBody (top 44)) (defScope (top 44)) .none kV44 dc44 pm44 an44 (.ref c44) ct44), sl44⟩)
    (cc44 : PySem.W.codeIn K (.ref c44) "law" = true)
    (k44 : PySem.W.keepIn K (.ref f44) = true)
    (co44 : K.lookup c44 = some ⟨cc144, dd144, .fields vs144, sc144⟩)
    (v1144 : (vs144[11]? : Option Value) = some (.ref P44))
    (nt44 : K.lookup P44 = none)
    (rc44 : ((recsOf q).any fun e => e.name == "law") = true)
    (ne44_43 : P44 ≠ P43)
    (aC0 : PySem.W.nsIn K mainGlobals "InvalidRow" = some (some (.ref C0)))
    (kC0 : PySem.W.keepIn K (.ref C0) = true)
    (eC0 : PySem.W.subIn K (.ref C0) (.type "BaseException") = some true)
    (tC0 : PySem.W.typeIn K (.ref C0) = some (.type "type"))
    (iC0 : PySem.W.isClsIn K C0 = true)
    (xC0 : PySem.W.excIn K C0 [.type "ValueError", .type "Exception", .type "BaseException", .type "object"] "ValueError.__new__" = true)
    (aC1 : PySem.W.nsIn K mainGlobals "InvalidWord" = some (some (.ref C1)))
    (kC1 : PySem.W.keepIn K (.ref C1) = true)
    (eC1 : PySem.W.subIn K (.ref C1) (.type "BaseException") = some true)
    (tC1 : PySem.W.typeIn K (.ref C1) = some (.type "type"))
    (iC1 : PySem.W.isClsIn K C1 = true)
    (xC1 : PySem.W.excIn K C1 [.type "ValueError", .type "Exception", .type "BaseException", .type "object"] "ValueError.__new__" = true)
    (aC2 : PySem.W.nsIn K mainGlobals "InvalidOperation" = some (some (.ref C2)))
    (kC2 : PySem.W.keepIn K (.ref C2) = true)
    (eC2 : PySem.W.subIn K (.ref C2) (.type "BaseException") = some true)
    (tC2 : PySem.W.typeIn K (.ref C2) = some (.type "type"))
    (iC2 : PySem.W.isClsIn K C2 = true)
    (xC2 : PySem.W.excIn K C2 [.type "ValueError", .type "Exception", .type "BaseException", .type "object"] "ValueError.__new__" = true)
    (aC3 : PySem.W.nsIn K mainGlobals "TooMany" = some (some (.ref C3)))
    (kC3 : PySem.W.keepIn K (.ref C3) = true)
    (eC3 : PySem.W.subIn K (.ref C3) (.type "BaseException") = some true)
    (tC3 : PySem.W.typeIn K (.ref C3) = some (.type "type"))
    (iC3 : PySem.W.isClsIn K C3 = true)
    (xL3 : K.lookup C3 = some (excClassObj nm3 qn3 C3 N3 bs3 [.type "OverflowError", .type "ArithmeticError", .type "Exception", .type "BaseException", .type "object"] true sn3 su3 ab3 co3 dd3 m03 m13 m23 m33 m53 "OverflowError.__new__"))
    (sa3 : PySem.W.findIn K (.ref C3) "__setattr__" = some (some (.builtin "object.__setattr__")))
    (ga3 : PySem.W.findIn K (.ref C3) "__getattribute__" = some (some (.builtin "BaseException.__getattribute__")))
    (gg3 : PySem.W.findIn K (.ref C3) "__getattr__" = some none)
    (nb3 : PySem.W.findIn K (.ref C3) "limit" = some none)
    (ai3 : PySem.W.findIn K (.ref C3) "__init__" = some (some (.ref fi3)))
    (ti3 : PySem.W.typeIn K (.ref fi3) = some (.type "function"))
    (li3 : K.lookup fi3 = some ⟨oci3, odi3, .func (PySem.W.fnOf "__init__" "TooMany.__init__" (PySem.ErX.iA "limit" ⟨12, 17, 12, 21⟩ ⟨12, 23, 12, 28⟩) (PySem.ErX.iB "limit" ⟨13, 8, 13, 12⟩ ⟨13, 8, 13, 18⟩ ⟨13, 21, 13, 26⟩ ⟨13, 8, 13, 26⟩) (PySem.ErX.iS "limit") .none .none dci3 pmi3 ani3 cdi3 cti3), sli3⟩)
    (ci3 : PySem.W.codeIn K cdi3 "TooMany.__init__" = true)
    (hC3 : PySem.W.hasDictIn K C3 = true)
    (st0 : PySem.W.subIn K (.ref C0) (.type "StopIteration") = some false)
    (st1 : PySem.W.subIn K (.ref C1) (.type "StopIteration") = some false)
    (st2 : PySem.W.subIn K (.ref C2) (.type "StopIteration") = some false)
    (st3 : PySem.W.subIn K (.ref C3) (.type "StopIteration") = some false)
    (s0_0 : PySem.W.subIn K (.ref C0) (.ref C0) = some true)
    (s0_1 : PySem.W.subIn K (.ref C0) (.ref C1) = some false)
    (s0_2 : PySem.W.subIn K (.ref C0) (.ref C2) = some false)
    (s0_3 : PySem.W.subIn K (.ref C0) (.ref C3) = some false)
    (s1_0 : PySem.W.subIn K (.ref C1) (.ref C0) = some false)
    (s1_1 : PySem.W.subIn K (.ref C1) (.ref C1) = some true)
    (s1_2 : PySem.W.subIn K (.ref C1) (.ref C2) = some false)
    (s1_3 : PySem.W.subIn K (.ref C1) (.ref C3) = some false)
    (s2_0 : PySem.W.subIn K (.ref C2) (.ref C0) = some false)
    (s2_1 : PySem.W.subIn K (.ref C2) (.ref C1) = some false)
    (s2_2 : PySem.W.subIn K (.ref C2) (.ref C2) = some true)
    (s2_3 : PySem.W.subIn K (.ref C2) (.ref C3) = some false)
    (s3_0 : PySem.W.subIn K (.ref C3) (.ref C0) = some false)
    (s3_1 : PySem.W.subIn K (.ref C3) (.ref C1) = some false)
    (s3_2 : PySem.W.subIn K (.ref C3) (.ref C2) = some false)
    (s3_3 : PySem.W.subIn K (.ref C3) (.ref C3) = some true)
    (z_abs : PySem.W.nsIn K mainGlobals "abs" = some none)
    (z_all : PySem.W.nsIn K mainGlobals "all" = some none)
    (z_bool : PySem.W.nsIn K mainGlobals "bool" = some none)
    (z_enumerate : PySem.W.nsIn K mainGlobals "enumerate" = some none)
    (z_int : PySem.W.nsIn K mainGlobals "int" = some none)
    (z_isinstance : PySem.W.nsIn K mainGlobals "isinstance" = some none)
    (z_len : PySem.W.nsIn K mainGlobals "len" = some none)
    (z_list : PySem.W.nsIn K mainGlobals "list" = some none)
    (z_max : PySem.W.nsIn K mainGlobals "max" = some none)
    (z_min : PySem.W.nsIn K mainGlobals "min" = some none)
    (z_range : PySem.W.nsIn K mainGlobals "range" = some none)
    (z_repr : PySem.W.nsIn K mainGlobals "repr" = some none)
    (z_str : PySem.W.nsIn K mainGlobals "str" = some none)
    (z_sum : PySem.W.nsIn K mainGlobals "sum" = some none)
    (z_tuple : PySem.W.nsIn K mainGlobals "tuple" = some none)
    (z_zip : PySem.W.nsIn K mainGlobals "zip" = some none)
    (g_MAX_PART : PySem.W.nsIn K mainGlobals "MAX_PART" = some (some (.int 200 t_MAX_PART)))
    (g_MAX_PARTS : PySem.W.nsIn K mainGlobals "MAX_PARTS" = some (some (.int 60 t_MAX_PARTS)))
    (g_MOST_INTEGER : PySem.W.nsIn K mainGlobals "MOST_INTEGER" = some (some (.int 999999999999999999999999999999999999999999999999999999999999 t_MOST_INTEGER)))
    (g_MOST_LETTERS : PySem.W.nsIn K mainGlobals "MOST_LETTERS" = some (some (.int 400 t_MOST_LETTERS)))
    (law : ∀ ns : List Int, ns.length ≤ 63 → (∀ z ∈ ns, Builtin.Int.intBits z ≤ 1048576) → m_law [.kl (ns.map A.int)] [] = .ok (.bl true) []) : LawG l q w K 18 63 mg fa := by
  have e := hfa.symm.trans (PySem.W.mg_of X G a44)
  cases e
  have T : Txt K mg (fun i => match i with | 8 => f8 | 18 => f18 | 20 => f20 | 22 => f22 | 24 => f24 | 30 => f30 | 32 => f32 | 39 => f39 | 40 => f40 | 42 => f42 | 9 => f9 | 19 => f19 | 26 => f26 | 28 => f28 | 41 => f41 | 14 => f14 | 27 => f27 | 29 => f29 | 31 => f31 | 33 => f33 | 34 => f34 | 35 => f35 | 13 => f13 | 15 => f15 | 21 => f21 | 23 => f23 | 25 => f25 | 36 => f36 | 37 => f37 | 43 => f43 | 44 => fa | _ => 0) (fun i => match i with | 8 => PySem.W.fnOf "is_integer" "is_integer" (defArgs (top 8)) (defBody (top 8)) (defScope (top 8)) .none kV8 dc8 pm8 an8 cd8 ct8 | 18 => PySem.W.fnOf "is_word" "is_word" (defArgs (top 18)) (defBody (top 18)) (defScope (top 18)) .none kV18 dc18 pm18 an18 cd18 ct18 | 20 => PySem.W.fnOf "check_letters" "check_letters" (defArgs (top 20)) (defBody (top 20)) (defScope (top 20)) .none kV20 dc20 pm20 an20 cd20 ct20 | 22 => PySem.W.fnOf "row_below" "row_below" (defArgs (top 22)) (defBody (top 22)) (defScope (top 22)) .none kV22 dc22 pm22 an22 cd22 ct22 | 24 => PySem.W.fnOf "row_above" "row_above" (defArgs (top 24)) (defBody (top 24)) (defScope (top 24)) .none kV24 dc24 pm24 an24 cd24 ct24 | 30 => PySem.W.fnOf "heights_along" "heights_along" (defArgs (top 30)) (defBody (top 30)) (defScope (top 30)) .none kV30 dc30 pm30 an30 cd30 ct30 | 32 => PySem.W.fnOf "descents_along" "descents_along" (defArgs (top 32)) (defBody (top 32)) (defScope (top 32)) .none kV32 dc32 pm32 an32 cd32 ct32 | 39 => PySem.W.fnOf "_law_dice" "_law_dice" (defArgs (top 39)) (defBody (top 39)) (defScope (top 39)) .none kV39 dc39 pm39 an39 cd39 ct39 | 40 => PySem.W.fnOf "_law_roll" "_law_roll" (defArgs (top 40)) (defBody (top 40)) (defScope (top 40)) .none kV40 dc40 pm40 an40 cd40 ct40 | 42 => PySem.W.fnOf "_law_met" "_law_met" (defArgs (top 42)) (defBody (top 42)) (defScope (top 42)) .none kV42 dc42 pm42 an42 cd42 ct42 | 9 => PySem.W.fnOf "is_between" "is_between" (defArgs (top 9)) (defBody (top 9)) (defScope (top 9)) .none kV9 dc9 pm9 an9 cd9 ct9 | 19 => PySem.W.fnOf "check_word" "check_word" (defArgs (top 19)) (defBody (top 19)) (defScope (top 19)) .none kV19 dc19 pm19 an19 cd19 ct19 | 26 => PySem.W.fnOf "letters_of" "letters_of" (defArgs (top 26)) (defBody (top 26)) (defScope (top 26)) .none kV26 dc26 pm26 an26 cd26 ct26 | 28 => PySem.W.fnOf "row_with_word" "row_with_word" (defArgs (top 28)) (defBody (top 28)) (defScope (top 28)) .none kV28 dc28 pm28 an28 cd28 ct28 | 41 => PySem.W.fnOf "_law_pick" "_law_pick" (defArgs (top 41)) (defBody (top 41)) (defScope (top 41)) .none kV41 dc41 pm41 an41 cd41 ct41 | 14 => PySem.W.fnOf "is_falling" "is_falling" (defArgs (top 14)) (defBody (top 14)) (defScope (top 14)) .none kV14 dc14 pm14 an14 cd14 ct14 | 27 => PySem.W.fnOf "row_of_word" "row_of_word" (defArgs (top 27)) (defBody (top 27)) (defScope (top 27)) .none kV27 dc27 pm27 an27 cd27 ct27 | 29 => PySem.W.fnOf "heights_of" "heights_of" (defArgs (top 29)) (defBody (top 29)) (defScope (top 29)) .none kV29 dc29 pm29 an29 cd29 ct29 | 31 => PySem.W.fnOf "descents_of" "descents_of" (defArgs (top 31)) (defBody (top 31)) (defScope (top 31)) .none kV31 dc31 pm31 an31 cd31 ct31 | 33 => PySem.W.fnOf "word_size" "word_size" (defArgs (top 33)) (defBody (top 33)) (defScope (top 33)) .none kV33 dc33 pm33 an33 cd33 ct33 | 34 => PySem.W.fnOf "depth_of" "depth_of" (defArgs (top 34)) (defBody (top 34)) (defScope (top 34)) .none kV34 dc34 pm34 an34 cd34 ct34 | 35 => PySem.W.fnOf "drop_of" "drop_of" (defArgs (top 35)) (defBody (top 35)) (defScope (top 35)) .none kV35 dc35 pm35 an35 cd35 ct35 | 13 => PySem.W.fnOf "is_row" "is_row" (defArgs (top 13)) (defBody (top 13)) (defScope (top 13)) .none kV13 dc13 pm13 an13 cd13 ct13 | 15 => PySem.W.fnOf "check_row" "check_row" (defArgs (top 15)) (defBody (top 15)) (defScope (top 15)) .none kV15 dc15 pm15 an15 cd15 ct15 | 21 => PySem.W.fnOf "lowered" "lowered" (defArgs (top 21)) (defBody (top 21)) (defScope (top 21)) .none kV21 dc21 pm21 an21 cd21 ct21 | 23 => PySem.W.fnOf "raised" "raised" (defArgs (top 23)) (defBody (top 23)) (defScope (top 23)) .none kV23 dc23 pm23 an23 cd23 ct23 | 25 => PySem.W.fnOf "word_of" "word_of" (defArgs (top 25)) (defBody (top 25)) (defScope (top 25)) .none kV25 dc25 pm25 an25 cd25 ct25 | 36 => PySem.W.fnOf "closest_parts" "closest_parts" (defArgs (top 36)) (defBody (top 36)) (defScope (top 36)) .none kV36 dc36 pm36 an36 cd36 ct36 | 37 => PySem.W.fnOf "steps_of" "steps_of" (defArgs (top 37)) (defBody (top 37)) (defScope (top 37)) .none kV37 dc37 pm37 an37 cd37 ct37 | 43 => PySem.W.fnOf "_law_right" "_law_right" (defArgs (top 43)) (defBody (top 43)) (defScope (top 43)) .none kV43 dc43 pm43 an43 (.ref c43) ct43 | 44 => PySem.W.fnOf "law" "law" (defArgs (top 44)) (defBody (top 44)) (defScope (top 44)) .none kV44 dc44 pm44 an44 (.ref c44) ct44 | _ => PySem.W.fnOf "law" "law" (defArgs (top 44)) (defBody (top 44)) (defScope (top 44)) .none kV44 dc44 pm44 an44 (.ref c44) ct44) (fun i => match i with | 0 => C0 | 1 => C1 | 2 => C2 | 3 => C3 | _ => 0) (fun i => match i with | 3 => fi3 | _ => 0) (fun i => match i with | 43 => c43 | 44 => c44 | _ => 0) (fun i => match i with | 43 => P43 | 44 => P44 | _ => 0) := {
    F_is_integer := fun_mk (st := (top 8)) l8 cc8 k8
    m_is_integer := PySem.W.mg_of X G a8
    b_is_integer := (fun_mk (st := (top 8)) l8 cc8 k8).binds (ps := ["value"]) fun _ _ _ _ _ _ us hl => match us, hl with | [_], _ => rfl
    F_is_word := fun_mk (st := (top 18)) l18 cc18 k18
    m_is_word := PySem.W.mg_of X G a18
    b_is_word := (fun_mk (st := (top 18)) l18 cc18 k18).binds (ps := ["value"]) fun _ _ _ _ _ _ us hl => match us, hl with | [_], _ => rfl
    F_check_letters := fun_mk (st := (top 20)) l20 cc20 k20
    m_check_letters := PySem.W.mg_of X G a20
    b_check_letters := (fun_mk (st := (top 20)) l20 cc20 k20).binds (ps := ["many"]) fun _ _ _ _ _ _ us hl => match us, hl with | [_], _ => rfl
    F_row_below := fun_mk (st := (top 22)) l22 cc22 k22
    m_row_below := PySem.W.mg_of X G a22
    b_row_below := (fun_mk (st := (top 22)) l22 cc22 k22).binds (ps := ["row"]) fun _ _ _ _ _ _ us hl => match us, hl with | [_], _ => rfl
    F_row_above := fun_mk (st := (top 24)) l24 cc24 k24
    m_row_above := PySem.W.mg_of X G a24
    b_row_above := (fun_mk (st := (top 24)) l24 cc24 k24).binds (ps := ["row", "letter"]) fun _ _ _ _ _ _ us hl => match us, hl with | [_, _], _ => rfl
    F_heights_along := fun_mk (st := (top 30)) l30 cc30 k30
    m_heights_along := PySem.W.mg_of X G a30
    b_heights_along := (fun_mk (st := (top 30)) l30 cc30 k30).binds (ps := ["word"]) fun _ _ _ _ _ _ us hl => match us, hl with | [_], _ => rfl
    F_descents_along := fun_mk (st := (top 32)) l32 cc32 k32
    m_descents_along := PySem.W.mg_of X G a32
    b_descents_along := (fun_mk (st := (top 32)) l32 cc32 k32).binds (ps := ["word"]) fun _ _ _ _ _ _ us hl => match us, hl with | [_], _ => rfl
    F__law_dice := fun_mk (st := (top 39)) l39 cc39 k39
    m__law_dice := PySem.W.mg_of X G a39
    b__law_dice := (fun_mk (st := (top 39)) l39 cc39 k39).binds (ps := ["script", "spot"]) fun _ _ _ _ _ _ us hl => match us, hl with | [_, _], _ => rfl
    F__law_roll := fun_mk (st := (top 40)) l40 cc40 k40
    m__law_roll := PySem.W.mg_of X G a40
    b__law_roll := (fun_mk (st := (top 40)) l40 cc40 k40).binds (ps := ["dice", "most"]) fun _ _ _ _ _ _ us hl => match us, hl with | [_, _], _ => rfl
    F__law_met := fun_mk (st := (top 42)) l42 cc42 k42
    m__law_met := PySem.W.mg_of X G a42
    b__law_met := (fun_mk (st := (top 42)) l42 cc42 k42).binds (ps := ["call"]) fun _ _ _ _ _ _ us hl => match us, hl with | [_], _ => rfl
    F_is_between := fun_mk (st := (top 9)) l9 cc9 k9
    m_is_between := PySem.W.mg_of X G a9
    b_is_between := (fun_mk (st := (top 9)) l9 cc9 k9).binds (ps := ["value", "least", "most"]) fun _ _ _ _ _ _ us hl => match us, hl with | [_, _, _], _ => rfl
    F_check_word := fun_mk (st := (top 19)) l19 cc19 k19
    m_check_word := PySem.W.mg_of X G a19
    b_check_word := (fun_mk (st := (top 19)) l19 cc19 k19).binds (ps := ["word"]) fun _ _ _ _ _ _ us hl => match us, hl with | [_], _ => rfl
    F_letters_of := fun_mk (st := (top 26)) l26 cc26 k26
    m_letters_of := PySem.W.mg_of X G a26
    b_letters_of := (fun_mk (st := (top 26)) l26 cc26 k26).binds (ps := ["row"]) fun _ _ _ _ _ _ us hl => match us, hl with | [_], _ => rfl
    F_row_with_word := fun_mk (st := (top 28)) l28 cc28 k28
    m_row_with_word := PySem.W.mg_of X G a28
    b_row_with_word := (fun_mk (st := (top 28)) l28 cc28 k28).binds (ps := ["word"]) fun _ _ _ _ _ _ us hl => match us, hl with | [_], _ => rfl
    F__law_pick := fun_mk (st := (top 41)) l41 cc41 k41
    m__law_pick := PySem.W.mg_of X G a41
    b__law_pick := (fun_mk (st := (top 41)) l41 cc41 k41).binds (ps := ["dice", "items"]) fun _ _ _ _ _ _ us hl => match us, hl with | [_, _], _ => rfl
    F_is_falling := fun_mk (st := (top 14)) l14 cc14 k14
    m_is_falling := PySem.W.mg_of X G a14
    b_is_falling := (fun_mk (st := (top 14)) l14 cc14 k14).binds (ps := ["numbers", "least", "most"]) fun _ _ _ _ _ _ us hl => match us, hl with | [_, _, _], _ => rfl
    F_row_of_word := fun_mk (st := (top 27)) l27 cc27 k27
    m_row_of_word := PySem.W.mg_of X G a27
    b_row_of_word := (fun_mk (st := (top 27)) l27 cc27 k27).binds (ps := ["word"]) fun _ _ _ _ _ _ us hl => match us, hl with | [_], _ => rfl
    F_heights_of := fun_mk (st := (top 29)) l29 cc29 k29
    m_heights_of := PySem.W.mg_of X G a29
    b_heights_of := (fun_mk (st := (top 29)) l29 cc29 k29).binds (ps := ["word"]) fun _ _ _ _ _ _ us hl => match us, hl with | [_], _ => rfl
    F_descents_of := fun_mk (st := (top 31)) l31 cc31 k31
    m_descents_of := PySem.W.mg_of X G a31
    b_descents_of := (fun_mk (st := (top 31)) l31 cc31 k31).binds (ps := ["word"]) fun _ _ _ _ _ _ us hl => match us, hl with | [_], _ => rfl
    F_word_size := fun_mk (st := (top 33)) l33 cc33 k33
    m_word_size := PySem.W.mg_of X G a33
    b_word_size := (fun_mk (st := (top 33)) l33 cc33 k33).binds (ps := ["word"]) fun _ _ _ _ _ _ us hl => match us, hl with | [_], _ => rfl
    F_depth_of := fun_mk (st := (top 34)) l34 cc34 k34
    m_depth_of := PySem.W.mg_of X G a34
    b_depth_of := (fun_mk (st := (top 34)) l34 cc34 k34).binds (ps := ["word"]) fun _ _ _ _ _ _ us hl => match us, hl with | [_], _ => rfl
    F_drop_of := fun_mk (st := (top 35)) l35 cc35 k35
    m_drop_of := PySem.W.mg_of X G a35
    b_drop_of := (fun_mk (st := (top 35)) l35 cc35 k35).binds (ps := ["word"]) fun _ _ _ _ _ _ us hl => match us, hl with | [_], _ => rfl
    F_is_row := fun_mk (st := (top 13)) l13 cc13 k13
    m_is_row := PySem.W.mg_of X G a13
    b_is_row := (fun_mk (st := (top 13)) l13 cc13 k13).binds (ps := ["value"]) fun _ _ _ _ _ _ us hl => match us, hl with | [_], _ => rfl
    F_check_row := fun_mk (st := (top 15)) l15 cc15 k15
    m_check_row := PySem.W.mg_of X G a15
    b_check_row := (fun_mk (st := (top 15)) l15 cc15 k15).binds (ps := ["row"]) fun _ _ _ _ _ _ us hl => match us, hl with | [_], _ => rfl
    F_lowered := fun_mk (st := (top 21)) l21 cc21 k21
    m_lowered := PySem.W.mg_of X G a21
    b_lowered := (fun_mk (st := (top 21)) l21 cc21 k21).binds (ps := ["row"]) fun _ _ _ _ _ _ us hl => match us, hl with | [_], _ => rfl
    F_raised := fun_mk (st := (top 23)) l23 cc23 k23
    m_raised := PySem.W.mg_of X G a23
    b_raised := (fun_mk (st := (top 23)) l23 cc23 k23).binds (ps := ["row", "letter"]) fun _ _ _ _ _ _ us hl => match us, hl with | [_, _], _ => rfl
    F_word_of := fun_mk (st := (top 25)) l25 cc25 k25
    m_word_of := PySem.W.mg_of X G a25
    b_word_of := (fun_mk (st := (top 25)) l25 cc25 k25).binds (ps := ["row"]) fun _ _ _ _ _ _ us hl => match us, hl with | [_], _ => rfl
    F_closest_parts := fun_mk (st := (top 36)) l36 cc36 k36
    m_closest_parts := PySem.W.mg_of X G a36
    b_closest_parts := (fun_mk (st := (top 36)) l36 cc36 k36).binds (ps := ["row"]) fun _ _ _ _ _ _ us hl => match us, hl with | [_], _ => rfl
    F_steps_of := fun_mk (st := (top 37)) l37 cc37 k37
    m_steps_of := PySem.W.mg_of X G a37
    b_steps_of := (fun_mk (st := (top 37)) l37 cc37 k37).binds (ps := ["row"]) fun _ _ _ _ _ _ us hl => match us, hl with | [_], _ => rfl
    F__law_right := fun_mk (st := (top 43)) l43 cc43 k43
    m__law_right := PySem.W.mg_of X G a43
    b__law_right := (fun_mk (st := (top 43)) l43 cc43 k43).binds (ps := ["dice"]) fun _ _ _ _ _ _ us hl => match us, hl with | [_], _ => rfl
    cd__law_right := rfl
    F_law := fun_mk (st := (top 44)) l44 cc44 k44
    m_law := PySem.W.mg_of X G a44
    b_law := (fun_mk (st := (top 44)) l44 cc44 k44).binds (ps := ["script"]) fun _ _ _ _ _ _ us hl => match us, hl with | [_], _ => rfl
    cd_law := rfl
    g_InvalidRow := PySem.W.mg_of X G aC0
    e_InvalidRow := ⟨xC0, PySem.W.mg_of X G aC0, kC0, eC0, tC0⟩
    g_InvalidWord := PySem.W.mg_of X G aC1
    e_InvalidWord := ⟨xC1, PySem.W.mg_of X G aC1, kC1, eC1, tC1⟩
    g_InvalidOperation := PySem.W.mg_of X G aC2
    e_InvalidOperation := ⟨xC2, PySem.W.mg_of X G aC2, kC2, eC2, tC2⟩
    g_TooMany := PySem.W.mg_of X G aC3
    er_TooMany := { gC := PySem.W.mg_of X G aC3, cls := ⟨nm3, qn3, N3, bs3, _, sn3, su3, ab3, co3, dd3, m03, m13, m23, m33, m53, xL3, by decide +kernel⟩, sa := sa3, ga := ga3, gg := gg3, noN := nb3, iC := ai3, tC := ti3, kC := kC3, exC := eC3, tyC := tC3, hdC := hC3, fn := ⟨_, _, _, _, _, _, _, _, _, _, _, _, _, _, li3, ci3⟩ }
    exm := fun c h hc hh => match c, h, hc, hh with | 0, 0, _, _ => exm_of eC0 iC0 tC0 s0_0 | 0, 1, _, _ => exm_of eC1 iC1 tC1 s0_1 | 0, 2, _, _ => exm_of eC2 iC2 tC2 s0_2 | 0, 3, _, _ => exm_of eC3 iC3 tC3 s0_3 | 1, 0, _, _ => exm_of eC0 iC0 tC0 s1_0 | 1, 1, _, _ => exm_of eC1 iC1 tC1 s1_1 | 1, 2, _, _ => exm_of eC2 iC2 tC2 s1_2 | 1, 3, _, _ => exm_of eC3 iC3 tC3 s1_3 | 2, 0, _, _ => exm_of eC0 iC0 tC0 s2_0 | 2, 1, _, _ => exm_of eC1 iC1 tC1 s2_1 | 2, 2, _, _ => exm_of eC2 iC2 tC2 s2_2 | 2, 3, _, _ => exm_of eC3 iC3 tC3 s2_3 | 3, 0, _, _ => exm_of eC0 iC0 tC0 s3_0 | 3, 1, _, _ => exm_of eC1 iC1 tC1 s3_1 | 3, 2, _, _ => exm_of eC2 iC2 tC2 s3_2 | 3, 3, _, _ => exm_of eC3 iC3 tC3 s3_3 | c + 4, _, hc, _ => absurd hc (by omega) | 0, h + 4, _, hh => absurd hh (by omega) | 1, h + 4, _, hh => absurd hh (by omega) | 2, h + 4, _, hh => absurd hh (by omega) | 3, h + 4, _, hh => absurd hh (by omega)
    nst := fun c hc => match c, hc with | 0, _ => st0 | 1, _ => st1 | 2, _ => st2 | 3, _ => st3 | c + 4, hc => absurd hc (by omega)
    ne_law__law_right := ne44_43
    z_abs := PySem.W.mg_none_of X G z_abs
    z_all := PySem.W.mg_none_of X G z_all
    z_bool := PySem.W.mg_none_of X G z_bool
    z_enumerate := PySem.W.mg_none_of X G z_enumerate
    z_int := PySem.W.mg_none_of X G z_int
    z_isinstance := PySem.W.mg_none_of X G z_isinstance
    z_len := PySem.W.mg_none_of X G z_len
    z_list := PySem.W.mg_none_of X G z_list
    z_max := PySem.W.mg_none_of X G z_max
    z_min := PySem.W.mg_none_of X G z_min
    z_range := PySem.W.mg_none_of X G z_range
    z_repr := PySem.W.mg_none_of X G z_repr
    z_str := PySem.W.mg_none_of X G z_str
    z_sum := PySem.W.mg_none_of X G z_sum
    z_tuple := PySem.W.mg_none_of X G z_tuple
    z_zip := PySem.W.mg_none_of X G z_zip
    c_MAX_PART := ⟨_, PySem.W.mg_of X G g_MAX_PART, _, rfl⟩
    c_MAX_PARTS := ⟨_, PySem.W.mg_of X G g_MAX_PARTS, _, rfl⟩
    c_MOST_INTEGER := ⟨_, PySem.W.mg_of X G g_MOST_INTEGER, _, rfl⟩
    c_MOST_LETTERS := ⟨_, PySem.W.mg_of X G g_MOST_LETTERS, _, rfl⟩ }
  exact ⟨_, [("_law_right", c43, P43), ("law", c44, P44)], T0 (fun i => match i with | 43 => P43 | 44 => P44 | _ => 0), xcL (fun i => match i with | 0 => C0 | 1 => C1 | 2 => C2 | 3 => C3 | _ => 0) (T0 (fun i => match i with | 43 => P43 | 44 => P44 | _ => 0)) (fun i => match i with | 8 => f8 | 18 => f18 | 20 => f20 | 22 => f22 | 24 => f24 | 30 => f30 | 32 => f32 | 39 => f39 | 40 => f40 | 42 => f42 | 9 => f9 | 19 => f19 | 26 => f26 | 28 => f28 | 41 => f41 | 14 => f14 | 27 => f27 | 29 => f29 | 31 => f31 | 33 => f33 | 34 => f34 | 35 => f35 | 13 => f13 | 15 => f15 | 21 => f21 | 23 => f23 | 25 => f25 | 36 => f36 | 37 => f37 | 43 => f43 | 44 => fa | _ => 0), m_law, (List.forall_mem_cons.mpr ⟨(tab_mk a43 l43 rfl co43 v1143), (List.forall_mem_cons.mpr ⟨(tab_mk a44 l44 rfl co44 v1144), (fun _ h => nomatch h)⟩)⟩), (List.forall_mem_cons.mpr ⟨nt43, (List.forall_mem_cons.mpr ⟨nt44, (fun _ h => nomatch h)⟩)⟩), (List.forall_mem_cons.mpr ⟨rc43, (List.forall_mem_cons.mpr ⟨rc44, (fun _ h => nomatch h)⟩)⟩), fun s v => .of_eq rfl, (List.forall_mem_cons.mpr ⟨⟨_, .head _, rfl⟩, (List.forall_mem_cons.mpr ⟨⟨_, .tail _ (.head _), rfl⟩, (fun _ h => nomatch h)⟩)⟩), ⟨_, rfl, rfl, rfl, rfl⟩, law, fun base _ _ tb => ok_law T ⟨tb _ (.head _), tb _ (.tail _ (.head _))⟩⟩
end
end K22

namespace K22
open PySem _root_.L2 FM
def M_law_right_row : List A :=  [.non, (.int 3), (.lst [(.int 2), (.int 1)]), (.tup [(.int 1), (.int 2)]), (.tup [(.int 0)]), (.tup [(.int 2), (.int 0)]), (.tup [(.int (-1))]), (.tup [(.bl true)]), (.tup [(.str "1")]), (.tup [(.int 2), .non]), .dk0, (.str "21"), (.tup [(.int 201)]), (.tup (List.replicate 61 [(.int 1)]).flatten), (.tup [(.int (1000000000000000000000000000000000000000000000000000000000000))]), (.tup [(.tup [(.int 2)])])]
def M_law_right_word : List A :=  [.non, (.int 3), (.str "a"), (.str "ba"), (.str "abc"), (.str "B"), (.tup [(.str "b")]), (.lst [(.str "b")]), .dk0, (.str (repS "b" 401)), (.str "aaaaaaaaaaaaaaaaaaaaaaaaaaaaaaaaaaaaaaaaaaaaaaaaaaaaaaaaaaaaaaaaaaaaaaaaaaaaaaaaaaaaaaaaaaaaaaaaaaaaaaaaaaaaaaaaaaaaaaaaaaaaaaaaaaaaaaaaaaaaaaaaaaaaaaaaaaaaaaaaaaaaaaaaaaaaaaaaaaaaaaaaaaaaaaaaaaaaaaaaaaaaaaaaaaaaaaaaaaaaaaaaaaaaaaaaaaaaaaaaaaaaaaaaaaaaaaaaaaaaaaaaaaaaaaaaaaaaaaaaaaaaaaaaaaaaaaaaaaaaaaaaaaaaaaaaaaaaaaaaaaaaaaaaaaaaaaaaaaaaaaaaaaaaaaaaaaaaaaaaaaaaaaaaaaaaaaaaaaaaaaaaaaaaaaaaaaaaaaaab"), (.str "b ")]
def M_law_right_letter : List A :=  [.non, (.str ""), (.str "c"), (.str "ab"), (.str "B"), (.int 0), (.bl true), (.tup [(.str "a")]), (.lst [(.str "b")]), (.str "bb")]
def M_law_right_long : List A :=  [(.tup [(.int 134), (.int 134), (.int 134)]), (.tup [(.int 200), (.int 200), (.int 200)]), (.tup (List.replicate 4 [(.int 200)]).flatten), (.tup [(.int 150), (.int 150), (.int 150)])]
theorem ok_M_law_right_row : (!M_law_right_row.isEmpty && decide (M_law_right_row.length < 1000) && M_law_right_row.all noLoc) = true := by decide +kernel
theorem ok_M_law_right_word : (!M_law_right_word.isEmpty && decide (M_law_right_word.length < 1000) && M_law_right_word.all noLoc) = true := by decide +kernel
theorem ok_M_law_right_letter : (!M_law_right_letter.isEmpty && decide (M_law_right_letter.length < 1000) && M_law_right_letter.all noLoc) = true := by decide +kernel
theorem ok_M_law_right_long : (!M_law_right_long.isEmpty && decide (M_law_right_long.length < 1000) && M_law_right_long.all noLoc) = true := by decide +kernel
theorem t_q_law_right_0_lowered : (M_law_right_row.all fun v_row => chkQ (q_law_right_0 [none, some v_row, none, none, none, some (.fn 21), none, none, none] []) (wd "row")) = true := by decide +kernel
theorem E_q_law_right_0_lowered {o_dice o_word o_letter o_long o_told o_due o_one : Option A} {v_row : A} {C : Cs} (h_row : v_row ∈ M_law_right_row) : q_law_right_0 [o_dice, some v_row, o_word, o_letter, o_long, some (.fn 21), o_told, o_due, o_one] C = .ok (wd "row") C :=
  chk_q (ent := [none, some v_row, none, none, none, some (.fn 21), none, none, none]) (List.all_eq_true.mp t_q_law_right_0_lowered v_row h_row) rfl
theorem t_q_law_right_0_word_of : (M_law_right_row.all fun v_row => chkQ (q_law_right_0 [none, some v_row, none, none, none, some (.fn 25), none, none, none] []) (wd "row")) = true := by decide +kernel
theorem E_q_law_right_0_word_of {o_dice o_word o_letter o_long o_told o_due o_one : Option A} {v_row : A} {C : Cs} (h_row : v_row ∈ M_law_right_row) : q_law_right_0 [o_dice, some v_row, o_word, o_letter, o_long, some (.fn 25), o_told, o_due, o_one] C = .ok (wd "row") C :=
  chk_q (ent := [none, some v_row, none, none, none, some (.fn 25), none, none, none]) (List.all_eq_true.mp t_q_law_right_0_word_of v_row h_row) rfl
theorem t_q_law_right_0_closest_parts : (M_law_right_row.all fun v_row => chkQ (q_law_right_0 [none, some v_row, none, none, none, some (.fn 36), none, none, none] []) (wd "row")) = true := by decide +kernel
theorem E_q_law_right_0_closest_parts {o_dice o_word o_letter o_long o_told o_due o_one : Option A} {v_row : A} {C : Cs} (h_row : v_row ∈ M_law_right_row) : q_law_right_0 [o_dice, some v_row, o_word, o_letter, o_long, some (.fn 36), o_told, o_due, o_one] C = .ok (wd "row") C :=
  chk_q (ent := [none, some v_row, none, none, none, some (.fn 36), none, none, none]) (List.all_eq_true.mp t_q_law_right_0_closest_parts v_row h_row) rfl
theorem t_q_law_right_1_row_of_word : (M_law_right_word.all fun v_word => chkQ (q_law_right_1 [none, none, some v_word, none, none, some (.fn 27), none, none, none] []) (wd "word")) = true := by decide +kernel
theorem E_q_law_right_1_row_of_word {o_dice o_row o_letter o_long o_told o_due o_one : Option A} {v_word : A} {C : Cs} (h_word : v_word ∈ M_law_right_word) : q_law_right_1 [o_dice, o_row, some v_word, o_letter, o_long, some (.fn 27), o_told, o_due, o_one] C = .ok (wd "word") C :=
  chk_q (ent := [none, none, some v_word, none, none, some (.fn 27), none, none, none]) (List.all_eq_true.mp t_q_law_right_1_row_of_word v_word h_word) rfl
theorem t_q_law_right_1_heights_of : (M_law_right_word.all fun v_word => chkQ (q_law_right_1 [none, none, some v_word, none, none, some (.fn 29), none, none, none] []) (wd "word")) = true := by decide +kernel
theorem E_q_law_right_1_heights_of {o_dice o_row o_letter o_long o_told o_due o_one : Option A} {v_word : A} {C : Cs} (h_word : v_word ∈ M_law_right_word) : q_law_right_1 [o_dice, o_row, some v_word, o_letter, o_long, some (.fn 29), o_told, o_due, o_one] C = .ok (wd "word") C :=
  chk_q (ent := [none, none, some v_word, none, none, some (.fn 29), none, none, none]) (List.all_eq_true.mp t_q_law_right_1_heights_of v_word h_word) rfl
theorem t_q_law_right_1_descents_of : (M_law_right_word.all fun v_word => chkQ (q_law_right_1 [none, none, some v_word, none, none, some (.fn 31), none, none, none] []) (wd "word")) = true := by decide +kernel
theorem E_q_law_right_1_descents_of {o_dice o_row o_letter o_long o_told o_due o_one : Option A} {v_word : A} {C : Cs} (h_word : v_word ∈ M_law_right_word) : q_law_right_1 [o_dice, o_row, some v_word, o_letter, o_long, some (.fn 31), o_told, o_due, o_one] C = .ok (wd "word") C :=
  chk_q (ent := [none, none, some v_word, none, none, some (.fn 31), none, none, none]) (List.all_eq_true.mp t_q_law_right_1_descents_of v_word h_word) rfl
theorem t_q_law_right_1_word_size : (M_law_right_word.all fun v_word => chkQ (q_law_right_1 [none, none, some v_word, none, none, some (.fn 33), none, none, none] []) (wd "word")) = true := by decide +kernel
theorem E_q_law_right_1_word_size {o_dice o_row o_letter o_long o_told o_due o_one : Option A} {v_word : A} {C : Cs} (h_word : v_word ∈ M_law_right_word) : q_law_right_1 [o_dice, o_row, some v_word, o_letter, o_long, some (.fn 33), o_told, o_due, o_one] C = .ok (wd "word") C :=
  chk_q (ent := [none, none, some v_word, none, none, some (.fn 33), none, none, none]) (List.all_eq_true.mp t_q_law_right_1_word_size v_word h_word) rfl
theorem t_q_law_right_1_depth_of : (M_law_right_word.all fun v_word => chkQ (q_law_right_1 [none, none, some v_word, none, none, some (.fn 34), none, none, none] []) (wd "word")) = true := by decide +kernel
theorem E_q_law_right_1_depth_of {o_dice o_row o_letter o_long o_told o_due o_one : Option A} {v_word : A} {C : Cs} (h_word : v_word ∈ M_law_right_word) : q_law_right_1 [o_dice, o_row, some v_word, o_letter, o_long, some (.fn 34), o_told, o_due, o_one] C = .ok (wd "word") C :=
  chk_q (ent := [none, none, some v_word, none, none, some (.fn 34), none, none, none]) (List.all_eq_true.mp t_q_law_right_1_depth_of v_word h_word) rfl
theorem t_q_law_right_1_drop_of : (M_law_right_word.all fun v_word => chkQ (q_law_right_1 [none, none, some v_word, none, none, some (.fn 35), none, none, none] []) (wd "word")) = true := by decide +kernel
theorem E_q_law_right_1_drop_of {o_dice o_row o_letter o_long o_told o_due o_one : Option A} {v_word : A} {C : Cs} (h_word : v_word ∈ M_law_right_word) : q_law_right_1 [o_dice, o_row, some v_word, o_letter, o_long, some (.fn 35), o_told, o_due, o_one] C = .ok (wd "word") C :=
  chk_q (ent := [none, none, some v_word, none, none, some (.fn 35), none, none, none]) (List.all_eq_true.mp t_q_law_right_1_drop_of v_word h_word) rfl
theorem t_q_law_right_2 : (M_law_right_row.all fun v_row => (M_law_right_letter.all fun v_letter => chkQ (q_law_right_2 [none, some v_row, none, some v_letter, none, none, none, none, none] []) (wd "row"))) = true := by decide +kernel
theorem E_q_law_right_2 {o_dice o_word o_long o_call o_told o_due o_one : Option A} {v_row v_letter : A} {C : Cs} (h_row : v_row ∈ M_law_right_row) (h_letter : v_letter ∈ M_law_right_letter) : q_law_right_2 [o_dice, some v_row, o_word, some v_letter, o_long, o_call, o_told, o_due, o_one] C = .ok (wd "row") C :=
  chk_q (ent := [none, some v_row, none, some v_letter, none, none, none, none, none]) (List.all_eq_true.mp (List.all_eq_true.mp t_q_law_right_2 v_row h_row) v_letter h_letter) rfl
theorem t_q_law_right_3 : (M_law_right_letter.all fun v_letter => chkQ (q_law_right_3 [none, none, none, some v_letter, none, none, none, none, none] []) (wd "word")) = true := by decide +kernel
theorem E_q_law_right_3 {o_dice o_row o_word o_long o_call o_told o_due o_one : Option A} {v_letter : A} {C : Cs} (h_letter : v_letter ∈ M_law_right_letter) : q_law_right_3 [o_dice, o_row, o_word, some v_letter, o_long, o_call, o_told, o_due, o_one] C = .ok (wd "word") C :=
  chk_q (ent := [none, none, none, some v_letter, none, none, none, none, none]) (List.all_eq_true.mp t_q_law_right_3 v_letter h_letter) rfl
theorem t_q_law_right_4 : (M_law_right_row.all fun v_row => chkQ (q_law_right_4 [none, some v_row, none, none, none, none, none, none, none] []) (wd "row")) = true := by decide +kernel
theorem E_q_law_right_4 {o_dice o_word o_letter o_long o_call o_told o_due o_one : Option A} {v_row : A} {C : Cs} (h_row : v_row ∈ M_law_right_row) : q_law_right_4 [o_dice, some v_row, o_word, o_letter, o_long, o_call, o_told, o_due, o_one] C = .ok (wd "row") C :=
  chk_q (ent := [none, some v_row, none, none, none, none, none, none, none]) (List.all_eq_true.mp t_q_law_right_4 v_row h_row) rfl
theorem t_q_law_right_5 : chkQ (q_law_right_5 [none, none, none, none, none, none, none, none, none] []) (wd "operation") = true := by decide +kernel
theorem E_q_law_right_5 {o_dice o_row o_word o_letter o_long o_call o_told o_due o_one : Option A} {C : Cs}  : q_law_right_5 [o_dice, o_row, o_word, o_letter, o_long, o_call, o_told, o_due, o_one] C = .ok (wd "operation") C :=
  chk_q (ent := [none, none, none, none, none, none, none, none, none]) t_q_law_right_5 rfl
theorem t_q_law_right_6 : (M_law_right_long.all fun v_long => chkQ (q_law_right_6 [none, none, none, none, some v_long, none, none, none, none] []) (wd "many 400")) = true := by decide +kernel
theorem E_q_law_right_6 {o_dice o_row o_word o_letter o_call o_told o_due o_one : Option A} {v_long : A} {C : Cs} (h_long : v_long ∈ M_law_right_long) : q_law_right_6 [o_dice, o_row, o_word, o_letter, some v_long, o_call, o_told, o_due, o_one] C = .ok (wd "many 400") C :=
  chk_q (ent := [none, none, none, none, some v_long, none, none, none, none]) (List.all_eq_true.mp t_q_law_right_6 v_long h_long) rfl
theorem t_q_law_right_7 : (M_law_right_long.all fun v_long => chkQ (q_law_right_7 [none, none, none, none, some v_long, none, none, none, none] []) (wd "many 400")) = true := by decide +kernel
theorem E_q_law_right_7 {o_dice o_row o_word o_letter o_call o_told o_due o_one : Option A} {v_long : A} {C : Cs} (h_long : v_long ∈ M_law_right_long) : q_law_right_7 [o_dice, o_row, o_word, o_letter, some v_long, o_call, o_told, o_due, o_one] C = .ok (wd "many 400") C :=
  chk_q (ent := [none, none, none, none, some v_long, none, none, none, none]) (List.all_eq_true.mp t_q_law_right_7 v_long h_long) rfl
theorem t_q_law_right_8 : (M_law_right_long.all fun v_long => chkQ (q_law_right_8 [none, none, none, none, some v_long, none, none, none, none] []) (.tup [.str "fine"])) = true := by decide +kernel
theorem E_q_law_right_8 {o_dice o_row o_word o_letter o_call o_told o_due o_one : Option A} {v_long : A} {C : Cs} (h_long : v_long ∈ M_law_right_long) : q_law_right_8 [o_dice, o_row, o_word, o_letter, some v_long, o_call, o_told, o_due, o_one] C = .ok (.tup [.str "fine"]) C :=
  chk_q (ent := [none, none, none, none, some v_long, none, none, none, none]) (List.all_eq_true.mp t_q_law_right_8 v_long h_long) rfl
theorem t_q_law_right_9 : (M_law_right_long.all fun v_long => chkQ (q_law_right_9 [none, none, none, none, some v_long, none, none, none, none] []) (.tup [.str "fine"])) = true := by decide +kernel
theorem E_q_law_right_9 {o_dice o_row o_word o_letter o_call o_told o_due o_one : Option A} {v_long : A} {C : Cs} (h_long : v_long ∈ M_law_right_long) : q_law_right_9 [o_dice, o_row, o_word, o_letter, some v_long, o_call, o_told, o_due, o_one] C = .ok (.tup [.str "fine"]) C :=
  chk_q (ent := [none, none, none, none, some v_long, none, none, none, none]) (List.all_eq_true.mp t_q_law_right_9 v_long h_long) rfl
theorem t_q_law_right_10 : (M_law_right_long.all fun v_long => chkQ (q_law_right_10 [none, none, none, none, some v_long, none, none, none, none] []) (.tup [.str "fine"])) = true := by decide +kernel
theorem E_q_law_right_10 {o_dice o_row o_word o_letter o_call o_told o_due o_one : Option A} {v_long : A} {C : Cs} (h_long : v_long ∈ M_law_right_long) : q_law_right_10 [o_dice, o_row, o_word, o_letter, some v_long, o_call, o_told, o_due, o_one] C = .ok (.tup [.str "fine"]) C :=
  chk_q (ent := [none, none, none, none, some v_long, none, none, none, none]) (List.all_eq_true.mp t_q_law_right_10 v_long h_long) rfl
end K22

namespace K22
open PySem _root_.L2 FM
def tr_law_right_18 : En → Cs → SR := (sRet (xOp gEq (xVar 6) (xLc [8] (.nm 8) (itSeq (xVar 7)) tYesF (xIf (tVal (xOp gIsN (xVar 8) (xC .non))) (xTup (aCons (xC (.str "fine")) aNil)) (xTup (aCons (xC (.str "refused")) (aCons (xVar 8) aNil)))))))
def tr_law_right_17 : En → Cs → SR := sSeq (sExp (xMtL mExtend (xVar 7) (aCons (xLst (aCons (xC (.str "row")) (aCons (xC (.str "word")) (aCons (xC (.str "row")) (aCons (xC (.str "operation")) (aCons (xC (.str "many 400")) (aCons (xC (.str "many 400")) (aCons (xC .non) (aCons (xC .non) (aCons (xC .non) aNil)))))))))) aNil))) tr_law_right_18
def tr_law_right_16 : En → Cs → SR := sSeq (sExp (xMtL mAppend (xVar 6) (aCons q_law_right_10 aNil))) tr_law_right_17
def tr_law_right_15 : En → Cs → SR := sSeq (sExp (xMtL mAppend (xVar 6) (aCons q_law_right_9 aNil))) tr_law_right_16
def tr_law_right_14 : En → Cs → SR := sSeq (sExp (xMtL mAppend (xVar 6) (aCons q_law_right_8 aNil))) tr_law_right_15
def tr_law_right_13 : En → Cs → SR := sSeq (sExp (xMtL mAppend (xVar 6) (aCons q_law_right_7 aNil))) tr_law_right_14
def tr_law_right_12 : En → Cs → SR := sSeq (sExp (xMtL mAppend (xVar 6) (aCons q_law_right_6 aNil))) tr_law_right_13
def tr_law_right_11 : En → Cs → SR := sSeq (sExp (xMtL mAppend (xVar 6) (aCons q_law_right_5 aNil))) tr_law_right_12
def tr_law_right_10 : En → Cs → SR := sSeq (sExp (xMtL mAppend (xVar 6) (aCons q_law_right_4 aNil))) tr_law_right_11
def tr_law_right_9 : En → Cs → SR := sSeq (sExp (xMtL mAppend (xVar 6) (aCons q_law_right_3 aNil))) tr_law_right_10
def tr_law_right_8 : En → Cs → SR := sSeq (sExp (xMtL mAppend (xVar 6) (aCons q_law_right_2 aNil))) tr_law_right_9
def tr_law_right_7 : En → Cs → SR := sSeq (sFor (.nm 5) (itSeq (xTup (aCons (xC (.fn 27)) (aCons (xC (.fn 29)) (aCons (xC (.fn 31)) (aCons (xC (.fn 33)) (aCons (xC (.fn 34)) (aCons (xC (.fn 35)) aNil)))))))) (sSeq (sExp (xMtL mAppend (xVar 6) (aCons q_law_right_1 aNil))) (sExp (xMtL mAppend (xVar 7) (aCons (xC (.str "word")) aNil))))) tr_law_right_8
def tr_law_right_6 : En → Cs → SR := sSeq (sFor (.nm 5) (itSeq (xTup (aCons (xC (.fn 21)) (aCons (xC (.fn 25)) (aCons (xC (.fn 36)) aNil))))) (sSeq (sExp (xMtL mAppend (xVar 6) (aCons q_law_right_0 aNil))) (sExp (xMtL mAppend (xVar 7) (aCons (xC (.str "row")) aNil))))) tr_law_right_7
def tr_law_right_5 : En → Cs → SR := sSeq (sPar 6 7 (aCons (xLstM aNil) (aCons (xLstM aNil) aNil))) tr_law_right_6
def tr_law_right_4 : En → Cs → SR := sSeq (sSet 4 (xAp m__law_pick (aCons (xVar 0) (aCons (xLst (aCons (xTup (aCons (xC (.int 134)) (aCons (xC (.int 134)) (aCons (xC (.int 134)) aNil)))) (aCons (xTup (aCons (xC (.int 200)) (aCons (xC (.int 200)) (aCons (xC (.int 200)) aNil)))) (aCons (xOp gMulA (xTup (aCons (xC (.int 200)) aNil)) (xC (.int 4))) (aCons (xTup (aCons (xC (.int 150)) (aCons (xC (.int 150)) (aCons (xC (.int 150)) aNil)))) aNil))))) aNil)))) tr_law_right_5
def tr_law_right_3 : En → Cs → SR := sSeq (sSet 3 (xAp m__law_pick (aCons (xVar 0) (aCons (xLst (aCons (xC .non) (aCons (xC (.str "")) (aCons (xC (.str "c")) (aCons (xC (.str "ab")) (aCons (xC (.str "B")) (aCons (xC (.int 0)) (aCons (xC (.bl true)) (aCons (xTup (aCons (xC (.str "a")) aNil)) (aCons (xLst (aCons (xC (.str "b")) aNil)) (aCons (xC (.str "bb")) aNil))))))))))) aNil)))) tr_law_right_4
def tr_law_right_2 : En → Cs → SR := sSeq (sSet 2 (xAp m__law_pick (aCons (xVar 0) (aCons (xLst (aCons (xC .non) (aCons (xC (.int 3)) (aCons (xC (.str "a")) (aCons (xC (.str "ba")) (aCons (xC (.str "abc")) (aCons (xC (.str "B")) (aCons (xTup (aCons (xC (.str "b")) aNil)) (aCons (xLst (aCons (xC (.str "b")) aNil)) (aCons xDk0 (aCons (xOp gMulS (xC (.str "b")) (xC (.int 401))) (aCons (xOp gAddA (xOp gMulS (xC (.str "a")) (xC (.int 400))) (xC (.str "b"))) (aCons (xC (.str "b ")) aNil))))))))))))) aNil)))) tr_law_right_3
def tr_law_right_1 : En → Cs → SR := sSeq (sSet 1 (xAp m__law_pick (aCons (xVar 0) (aCons (xOp gAddA (xVar 1) (xLst (aCons (xTup (aCons (xOp gPow (xC (.int 10)) (xC (.int 60))) aNil)) (aCons (xTup (aCons (xTup (aCons (xC (.int 2)) aNil)) aNil)) aNil)))) aNil)))) tr_law_right_2
def tr_law_right_0 : En → Cs → SR := sSeq (sSet 1 (xLst (aCons (xC .non) (aCons (xC (.int 3)) (aCons (xLst (aCons (xC (.int 2)) (aCons (xC (.int 1)) aNil))) (aCons (xTup (aCons (xC (.int 1)) (aCons (xC (.int 2)) aNil))) (aCons (xTup (aCons (xC (.int 0)) aNil)) (aCons (xTup (aCons (xC (.int 2)) (aCons (xC (.int 0)) aNil))) (aCons (xTup (aCons (xUn gNeg (xC (.int 1))) aNil)) (aCons (xTup (aCons (xC (.bl true)) aNil)) (aCons (xTup (aCons (xC (.str "1")) aNil)) (aCons (xTup (aCons (xC (.int 2)) (aCons (xC .non) aNil))) (aCons xDk0 (aCons (xC (.str "21")) (aCons (xTup (aCons (xC (.int 201)) aNil)) (aCons (xOp gMulA (xTup (aCons (xC (.int 1)) aNil)) (xC (.int 61))) aNil)))))))))))))))) tr_law_right_1
theorem b_eq_law_right : b__law_right = tr_law_right_0 := rfl
theorem cs_law_right_0 {o_0 o_1 o_2 o_3 o_4 o_5 o_6 o_7 o_8 : Option A} {C : Cs} : (sSet 1 (xLst (aCons (xC .non) (aCons (xC (.int 3)) (aCons (xLst (aCons (xC (.int 2)) (aCons (xC (.int 1)) aNil))) (aCons (xTup (aCons (xC (.int 1)) (aCons (xC (.int 2)) aNil))) (aCons (xTup (aCons (xC (.int 0)) aNil)) (aCons (xTup (aCons (xC (.int 2)) (aCons (xC (.int 0)) aNil))) (aCons (xTup (aCons (xUn gNeg (xC (.int 1))) aNil)) (aCons (xTup (aCons (xC (.bl true)) aNil)) (aCons (xTup (aCons (xC (.str "1")) aNil)) (aCons (xTup (aCons (xC (.int 2)) (aCons (xC .non) aNil))) (aCons xDk0 (aCons (xC (.str "21")) (aCons (xTup (aCons (xC (.int 201)) aNil)) (aCons (xOp gMulA (xTup (aCons (xC (.int 1)) aNil)) (xC (.int 61))) aNil)))))))))))))))) [o_0, o_1, o_2, o_3, o_4, o_5, o_6, o_7, o_8] C = .nx [o_0, some (.lst [.non, (.int 3), (.lst [(.int 2), (.int 1)]), (.tup [(.int 1), (.int 2)]), (.tup [(.int 0)]), (.tup [(.int 2), (.int 0)]), (.tup [(.int (-1))]), (.tup [(.bl true)]), (.tup [(.str "1")]), (.tup [(.int 2), .non]), .dk0, (.str "21"), (.tup [(.int 201)]), (.tup (List.replicate 61 [(.int 1)]).flatten)]), o_2, o_3, o_4, o_5, o_6, o_7, o_8] C := by kernel_rfl
theorem cs_law_right_5 {o_1 o_2 o_3 o_4 o_5 o_6 o_7 o_8 : Option A} {d : List A} : (sPar 6 7 (aCons (xLstM aNil) (aCons (xLstM aNil) aNil))) [some (.loc 0), o_1, o_2, o_3, o_4, o_5, o_6, o_7, o_8] [d] = .nx [some (.loc 0), o_1, o_2, o_3, o_4, o_5, some (.loc 1), some (.loc 2), o_8] (d :: [[], []]) := by kernel_rfl
theorem good_law_right {x y z : Int} : Good (b__law_right (some (.loc 0) :: ([] : List A).map some ++ List.replicate 8 none) [[.int x, .int y, .int z]]) := by
  rw [b_eq_law_right]
  simp only [List.replicate, List.map_cons, List.map_nil, List.cons_append, List.nil_append]
  rw [tr_law_right_0, ap_seq, cs_law_right_0, then_nx]
  rw [tr_law_right_1]
  refine good_pick (M := M_law_right_row) rfl rfl (by kernel_rfl) ok_M_law_right_row (by simp [noLocs, noLoc]) fun v_row h_row l_row x y z => ?_
  simp only [List.set_cons_succ, List.set_cons_zero]
  rw [tr_law_right_2]
  refine good_pick (M := M_law_right_word) rfl rfl (by kernel_rfl) ok_M_law_right_word (by simp [noLocs, noLoc]) fun v_word h_word l_word x y z => ?_
  simp only [List.set_cons_succ, List.set_cons_zero]
  rw [tr_law_right_3]
  refine good_pick (M := M_law_right_letter) rfl rfl (by kernel_rfl) ok_M_law_right_letter (by simp [noLocs, noLoc]) fun v_letter h_letter l_letter x y z => ?_
  simp only [List.set_cons_succ, List.set_cons_zero]
  rw [tr_law_right_4]
  refine good_pick (M := M_law_right_long) rfl rfl (by kernel_rfl) ok_M_law_right_long (by simp [noLocs, noLoc]) fun v_long h_long l_long x y z => ?_
  simp only [List.set_cons_succ, List.set_cons_zero]
  rw [tr_law_right_5, ap_seq, cs_law_right_5, then_nx]
  rw [tr_law_right_6]
  simp -implicitDefEqProofs only [ap_par3, parN_3, add_2, add_l, Bool.not_true, ap_seq, ap_exp, ap_set, ap_ret, ap_par, parN_2, ap_for, ap_seqI, itOf, ap_ifS, ap_mt, ap_ap, ap_op, ap_un, ap_cons, ap_nil, ap_V0, ap_VS, ap_C, ap_tup, ap_lst, ap_lstM, ap_tv, ap_not, ap_notV, notV_bl, R.bind_ok, R.toS_ok, then_nx, then_rt, rest_nx, for_nm, for_nil, sl_1, sl_2, app_1, app_2, ext_1, ext_2, List.set_cons_succ, List.set_cons_zero, List.cons_append, List.nil_append, List.append_nil, List.length_cons, List.length_nil, List.length_append, Nat.reduceAdd, Nat.reduceLeDiff, Option.isSome_some, if_true, k_cons, k_cons2, k_op, k_mt, k_tup, k_lst, k_lstM, k_not, k_if, k_ch1, k_ch2, k_set, k_exp, k_ret, k_ifS, k_put1, k_put2, k_for, rep_nw, add_num, cat_ll, sl_3, add_3, app_3, mul_2, mul_3, mul_4, mul_5, mul_6, mul_7, mul_8, mul_9, E_q_law_right_0_lowered, E_q_law_right_0_word_of, E_q_law_right_0_closest_parts, E_q_law_right_1_row_of_word, E_q_law_right_1_heights_of, E_q_law_right_1_descents_of, E_q_law_right_1_word_size, E_q_law_right_1_depth_of, E_q_law_right_1_drop_of, E_q_law_right_2, E_q_law_right_3, E_q_law_right_4, E_q_law_right_5, E_q_law_right_6, E_q_law_right_7, E_q_law_right_8, E_q_law_right_9, E_q_law_right_10, h_row, h_word, h_letter, h_long]
  rw [tr_law_right_7]
  simp -implicitDefEqProofs only [ap_par3, parN_3, add_2, add_l, Bool.not_true, ap_seq, ap_exp, ap_set, ap_ret, ap_par, parN_2, ap_for, ap_seqI, itOf, ap_ifS, ap_mt, ap_ap, ap_op, ap_un, ap_cons, ap_nil, ap_V0, ap_VS, ap_C, ap_tup, ap_lst, ap_lstM, ap_tv, ap_not, ap_notV, notV_bl, R.bind_ok, R.toS_ok, then_nx, then_rt, rest_nx, for_nm, for_nil, sl_1, sl_2, app_1, app_2, ext_1, ext_2, List.set_cons_succ, List.set_cons_zero, List.cons_append, List.nil_append, List.append_nil, List.length_cons, List.length_nil, List.length_append, Nat.reduceAdd, Nat.reduceLeDiff, Option.isSome_some, if_true, k_cons, k_cons2, k_op, k_mt, k_tup, k_lst, k_lstM, k_not, k_if, k_ch1, k_ch2, k_set, k_exp, k_ret, k_ifS, k_put1, k_put2, k_for, rep_nw, add_num, cat_ll, sl_3, add_3, app_3, mul_2, mul_3, mul_4, mul_5, mul_6, mul_7, mul_8, mul_9, E_q_law_right_0_lowered, E_q_law_right_0_word_of, E_q_law_right_0_closest_parts, E_q_law_right_1_row_of_word, E_q_law_right_1_heights_of, E_q_law_right_1_descents_of, E_q_law_right_1_word_size, E_q_law_right_1_depth_of, E_q_law_right_1_drop_of, E_q_law_right_2, E_q_law_right_3, E_q_law_right_4, E_q_law_right_5, E_q_law_right_6, E_q_law_right_7, E_q_law_right_8, E_q_law_right_9, E_q_law_right_10, h_row, h_word, h_letter, h_long]
  rw [tr_law_right_8]
  simp -implicitDefEqProofs only [ap_par3, parN_3, add_2, add_l, Bool.not_true, ap_seq, ap_exp, ap_set, ap_ret, ap_par, parN_2, ap_for, ap_seqI, itOf, ap_ifS, ap_mt, ap_ap, ap_op, ap_un, ap_cons, ap_nil, ap_V0, ap_VS, ap_C, ap_tup, ap_lst, ap_lstM, ap_tv, ap_not, ap_notV, notV_bl, R.bind_ok, R.toS_ok, then_nx, then_rt, rest_nx, for_nm, for_nil, sl_1, sl_2, app_1, app_2, ext_1, ext_2, List.set_cons_succ, List.set_cons_zero, List.cons_append, List.nil_append, List.append_nil, List.length_cons, List.length_nil, List.length_append, Nat.reduceAdd, Nat.reduceLeDiff, Option.isSome_some, if_true, k_cons, k_cons2, k_op, k_mt, k_tup, k_lst, k_lstM, k_not, k_if, k_ch1, k_ch2, k_set, k_exp, k_ret, k_ifS, k_put1, k_put2, k_for, rep_nw, add_num, cat_ll, sl_3, add_3, app_3, mul_2, mul_3, mul_4, mul_5, mul_6, mul_7, mul_8, mul_9, E_q_law_right_0_lowered, E_q_law_right_0_word_of, E_q_law_right_0_closest_parts, E_q_law_right_1_row_of_word, E_q_law_right_1_heights_of, E_q_law_right_1_descents_of, E_q_law_right_1_word_size, E_q_law_right_1_depth_of, E_q_law_right_1_drop_of, E_q_law_right_2, E_q_law_right_3, E_q_law_right_4, E_q_law_right_5, E_q_law_right_6, E_q_law_right_7, E_q_law_right_8, E_q_law_right_9, E_q_law_right_10, h_row, h_word, h_letter, h_long]
  rw [tr_law_right_9]
  simp -implicitDefEqProofs only [ap_par3, parN_3, add_2, add_l, Bool.not_true, ap_seq, ap_exp, ap_set, ap_ret, ap_par, parN_2, ap_for, ap_seqI, itOf, ap_ifS, ap_mt, ap_ap, ap_op, ap_un, ap_cons, ap_nil, ap_V0, ap_VS, ap_C, ap_tup, ap_lst, ap_lstM, ap_tv, ap_not, ap_notV, notV_bl, R.bind_ok, R.toS_ok, then_nx, then_rt, rest_nx, for_nm, for_nil, sl_1, sl_2, app_1, app_2, ext_1, ext_2, List.set_cons_succ, List.set_cons_zero, List.cons_append, List.nil_append, List.append_nil, List.length_cons, List.length_nil, List.length_append, Nat.reduceAdd, Nat.reduceLeDiff, Option.isSome_some, if_true, k_cons, k_cons2, k_op, k_mt, k_tup, k_lst, k_lstM, k_not, k_if, k_ch1, k_ch2, k_set, k_exp, k_ret, k_ifS, k_put1, k_put2, k_for, rep_nw, add_num, cat_ll, sl_3, add_3, app_3, mul_2, mul_3, mul_4, mul_5, mul_6, mul_7, mul_8, mul_9, E_q_law_right_0_lowered, E_q_law_right_0_word_of, E_q_law_right_0_closest_parts, E_q_law_right_1_row_of_word, E_q_law_right_1_heights_of, E_q_law_right_1_descents_of, E_q_law_right_1_word_size, E_q_law_right_1_depth_of, E_q_law_right_1_drop_of, E_q_law_right_2, E_q_law_right_3, E_q_law_right_4, E_q_law_right_5, E_q_law_right_6, E_q_law_right_7, E_q_law_right_8, E_q_law_right_9, E_q_law_right_10, h_row, h_word, h_letter, h_long]
  rw [tr_law_right_10]
  simp -implicitDefEqProofs only [ap_par3, parN_3, add_2, add_l, Bool.not_true, ap_seq, ap_exp, ap_set, ap_ret, ap_par, parN_2, ap_for, ap_seqI, itOf, ap_ifS, ap_mt, ap_ap, ap_op, ap_un, ap_cons, ap_nil, ap_V0, ap_VS, ap_C, ap_tup, ap_lst, ap_lstM, ap_tv, ap_not, ap_notV, notV_bl, R.bind_ok, R.toS_ok, then_nx, then_rt, rest_nx, for_nm, for_nil, sl_1, sl_2, app_1, app_2, ext_1, ext_2, List.set_cons_succ, List.set_cons_zero, List.cons_append, List.nil_append, List.append_nil, List.length_cons, List.length_nil, List.length_append, Nat.reduceAdd, Nat.reduceLeDiff, Option.isSome_some, if_true, k_cons, k_cons2, k_op, k_mt, k_tup, k_lst, k_lstM, k_not, k_if, k_ch1, k_ch2, k_set, k_exp, k_ret, k_ifS, k_put1, k_put2, k_for, rep_nw, add_num, cat_ll, sl_3, add_3, app_3, mul_2, mul_3, mul_4, mul_5, mul_6, mul_7, mul_8, mul_9, E_q_law_right_0_lowered, E_q_law_right_0_word_of, E_q_law_right_0_closest_parts, E_q_law_right_1_row_of_word, E_q_law_right_1_heights_of, E_q_law_right_1_descents_of, E_q_law_right_1_word_size, E_q_law_right_1_depth_of, E_q_law_right_1_drop_of, E_q_law_right_2, E_q_law_right_3, E_q_law_right_4, E_q_law_right_5, E_q_law_right_6, E_q_law_right_7, E_q_law_right_8, E_q_law_right_9, E_q_law_right_10, h_row, h_word, h_letter, h_long]
  rw [tr_law_right_11]
  simp -implicitDefEqProofs only [ap_par3, parN_3, add_2, add_l, Bool.not_true, ap_seq, ap_exp, ap_set, ap_ret, ap_par, parN_2, ap_for, ap_seqI, itOf, ap_ifS, ap_mt, ap_ap, ap_op, ap_un, ap_cons, ap_nil, ap_V0, ap_VS, ap_C, ap_tup, ap_lst, ap_lstM, ap_tv, ap_not, ap_notV, notV_bl, R.bind_ok, R.toS_ok, then_nx, then_rt, rest_nx, for_nm, for_nil, sl_1, sl_2, app_1, app_2, ext_1, ext_2, List.set_cons_succ, List.set_cons_zero, List.cons_append, List.nil_append, List.append_nil, List.length_cons, List.length_nil, List.length_append, Nat.reduceAdd, Nat.reduceLeDiff, Option.isSome_some, if_true, k_cons, k_cons2, k_op, k_mt, k_tup, k_lst, k_lstM, k_not, k_if, k_ch1, k_ch2, k_set, k_exp, k_ret, k_ifS, k_put1, k_put2, k_for, rep_nw, add_num, cat_ll, sl_3, add_3, app_3, mul_2, mul_3, mul_4, mul_5, mul_6, mul_7, mul_8, mul_9, E_q_law_right_0_lowered, E_q_law_right_0_word_of, E_q_law_right_0_closest_parts, E_q_law_right_1_row_of_word, E_q_law_right_1_heights_of, E_q_law_right_1_descents_of, E_q_law_right_1_word_size, E_q_law_right_1_depth_of, E_q_law_right_1_drop_of, E_q_law_right_2, E_q_law_right_3, E_q_law_right_4, E_q_law_right_5, E_q_law_right_6, E_q_law_right_7, E_q_law_right_8, E_q_law_right_9, E_q_law_right_10, h_row, h_word, h_letter, h_long]
  rw [tr_law_right_12]
  simp -implicitDefEqProofs only [ap_par3, parN_3, add_2, add_l, Bool.not_true, ap_seq, ap_exp, ap_set, ap_ret, ap_par, parN_2, ap_for, ap_seqI, itOf, ap_ifS, ap_mt, ap_ap, ap_op, ap_un, ap_cons, ap_nil, ap_V0, ap_VS, ap_C, ap_tup, ap_lst, ap_lstM, ap_tv, ap_not, ap_notV, notV_bl, R.bind_ok, R.toS_ok, then_nx, then_rt, rest_nx, for_nm, for_nil, sl_1, sl_2, app_1, app_2, ext_1, ext_2, List.set_cons_succ, List.set_cons_zero, List.cons_append, List.nil_append, List.append_nil, List.length_cons, List.length_nil, List.length_append, Nat.reduceAdd, Nat.reduceLeDiff, Option.isSome_some, if_true, k_cons, k_cons2, k_op, k_mt, k_tup, k_lst, k_lstM, k_not, k_if, k_ch1, k_ch2, k_set, k_exp, k_ret, k_ifS, k_put1, k_put2, k_for, rep_nw, add_num, cat_ll, sl_3, add_3, app_3, mul_2, mul_3, mul_4, mul_5, mul_6, mul_7, mul_8, mul_9, E_q_law_right_0_lowered, E_q_law_right_0_word_of, E_q_law_right_0_closest_parts, E_q_law_right_1_row_of_word, E_q_law_right_1_heights_of, E_q_law_right_1_descents_of, E_q_law_right_1_word_size, E_q_law_right_1_depth_of, E_q_law_right_1_drop_of, E_q_law_right_2, E_q_law_right_3, E_q_law_right_4, E_q_law_right_5, E_q_law_right_6, E_q_law_right_7, E_q_law_right_8, E_q_law_right_9, E_q_law_right_10, h_row, h_word, h_letter, h_long]
  rw [tr_law_right_13]
  simp -implicitDefEqProofs only [ap_par3, parN_3, add_2, add_l, Bool.not_true, ap_seq, ap_exp, ap_set, ap_ret, ap_par, parN_2, ap_for, ap_seqI, itOf, ap_ifS, ap_mt, ap_ap, ap_op, ap_un, ap_cons, ap_nil, ap_V0, ap_VS, ap_C, ap_tup, ap_lst, ap_lstM, ap_tv, ap_not, ap_notV, notV_bl, R.bind_ok, R.toS_ok, then_nx, then_rt, rest_nx, for_nm, for_nil, sl_1, sl_2, app_1, app_2, ext_1, ext_2, List.set_cons_succ, List.set_cons_zero, List.cons_append, List.nil_append, List.append_nil, List.length_cons, List.length_nil, List.length_append, Nat.reduceAdd, Nat.reduceLeDiff, Option.isSome_some, if_true, k_cons, k_cons2, k_op, k_mt, k_tup, k_lst, k_lstM, k_not, k_if, k_ch1, k_ch2, k_set, k_exp, k_ret, k_ifS, k_put1, k_put2, k_for, rep_nw, add_num, cat_ll, sl_3, add_3, app_3, mul_2, mul_3, mul_4, mul_5, mul_6, mul_7, mul_8, mul_9, E_q_law_right_0_lowered, E_q_law_right_0_word_of, E_q_law_right_0_closest_parts, E_q_law_right_1_row_of_word, E_q_law_right_1_heights_of, E_q_law_right_1_descents_of, E_q_law_right_1_word_size, E_q_law_right_1_depth_of, E_q_law_right_1_drop_of, E_q_law_right_2, E_q_law_right_3, E_q_law_right_4, E_q_law_right_5, E_q_law_right_6, E_q_law_right_7, E_q_law_right_8, E_q_law_right_9, E_q_law_right_10, h_row, h_word, h_letter, h_long]
  rw [tr_law_right_14]
  simp -implicitDefEqProofs only [ap_par3, parN_3, add_2, add_l, Bool.not_true, ap_seq, ap_exp, ap_set, ap_ret, ap_par, parN_2, ap_for, ap_seqI, itOf, ap_ifS, ap_mt, ap_ap, ap_op, ap_un, ap_cons, ap_nil, ap_V0, ap_VS, ap_C, ap_tup, ap_lst, ap_lstM, ap_tv, ap_not, ap_notV, notV_bl, R.bind_ok, R.toS_ok, then_nx, then_rt, rest_nx, for_nm, for_nil, sl_1, sl_2, app_1, app_2, ext_1, ext_2, List.set_cons_succ, List.set_cons_zero, List.cons_append, List.nil_append, List.append_nil, List.length_cons, List.length_nil, List.length_append, Nat.reduceAdd, Nat.reduceLeDiff, Option.isSome_some, if_true, k_cons, k_cons2, k_op, k_mt, k_tup, k_lst, k_lstM, k_not, k_if, k_ch1, k_ch2, k_set, k_exp, k_ret, k_ifS, k_put1, k_put2, k_for, rep_nw, add_num, cat_ll, sl_3, add_3, app_3, mul_2, mul_3, mul_4, mul_5, mul_6, mul_7, mul_8, mul_9, E_q_law_right_0_lowered, E_q_law_right_0_word_of, E_q_law_right_0_closest_parts, E_q_law_right_1_row_of_word, E_q_law_right_1_heights_of, E_q_law_right_1_descents_of, E_q_law_right_1_word_size, E_q_law_right_1_depth_of, E_q_law_right_1_drop_of, E_q_law_right_2, E_q_law_right_3, E_q_law_right_4, E_q_law_right_5, E_q_law_right_6, E_q_law_right_7, E_q_law_right_8, E_q_law_right_9, E_q_law_right_10, h_row, h_word, h_letter, h_long]
  rw [tr_law_right_15]
  simp -implicitDefEqProofs only [ap_par3, parN_3, add_2, add_l, Bool.not_true, ap_seq, ap_exp, ap_set, ap_ret, ap_par, parN_2, ap_for, ap_seqI, itOf, ap_ifS, ap_mt, ap_ap, ap_op, ap_un, ap_cons, ap_nil, ap_V0, ap_VS, ap_C, ap_tup, ap_lst, ap_lstM, ap_tv, ap_not, ap_notV, notV_bl, R.bind_ok, R.toS_ok, then_nx, then_rt, rest_nx, for_nm, for_nil, sl_1, sl_2, app_1, app_2, ext_1, ext_2, List.set_cons_succ, List.set_cons_zero, List.cons_append, List.nil_append, List.append_nil, List.length_cons, List.length_nil, List.length_append, Nat.reduceAdd, Nat.reduceLeDiff, Option.isSome_some, if_true, k_cons, k_cons2, k_op, k_mt, k_tup, k_lst, k_lstM, k_not, k_if, k_ch1, k_ch2, k_set, k_exp, k_ret, k_ifS, k_put1, k_put2, k_for, rep_nw, add_num, cat_ll, sl_3, add_3, app_3, mul_2, mul_3, mul_4, mul_5, mul_6, mul_7, mul_8, mul_9, E_q_law_right_0_lowered, E_q_law_right_0_word_of, E_q_law_right_0_closest_parts, E_q_law_right_1_row_of_word, E_q_law_right_1_heights_of, E_q_law_right_1_descents_of, E_q_law_right_1_word_size, E_q_law_right_1_depth_of, E_q_law_right_1_drop_of, E_q_law_right_2, E_q_law_right_3, E_q_law_right_4, E_q_law_right_5, E_q_law_right_6, E_q_law_right_7, E_q_law_right_8, E_q_law_right_9, E_q_law_right_10, h_row, h_word, h_letter, h_long]
  rw [tr_law_right_16]
  simp -implicitDefEqProofs only [ap_par3, parN_3, add_2, add_l, Bool.not_true, ap_seq, ap_exp, ap_set, ap_ret, ap_par, parN_2, ap_for, ap_seqI, itOf, ap_ifS, ap_mt, ap_ap, ap_op, ap_un, ap_cons, ap_nil, ap_V0, ap_VS, ap_C, ap_tup, ap_lst, ap_lstM, ap_tv, ap_not, ap_notV, notV_bl, R.bind_ok, R.toS_ok, then_nx, then_rt, rest_nx, for_nm, for_nil, sl_1, sl_2, app_1, app_2, ext_1, ext_2, List.set_cons_succ, List.set_cons_zero, List.cons_append, List.nil_append, List.append_nil, List.length_cons, List.length_nil, List.length_append, Nat.reduceAdd, Nat.reduceLeDiff, Option.isSome_some, if_true, k_cons, k_cons2, k_op, k_mt, k_tup, k_lst, k_lstM, k_not, k_if, k_ch1, k_ch2, k_set, k_exp, k_ret, k_ifS, k_put1, k_put2, k_for, rep_nw, add_num, cat_ll, sl_3, add_3, app_3, mul_2, mul_3, mul_4, mul_5, mul_6, mul_7, mul_8, mul_9, E_q_law_right_0_lowered, E_q_law_right_0_word_of, E_q_law_right_0_closest_parts, E_q_law_right_1_row_of_word, E_q_law_right_1_heights_of, E_q_law_right_1_descents_of, E_q_law_right_1_word_size, E_q_law_right_1_depth_of, E_q_law_right_1_drop_of, E_q_law_right_2, E_q_law_right_3, E_q_law_right_4, E_q_law_right_5, E_q_law_right_6, E_q_law_right_7, E_q_law_right_8, E_q_law_right_9, E_q_law_right_10, h_row, h_word, h_letter, h_long]
  rw [tr_law_right_17]
  simp -implicitDefEqProofs only [ap_par3, parN_3, add_2, add_l, Bool.not_true, ap_seq, ap_exp, ap_set, ap_ret, ap_par, parN_2, ap_for, ap_seqI, itOf, ap_ifS, ap_mt, ap_ap, ap_op, ap_un, ap_cons, ap_nil, ap_V0, ap_VS, ap_C, ap_tup, ap_lst, ap_lstM, ap_tv, ap_not, ap_notV, notV_bl, R.bind_ok, R.toS_ok, then_nx, then_rt, rest_nx, for_nm, for_nil, sl_1, sl_2, app_1, app_2, ext_1, ext_2, List.set_cons_succ, List.set_cons_zero, List.cons_append, List.nil_append, List.append_nil, List.length_cons, List.length_nil, List.length_append, Nat.reduceAdd, Nat.reduceLeDiff, Option.isSome_some, if_true, k_cons, k_cons2, k_op, k_mt, k_tup, k_lst, k_lstM, k_not, k_if, k_ch1, k_ch2, k_set, k_exp, k_ret, k_ifS, k_put1, k_put2, k_for, rep_nw, add_num, cat_ll, sl_3, add_3, app_3, mul_2, mul_3, mul_4, mul_5, mul_6, mul_7, mul_8, mul_9, E_q_law_right_0_lowered, E_q_law_right_0_word_of, E_q_law_right_0_closest_parts, E_q_law_right_1_row_of_word, E_q_law_right_1_heights_of, E_q_law_right_1_descents_of, E_q_law_right_1_word_size, E_q_law_right_1_depth_of, E_q_law_right_1_drop_of, E_q_law_right_2, E_q_law_right_3, E_q_law_right_4, E_q_law_right_5, E_q_law_right_6, E_q_law_right_7, E_q_law_right_8, E_q_law_right_9, E_q_law_right_10, h_row, h_word, h_letter, h_long]
  rw [tr_law_right_18]
  simp -implicitDefEqProofs only [ap_ret, ap_andV, ap_op, ap_V0, ap_VS, R.bind_ok, k_op]
  rw [lc_fine (U := _) (ck := _) rfl rfl (by simp only [List.all_cons, List.all_nil, isWd, Bool.and_self]) (by simp only [List.length_cons, List.length_nil, Nat.reduceAdd, Nat.reduceLeDiff]) (by simp only [List.length_cons, List.length_nil, Nat.reduceAdd, Nat.reduceLT])]
  simp -implicitDefEqProofs only [List.map_cons, List.map_nil, fineW, R.bind_ok]
  rw [eq_cell (T := _) rfl (by repeat (first | exact LayAll.nil | refine LayAll.cons (by first | exact lw_num (by assumption) | exact lw_wd (by decide +kernel) | exact lw_str (by decide +kernel) | exact lw_fine) ?_))]
  simp -implicitDefEqProofs only [R.bind_ok, R.toS_ok, k_ret]
  exact good_rt
end K22

namespace K22
open PySem _root_.L2 FM
def encS (s : En) : A := .tup (s.map fun o => match o with
  | none => .non
  | some a => .tup [a])
theorem enc_inj : ∀ {s t : En}, encS s = encS t → s = t
  | [], [], _ => rfl
  | [], _ :: _, h => by simp [encS] at h
  | _ :: _, [], h => by simp [encS] at h
  | x :: s, y :: t, h => by
    simp -implicitDefEqProofs only [encS, List.map_cons, A.tup.injEq, List.cons.injEq] at h
    have h2 : s = t := enc_inj (by simp only [encS, h.2])
    cases x <;> cases y <;> simp_all
theorem map_lst : ∀ {E D : Cs}, E.map A.lst = D.map A.lst → E = D
  | [], [], _ => rfl
  | [], _ :: _, h => by simp at h
  | _ :: _, [], h => by simp at h
  | x :: E, y :: D, h => by
    simp -implicitDefEqProofs only [List.map_cons, List.cons.injEq, A.lst.injEq] at h
    rw [h.1, map_lst h.2]
def chkN (r : SR) (s : En) (D : Cs) : Bool := match r with
  | .nx t E => beqA (encS t) (encS s) && beqA (.tup (E.map .lst)) (.tup (D.map .lst))
  | _ => false
theorem chk_n {r : SR} {s : En} {D : Cs} (h : chkN r s D = true) : r = .nx s D := by
  cases r with
  | nx t E =>
    simp -implicitDefEqProofs only [chkN, Bool.and_eq_true] at h
    rw [enc_inj (beqA_eq h.1), map_lst (A.tup.inj (beqA_eq h.2))]
  | _ => simp [chkN] at h
def chkR (r : R A) (w : A) (D : Cs) : Bool := match r with
  | .ok y E => beqA y w && beqA (.tup (E.map .lst)) (.tup (D.map .lst))
  | _ => false
theorem chk_r {r : R A} {w : A} {D : Cs} (h : chkR r w D = true) : r = .ok w D := by
  cases r with
  | ok y E =>
    simp -implicitDefEqProofs only [chkR, Bool.and_eq_true] at h
    rw [beqA_eq h.1, map_lst (A.tup.inj (beqA_eq h.2))]
  | ex c p D => simp [chkR] at h
  | bad => simp [chkR] at h
def ones (n : Nat) : A := .tup (List.replicate n (.int 1))
def Rn (n : Nat) : List A := .int 0 :: List.replicate n (.int 1)
def Fn (n : Nat) : List A := List.replicate n (.int 1)
def it1 (i : Nat) : A := .tup [.int ((i : Int) + 1), .int 1]
def pre1 : En → Cs → SR := sSet 2 (xIf (tVal (xOp gEq (xVar 1) (xC (.str "b")))) (xLstM (aCons (xC (.int 0)) aNil)) (xLstM aNil))
def pre2 : En → Cs → SR := sExp (xMtL mExtendB (xVar 2) (aCons (xSl (gSl3 (-1)) (xVar 0) pNo pNo) aNil))
def pre3 : En → Cs → SR := sSet 3 (xLstM aNil)
def pre4 : En → Cs → SR := sSet 4 (xC (.int 0))
def cond : En → Cs → R Bool := tAndF (tVal (xOp gGe (xVar 6) (xVar 4))) (tOrF (tVal (xOp gEq (xOp gAddA (xVar 5) (xC (.int 1))) (xAp kLen (aCons (xVar 2) aNil)))) (tVal (xOp gGt (xOp gIx (xVar 2) (xOp gAddA (xVar 5) (xC (.int 1)))) (xVar 6))))
def thn : En → Cs → SR := sSeq (sExp (xMtL mAppend (xVar 3) (aCons (xOp gAddA (xVar 6) (xC (.int 1))) aNil))) (sSet 4 (xOp gAddA (xVar 6) (xC (.int 2))))
def els : En → Cs → SR := sExp (xMtL mAppend (xVar 3) (aCons (xVar 6) aNil))
def body : En → Cs → SR := sIf cond thn els
def enu : En → Cs → R Wk := itEn (aCons (xVar 2) aNil)
def post : En → Cs → SR := sRet (xAp kTuple (aCons (xSl (gSl3 (-1)) (xVar 3) pNo pNo) aNil))
theorem above_eq : b_row_above = sSeq pre1 (sSeq pre2 (sSeq pre3 (sSeq pre4 (sSeq (sFor (.tp2 (.nm 5) (.nm 6)) enu body) post)))) := rfl
def cI (n : Nat) : Bool := decide ((idxT none none (-1) n).length = n) && (idxT none none (-1) n).all (fun j => decide (j < n)) && decide ((idxL none none (-1) n).length = n) && (idxL none none (-1) n).all fun j => decide (j < n)
def cB (n : Nat) : Bool := beqAs (numbered (Rn n)) (.tup [.int 0, .int 0] :: (List.range' 0 n).map it1)
def cC (n : Nat) : Bool := chkN (body [some (ones n), some (.str "b"), some (.loc 0), some (.loc 1), some (.int 0), some (.int 0), some (.int 0)] [Rn n, []]) [some (ones n), some (.str "b"), some (.loc 0), some (.loc 1), some (.int 2), some (.int 0), some (.int 0)] [Rn n, [.int 1]]
def cE (n : Nat) : Bool := noLocs [ones n, .str "b"]
def cF (n : Nat) : Bool := match goA [Rn n, Fn (n + 1)] 0 (ones (n + 1)) with
  | some y => beqA y (ones (n + 1))
  | none => false
def tst (n : Nat) : Bool := cI n && cB n && cC n && cI (n + 1) && cE n && cF n
def blk (a b : Nat) : Bool := (List.range b).all fun i => tst (a + i)
theorem of_blk {a b n : Nat} (h : blk a b = true) (h1 : a ≤ n) (h2 : n < a + b) : tst n = true := by
  have := List.all_eq_true.mp h (n - a) (List.mem_range.mpr (by omega))
  rwa [show a + (n - a) = n by omega] at this
theorem k_0 : blk 0 150 = true := by decide +kernel
theorem k_1 : blk 150 80 = true := by decide +kernel
theorem k_2 : blk 230 70 = true := by decide +kernel
theorem k_3 : blk 300 50 = true := by decide +kernel
theorem k_4 : blk 350 50 = true := by decide +kernel
theorem tst_ok {n : Nat} (h : n < 400) : tst n = true := by
  by_cases h1 : n < 150
  · exact of_blk k_0 (by omega) (by omega)
  by_cases h2 : n < 230
  · exact of_blk k_1 (by omega) (by omega)
  by_cases h3 : n < 300
  · exact of_blk k_2 (by omega) (by omega)
  by_cases h4 : n < 350
  · exact of_blk k_3 (by omega) (by omega)
  · exact of_blk k_4 (by omega) (by omega)
theorem body_1 {w l a : Option A} {D Y : List A} (hY : Y.length ≤ 1000) : body [w, l, some (.loc 0), some (.loc 1), some (.int 2), a, some (.int 1)] [D, Y] = .nx [w, l, some (.loc 0), some (.loc 1), some (.int 2), a, some (.int 1)] [D, Y ++ [.int 1]] := by
  have hc : cond [w, l, some (.loc 0), some (.loc 1), some (.int 2), a, some (.int 1)] [D, Y] = .ok false [D, Y] := by
    unfold cond
    rw [ap_and]
    have h1 : (tVal (xOp gGe (xVar 6) (xVar 4))) [w, l, some (.loc 0), some (.loc 1), some (.int 2), a, some (.int 1)] [D, Y] = .ok false [D, Y] := by rfl
    rw [h1]
    rfl
  unfold body
  rw [ap_ifS, hc]
  simp -implicitDefEqProofs only [R.toS_ok, k_ifS, Bool.false_eq_true, if_false]
  unfold els
  have ha := app_1 (d := D) (T := Y) (w := A.int 1) (r := []) hY
  simp -implicitDefEqProofs only [ap_exp, ap_mt, ap_cons, ap_nil, ap_VS, ap_V0, R.bind_ok, k_cons, k_cons2]
  show ((mAppend (.loc 1) [.int 1] [D, Y]).toS _ _ : SR) = _
  rw [ha]
  rfl
theorem loop_1 {w l : Option A} {D : List A} : ∀ (m k j : Nat) (a p : Option A), j + m ≤ 1000 → ∃ a' p', forF (.tp2 (.nm 5) (.nm 6)) body (holds 0 D) ((List.range' k m).map it1) [w, l, some (.loc 0), some (.loc 1), some (.int 2), a, p] [D, Fn j] = .nx [w, l, some (.loc 0), some (.loc 1), some (.int 2), a', p'] [D, Fn (j + m)] := by
  intro m
  induction m with
  | zero =>
    intro k j a p h
    refine ⟨a, p, ?_⟩
    show forF _ _ _ [] _ _ = _
    unfold forF
    rw [if_pos (hold_at rfl)]
    rfl
  | succ m ih =>
    intro k j a p h
    obtain ⟨a', p', e⟩ := ih (k + 1) (j + 1) (some (.int ((k : Int) + 1))) (some (.int 1)) (by omega)
    refine ⟨a', p', ?_⟩
    rw [List.range'_succ, List.map_cons]
    unfold forF
    rw [if_pos (hold_at rfl)]
    have hu : (Tgt.tp2 (.nm 5) (.nm 6)).upd (it1 k) = some [(5, .int ((k : Int) + 1)), (6, .int 1)] := rfl
    rw [hu]
    simp -implicitDefEqProofs only [setAll, List.set_cons_succ, List.set_cons_zero]
    rw [body_1 (by rw [Fn, List.length_replicate]; omega)]
    have hF : Fn j ++ [A.int 1] = Fn (j + 1) := by
      unfold Fn
      rw [List.replicate_succ']
    simp -implicitDefEqProofs only [hF]
    rw [e, show j + 1 + m = j + (m + 1) by omega]
theorem seq_as {a b c : En → Cs → SR} : sSeq a (sSeq b c) = sSeq (sSeq a b) c := by
  funext s C
  rw [ap_seq, ap_seq, ap_seq]
  cases a s C <;> rfl
theorem pick_rep {n : Nat} {a : A} : ∀ {js : List Nat}, js.all (fun j => decide (j < n)) = true → pickI (List.replicate n a) js = List.replicate js.length a
  | [], _ => rfl
  | j :: js, h => by
    simp only [List.all_cons, Bool.and_eq_true, decide_eq_true_eq] at h
    have e := pick_rep (a := a) h.2
    unfold pickI at e ⊢
    simp [List.filterMap_cons, h.1, e, List.replicate_succ]
theorem sl_tup {n : Nat} {C : Cs} (hn : n < 400) (h : cI n = true) : gSl3 (-1) (ones n) none none C = .ok (ones n) C := by
  unfold cI at h
  simp only [Bool.and_eq_true, decide_eq_true_eq] at h
  have hb : n ≤ big := Nat.le_trans (Nat.le_of_lt hn) (by decide)
  unfold ones gSl3
  simp only [List.length_replicate, pick_rep h.1.1.2, h.1.1.1, hb, if_true]
theorem sl_ones {n : Nat} {D : List A} (hn : n < 400) (h : cI (n + 1) = true) : gSl3 (-1) (.loc 1) none none [D, Fn (n + 1)] = .ok (.lst (Fn (n + 1))) [D, Fn (n + 1)] := by
  unfold cI at h
  simp only [Bool.and_eq_true, decide_eq_true_eq] at h
  have hb : n + 1 ≤ big := Nat.le_trans (show n + 1 ≤ 400 by omega) (by decide)
  have hl : lstOf (.loc 1) [D, Fn (n + 1)] = some (Fn (n + 1)) := rfl
  unfold gSl3
  simp only [hl]
  unfold Fn
  simp only [List.length_replicate, pick_rep h.2, h.1.2, hb, if_true]
theorem pre_ok {n : Nat} (hn : n < 400) (h : cI n = true) : sSeq pre1 (sSeq pre2 (sSeq pre3 pre4)) [some (ones n), some (.str "b"), none, none, none, none, none] [] = .nx [some (ones n), some (.str "b"), some (.loc 0), some (.loc 1), some (.int 0), none, none] [Rn n, []] := by
  have e1 : pre1 [some (ones n), some (.str "b"), none, none, none, none, none] [] = .nx [some (ones n), some (.str "b"), some (.loc 0), none, none, none, none] [[.int 0]] := by kernel_rfl
  have e2 : pre2 [some (ones n), some (.str "b"), some (.loc 0), none, none, none, none] [[.int 0]] = .nx [some (ones n), some (.str "b"), some (.loc 0), none, none, none, none] [Rn n] := by
    have h1 : xSl (gSl3 (-1)) (xVar 0) pNo pNo [some (ones n), some (.str "b"), some (.loc 0), none, none, none, none] [[.int 0]] = gSl3 (-1) (ones n) none none [[.int 0]] := rfl
    have h2 : mExtendB (.loc 0) [ones n] [[.int 0]] = .ok .non [Rn n] := by
      have hb : 1 + n ≤ big := Nat.le_trans (show 1 + n ≤ 400 by omega) (by decide)
      show (if ([A.int 0].length + (List.replicate n (A.int 1)).length ≤ big) then _ else _) = _
      rw [if_pos (by rw [List.length_replicate]; exact hb)]
      rfl
    unfold pre2
    simp -implicitDefEqProofs only [ap_exp, ap_mt, ap_cons, ap_nil, ap_VS, ap_V0, R.bind_ok, k_cons, k_cons2, k_mt, h1, sl_tup hn h, h2, R.toS_ok, k_exp, sl_0, Option.isSome_some, if_true]
  rw [ap_seq, e1, then_nx, ap_seq, e2, then_nx]
  rfl
theorem above_ones {n : Nat} (h : n < 400) (C : Cs) : m_row_above [ones n, .str "b"] C = .ok (ones (n + 1)) C := by
  have t := tst_ok h
  unfold tst at t
  simp only [Bool.and_eq_true] at t
  obtain ⟨⟨⟨⟨⟨tA, tB⟩, tC⟩, tD⟩, tE⟩, tF⟩ := t
  have eA := pre_ok h tA
  have eB := beqAs_eq tB
  have eC := chk_n tC
  have eD := sl_ones (D := Rn n) h tD
  have hx : runF 5 b_row_above [ones n, .str "b"] [] = .ok (ones (n + 1)) [Rn n, Fn (n + 1)] := by
    unfold runF
    simp -implicitDefEqProofs only [List.map_cons, List.map_nil, List.cons_append, List.nil_append, List.replicate]
    rw [above_eq]
    have ass : ∀ (f : En → Cs → SR), sSeq pre1 (sSeq pre2 (sSeq pre3 (sSeq pre4 f))) = sSeq (sSeq pre1 (sSeq pre2 (sSeq pre3 pre4))) f := fun f => by
      rw [← seq_as, ← seq_as, ← seq_as]
    rw [ass, ap_seq, eA, then_nx, ap_seq, ap_for]
    have eI : enu [some (ones n), some (.str "b"), some (.loc 0), some (.loc 1), some (.int 0), none, none] [Rn n, []] = .ok (numbered (Rn n), holds 0 (Rn n)) [Rn n, []] := rfl
    rw [eI, R.toS_ok, k_for, eB]
    obtain ⟨a', p', e⟩ := loop_1 (w := some (ones n)) (l := some (.str "b")) (D := Rn n) n 0 1 (some (.int 0)) (some (.int 0)) (by omega)
    unfold forF
    rw [if_pos (hold_at rfl)]
    have hu : (Tgt.tp2 (.nm 5) (.nm 6)).upd (.tup [.int 0, .int 0]) = some [(5, .int 0), (6, .int 0)] := rfl
    rw [hu]
    simp -implicitDefEqProofs only [setAll, List.set_cons_succ, List.set_cons_zero]
    rw [eC]
    have f1 : Fn 1 = [A.int 1] := rfl
    rw [f1] at e
    simp -implicitDefEqProofs only
    rw [e, then_nx, show 1 + n = n + 1 by omega]
    have hp : ∀ a' p', post [some (ones n), some (.str "b"), some (.loc 0), some (.loc 1), some (.int 2), a', p'] [Rn n, Fn (n + 1)] = .rt (ones (n + 1)) [Rn n, Fn (n + 1)] := fun a' p' => by
      have h1 : xSl (gSl3 (-1)) (xVar 3) pNo pNo [some (ones n), some (.str "b"), some (.loc 0), some (.loc 1), some (.int 2), a', p'] [Rn n, Fn (n + 1)] = gSl3 (-1) (.loc 1) none none [Rn n, Fn (n + 1)] := rfl
      unfold post
      simp -implicitDefEqProofs only [ap_ret, ap_ap, ap_cons, ap_nil, h1, eD, R.bind_ok, k_cons, k_cons2]
      rfl
    rw [hp]
  have hg : goA [Rn n, Fn (n + 1)] 0 (ones (n + 1)) = some (ones (n + 1)) := by
    unfold cF at tF
    cases eg : goA [Rn n, Fn (n + 1)] 0 (ones (n + 1)) with
    | none => rw [eg] at tF; cases tF
    | some y => rw [eg] at tF; rw [beqA_eq tF]
  show runI 5 b_row_above [ones n, .str "b"] C = _
  unfold runI
  rw [if_pos (show noLocs [ones n, .str "b"] = true from tE), hx]
  simp -implicitDefEqProofs only [FM.letGo, List.take_zero, List.all_nil, if_true, hg, backR_ok]
theorem runF_rt {n : Nat} {b : En → Cs → SR} {as : List A} {C D : Cs} {s : En} {v : A} (hs : as.map some ++ List.replicate n none = s) (h : b s C = .rt v D) : runF n b as C = .ok v D := by
  unfold runF
  rw [hs, h]
theorem go_one {v : A} {C : Cs} (h : goA [] 0 v = some v) : backR C (FM.letGo 0 (.ok v [])) = .ok v C := by
  simp -implicitDefEqProofs only [FM.letGo, List.take_zero, List.all_nil, if_true, h, backR_ok]
def bodyB : En → Cs → SR := sSet 1 (xAp m_row_above (aCons (xVar 1) (aCons (xVar 2) aNil)))
theorem run_b {w : Option A} {C : Cs} : ∀ (m n : Nat) (z : Option A), n + m ≤ 400 → ∃ z', forF (.nm 2) bodyB (fun _ => true) (List.replicate m (.str "b")) [w, some (ones n), z] C = .nx [w, some (ones (n + m)), z'] C := by
  intro m
  induction m with
  | zero => exact fun n z _ => ⟨z, by rw [List.replicate_zero, for_nil]; rfl⟩
  | succ m ih =>
    intro n z hm
    obtain ⟨z', e⟩ := ih (n + 1) (some (.str "b")) (by omega)
    refine ⟨z', ?_⟩
    have st : bodyB [w, some (ones n), some (.str "b")] C = .nx [w, some (ones (n + 1)), some (.str "b")] C := by
      unfold bodyB
      simp -implicitDefEqProofs only [ap_set, ap_ap, ap_cons, ap_nil, ap_VS, ap_V0, R.bind_ok, k_cons, k_cons2, above_ones (show n < 400 by omega), R.toS_ok, k_set, List.set_cons_succ, List.set_cons_zero]
    rw [List.replicate_succ, for_nm]
    simp -implicitDefEqProofs only [List.set_cons_succ, List.set_cons_zero]
    rw [st, rest_nx, e, show n + 1 + m = n + (m + 1) by omega]
def B400 : A := .str (Str.mk (Array.replicate 400 98))
theorem seq_B {C : Cs} : itSeq (xSl (gSl3 (-1)) (xVar 0) pNo pNo) [some B400, some (ones 0), none] C = .ok (List.replicate 400 (.str "b"), fun _ => true) C := by kernel_rfl
def brw3 : En → Cs → SR := sRet (xVar 1)
theorem brw_eq : b_row_with_word = sSeq (sSet 1 (xTup aNil)) (sSeq (sFor (.nm 2) (itSeq (xSl (gSl3 (-1)) (xVar 0) pNo pNo)) bodyB) brw3) := rfl
theorem g_400 : beqA (match goA [] 0 (ones 400) with | some y => y | none => .non) (ones 400) = true := by decide +kernel
theorem goA_400 : goA [] 0 (ones 400) = some (ones 400) := by
  have h := beqA_eq g_400
  cases e : goA [] 0 (ones 400) with
  | none => rw [e] at h; cases h
  | some y => rw [e] at h; rw [show y = ones 400 from h]
theorem with_word (C : Cs) : m_row_with_word [B400] C = .ok (ones 400) C := by
  obtain ⟨z', e⟩ := run_b (w := some B400) (C := []) 400 0 none (by omega)
  have hb : b_row_with_word [some B400, none, none] [] = .rt (ones 400) [] := by
    rw [brw_eq, ap_seq, ap_set]
    have e0 : (xTup aNil) [some B400, none, none] [] = .ok (ones 0) [] := rfl
    rw [e0]
    simp -implicitDefEqProofs only [R.toS_ok, k_set, List.set_cons_succ, List.set_cons_zero, then_nx]
    rw [ap_seq, ap_for, seq_B]
    simp -implicitDefEqProofs only [R.toS_ok, k_for]
    rw [e, then_nx]
    rfl
  have h : runF 2 b_row_with_word [B400] [] = .ok (ones 400) [] := runF_rt (s := [some B400, none, none]) rfl hb
  show runI 2 b_row_with_word [B400] C = _
  unfold runI
  rw [if_pos (by decide +kernel), h]
  exact go_one goA_400
theorem t_check : chkQ (m_check_word [B400] []) .non = true := by decide +kernel
theorem word_400 (C : Cs) : m_row_of_word [B400] C = .ok (ones 400) C := by
  have hb : b_row_of_word [some B400] [] = .rt (ones 400) [] := by
    unfold b_row_of_word
    have h1 : ∀ C, m_check_word [B400] C = .ok .non C := fun C => chk_i t_check
    simp -implicitDefEqProofs only [ap_seq, ap_exp, ap_ap, ap_cons, ap_nil, ap_V0, R.bind_ok, k_cons, k_cons2, h1, R.toS_ok, k_exp, then_nx, ap_ret, with_word, k_ret]
  have h : runF 0 b_row_of_word [B400] [] = .ok (ones 400) [] := runF_rt (s := [some B400]) rfl hb
  show runI 0 b_row_of_word [B400] C = _
  unfold runI
  rw [if_pos (by decide +kernel), h]
  exact go_one goA_400
theorem met_ok {y : A} : calm0 (mt__law_met (.ok y [])) = .ok (.tup [.str "fine"]) [] := by kernel_rfl
theorem fine_of {f : En → Cs → R A} {y : A} {s : En} (h : f (onlyE [] s) [] = .ok y []) : chkQ (isoX [] (xLam mt__law_met f) s []) (.tup [.str "fine"]) = true := by
  unfold isoX xLam
  rw [h, met_ok]
  decide +kernel
theorem e_B {s : En} {C : Cs} : (xOp gMulS (xC (.str "b")) (xC (.int 400))) s C = .ok B400 C := by kernel_rfl
theorem t_qlaw_2 : chkQ (qlaw_2 [none, none, none] []) (.tup [.str "fine"]) = true := by
  refine fine_of (y := ones 400) ?_
  simp -implicitDefEqProofs only [ap_ap, ap_cons, ap_nil, e_B, R.bind_ok, k_cons, k_cons2, word_400]
end K22

namespace K22
open PySem _root_.L2 FM
def bodyL : En → Cs → SR := (sIf (tNotF (tVal (xAp m__law_right (aCons (xAp m__law_dice (aCons (xVar 0) (aCons (xVar 1) aNil))) aNil)))) (sRet (xC (.bl false))) sNext)
def tailL : En → Cs → SR := (sSeq (sSet 2 (xLstM (aCons qlaw_0 aNil))) (sSeq (sExp (xMtL mAppend (xVar 2) (aCons qlaw_1 aNil))) (sSeq (sExp (xMtL mAppend (xVar 2) (aCons qlaw_2 aNil))) (sSeq (sExp (xMtL mAppend (xVar 2) (aCons qlaw_3 aNil))) (sRet (xAndV (xOp gEq (xVar 2) (xOp gMulA (xLst (aCons (xTup (aCons (xC (.str "fine")) aNil)) aNil)) (xC (.int 4)))) (xOp gEq (xC (.int 400)) (xC (.int 400)))))))))
theorem b_law_eq : b_law = sSeq (sFor (.nm 1) (itRange (aCons (xAp kMax (aCons (xC (.int 1)) (aCons (xAp kMin (aCons (xC (.int 4)) (aCons (xAp kLen (aCons (xVar 0) aNil)) aNil))) aNil))) aNil)) bodyL) (isoS [] tailL) := rfl
theorem t_qlaw_0 : chkQ (qlaw_0 [none, none, none] []) (.tup [.str "fine"]) = true := by decide +kernel
theorem E_qlaw_0 {o_0 o_1 o_2 : Option A} {C : Cs} : qlaw_0 [o_0, o_1, o_2] C = .ok (.tup [.str "fine"]) C := chk_q (ent := [none, none, none]) t_qlaw_0 rfl
theorem t_qlaw_1 : chkQ (qlaw_1 [none, none, none] []) (.tup [.str "fine"]) = true := by decide +kernel
theorem E_qlaw_1 {o_0 o_1 o_2 : Option A} {C : Cs} : qlaw_1 [o_0, o_1, o_2] C = .ok (.tup [.str "fine"]) C := chk_q (ent := [none, none, none]) t_qlaw_1 rfl
theorem E_qlaw_2 {o_0 o_1 o_2 : Option A} {C : Cs} : qlaw_2 [o_0, o_1, o_2] C = .ok (.tup [.str "fine"]) C := chk_q (ent := [none, none, none]) t_qlaw_2 rfl
theorem t_qlaw_3 : chkQ (qlaw_3 [none, none, none] []) (.tup [.str "fine"]) = true := by decide +kernel
theorem E_qlaw_3 {o_0 o_1 o_2 : Option A} {C : Cs} : qlaw_3 [o_0, o_1, o_2] C = .ok (.tup [.str "fine"]) C := chk_q (ent := [none, none, none]) t_qlaw_3 rfl
def trT_4 : En → Cs → SR := (sRet (xAndV (xOp gEq (xVar 2) (xOp gMulA (xLst (aCons (xTup (aCons (xC (.str "fine")) aNil)) aNil)) (xC (.int 4)))) (xOp gEq (xC (.int 400)) (xC (.int 400)))))
def trT_3 : En → Cs → SR := sSeq (sExp (xMtL mAppend (xVar 2) (aCons qlaw_3 aNil))) trT_4
def trT_2 : En → Cs → SR := sSeq (sExp (xMtL mAppend (xVar 2) (aCons qlaw_2 aNil))) trT_3
def trT_1 : En → Cs → SR := sSeq (sExp (xMtL mAppend (xVar 2) (aCons qlaw_1 aNil))) trT_2
def trT_0 : En → Cs → SR := sSeq (sSet 2 (xLstM (aCons qlaw_0 aNil))) trT_1
theorem tailL_eq : tailL = trT_0 := rfl
theorem tail_t : chkT (tailL [none, none, none] []) = true := by
  rw [tailL_eq]
  rw [trT_0]
  simp -implicitDefEqProofs only [ap_par3, parN_3, add_2, add_l, Bool.not_true, ap_seq, ap_exp, ap_set, ap_ret, ap_par, parN_2, ap_for, ap_seqI, itOf, ap_ifS, ap_mt, ap_ap, ap_op, ap_un, ap_cons, ap_nil, ap_V0, ap_VS, ap_C, ap_tup, ap_lst, ap_lstM, ap_tv, ap_not, ap_notV, notV_bl, R.bind_ok, R.toS_ok, then_nx, then_rt, rest_nx, for_nm, for_nil, sl_1, sl_2, app_1, app_2, ext_1, ext_2, List.set_cons_succ, List.set_cons_zero, List.cons_append, List.nil_append, List.append_nil, List.length_cons, List.length_nil, List.length_append, Nat.reduceAdd, Nat.reduceLeDiff, Option.isSome_some, if_true, k_cons, k_cons2, k_op, k_mt, k_tup, k_lst, k_lstM, k_not, k_if, k_ch1, k_ch2, k_set, k_exp, k_ret, k_ifS, k_put1, k_put2, k_for, rep_nw, add_num, sl_0, app_0, E_qlaw_0, E_qlaw_1, E_qlaw_2, E_qlaw_3]
  rw [trT_1]
  simp -implicitDefEqProofs only [ap_par3, parN_3, add_2, add_l, Bool.not_true, ap_seq, ap_exp, ap_set, ap_ret, ap_par, parN_2, ap_for, ap_seqI, itOf, ap_ifS, ap_mt, ap_ap, ap_op, ap_un, ap_cons, ap_nil, ap_V0, ap_VS, ap_C, ap_tup, ap_lst, ap_lstM, ap_tv, ap_not, ap_notV, notV_bl, R.bind_ok, R.toS_ok, then_nx, then_rt, rest_nx, for_nm, for_nil, sl_1, sl_2, app_1, app_2, ext_1, ext_2, List.set_cons_succ, List.set_cons_zero, List.cons_append, List.nil_append, List.append_nil, List.length_cons, List.length_nil, List.length_append, Nat.reduceAdd, Nat.reduceLeDiff, Option.isSome_some, if_true, k_cons, k_cons2, k_op, k_mt, k_tup, k_lst, k_lstM, k_not, k_if, k_ch1, k_ch2, k_set, k_exp, k_ret, k_ifS, k_put1, k_put2, k_for, rep_nw, add_num, sl_0, app_0, E_qlaw_0, E_qlaw_1, E_qlaw_2, E_qlaw_3]
  rw [trT_2]
  simp -implicitDefEqProofs only [ap_par3, parN_3, add_2, add_l, Bool.not_true, ap_seq, ap_exp, ap_set, ap_ret, ap_par, parN_2, ap_for, ap_seqI, itOf, ap_ifS, ap_mt, ap_ap, ap_op, ap_un, ap_cons, ap_nil, ap_V0, ap_VS, ap_C, ap_tup, ap_lst, ap_lstM, ap_tv, ap_not, ap_notV, notV_bl, R.bind_ok, R.toS_ok, then_nx, then_rt, rest_nx, for_nm, for_nil, sl_1, sl_2, app_1, app_2, ext_1, ext_2, List.set_cons_succ, List.set_cons_zero, List.cons_append, List.nil_append, List.append_nil, List.length_cons, List.length_nil, List.length_append, Nat.reduceAdd, Nat.reduceLeDiff, Option.isSome_some, if_true, k_cons, k_cons2, k_op, k_mt, k_tup, k_lst, k_lstM, k_not, k_if, k_ch1, k_ch2, k_set, k_exp, k_ret, k_ifS, k_put1, k_put2, k_for, rep_nw, add_num, sl_0, app_0, E_qlaw_0, E_qlaw_1, E_qlaw_2, E_qlaw_3]
  rw [trT_3]
  simp -implicitDefEqProofs only [ap_par3, parN_3, add_2, add_l, Bool.not_true, ap_seq, ap_exp, ap_set, ap_ret, ap_par, parN_2, ap_for, ap_seqI, itOf, ap_ifS, ap_mt, ap_ap, ap_op, ap_un, ap_cons, ap_nil, ap_V0, ap_VS, ap_C, ap_tup, ap_lst, ap_lstM, ap_tv, ap_not, ap_notV, notV_bl, R.bind_ok, R.toS_ok, then_nx, then_rt, rest_nx, for_nm, for_nil, sl_1, sl_2, app_1, app_2, ext_1, ext_2, List.set_cons_succ, List.set_cons_zero, List.cons_append, List.nil_append, List.append_nil, List.length_cons, List.length_nil, List.length_append, Nat.reduceAdd, Nat.reduceLeDiff, Option.isSome_some, if_true, k_cons, k_cons2, k_op, k_mt, k_tup, k_lst, k_lstM, k_not, k_if, k_ch1, k_ch2, k_set, k_exp, k_ret, k_ifS, k_put1, k_put2, k_for, rep_nw, add_num, sl_0, app_0, E_qlaw_0, E_qlaw_1, E_qlaw_2, E_qlaw_3]
  decide +kernel
theorem law_true : ∀ ns : List Int, ns.length ≤ 63 → (∀ z ∈ ns, PySem.Builtin.Int.intBits z ≤ 1048576) → m_law [.kl (ns.map A.int)] [] = .ok (.bl true) [] := by
  intro ns _ _
  have hb : ∀ (k : Int) (s : En) (C : Cs), 0 ≤ k → (∃ o, s = [some (.kl (ns.map A.int)), o, none]) → ∃ s' C', bodyL (s.set 1 (some (.int k))) C = .nx s' C' ∧ ∃ o, s' = [some (.kl (ns.map A.int)), o, none] := by
    rintro k s C hk ⟨o, rfl⟩
    obtain ⟨x, y, hd⟩ := dice_ok (C := C) (ns := ns) (spot := k) hk
    obtain ⟨x', y', z', hr⟩ := good_oneP (n := 8) (b := b__law_right) (C := C ++ [[.int x, .int y, .int 0]]) (j := C.length) (as := []) (x := x) (y := y) (z := 0) (by simp) rfl good_law_right
    have hd' : m__law_dice [.kl (ns.map A.int), .int k] C = .ok (.loc C.length) (C ++ [[.int x, .int y, .int 0]]) := hd
    have hr' : m__law_right [.loc C.length] (C ++ [[.int x, .int y, .int 0]]) = .ok (.bl true) _ := hr
    refine ⟨[some (.kl (ns.map A.int)), some (.int k), none], (C ++ [[A.int x, A.int y, A.int 0]]).set C.length [A.int x', A.int y', A.int z'], ?_, some (.int k), rfl⟩
    simp -implicitDefEqProofs only [bodyL, List.set_cons_succ, List.set_cons_zero, ap_ifS, ap_not, ap_tv, ap_ap, ap_cons, ap_nil, ap_V0, ap_VS, R.bind_ok, k_cons, k_cons2, hd', hr', unB_bl, k_not, Bool.not_true, R.toS_ok, k_ifS, Bool.false_eq_true, if_false, ap_next]
  obtain ⟨m, hr⟩ := range_few (ns := ns) (k := 4) (n := 0) (s := [some (.kl (ns.map A.int)), none, none]) (by decide) rfl
  obtain ⟨s', C', hl, o, rfl⟩ := loop_inv hb ((List.range m).map fun (i : Nat) => (i : Int)) [some (.kl (ns.map A.int)), none, none] [] (fun k hk => by
    obtain ⟨i, _, rfl⟩ := List.mem_map.mp hk
    omega) ⟨none, rfl⟩
  refine law_i (D := C') (by simp [noLocs, noLoc, noLocs_ints]) ?_
  rw [b_law_eq]
  simp only [List.map_cons, List.map_nil, List.cons_append, List.nil_append, List.replicate]
  rw [ap_seq, ap_for, hr, R.toS_ok, k_for, hl, then_nx]
  exact tail_ok (by show chkT (tailL [none, none, none] []) = true; exact tail_t)
end K22

open PySem PySem.W PyProof.Rows
set_option maxRecDepth 100000 in
set_option maxHeartbeats 0 in
theorem PySem.Challenge.cw_hookstrips_k22_errors_of_words_holds : PySem.Challenge.rw_hookstrips_k22_errors_of_words.Holds := by
  w_on; o_law; k_head; (case hw => w_witness2)
  k_fill
  refine FM.walk_g (l := PySem.Challenge.rw_hookstrips_k22_errors_of_words) (n := 63) (k := 18) rfl (by decide) rfl ⟨rfl, by decide, by decide⟩ (fun w h Y => PySem.W.km_in_of Y) ?F
  case F =>
    intro w mg fa h Y KX G hmg
    refine' K22.all_mk KX G hmg ?a8 ?l8 ?cc8 ?k8 ?a18 ?l18 ?cc18 ?k18 ?a20 ?l20 ?cc20 ?k20 ?a22 ?l22 ?cc22 ?k22 ?a24 ?l24 ?cc24 ?k24 ?a30 ?l30 ?cc30 ?k30 ?a32 ?l32 ?cc32 ?k32 ?a39 ?l39 ?cc39 ?k39 ?a40 ?l40 ?cc40 ?k40 ?a42 ?l42 ?cc42 ?k42 ?a9 ?l9 ?cc9 ?k9 ?a19 ?l19 ?cc19 ?k19 ?a26 ?l26 ?cc26 ?k26 ?a28 ?l28 ?cc28 ?k28 ?a41 ?l41 ?cc41 ?k41 ?a14 ?l14 ?cc14 ?k14 ?a27 ?l27 ?cc27 ?k27 ?a29 ?l29 ?cc29 ?k29 ?a31 ?l31 ?cc31 ?k31 ?a33 ?l33 ?cc33 ?k33 ?a34 ?l34 ?cc34 ?k34 ?a35 ?l35 ?cc35 ?k35 ?a13 ?l13 ?cc13 ?k13 ?a15 ?l15 ?cc15 ?k15 ?a21 ?l21 ?cc21 ?k21 ?a23 ?l23 ?cc23 ?k23 ?a25 ?l25 ?cc25 ?k25 ?a36 ?l36 ?cc36 ?k36 ?a37 ?l37 ?cc37 ?k37 ?a43 ?l43 ?cc43 ?k43 ?co43 ?v1143 ?nt43 ?rc43 ?a44 ?l44 ?cc44 ?k44 ?co44 ?v1144 ?nt44 ?rc44 ?ne44_43 ?aC0 ?kC0 ?eC0 ?tC0 ?iC0 ?xC0 ?aC1 ?kC1 ?eC1 ?tC1 ?iC1 ?xC1 ?aC2 ?kC2 ?eC2 ?tC2 ?iC2 ?xC2 ?aC3 ?kC3 ?eC3 ?tC3 ?iC3 ?xL3 ?sa3 ?ga3 ?gg3 ?nb3 ?ai3 ?ti3 ?li3 ?ci3 ?hC3 ?st0 ?st1 ?st2 ?st3 ?s0_0 ?s0_1 ?s0_2 ?s0_3 ?s1_0 ?s1_1 ?s1_2 ?s1_3 ?s2_0 ?s2_1 ?s2_2 ?s2_3 ?s3_0 ?s3_1 ?s3_2 ?s3_3 ?z_abs ?z_all ?z_bool ?z_enumerate ?z_int ?z_isinstance ?z_len ?z_list ?z_max ?z_min ?z_range ?z_repr ?z_str ?z_sum ?z_tuple ?z_zip ?g_MAX_PART ?g_MAX_PARTS ?g_MOST_INTEGER ?g_MOST_LETTERS K22.law_true
    (case a8 => k_is); (case l8 => k_is); (case cc8 => k_is); (case k8 => k_is); (case a18 => k_is); (case l18 => k_is); (case cc18 => k_is); (case k18 => k_is); (case a20 => k_is); (case l20 => k_is); (case cc20 => k_is); (case k20 => k_is); (case a22 => k_is); (case l22 => k_is); (case cc22 => k_is); (case k22 => k_is); (case a24 => k_is); (case l24 => k_is); (case cc24 => k_is); (case k24 => k_is); (case a30 => k_is); (case l30 => k_is); (case cc30 => k_is); (case k30 => k_is); (case a32 => k_is); (case l32 => k_is); (case cc32 => k_is); (case k32 => k_is); (case a39 => k_is); (case l39 => k_is); (case cc39 => k_is); (case k39 => k_is); (case a40 => k_is); (case l40 => k_is); (case cc40 => k_is); (case k40 => k_is); (case a42 => k_is); (case l42 => k_is); (case cc42 => k_is); (case k42 => k_is); (case a9 => k_is); (case l9 => k_is); (case cc9 => k_is); (case k9 => k_is); (case a19 => k_is); (case l19 => k_is); (case cc19 => k_is); (case k19 => k_is); (case a26 => k_is); (case l26 => k_is); (case cc26 => k_is); (case k26 => k_is); (case a28 => k_is); (case l28 => k_is); (case cc28 => k_is); (case k28 => k_is); (case a41 => k_is); (case l41 => k_is); (case cc41 => k_is); (case k41 => k_is); (case a14 => k_is); (case l14 => k_is); (case cc14 => k_is); (case k14 => k_is); (case a27 => k_is); (case l27 => k_is); (case cc27 => k_is); (case k27 => k_is); (case a29 => k_is); (case l29 => k_is); (case cc29 => k_is); (case k29 => k_is); (case a31 => k_is); (case l31 => k_is); (case cc31 => k_is); (case k31 => k_is); (case a33 => k_is); (case l33 => k_is); (case cc33 => k_is); (case k33 => k_is); (case a34 => k_is); (case l34 => k_is); (case cc34 => k_is); (case k34 => k_is); (case a35 => k_is); (case l35 => k_is); (case cc35 => k_is); (case k35 => k_is); (case a13 => k_is); (case l13 => k_is); (case cc13 => k_is); (case k13 => k_is); (case a15 => k_is); (case l15 => k_is); (case cc15 => k_is); (case k15 => k_is); (case a21 => k_is); (case l21 => k_is); (case cc21 => k_is); (case k21 => k_is); (case a23 => k_is); (case l23 => k_is); (case cc23 => k_is); (case k23 => k_is); (case a25 => k_is); (case l25 => k_is); (case cc25 => k_is); (case k25 => k_is); (case a36 => k_is); (case l36 => k_is); (case cc36 => k_is); (case k36 => k_is); (case a37 => k_is); (case l37 => k_is); (case cc37 => k_is); (case k37 => k_is); (case a43 => k_is); (case l43 => k_is); (case cc43 => k_is); (case k43 => k_is); (case co43 => k_is); (case v1143 => rfl); (case nt43 => first | rfl | decide +kernel); (case rc43 => first | rfl | decide +kernel); (case a44 => k_is); (case l44 => k_is); (case cc44 => k_is); (case k44 => k_is); (case co44 => k_is); (case v1144 => rfl); (case nt44 => first | rfl | decide +kernel); (case rc44 => first | rfl | decide +kernel); (case ne44_43 => decide); (case aC0 => k_is); (case kC0 => k_is); (case eC0 => k_is); (case tC0 => k_is); (case iC0 => k_is); (case xC0 => k_exc); (case aC1 => k_is); (case kC1 => k_is); (case eC1 => k_is); (case tC1 => k_is); (case iC1 => k_is); (case xC1 => k_exc); (case aC2 => k_is); (case kC2 => k_is); (case eC2 => k_is); (case tC2 => k_is); (case iC2 => k_is); (case xC2 => k_exc); (case aC3 => k_is); (case kC3 => k_is); (case eC3 => k_is); (case tC3 => k_is); (case iC3 => k_is); (case xL3 => k_is); (case sa3 => k_is); (case ga3 => k_is); (case gg3 => k_is); (case nb3 => k_is); (case ai3 => k_is); (case ti3 => k_is); (case li3 => k_is); (case ci3 => k_is); (case hC3 => k_is); (case st0 => first | rfl | k_is); (case st1 => first | rfl | k_is); (case st2 => first | rfl | k_is); (case st3 => first | rfl | k_is); (case s0_0 => first | rfl | k_is); (case s0_1 => first | rfl | k_is); (case s0_2 => first | rfl | k_is); (case s0_3 => first | rfl | k_is); (case s1_0 => first | rfl | k_is); (case s1_1 => first | rfl | k_is); (case s1_2 => first | rfl | k_is); (case s1_3 => first | rfl | k_is); (case s2_0 => first | rfl | k_is); (case s2_1 => first | rfl | k_is); (case s2_2 => first | rfl | k_is); (case s2_3 => first | rfl | k_is); (case s3_0 => first | rfl | k_is); (case s3_1 => first | rfl | k_is); (case s3_2 => first | rfl | k_is); (case s3_3 => first | rfl | k_is); (case z_abs => k_is); (case z_all => k_is); (case z_bool => k_is); (case z_enumerate => k_is); (case z_int => k_is); (case z_isinstance => k_is); (case z_len => k_is); (case z_list => k_is); (case z_max => k_is); (case z_min => k_is); (case z_range => k_is); (case z_repr => k_is); (case z_str => k_is); (case z_sum => k_is); (case z_tuple => k_is); (case z_zip => k_is); (case g_MAX_PART => k_is); (case g_MAX_PARTS => k_is); (case g_MOST_INTEGER => k_is); (case g_MOST_LETTERS => k_is)

