import PyProof.Rows.All
import Wide.All
import OpenK.AllK
import Wide.FinOn
import HandS.ForMost
import HandS.TupAny
import HandS.TupMul
import KE.DataFind
import HandS.Exc
import HandS.Walk
import PyProof.EqKinds
import KE.KEqDict
import HandS.Deep
import HandS.IsInst
import HandS.Style
import HandS.SortInts
import HandS.Iter
import HandS.Zip
import KE.GoesEnum
import KE.GoesMore
import KE.KTupSum
import HandS.SetFor
import HandS.Strs
import HandS.Conv
import HandS.TryOnly
import PyProof.DictTable
import KE.KDictDisplayH
import PySem.Challenge.RW_chairwalks_k18_fewest_chairs_found
set_option Elab.async false
set_option linter.all false
set_option maxRecDepth 100000

/-! Tuples whose object is known (a plain tuple, no dict of its own): so a method of them may be called. -/
namespace Dl
open PySem PySem.Spec PyProof.Rows L2
theorem tmul_same (l : Addr) (items : Array Value) (n : Nat) (dd : Option Addr) (sl : Array (Option Value)) (x : Int) (u : Tok) (c0 : (decide (x < -(2 ^ 63)) || decide (x ≥ 2 ^ 63)) = false) (c1 : (items.isEmpty || x == 1) = true) :
    Meets (Builtin.«tuple.__mul__» ⟨[.ref l, .int x u], []⟩) (fun _ R s => s.heap.get? l = some { cls := .type "tuple", dict := dd, data := .seq items n, slots := sl } ∧ R (.ok (.ret (Value.ref l))) s) :=
  .of_wp fun prog w A R s h => by
    obtain ⟨hp, g, d, tk, os⟩ := s
    obtain ⟨hl, h⟩ := h
    have f1 := AutoSeq1.idx_int
    wp_walk using wpAny_loadPart' hl
    repeat (first
      | (refine wpAny_ite_false (decide_eq_false (by rw [c0]; exact Bool.false_ne_true)) ?_; wp_walk using wpAny_loadPart' hl)
      | (refine wpAny_ite_true (decide_eq_true (by rw [c1])) ?_; wp_walk using wpAny_loadPart' hl))
    all_goals exact ⟨_, rfl, h⟩
theorem tmul_none (l : Addr) (items : Array Value) (n : Nat) (dd : Option Addr) (sl : Array (Option Value)) (x : Int) (u : Tok) (c0 : (decide (x < -(2 ^ 63)) || decide (x ≥ 2 ^ 63)) = false) (c1 : (items.isEmpty || x == 1) = false) (c2 : (decide (x ≤ 0) || items.isEmpty) = true) :
    Meets (Builtin.«tuple.__mul__» ⟨[.ref l, .int x u], []⟩) (fun _ R s => s.heap.get? l = some { cls := .type "tuple", dict := dd, data := .seq items n, slots := sl } ∧
      R (.ok (.ret (Value.ref s.heap.objs.size))) { s with heap := s.heap.push { cls := Value.type "tuple", data := Data.seq #[] }, toks := s.toks }) :=
  .of_wp fun prog w A R s h => by
    obtain ⟨hp, g, d, tk, os⟩ := s
    obtain ⟨hl, h⟩ := h
    have f1 := AutoSeq1.idx_int
    wp_walk using wpAny_loadPart' hl
    repeat (first
      | (refine wpAny_ite_false (decide_eq_false (by rw [c0]; exact Bool.false_ne_true)) ?_; wp_walk using wpAny_loadPart' hl)
      | (refine wpAny_ite_false (decide_eq_false (by rw [c1]; exact Bool.false_ne_true)) ?_; wp_walk using wpAny_loadPart' hl)
      | (refine wpAny_ite_true (decide_eq_true (by rw [c2])) ?_; wp_walk using wpAny_loadPart' hl))
    all_goals exact ⟨_, rfl, h⟩
/-- the tuple at a is known -/
def KnT (H : Hp) (a : Addr) (xs : List V) : Prop := ∃ o : Obj, H a = some (.frz o (.tup xs)) ∧ o.cls = .type "tuple" ∧ o.dict = none
/-- what a rule that makes a tuple hands on -/
def NewT (H : Hp) (xs : List V) (Q : VK) : Prop := ∀ (p : Addr) (o : Obj), H p = none → o.cls = .type "tuple" → o.dict = none → Q (.ref p) (upd H p (.frz o (.tup xs)))
theorem KnT.sq {K : PySem.W.Frag} {H : Hp} {a : Addr} {xs : List V} (h : KnT H a xs) : SqT K H a xs := by
  obtain ⟨ob, q, _, _⟩ := h
  exact .inl (.inr ⟨ob, q⟩)
section
variable {X : Cx} {pins : List (Addr × Obj)} {σ : L2.St} {H : Hp} {s : Shared}
theorem ep_newT (I : Inv X pins σ H s) {xs : List V} {its : List Value} (z : xs.length ≤ sizeLine) (r : Vals xs its) {k : Nat} {Q : VK} (q : NewT H xs Q) :
    EP X pins σ Q (.ref s.heap.objs.size) { s with heap := s.heap.push { cls := .type "tuple", data := .seq its.toArray }, toks := k } := by
  have nf : H s.heap.objs.size = none := I.hok.fresh (Nat.le_refl _)
  refine ⟨.ref s.heap.objs.size, upd H s.heap.objs.size (.frz { cls := .type "tuple", data := .seq its.toArray } (.tup xs)), ?_, rfl, q _ _ nf rfl rfl⟩
  refine I.laid (t' := k) (fun b ob e => Heap.get?_push_of_some _ e) (Nat.le_refl _) ⟨Heap.get?_push_size _ rfl, z, its, r, ?_⟩
  exact IsTup.new _ _
end
section
variable {X : Cx}
/-- (a, b, ..) -/
theorem pe_tupK {es : List Expr} {t : TA} {pos : Pos} {x1} (ha : PA X es t) : PE X (.Tuple es x1 pos) (fun σ H Q => t σ H fun xs H1 => xs.length ≤ sizeLine ∧ NewT H1 xs Q) :=
  ⟨fun pins s σ H Q I hq => wpAny_Tuple_spliced (thn (ha.run pos pins s σ H _ I hq) fun us s1 ⟨xs, H1, I1, rv, hz, q⟩ => by
    refine ⟨?_, ep_newT I1 hz rv q⟩
    rw [← rv.length]
    exact hz)⟩
/-- t + u -/
theorem op_catK : OpR X (binaryOp .Add) (fun x y H Q => ∃ a b xs ys, x = .ref a ∧ y = .ref b ∧ SqT X.K H a xs ∧ SqT X.K H b ys ∧ xs.length + ys.length ≤ sizeLine ∧
    (xs = [] → Q (.ref b) H) ∧ (xs ≠ [] → ys = [] → Q (.ref a) H) ∧ (xs ≠ [] → ys ≠ [] → NewT H (xs ++ ys) Q)) := by
  intro pins s σ H x y v u Q I rx ry ⟨a, b, xs, ys, ex, ey, ha, hb, hz, q0, q1, q2⟩
  subst ex ey
  cases rx
  cases ry
  obtain ⟨us, ra, pa, _⟩ := I.tuple ha
  obtain ⟨ws, rb, pb, _⟩ := I.tuple hb
  by_cases hx : xs = []
  · subst hx
    cases ra
    exact cat_tup0 pa pb ⟨.ref b, H, I, rfl, q0 rfl⟩
  · refine HT.cat_tup pa pb (fun e => hx (ra.nil_iff.mp e)) (fun e => ⟨.ref a, H, I, rfl, q1 hx (rb.nil_iff.mp e)⟩) (fun e => ?_) ?_
    · exact ep_newT I (by rw [List.length_append]; exact hz) (ra.append rb) (q2 hx fun w => e (rb.nil_iff.mpr w))
    · rw [← ra.length, ← rb.length]
      exact hz
/-- t[lo:hi] -/
theorem sl_tupK : SlR X (fun x lo hi H Q => ∃ a xs, x = .ref a ∧ SqT X.K H a xs ∧ (HT.sIx xs.length 0 lo = 0 ∧ HT.sIx xs.length xs.length hi = xs.length → Q (.ref a) H) ∧
    (¬ (HT.sIx xs.length 0 lo = 0 ∧ HT.sIx xs.length xs.length hi = xs.length) → NewT H (cutV xs lo hi) Q)) := by
  intro pins s σ H x v vl vu lo hi sl Q I rx hs pl pu ⟨a, xs, ex, hx, q1, q2⟩
  subst ex
  cases rx
  obtain ⟨us, ra, pa, hz⟩ := I.tuple hx
  have el : us.toArray.size = xs.length := List.size_toArray.trans ra.length.symm
  refine ⟨"tuple", _, PyProof.Rows.slot_tuple_getitem.lookup, pa.typeIs, ?_⟩
  by_cases hw : HT.sIx xs.length 0 lo = 0 ∧ HT.sIx xs.length xs.length hi = xs.length
  · exact getItem_tuple_whole pa hs pl pu (by rw [el]; exact hw) ⟨.ref a, H, I, rfl, q1 hw⟩
  · refine HT.getItem_tuple_cut pa hs pl pu (by rw [el]; exact hw) ?_ (by rw [el]; exact hz)
    rw [el]
    exact ep_newT I (k := s.toks) (xs := cutV xs lo hi) (Nat.le_trans (cutV_length xs lo hi) hz) ((ra.drop _).take _) (q2 hw)
/-- tuple(xs) -/
theorem call_tupK : CallR X (.type "tuple") (fun xs H Q => ∃ p ys, xs = [.ref p] ∧ ((SqL X.K H p ys ∧ NewT H ys Q) ∨ (SqT X.K H p ys ∧ Q (.ref p) H))) := by
  intro pins s σ H xs us Q I r ⟨p, ys, ex, h⟩
  subst ex
  obtain ⟨u, eu, rx⟩ := vals1 r
  subst eu
  cases rx
  rcases h with ⟨hq, q⟩ | ⟨hq, q⟩
  · obtain ⟨its, rl, pl, hz⟩ := I.list hq
    refine call_tuple_list pl.isList (fun h' kp => ?_) ?_
    · exact ep_newT (I.kept (t' := s.toks) (h' := h') kp) hz rl q
    · have := rl.length
      rw [List.size_toArray]
      omega
  · obtain ⟨its, _, pl, _⟩ := I.tuple hq
    exact call_tuple_same pl ⟨.ref p, H, I, rfl, q⟩
/-- t.m(..): t known -/
def tBMT (r : V → List V → Hp → VK → Prop) (to : TE) (t : TA) : TE := fun σ H Q => to σ H fun x H1 => (∃ p xs, x = .ref p ∧ KnT H1 p xs) ∧ t σ H1 fun xs H2 => r x xs H2 Q
theorem pe_bmT {o e : Expr} {es : List Expr} {to : TE} {t : TA} {name : Str} {apos cpos : Pos} {id : String} {r : V → List V → Hp → VK → Prop} (slot : Slot "tuple" name id) (hty : typeOf (.builtin id) = pure (.type "method_descriptor")) (hm : MtR X id r) (ho : PE X o to) (ha : PA X (e :: es) t)
    (hbase : attributeBase o name X.env (eval o X.env) = eval o X.env := by rfl)
    (hfew : ((backTo cpos (starEach (e :: es) X.env)).all (fun a => !a.1) && (backToKw cpos (keywordEach [] X.env)).all (fun a => a.1.isSome) && decide ((e :: es).length + ([] : List Keyword).length + (if ([] : List Keyword).isEmpty then 0 else 1) < 30)) = true := by rfl)
    (hline : (apos.endLine == cpos.line) = true := by rfl) (hs : starEach (e :: es) X.env = (false, eval e X.env) :: starEach es X.env := by rfl)
    (hplain : (backTo cpos (starEach es X.env)).any (·.1) = false := by rfl) : PE X (.Call (.Attribute o name apos) (e :: es) [] cpos) (tBMT r to t) :=
  ⟨fun pins s σ H Q I h => wpAny_Call_method_late hbase hfew hline rfl (thn (ho.run pins s σ H _ I h) fun v s1 ⟨x, H1, I1, r1, ⟨p, xs, ex, ob, ek, ec, ed⟩, q1⟩ => by
    subst ex
    cases r1
    have eg : s1.heap.get? p = some ob := (I1.hok p _ ek).1
    refine ⟨"tuple", id, PySem.F.plainAttrs_tuple, slot, hty, ⟨ob, eg, ec⟩, fun a e => (by cases e; exact ⟨ob, eg, ed⟩), ?_⟩
    have hA := ha.run cpos pins s1 σ H1 _ I1 q1
    rw [hs] at hA ⊢
    refine Calls.callWith_builtin ?_ (Calls.evalArgs_plain (thn hA fun us s2 ⟨vs, H2, I2, r2, q2⟩ => hm pins s2 σ H2 (.ref p) vs _ us Q I2 rfl r2 q2))
    show (false || (backTo cpos (starEach es X.env)).any (·.1)) = false
    rw [hplain]
    rfl)⟩
/-- t * k -/
theorem op_repK : OpR X (binaryOp .Mult) (fun x y H Q => ∃ l k xs, x = .ref l ∧ y = .int k ∧ SqT X.K H l xs ∧ xs.length ≤ 1000 ∧ -(2 ^ 63) ≤ k ∧ k ≤ 1000 ∧
    (xs = [] ∨ k = 1 → Q (.ref l) H) ∧ (¬ (xs = [] ∨ k = 1) → NewT H (List.replicate k.toNat xs).flatten Q)) := by
  intro pins s σ H x y v u Q I rx ry ⟨l, k, xs, ex, ey, hT, hz, k1, k2, q1, q2⟩
  subst ex ey
  cases rx
  obtain ⟨t, rfl⟩ := ry
  obtain ⟨its, r, ⟨⟨cls, dd, data, sl⟩, ho, hc, n, hd⟩, hs⟩ := I.tuple hT
  simp only at hc hd
  subst hc hd
  have em : its.toArray.isEmpty = xs.isEmpty := by cases r <;> rfl
  have el : its.toArray.size = xs.length := List.size_toArray.trans r.length.symm
  have c0 : (decide (k < -(2 ^ 63)) || decide (k ≥ 2 ^ 63)) = false := by
    rw [decide_eq_false (by omega), decide_eq_false (by omega)]
    rfl
  have go : ∀ {R : Value → Shared → Prop}, wpAny (model X.prog X.w) X.A (call (.builtin "tuple.__mul__") [.ref l, .int k t]) R X.xe s → wpAny (model X.prog X.w) X.A (binaryOp .Mult (.ref l) (.int k t)) R X.xe s := fun h =>
    wpAny_binaryOp_repeat_ref (T := "tuple") (U := "int") (by decide) ⟨_, ho, rfl⟩ (fun s' => typeIs_int s' k t) noFill_tuple_mul F.fills_int_mul F.slot_int_rmul repeat_tuple F.slot_int_index.lookup
      (call_meets F.slot_int_rmul (typeIs_int s k t) F.entry_int_rmul (F.args_int_rmul_2 _ _) (int_rmul_tuple k t l its.toArray n dd sl) ⟨ho, rfl, ⟨_, ho, rfl⟩, h⟩)
  by_cases hk : xs = [] ∨ k = 1
  · have c1 : (its.toArray.isEmpty || k == 1) = true := by
      rw [em]
      rcases hk with h | h
      · subst h; rfl
      · subst h; simp
    exact go (call_meets F.slot_tuple_mul ⟨_, ho, rfl⟩ F.entry_tuple_mul (F.args_tuple_mul_2 _ _) (tmul_same l its.toArray n dd sl k t c0 c1) ⟨ho, .ref l, H, I, rfl, q1 hk⟩)
  have c1 : (its.toArray.isEmpty || k == 1) = false := by
    rw [em]
    cases xs with
    | nil => exact absurd (.inl rfl) hk
    | cons a b =>
      show (false || k == 1) = false
      rw [Bool.false_or]
      exact beq_eq_false_iff_ne.mpr fun e => hk (.inr e)
  have i0 : its.toArray.isEmpty = false := by
    cases hi : its.toArray.isEmpty with
    | false => rfl
    | true => rw [hi] at c1; cases c1
  by_cases h0 : k ≤ 0
  · have c2 : (decide (k ≤ 0) || its.toArray.isEmpty) = true := by rw [decide_eq_true h0]; rfl
    have e0 : (List.replicate k.toNat xs).flatten = [] := by
      have : k.toNat = 0 := by omega
      rw [this]
      rfl
    have q3 := q2 hk
    rw [e0] at q3
    exact go (call_meets F.slot_tuple_mul ⟨_, ho, rfl⟩ F.entry_tuple_mul (F.args_tuple_mul_2 _ _) (tmul_none l its.toArray n dd sl k t c0 c1 c2) ⟨ho, ep_newT I (k := s.toks) (its := []) (Nat.zero_le _) .nil q3⟩)
  have c2 : (decide (k ≤ 0) || its.toArray.isEmpty) = false := by
    rw [i0, decide_eq_false h0]
    rfl
  have bound : k.toNat * xs.length ≤ 1000000 := Nat.le_trans (Nat.mul_le_mul (show k.toNat ≤ 1000 by omega) hz) (by decide)
  have hm : ((its.toArray.size : Nat) : Int) * k ≤ 1000000 := by
    have e1 : ((xs.length : Nat) : Int) * k = ((k.toNat * xs.length : Nat) : Int) := by
      rw [Nat.mul_comm, Int.natCast_mul, Int.toNat_of_nonneg (by omega)]
    rw [el, e1]
    omega
  have c4 : Builtin.Tuple.tupleTooMany (((its.toArray.size : Nat) : Int) * k) = false := by
    unfold Builtin.Tuple.tupleTooMany
    rw [sizeLine_eq, el, decide_eq_false]
    have e1 : ((xs.length : Nat) : Int) * k = ((k.toNat * xs.length : Nat) : Int) := by
      rw [Nat.mul_comm, Int.natCast_mul, Int.toNat_of_nonneg (by omega)]
    omega
  have flen : (List.replicate k.toNat its).flatten.length ≤ sizeLine := by
    rw [PyProof.Rows.lm_len_rep_flat, r.length.symm, sizeLine_eq]
    omega
  refine go (call_meets F.slot_tuple_mul ⟨_, ho, rfl⟩ F.entry_tuple_mul (F.args_tuple_mul_2 _ _)
    (tuple_mulW l its.toArray n dd sl k t c0 c1 c2 (by omega) c4 (by rw [size_rep, List.size_toArray]; exact flen)) ⟨ho, ?_⟩)
  rw [size_rep]
  refine ep_newT I (k := s.toks) ?_ (r.rep k.toNat) (q2 hk)
  rw [PyProof.Rows.lm_len_rep_flat, sizeLine_eq]
  omega
 end
end Dl

/-! The frozen part of the heap: what no longer changes, and which object has which number. -/
namespace Dl
open PySem PySem.Spec L2

/-- a mark: an object that no longer changes; the object with a number, which may change -/
inductive Mk1 where
  | obj (o : HO)
  | num (n : Nat)
abbrev Fz := Addr → Option Mk1
def updF (F : Fz) (a : Addr) (o : HO) : Fz := fun b => if b = a then some (.obj o) else F b
def numF (F : Fz) (a : Addr) (n : Nat) : Fz := fun b => if b = a then some (.num n) else F b
section
variable {F : Fz} {a b : Addr} {o : HO} {n : Nat}
theorem updF_same : updF F a o a = some (.obj o) := by unfold updF; rw [if_pos rfl]
theorem updF_ne (h : b ≠ a) : updF F a o b = F b := by unfold updF; rw [if_neg h]
theorem numF_same : numF F a n a = some (.num n) := by unfold numF; rw [if_pos rfl]
theorem numF_ne (h : b ≠ a) : numF F a n b = F b := by unfold numF; rw [if_neg h]
end
def Sub (F F' : Fz) : Prop := ∀ b m, F b = some m → F' b = some m
theorem Sub.refl (F : Fz) : Sub F F := fun _ _ h => h
theorem Sub.trans {F F1 F2 : Fz} (a : Sub F F1) (b : Sub F1 F2) : Sub F F2 := fun c o h => b c o (a c o h)
theorem Sub.free {F F' : Fz} (e : Sub F F') {l : Addr} (h : F' l = none) : F l = none := by
  cases q : F l with
  | none => rfl
  | some o => rw [e _ _ q] at h; cases h
structure Into (F : Fz) (H : Hp) : Prop where
  obj : ∀ b o, F b = some (.obj o) → H b = some o
  num : ∀ b n, F b = some (.num n) → H b ≠ none
instance {F : Fz} {H : Hp} : CoeFun (Into F H) (fun _ => ∀ b o, F b = some (.obj o) → H b = some o) := ⟨Into.obj⟩
theorem Into.free {F : Fz} {H : Hp} (e : Into F H) {l : Addr} (h : H l = none) : F l = none := by
  cases q : F l with
  | none => rfl
  | some o =>
    cases o with
    | obj o => rw [e.obj _ _ q] at h; cases h
    | num n => exact absurd h (e.num _ _ q)
theorem Sub.into {F F1 : Fz} {H : Hp} (a : Sub F F1) (b : Into F1 H) : Into F H := ⟨fun c o h => b.obj c o (a c _ h), fun c n h => b.num c n (a c _ h)⟩
/-- the tuple at a is known -/
def KnF (F : Fz) (a : Addr) (xs : List V) : Prop := ∃ o : Obj, F a = some (.obj (.frz o (.tup xs))) ∧ o.cls = .type "tuple" ∧ o.dict = none
theorem KnF.up {F F' : Fz} {a : Addr} {xs : List V} (e : Sub F F') (h : KnF F a xs) : KnF F' a xs := by
  obtain ⟨o, q, r⟩ := h
  exact ⟨o, e _ _ q, r⟩
theorem KnF.kn {F : Fz} {H : Hp} {a : Addr} {xs : List V} (e : Into F H) (h : KnF F a xs) : KnT H a xs := by
  obtain ⟨o, q, r⟩ := h
  exact ⟨o, e _ _ q, r⟩
theorem KnF.sq {F : Fz} {H : Hp} {K : PySem.W.Frag} {a : Addr} {xs : List V} (e : Into F H) (h : KnF F a xs) : SqT K H a xs := (h.kn e).sq
end Dl

/-! The data layer, the deck: where its lists lie. -/
namespace Dl
open PySem PySem.Spec L2

/-- the deck [cells, count, rests]; cs: the cells, then the rests -/
def DeckAt (F : Fz) (H : Hp) (dp dc : Addr) (cs : List Int) (n : Int) : Prop :=
  dp ≠ dc ∧ (∃ (a : Addr) (cells rests : List Int), cs = cells ++ rests ∧ cells.length = rests.length ∧ H dp = some (.lst [.ref a, .int n, .ref dc]) ∧ H dc = some (.lst (rests.map V.int)) ∧ F a = some (.obj (.lst (cells.map V.int)))) ∧ F dp = none ∧ F dc = none
section
variable {F F' : Fz} {H H' : Hp} {dp dc : Addr} {cs : List Int} {n : Int}
theorem DeckAt.no (d : DeckAt F H dp dc cs n) : dp ≠ dc ∧ (∃ o, H dp = some o) ∧ (∃ o, H dc = some o) ∧ F dp = none ∧ F dc = none := by
  obtain ⟨ne, ⟨a, cells, rests, e, l, h1, h2, h3⟩, f1, f2⟩ := d
  exact ⟨ne, ⟨_, h1⟩, ⟨_, h2⟩, f1, f2⟩
/-- the deck stays where nothing of it changes -/
theorem DeckAt.up (d : DeckAt F H dp dc cs n) (s : Sub F F') (k1 : ∀ o, H dp = some o → H' dp = some o) (k2 : ∀ o, H dc = some o → H' dc = some o) (f1 : F' dp = none) (f2 : F' dc = none) : DeckAt F' H' dp dc cs n := by
  obtain ⟨ne, ⟨a, cells, rests, e, l, h1, h2, h3⟩, _, _⟩ := d
  exact ⟨ne, ⟨a, cells, rests, e, l, k1 _ h1, k2 _ h2, s _ _ h3⟩, f1, f2⟩
end
end Dl

/-! The data layer, part 1: what data a value stands for, the state of a def in data, what an expression and a statement are worth in data. -/
namespace Dl
open PySem PySem.Spec L2

abbrev D := PyData
def keyD : L2.Key → D
  | .inl i => .int i
  | .inr x => .str x
/-- an object with a number (a cell of the store), as data -/
def refD (n : Nat) : D := .dict [(.none, .int n)]

/-- a dict whose keys are tuples of numbers, by its own object: the keys, where their tuples lie, the values -/
def dctHO (P : Program) (w : World) (a : Addr) (xs : List (List L2.Key × Addr × Value)) (ep : Nat) : HO := .ext fun h => (a == sysModules) = false ∧ xs.length ≤ sizeLine ∧ (xs.map (·.1)).Nodup ∧
  ∃ o es, h.get? a = some o ∧ o.ExactDict ∧ o.data = .dict es ep ∧ es.toList = xs.map (entryOfKey (tupleKind (mixKind P w)))
/-! ### values and the data that they stand for -/
mutual
inductive Rp (K : PySem.W.Frag) (F : Fz) : V → D → Prop
  | non : Rp K F .non .none
  | bl (b : Bool) : Rp K F (.bl b) (.bool b)
  | int (i : Int) : Rp K F (.int i) (.int i)
  | str (x : Str) : Rp K F (.str x) (.str x)
  | lst {a : Addr} {xs : List V} {ds : List D} : F a = some (.obj (.lst xs)) → RpL K F xs ds → Rp K F (.ref a) (.list ds)
  | tup {a : Addr} {xs : List V} {ds : List D} : KnF F a xs → RpL K F xs ds → Rp K F (.ref a) (.tuple ds)
  | dct {a : Addr} {kvs : List (L2.Key × V)} {ds : List (D × D)} : F a = some (.obj (.dK kvs)) → RpK K F kvs ds → Rp K F (.ref a) (.dict ds)
  | rf {a : Addr} {n : Nat} : F a = some (.num n) → Rp K F (.ref a) (.dict [(.none, .int n)])
  | dkt {a : Addr} {P : Program} {w : World} {xs : List (List L2.Key × Addr × Value)} {ep : Nat} : F a = some (.obj (dctHO P w a xs ep)) → (∀ x ∈ xs, KnF F x.2.1 (x.1.map kV)) → Rp K F (.ref a) (.dict ((.none, .none) :: xs.map fun x => (.tuple (x.1.map keyD), .none)))
inductive RpL (K : PySem.W.Frag) (F : Fz) : List V → List D → Prop
  | nil : RpL K F [] []
  | cons {v : V} {vs : List V} {d : D} {ds : List D} : Rp K F v d → RpL K F vs ds → RpL K F (v :: vs) (d :: ds)
inductive RpK (K : PySem.W.Frag) (F : Fz) : List (L2.Key × V) → List (D × D) → Prop
  | nil : RpK K F [] []
  | cons {k : L2.Key} {v : V} {r : List (L2.Key × V)} {d : D} {ds : List (D × D)} : Rp K F v d → RpK K F r ds → RpK K F ((k, v) :: r) ((keyD k, d) :: ds)
end
/-- fields, by their names -/
inductive RpF (K : PySem.W.Frag) (F : Fz) : List (Str × V) → List (Str × D) → Prop
  | nil : RpF K F [] []
  | cons {x : Str} {v : V} {d : D} {vs : List (Str × V)} {ds : List (Str × D)} : Rp K F v d → RpF K F vs ds → RpF K F ((x, v) :: vs) ((x, d) :: ds)
section
variable {K : PySem.W.Frag} {F F' : Fz} {H H' : Hp}
mutual
theorem Rp.up (e : Sub F F') : ∀ {v : V} {d : D}, Rp K F v d → Rp K F' v d
  | _, _, .non => .non
  | _, _, .bl b => .bl b
  | _, _, .int i => .int i
  | _, _, .str x => .str x
  | _, _, .lst h r => .lst (e _ _ h) (RpL.up e r)
  | _, _, .tup h r => .tup (h.up e) (RpL.up e r)
  | _, _, .dct h r => .dct (e _ _ h) (RpK.up e r)
  | _, _, .rf h => .rf (e _ _ h)
  | _, _, .dkt h k => .dkt (e _ _ h) fun x hx => (k x hx).up e
theorem RpL.up (e : Sub F F') : ∀ {vs : List V} {ds : List D}, RpL K F vs ds → RpL K F' vs ds
  | _, _, .nil => .nil
  | _, _, .cons h r => .cons (Rp.up e h) (RpL.up e r)
theorem RpK.up (e : Sub F F') : ∀ {vs : List (L2.Key × V)} {ds : List (D × D)}, RpK K F vs ds → RpK K F' vs ds
  | _, _, .nil => .nil
  | _, _, .cons h r => .cons (Rp.up e h) (RpK.up e r)
end
theorem RpF.up (e : Sub F F') : ∀ {vs : List (Str × V)} {ds : List (Str × D)}, RpF K F vs ds → RpF K F' vs ds
  | _, _, .nil => .nil
  | _, _, .cons h r => .cons (h.up e) (RpF.up e r)
theorem RpL.len : ∀ {vs : List V} {ds : List D}, RpL K F vs ds → vs.length = ds.length
  | _, _, .nil => rfl
  | _, _, .cons _ r => by simp [RpL.len r]
theorem RpL.app : ∀ {vs ws : List V} {ds es : List D}, RpL K F vs ds → RpL K F ws es → RpL K F (vs ++ ws) (ds ++ es)
  | _, _, _, _, .nil, s => s
  | _, _, _, _, .cons h r, s => .cons h (RpL.app r s)
theorem RpL.get : ∀ {vs : List V} {ds : List D} {i : Nat} {d : D}, RpL K F vs ds → ds[i]? = some d → ∃ v, vs[i]? = some v ∧ Rp K F v d
  | _, _, _, _, .nil, e => by simp at e
  | _, _, 0, _, .cons h _, e => by simp at e; subst e; exact ⟨_, rfl, h⟩
  | _, _, i + 1, d, .cons _ r, e => by
    obtain ⟨v, h1, h2⟩ := RpL.get (i := i) (d := d) r (by simpa using e)
    exact ⟨v, by simpa using h1, h2⟩
theorem RpL.getV : ∀ {vs : List V} {ds : List D} {i : Nat} {v : V}, RpL K F vs ds → vs[i]? = some v → ∃ d, ds[i]? = some d ∧ Rp K F v d
  | _, _, _, _, .nil, e => by simp at e
  | _, _, 0, _, .cons h _, e => by simp at e; subst e; exact ⟨_, rfl, h⟩
  | _, _, i + 1, d, .cons _ r, e => by
    obtain ⟨v, h1, h2⟩ := RpL.getV (i := i) (v := d) r (by simpa using e)
    exact ⟨v, by simpa using h1, h2⟩
theorem RpL.set {v : V} {d : D} (h : Rp K F v d) : ∀ {vs : List V} {ds : List D} (i : Nat), RpL K F vs ds → RpL K F (vs.set i v) (ds.set i d)
  | _, _, _, .nil => .nil
  | _, _, 0, .cons _ r => .cons h r
  | _, _, i + 1, .cons q r => .cons q (RpL.set h i r)
theorem RpL.take : ∀ {vs : List V} {ds : List D} (n : Nat), RpL K F vs ds → RpL K F (vs.take n) (ds.take n)
  | _, _, 0, _ => by simpa using RpL.nil
  | _, _, _ + 1, .nil => by simpa using RpL.nil
  | _, _, n + 1, .cons h r => by simpa using RpL.cons h (RpL.take n r)
theorem RpL.drop : ∀ {vs : List V} {ds : List D} (n : Nat), RpL K F vs ds → RpL K F (vs.drop n) (ds.drop n)
  | _, _, 0, r => by simpa using r
  | _, _, _ + 1, .nil => by simpa using RpL.nil
  | _, _, n + 1, .cons _ r => by simpa using RpL.drop n r
theorem RpL.rev : ∀ {vs : List V} {ds : List D}, RpL K F vs ds → RpL K F vs.reverse ds.reverse
  | _, _, .nil => .nil
  | _, _, .cons h r => by
    rw [List.reverse_cons, List.reverse_cons]
    exact RpL.app (RpL.rev r) (.cons h .nil)
theorem RpL.ints : ∀ {ns : List Int} {vs : List V}, RpL K F vs (ns.map PyData.int) → vs = ns.map V.int
  | [], _, .nil => rfl
  | n :: ns, _, .cons h r => by
    cases h
    rw [RpL.ints r]
    rfl
theorem rpl_ints (ns : List Int) : RpL K F (ns.map V.int) (ns.map PyData.int) := by
  induction ns with
  | nil => exact .nil
  | cons n ns ih => exact .cons (.int n) ih
end

/-! ### the state of a def in data -/
/-- an exception: its class, its fields -/
structure Exc where
  cls : Nat
  fs : List (Str × D)
/-- a cell of the store: an object that may change -/
inductive Cell where
  /-- an instance of an own class -/
  | ins (c : Nat) (fs : List (Str × D))
  /-- a list -/
  | lst (xs : List D)
  /-- a dict whose keys are tuples of numbers -/
  | dct (kvs : List (D × D))
/-- the store of objects with numbers, if the def knows of it -/
class Store where
  get : Option (List Cell)
@[reducible] instance noStore : Store := ⟨none⟩
inductive Sl where
  /-- data that no longer changes -/
  | fz (d : D)
  /-- a list of one's own, which may be changed -/
  | ow (xs : List D)
  /-- the deck -/
  | dk
  /-- the exception that is handled -/
  | xc (e : Exc)
structure S where
  [st : Store]
  env : List (Option Sl)
  cs : List Int
  n : Int
structure Ct where
  H0 : Hp
  F0 : Fz
  dk : Option (Addr × Addr) := none
  ob : Bool := false
  cl : Nat → Addr := fun _ => 0
  hx : Option (Addr × Value × Option Addr) := none
def exOf (C : Ct) : List Addr := match C.dk with
  | none => []
  | some (a, b) => [a, b]

/-- the heap grows: what stood stays, but ex and (with b) the objects with numbers -/
structure GrowB (b : Bool) (F : Fz) (H : Hp) (F' : Fz) (H' : Hp) (ex : List Addr) : Prop where
  sub : Sub F F'
  into : Into F' H'
  new : ∀ p o, F' p = some o → F p = some o ∨ H p = none
  num : b = false → ∀ p n, F' p = some (.num n) → F p = some (.num n)
  keep : ∀ p o, H p = some o → p ∉ ex → (b = true → ∀ n, F p ≠ some (.num n)) → H' p = some o
  live : ∀ p, H' p = none → H p = none
abbrev Grow := GrowB false

/-- what stands at a cell's address -/
def CellAt (K : PySem.W.Frag) (cl : Nat → Addr) (F : Fz) (H : Hp) (a : Addr) : Cell → Prop
  | .ins c fs => ∃ dx vs, H a = some (.ins (cl c) dx vs) ∧ RpF K F vs fs
  | .lst xs => ∃ vs, H a = some (.lst vs) ∧ RpL K F vs xs
  | .dct kvs => ∃ (P : Program) (w : World) (xs : List (List L2.Key × Addr × Value)) (ep : Nat) (vs : List V), H a = some (dctHO P w a xs ep) ∧
      Vals vs (xs.map (·.2.2)) ∧ (∀ x ∈ xs, KnF F x.2.1 (x.1.map kV)) ∧ kvs.map (·.1) = xs.map (fun x => .tuple (x.1.map keyD)) ∧ RpL K F vs (kvs.map (·.2))
theorem CellAt.up {K : PySem.W.Frag} {cl : Nat → Addr} {F F' : Fz} {H H' : Hp} {a : Addr} {c : Cell} (h : CellAt K cl F H a c) (e : Sub F F') (k : ∀ o, H a = some o → H' a = some o) : CellAt K cl F' H' a c := by
  cases c with
  | ins c fs =>
    obtain ⟨dx, vs, h1, r⟩ := h
    exact ⟨dx, vs, k _ h1, r.up e⟩
  | lst xs =>
    obtain ⟨vs, h1, r⟩ := h
    exact ⟨vs, k _ h1, r.up e⟩
  | dct kvs =>
    obtain ⟨P, w, xs, ep, vs, h1, h2, h3, h4, h5⟩ := h
    exact ⟨P, w, xs, ep, vs, k _ h1, h2, fun x hx => (h3 x hx).up e, h4, h5.up e⟩
structure StoreOk (K : PySem.W.Frag) (cl : Nat → Addr) (F : Fz) (H : Hp) (l : List Cell) : Prop where
  cell : ∀ (n : Nat) c, l[n]? = some c → ∃ a, F a = some (.num n) ∧ CellAt K cl F H a c
  bound : ∀ n a, F a = some (.num n) → n < l.length
  inj : ∀ n a b, F a = some (.num n) → F b = some (.num n) → a = b
/-- what is known of an exception: its class, its dict -/
def ExcAt (K : PySem.W.Frag) (cl : Nat → Addr) (F : Fz) (cv : Value) (d : Option Addr) (e : Exc) : Prop :=
  cv = .ref (cl e.cls) ∧ match d with
    | none => e.fs = []
    | some p => ∃ vs, F p = some (.obj (.xd vs)) ∧ RpF K F vs e.fs
theorem ExcAt.up {K : PySem.W.Frag} {cl : Nat → Addr} {F F' : Fz} {cv : Value} {d : Option Addr} {e : Exc} (h : ExcAt K cl F cv d e) (u : Sub F F') : ExcAt K cl F' cv d e := by
  obtain ⟨h1, h2⟩ := h
  refine ⟨h1, ?_⟩
  cases d with
  | none => exact h2
  | some p =>
    obtain ⟨vs, q, r⟩ := h2
    exact ⟨vs, u _ _ q, r.up u⟩

def SlOk (K : PySem.W.Frag) (C : Ct) (F : Fz) (H : Hp) (v : V) : Sl → Prop
  | .fz d => Rp K F v d
  | .ow xs => ∃ p vs, v = .ref p ∧ H p = some (.lst vs) ∧ RpL K F vs xs ∧ F p = none ∧ C.H0 p = none
  | .dk => ∃ dp dc, C.dk = some (dp, dc) ∧ v = .ref dp
  | .xc e => ∃ a cv d, C.hx = some (a, cv, d) ∧ v = .ref a ∧ ExcAt K C.cl F cv d e
structure W (K : PySem.W.Frag) (C : Ct) (F : Fz) (H : Hp) (σ : St) (s : S) : Prop where
  gr : GrowB C.ob C.F0 C.H0 F H (exOf C)
  len : s.env.length = σ.length
  slot : ∀ (i : Nat) (l : Sl), s.env[i]? = some (some l) → ∃ v, σ[i]? = some (some v) ∧ SlOk K C F H v l
  sep : ∀ (i j : Nat) (p : Addr) (xs ys : List D), s.env[i]? = some (some (.ow xs)) → s.env[j]? = some (some (.ow ys)) → σ[i]? = some (some (.ref p)) → σ[j]? = some (some (.ref p)) → i = j
  deck : ∀ (dp dc : Addr), C.dk = some (dp, dc) → DeckAt F H dp dc s.cs s.n ∧ C.H0 dp ≠ none ∧ C.H0 dc ≠ none
  st : ∀ l, s.st.get = some l → C.ob = true ∧ StoreOk K C.cl F H l
  pl : C.ob = false → ∀ p n, F p ≠ some (.num n)

/-- p is one of the lists of one's own -/
def Own (σ : St) (s : S) (p : Addr) : Prop := ∃ (i : Nat) (xs : List D), s.env[i]? = some (some (.ow xs)) ∧ σ[i]? = some (some (.ref p))
/-- a move: from (F, H, s) to (F', H', s'), the names as they are -/
structure Mv (C : Ct) (σ : St) (F : Fz) (H : Hp) (s : S) (F' : Fz) (H' : Hp) (s' : S) : Prop where
  sub : Sub F F'
  oth : ∀ p o, H p = some o → F p = none → p ∉ exOf C → ¬ Own σ s p → H' p = some o ∧ F' p = none
  own : ∀ p, Own σ s' p → Own σ s p
  live : ∀ p, H' p = none → H p = none
theorem Mv.refl {C : Ct} {σ : St} {F : Fz} {H : Hp} {s : S} : Mv C σ F H s F H s := ⟨Sub.refl _, fun _ _ h f _ _ => ⟨h, f⟩, fun _ h => h, fun _ h => h⟩
theorem Mv.trans {C : Ct} {σ : St} {F F1 F2 : Fz} {H H1 H2 : Hp} {s s1 s2 : S} (a : Mv C σ F H s F1 H1 s1) (b : Mv C σ F1 H1 s1 F2 H2 s2) : Mv C σ F H s F2 H2 s2 :=
  ⟨a.sub.trans b.sub, fun p o h f e n => let ⟨h1, f1⟩ := a.oth p o h f e n; b.oth p o h1 f1 e fun q => n (a.own p q), fun p q => a.own p (b.own p q), fun p q => a.live p (b.live p q)⟩

/-! ### what expressions, tests, argument lists, statements are worth in data -/
abbrev Ex := S → Option (D × S)
abbrev Tx := S → Option (Bool × S)
abbrev Ax := S → Option (List D × S)
inductive Out where
  | nx (s : S) | rt (d : D) (s : S) | bk (s : S) | ct (s : S) | ex (e : Exc) (s : S)
abbrev Bd := S → Option Out

def tD (K : PySem.W.Frag) (C : Ct) (f : Ex) : TE := fun σ H Q => ∃ F s d s', W K C F H σ s ∧ f s = some (d, s') ∧
  ∀ v F' H', Mv C σ F H s F' H' s' → W K C F' H' σ s' → Rp K F' v d → Q v H'
def tT (K : PySem.W.Frag) (C : Ct) (f : Tx) : TT := fun σ H Q => ∃ F s b s', W K C F H σ s ∧ f s = some (b, s') ∧
  ∀ F' H', Mv C σ F H s F' H' s' → W K C F' H' σ s' → Q b H'
def tA (K : PySem.W.Frag) (C : Ct) (f : Ax) : TA := fun σ H Q => ∃ F s ds s', W K C F H σ s ∧ f s = some (ds, s') ∧
  ∀ vs F' H', Mv C σ F H s F' H' s' → W K C F' H' σ s' → RpL K F' vs ds → Q vs H'
/-- a new list of one's own -/
def tO (K : PySem.W.Frag) (C : Ct) (f : Ax) : TE := fun σ H Q => ∃ F s ds s', W K C F H σ s ∧ f s = some (ds, s') ∧
  ∀ p vs F' H', Mv C σ F H s F' H' s' → W K C F' H' σ s' → H' p = some (.lst vs) → F' p = none → C.H0 p = none → p ∉ exOf C → ¬ Own σ s' p → H p = none → RpL K F' vs ds → Q (.ref p) H'
/-- the ways out of a statement; Z: what is wished of what is raised -/
def OutOk (K : PySem.W.Frag) (C : Ct) (Z : WX) (E : Ends) (F : Fz) : Out → Prop
  | .nx s' => ∀ σ' F' H', Sub F F' → W K C F' H' σ' s' → E.nx σ' H'
  | .bk s' => ∀ σ' F' H', Sub F F' → W K C F' H' σ' s' → E.bk σ' H'
  | .ct s' => ∀ σ' F' H', Sub F F' → W K C F' H' σ' s' → E.ct σ' H'
  | .rt d s' => ∀ v σ' F' H', Sub F F' → W K C F' H' σ' s' → Rp K F' v d → E.rt v H'
  | .ex e s' => ∀ cv d σ' F' H', Sub F F' → W K C F' H' σ' s' → ExcAt K C.cl F' cv d e → Z cv d σ' H'
theorem OutOk.up {K : PySem.W.Frag} {C : Ct} {Z : WX} {E : Ends} {F F1 : Fz} (e : Sub F F1) : ∀ {o : Out}, OutOk K C Z E F o → OutOk K C Z E F1 o
  | .nx _, h => fun σ' F' H' q w => h σ' F' H' (e.trans q) w
  | .bk _, h => fun σ' F' H' q w => h σ' F' H' (e.trans q) w
  | .ct _, h => fun σ' F' H' q w => h σ' F' H' (e.trans q) w
  | .rt _ _, h => fun v σ' F' H' q w r => h v σ' F' H' (e.trans q) w r
  | .ex _ _, h => fun cv d σ' F' H' q w r => h cv d σ' F' H' (e.trans q) w r
def tS (K : PySem.W.Frag) (C : Ct) (Z : WX) (g : Bd) : TS := fun E σ H => ∃ F s o, W K C F H σ s ∧ g s = some o ∧ OutOk K C Z E F o

section
variable {X : Cx}
theorem pe_imp {e : Expr} {t t' : TE} (h : PE X e t) (q : ∀ σ H Q, t' σ H Q → t σ H Q) : PE X e t' := ⟨fun pins s σ H Q I z => h.run pins s σ H Q I (q σ H Q z)⟩
theorem pt_imp {e : Expr} {t t' : TT} (h : PT X e t) (q : ∀ σ H Q, t' σ H Q → t σ H Q) : PT X e t' := ⟨fun pins s σ H Q I z => h.run pins s σ H Q I (q σ H Q z)⟩
theorem pa_imp {e : List Expr} {t t' : TA} (h : PA X e t) (q : ∀ σ H Q, t' σ H Q → t σ H Q) : PA X e t' := ⟨fun ps pins s σ H Q I z => h.run ps pins s σ H Q I (q σ H Q z)⟩
theorem ps_imp {e : Stmt} {t t' : TS} (h : PS X e t) (q : ∀ E σ H, t' E σ H → t E σ H) : PS X e t' := ⟨fun pins s σ H E I z => h.run pins s σ H E I (q E σ H z)⟩
theorem pss_imp {e : List Stmt} {t t' : TS} (h : PSs X e t) (q : ∀ E σ H, t' E σ H → t E σ H) : PSs X e t' := ⟨fun pins s σ H E I z => h.run pins s σ H E I (q E σ H z)⟩
end

/-! ### moves of W -/
section
variable {K : PySem.W.Frag} {C : Ct} {F F' : Fz} {H H' : Hp} {σ : St} {s : S}
theorem W.into (w : W K C F H σ s) : Into F H := w.gr.into
/-- heap and frozen part grow, nothing else changes -/
theorem GrowB.trans {b c : Bool} {F0 F F' : Fz} {H0 H H' : Hp} {ex ex' : List Addr} (g : GrowB b F0 H0 F H ex) (h : GrowB c F H F' H' ex') (hc : c = true → b = true) (he : ∀ p, H0 p ≠ none → p ∈ ex' → p ∈ ex) : GrowB b F0 H0 F' H' ex where
  sub := g.sub.trans h.sub
  into := h.into
  new := fun p o q => by
    rcases h.new p o q with r | r
    · exact g.new p o r
    · exact .inr (g.live p r)
  num := fun e p n q => by
    cases c with
    | false => exact g.num e p n (h.num rfl p n q)
    | true => rw [hc rfl] at e; cases e
  keep := fun p o q e nb => by
    refine h.keep p o (g.keep p o q e nb) (fun z => e (he p (by rw [q]; exact fun y => nomatch y) z)) fun cc n z => ?_
    rcases g.new p _ z with r | r
    · exact nb (hc cc) n r
    · rw [q] at r; cases r
  live := fun p q => g.live p (h.live p q)
theorem StoreOk.grow {cl : Nat → Addr} {l : List Cell} {ex : List Addr} (h : StoreOk K cl F H l) (g : GrowB false F H F' H' ex) (he : ∀ n a, F a = some (.num n) → a ∉ ex) : StoreOk K cl F' H' l where
  cell := fun n c e => by
    obtain ⟨a, q, r⟩ := h.cell n c e
    exact ⟨a, g.sub _ _ q, r.up g.sub fun o z => g.keep _ _ z (he _ _ q) (fun y => nomatch y)⟩
  bound := fun n a e => h.bound n a (g.num rfl _ _ e)
  inj := fun n a b e e' => h.inj n a b (g.num rfl _ _ e) (g.num rfl _ _ e')
theorem W.grow (w : W K C F H σ s) (g : Grow F H F' H' []) : W K C F' H' σ s where
  gr := w.gr.trans g (fun z => nomatch z) (fun _ _ z => nomatch z)
  len := w.len
  slot := fun i l h => by
    obtain ⟨v, e, q⟩ := w.slot i l h
    refine ⟨v, e, ?_⟩
    cases l with
    | fz d => exact Rp.up g.sub q
    | dk => exact q
    | xc e =>
      obtain ⟨a, cv, d, h1, h2, h3⟩ := q
      exact ⟨a, cv, d, h1, h2, h3.up g.sub⟩
    | ow xs =>
      obtain ⟨p, vs, e1, e2, r, f, c⟩ := q
      refine ⟨p, vs, e1, g.keep _ _ e2 (by simp) (fun z => nomatch z), r.up g.sub, ?_, c⟩
      cases z : F' p with
      | none => rfl
      | some o =>
        rcases g.new p o z with q | q
        · rw [f] at q; cases q
        · rw [e2] at q; cases q
  sep := w.sep
  deck := fun dp dc e => by
    obtain ⟨dk, c⟩ := w.deck dp dc e
    obtain ⟨ne, ⟨_, h1⟩, ⟨_, h2⟩, f1, f2⟩ := dk.no
    have no : ∀ p o, H p = some o → F p = none → F' p = none := fun p o h f => by
      cases z : F' p with
      | none => rfl
      | some o =>
        rcases g.new p o z with q | q
        · rw [f] at q; cases q
        · rw [h] at q; cases q
    exact ⟨dk.up g.sub (fun o h => g.keep _ _ h (by simp) (fun z => nomatch z)) (fun o h => g.keep _ _ h (by simp) (fun z => nomatch z)) (no _ _ h1 f1) (no _ _ h2 f2), c⟩
  st := fun l e => ⟨(w.st l e).1, (w.st l e).2.grow g fun _ _ _ z => nomatch z⟩
  pl := fun z p n h => w.pl z p n (g.num rfl p n h)
theorem Mv.grow (g : Grow F H F' H' []) : Mv C σ F H s F' H' s where
  sub := g.sub
  oth := fun p o h f _ _ => ⟨g.keep p o h (by simp) (fun z => nomatch z), by
    cases z : F' p with
    | none => rfl
    | some o =>
      rcases g.new p o z with q | q
      · rw [f] at q; cases q
      · rw [h] at q; cases q⟩
  own := fun _ q => q
  live := g.live
theorem Grow.refl (e : Into F H) : Grow F H F H [] := ⟨Sub.refl _, e, fun _ _ h => .inl h, fun _ _ _ h => h, fun _ _ h _ _ => h, fun _ h => h⟩
/-- a new object at p, frozen at once -/
theorem grow_new {p : Addr} {o : HO} (e : Into F H) (hp : H p = none) : Grow F H (updF F p o) (upd H p o) [] where
  sub := fun b u h => by
    have : b ≠ p := fun z => by
      subst z
      rw [e.free hp] at h
      cases h
    rw [updF_ne this]; exact h
  into := ⟨fun b u h => by
    by_cases hb : b = p
    · subst hb; rw [updF_same] at h; cases h; rw [upd_same]
    · rw [updF_ne hb] at h; rw [upd_ne hb]; exact e _ _ h, fun b n h => by
    by_cases hb : b = p
    · subst hb; rw [updF_same] at h; cases h
    · rw [updF_ne hb] at h; rw [upd_ne hb]; exact e.num _ _ h⟩
  new := fun b u h => by
    by_cases hb : b = p
    · subst hb; exact .inr hp
    · rw [updF_ne hb] at h; exact .inl h
  num := fun _ b n h => by
    by_cases hb : b = p
    · subst hb; rw [updF_same] at h; cases h
    · rw [updF_ne hb] at h; exact h
  keep := fun b u h _ _ => by rw [upd_ne (ne_of_none h hp)]; exact h
  live := fun b h => by
    by_cases hb : b = p
    · subst hb; exact hp
    · rw [upd_ne hb] at h; exact h
/-- a new object at p that is not frozen -/
theorem grow_own {p : Addr} {o : HO} (e : Into F H) (hp : H p = none) : Grow F H F (upd H p o) [] where
  sub := Sub.refl _
  into := ⟨fun b u h => by rw [upd_ne (ne_of_none (e _ _ h) hp)]; exact e _ _ h, fun b n h z => by
    by_cases hb : b = p
    · subst hb; rw [upd_same] at z; cases z
    · rw [upd_ne hb] at z; exact e.num _ _ h z⟩
  new := fun b u h => .inl h
  num := fun _ _ _ h => h
  keep := fun b u h _ _ => by rw [upd_ne (ne_of_none h hp)]; exact h
  live := fun b h => by
    by_cases hb : b = p
    · subst hb; exact hp
    · rw [upd_ne hb] at h; exact h
end
end Dl

/-! The data layer, part 2: names, constants, operators, subscripts, displays, tests. -/
namespace Dl
open PySem PySem.Spec L2

/-! ### data-level worth of operations -/
/-- a two-place operation by data -/
def rOpD (K : PySem.W.Frag) (g : D → D → Option D) : R2 := fun x y H Q => ∃ F d e r, Into F H ∧ Rp K F x d ∧ Rp K F y e ∧ g d e = some r ∧
  ∀ v F' H', Grow F H F' H' [] → Rp K F' v r → Q v H'
def OpD (X : Cx) (f : Value → Value → Sem Value) (g : D → D → Option D) : Prop := OpR X f (rOpD X.K g)
def rCallD (K : PySem.W.Frag) (g : List D → Option D) : List V → Hp → VK → Prop := fun xs H Q => ∃ F ds r, Into F H ∧ RpL K F xs ds ∧ g ds = some r ∧
  ∀ v F' H', Grow F H F' H' [] → Rp K F' v r → Q v H'
def CallD (X : Cx) (f : Value) (g : List D → Option D) : Prop := CallR X f (rCallD X.K g)
def IxD (X : Cx) (g : D → D → Option D) : Prop := IxR X (rOpD X.K g)
def UnD (X : Cx) (f : Value → Sem Value) (g : D → Option D) : Prop := UnR X f fun x H Q => ∃ F d r, Into F H ∧ Rp X.K F x d ∧ g d = some r ∧ ∀ v F' H', Grow F H F' H' [] → Rp X.K F' v r → Q v H'
def rMtD (K : PySem.W.Frag) (g : D → List D → Option D) : V → List V → Hp → VK → Prop := fun x xs H Q => ∃ F d ds r, Into F H ∧ Rp K F x d ∧ RpL K F xs ds ∧ g d ds = some r ∧
  ∀ v F' H', Grow F H F' H' [] → Rp K F' v r → Q v H'
def MtD (X : Cx) (id : String) (g : D → List D → Option D) : Prop := MtR X id (rMtD X.K g)
def rSlD (K : PySem.W.Frag) (g : D → Option Int → Option Int → Option D) : V → Option Int → Option Int → Hp → VK → Prop := fun x lo hi H Q => ∃ F d r, Into F H ∧ Rp K F x d ∧ g d lo hi = some r ∧
  ∀ v F' H', Grow F H F' H' [] → Rp K F' v r → Q v H'
def SlD (X : Cx) (g : D → Option Int → Option Int → Option D) : Prop := SlR X (rSlD X.K g)

section
variable {X : Cx}
theorem OpR.imp {f : Value → Value → Sem Value} {r r' : R2} (h : OpR X f r) (q : ∀ x y H Q, r' x y H Q → r x y H Q) : OpR X f r' :=
  fun pins s σ H x y v u Q I rx ry z => h pins s σ H x y v u Q I rx ry (q _ _ _ _ z)
theorem CallR.imp {f : Value} {r r' : List V → Hp → VK → Prop} (h : CallR X f r) (q : ∀ xs H Q, r' xs H Q → r xs H Q) : CallR X f r' :=
  fun pins s σ H xs us Q I rx z => h pins s σ H xs us Q I rx (q _ _ _ z)
theorem IxR.imp {r r' : R2} (h : IxR X r) (q : ∀ x y H Q, r' x y H Q → r x y H Q) : IxR X r' :=
  fun e1 e2 pins s σ H x y v u Q I rx ry z e => h e1 e2 pins s σ H x y v u Q I rx ry (q _ _ _ _ z) e
theorem MtR.imp {id : String} {r r' : V → List V → Hp → VK → Prop} (h : MtR X id r) (q : ∀ x xs H Q, r' x xs H Q → r x xs H Q) : MtR X id r' :=
  fun pins s σ H x xs v us Q I rx ry z => h pins s σ H x xs v us Q I rx ry (q _ _ _ _ z)
theorem SlR.imp {r r' : V → Option Int → Option Int → Hp → VK → Prop} (h : L2.SlR X r) (q : ∀ x lo hi H Q, r' x lo hi H Q → r x lo hi H Q) : L2.SlR X r' :=
  fun pins s σ H x v vl vu lo hi sl Q I rx hs pl pu z => h pins s σ H x v vl vu lo hi sl Q I rx hs pl pu (q _ _ _ _ _ z)
theorem UnR.imp {f : Value → Sem Value} {r r' : V → Hp → VK → Prop} (h : UnR X f r) (q : ∀ x H Q, r' x H Q → r x H Q) : UnR X f r' :=
  fun pins s σ H x v Q I rx z => h pins s σ H x v Q I rx (q _ _ _ z)
end

/-! ### expressions -/
def dC (d : D) : Ex := fun s => some (d, s)
/-- a name: data, or a list of one's own, which no longer changes from here on -/
def dVar (i : Nat) : Ex := fun s => match s.env[i]? with
  | some (some (.fz d)) => some (d, s)
  | some (some (.ow xs)) => some (.list xs, { s with env := s.env.set i (some (.fz (.list xs))) })
  | _ => none
def dBin (g : D → D → Option D) (a b : Ex) : Ex := fun s => match a s with
  | none => none
  | some (x, s1) => match b s1 with
    | none => none
    | some (y, s2) => match g x y with
      | none => none
      | some r => some (r, s2)
def dUn (g : D → Option D) (a : Ex) : Ex := fun s => match a s with
  | none => none
  | some (x, s1) => match g x with
    | none => none
    | some r => some (r, s1)
def aNil : Ax := fun s => some ([], s)
def aCons (a : Ex) (r : Ax) : Ax := fun s => match a s with
  | none => none
  | some (x, s1) => match r s1 with
    | none => none
    | some (xs, s2) => some (x :: xs, s2)
def dApp (g : List D → Option D) (a : Ax) : Ex := fun s => match a s with
  | none => none
  | some (xs, s1) => match g xs with
    | none => none
    | some r => some (r, s1)
def dMt (g : D → List D → Option D) (o : Ex) (a : Ax) : Ex := fun s => match o s with
  | none => none
  | some (x, s1) => match a s1 with
    | none => none
    | some (xs, s2) => match g x xs with
      | none => none
      | some r => some (r, s2)
/-- a part of a slice -/
def dNoPart : S → Option (Option Int × S) := fun s => some (none, s)
def dPart (a : Ex) : S → Option (Option Int × S) := fun s => match a s with
  | some (.int i, s1) => some (some i, s1)
  | _ => none
def dSl (g : D → Option Int → Option Int → Option D) (o : Ex) (lo hi : S → Option (Option Int × S)) : Ex := fun s => match o s with
  | none => none
  | some (x, s1) => match lo s1 with
    | none => none
    | some (l, s2) => match hi s2 with
      | none => none
      | some (h, s3) => match g x l h with
        | none => none
        | some r => some (r, s3)
/-- a value whose making nobody looks into: what is left of it is what a theorem says -/
noncomputable def sealB {α : Type} (a : α) : α := Classical.choose (⟨a, rfl⟩ : ∃ x, x = a)
theorem sealB_eq {α : Type} (a : α) : sealB a = a := Classical.choose_spec (⟨a, rfl⟩ : ∃ x, x = a)
def fits (n : Nat) : Bool := decide (n ≤ 16777216)
def dTup (a : Ax) : Ex := fun s => match a s with
  | none => none
  | some (xs, s1) => if fits xs.length then some (.tuple xs, s1) else none
def oLst (a : Ax) : Ax := fun s => match a s with
  | none => none
  | some (xs, s1) => if fits xs.length then some (xs, s1) else none
def dOfO (a : Ax) : Ex := fun s => match a s with
  | none => none
  | some (xs, s1) => some (.list xs, s1)

/-- data of an object with a number -/
def isRefK : List (D × D) → Bool
  | (.none, _) :: _ => true
  | _ => false
theorem RpK.noref {K : PySem.W.Frag} {F : Fz} {kvs : List (L2.Key × V)} {ds : List (D × D)} (h : RpK K F kvs ds) : isRefK ds = false := by
  cases h with
  | nil => rfl
  | @cons k v r d ds h1 h2 => cases k <;> rfl
/-- truth -/
def tru : D → Option Bool
  | .none => some false
  | .bool b => some b
  | .int i => some (i != 0)
  | .str x => if fits x.length then some (x.length != 0) else none
  | .list xs => some (!xs.isEmpty)
  | .tuple xs => some (!xs.isEmpty)
  | .dict kvs => if isRefK kvs then none else some (!kvs.isEmpty)
def tOf (a : Ex) : Tx := fun s => match a s with
  | some (.bool b, s1) => some (b, s1)
  | _ => none
def tTru (a : Ex) : Tx := fun s => match a s with
  | none => none
  | some (d, s1) => match tru d with
    | none => none
    | some b => some (b, s1)
def tNotX (a : Tx) : Tx := fun s => match a s with
  | none => none
  | some (b, s1) => some (!b, s1)
def tAndX (a b : Tx) : Tx := fun s => match a s with
  | none => none
  | some (true, s1) => b s1
  | some (false, s1) => some (false, s1)
def tOrX (a b : Tx) : Tx := fun s => match a s with
  | none => none
  | some (false, s1) => b s1
  | some (true, s1) => some (true, s1)
def dIfE (c : Tx) (a b : Ex) : Ex := fun s => match c s with
  | none => none
  | some (true, s1) => a s1
  | some (false, s1) => b s1
def dOfT (a : Tx) : Ex := fun s => match a s with
  | none => none
  | some (b, s1) => some (.bool b, s1)
/-- a < b < c -/
def dChain (g g' : D → D → Option D) (a b c : Ex) : Ex := fun s => match a s with
  | none => none
  | some (x, s1) => match b s1 with
    | none => none
    | some (y, s2) => match g x y with
      | some (.bool true) => (match c s2 with
        | none => none
        | some (z, s3) => match g' y z with
          | some (.bool r) => some (.bool r, s3)
          | _ => none)
      | some (.bool false) => some (.bool false, s2)
      | _ => none

section
variable {X : Cx} {C : Ct} {pos : Pos}
theorem de_c {e : Expr} {v : V} {d : D} (h : PE X e (tC v)) (r : ∀ F, Rp X.K F v d) : PE X e (tD X.K C (dC d)) := pe_imp h fun σ H Q ⟨F, s, d', s', w, e, q⟩ => by
  cases e
  exact q v F H .refl w (r F)
theorem de_int {i : Int} {j} : PE X (.Constant (.int i) j pos) (tD X.K C (dC (.int i))) := de_c pe_int fun _ => .int i
theorem de_bl {b : Bool} {j} : PE X (.Constant (.bool b) j pos) (tD X.K C (dC (.bool b))) := de_c pe_bl fun _ => .bl b
theorem de_non {j} : PE X (.Constant .none j pos) (tD X.K C (dC .none)) := de_c pe_non fun _ => .non
theorem de_str {x : Str} {j} : PE X (.Constant (.str x) j pos) (tD X.K C (dC (.str x))) := de_c pe_str fun _ => .str x
end

section
variable {K : PySem.W.Frag} {C : Ct} {F : Fz} {H : Hp} {σ : St} {s : S}
theorem sub_upd {p : Addr} {o : HO} (f : F p = none) : Sub F (updF F p o) := fun b u q => by
  have : b ≠ p := fun z => by
    subst z
    rw [f] at q; cases q
  rw [updF_ne this]; exact q
theorem StoreOk.freeze {cl : Nat → Addr} {l : List Cell} {p : Addr} {o : HO} (x : StoreOk K cl F H l) (f : F p = none) : StoreOk K cl (updF F p o) H l where
  cell := fun n c e => by
    obtain ⟨a, q, r⟩ := x.cell n c e
    exact ⟨a, sub_upd f _ _ q, r.up (sub_upd f) fun _ h => h⟩
  bound := fun n a e => x.bound n a (by
    by_cases h : a = p
    · subst h; rw [updF_same] at e; cases e
    · rwa [updF_ne h] at e)
  inj := fun n a b e e' => by
    refine x.inj n a b ?_ ?_
    · by_cases h : a = p
      · subst h; rw [updF_same] at e; cases e
      · rwa [updF_ne h] at e
    · by_cases h : b = p
      · subst h; rw [updF_same] at e'; cases e'
      · rwa [updF_ne h] at e'
/-- what is not frozen may change -/
theorem Into.beside {p : Addr} {o : HO} (e : Into F H) (f : F p = none) : Into F (upd H p o) where
  obj := fun b u h => by
    rw [upd_ne]
    · exact e _ _ h
    · rintro rfl
      rw [f] at h; cases h
  num := fun b n h => by
    rw [upd_ne]
    · exact e.num _ _ h
    · rintro rfl
      rw [f] at h; cases h
theorem StoreOk.beside {cl : Nat → Addr} {l : List Cell} {p : Addr} {o : HO} (x : StoreOk K cl F H l) (f : F p = none) : StoreOk K cl F (upd H p o) l where
  cell := fun n c e => by
    obtain ⟨a, q, r⟩ := x.cell n c e
    refine ⟨a, q, r.up (Sub.refl _) fun u h => ?_⟩
    rw [upd_ne]
    · exact h
    · rintro rfl
      rw [f] at q; cases q
  bound := x.bound
  inj := x.inj
/-- an object beside the state is frozen -/
theorem W.freeze (w : W K C F H σ s) {p : Addr} {o : HO} (h : H p = some o) (f : F p = none) (hc : C.H0 p = none) (n : ¬ Own σ s p) : W K C (updF F p o) H σ s where
  gr := ⟨w.gr.sub.trans (sub_upd f),
    ⟨fun b u q => by
      by_cases hb : b = p
      · subst hb; rw [updF_same] at q; cases q; exact h
      · rw [updF_ne hb] at q; exact w.gr.into _ _ q,
    fun b m q => by
      by_cases hb : b = p
      · subst hb; rw [updF_same] at q; cases q
      · rw [updF_ne hb] at q; exact w.gr.into.num _ _ q⟩,
    fun b u q => by
      by_cases hb : b = p
      · subst hb; exact .inr hc
      · rw [updF_ne hb] at q; exact w.gr.new _ _ q,
    fun z b m q => by
      by_cases hb : b = p
      · subst hb; rw [updF_same] at q; cases q
      · rw [updF_ne hb] at q; exact w.gr.num z _ _ q, w.gr.keep, w.gr.live⟩
  len := w.len
  slot := fun i l e => by
    have up : Sub F (updF F p o) := sub_upd f
    obtain ⟨v, e1, q⟩ := w.slot i l e
    refine ⟨v, e1, ?_⟩
    cases l with
    | fz d => exact Rp.up up q
    | dk => exact q
    | xc x =>
      obtain ⟨a, cv, d, h1, h2, h3⟩ := q
      exact ⟨a, cv, d, h1, h2, h3.up up⟩
    | ow xs =>
      obtain ⟨p', vs, e2, e3, r, f, c⟩ := q
      refine ⟨p', vs, e2, e3, r.up up, ?_, c⟩
      rw [updF_ne]
      · exact f
      · rintro rfl
        exact n ⟨i, xs, e, by rw [e1, e2]⟩
  sep := w.sep
  deck := fun dp dc e => by
    obtain ⟨dk, c1, c2⟩ := w.deck dp dc e
    obtain ⟨ne, _, _, f1, f2⟩ := dk.no
    refine ⟨dk.up (sub_upd f) (fun _ h => h) (fun _ h => h) ?_ ?_, c1, c2⟩
    · rw [updF_ne]
      · exact f1
      · rintro rfl; exact c1 hc
    · rw [updF_ne]
      · exact f2
      · rintro rfl; exact c2 hc
  st := fun l e => ⟨(w.st l e).1, (w.st l e).2.freeze f⟩
  pl := fun z b m q => by
    by_cases hb : b = p
    · subst hb; rw [updF_same] at q; cases q
    · rw [updF_ne hb] at q; exact w.pl z _ _ q
/-- fewer slots -/
theorem W.less (w : W K C F H σ s) {env' : List (Option Sl)} (hl : env'.length = s.env.length) (h : ∀ (j : Nat) (l : Sl), env'[j]? = some (some l) → s.env[j]? = some (some l)) : W K C F H σ { s with env := env' } :=
  ⟨w.gr, hl.trans w.len, fun i l q => w.slot i l (h _ _ q), fun a b p ys zs ha hb => w.sep a b p ys zs (h _ _ ha) (h _ _ hb), w.deck, w.st, w.pl⟩
theorem W.drop (w : W K C F H σ s) (i : Nat) : W K C F H σ { s with env := s.env.set i none } := w.less (by simp) fun j l q => by
  by_cases hj : i = j
  · subst hj
    by_cases hl : i < s.env.length
    · rw [List.getElem?_set_self hl] at q; cases q
    · rw [List.getElem?_eq_none (by simpa using hl)] at q; cases q
  · rwa [List.getElem?_set_ne hj] at q
/-- a slot holds data -/
theorem W.fz (w : W K C F H σ s) {i : Nat} {v : V} {d : D} (ev : σ[i]? = some (some v)) (r : Rp K F v d) : W K C F H σ { s with env := s.env.set i (some (.fz d)) } where
  gr := w.gr
  len := by simp [w.len]
  slot := fun j l q => by
    have hi : i < s.env.length := by rw [w.len]; exact (List.getElem?_eq_some_iff.mp ev).1
    by_cases hj : i = j
    · subst hj
      rw [List.getElem?_set_self hi] at q
      cases q
      exact ⟨v, ev, r⟩
    · rw [List.getElem?_set_ne hj] at q
      exact w.slot j l q
  sep := fun a b p ys zs ha hb ea eb => by
    have hi : i < s.env.length := by rw [w.len]; exact (List.getElem?_eq_some_iff.mp ev).1
    have ne : ∀ {c : Nat} {ys : List D}, (s.env.set i (some (.fz d)))[c]? = some (some (.ow ys)) → s.env[c]? = some (some (.ow ys)) := fun {c ys} h => by
      by_cases hc : i = c
      · subst hc
        rw [List.getElem?_set_self hi] at h
        cases h
      · rwa [List.getElem?_set_ne hc] at h
    exact w.sep a b p ys zs (ne ha) (ne hb) ea eb
  deck := w.deck
  st := w.st
  pl := w.pl
theorem own_drop {i : Nat} {o : Option Sl} (ho : ∀ xs, o ≠ some (.ow xs)) {p : Addr} (h : Own σ { s with env := s.env.set i o } p) : ∃ j xs, j ≠ i ∧ s.env[j]? = some (some (.ow xs)) ∧ σ[j]? = some (some (.ref p)) := by
  obtain ⟨j, xs, e1, e2⟩ := h
  have e1' : (s.env.set i o)[j]? = some (some (.ow xs)) := e1
  have hj : i ≠ j := fun z => by
    subst z
    by_cases hl : i < s.env.length
    · rw [List.getElem?_set_self hl] at e1'
      exact ho xs (Option.some.inj e1')
    · rw [List.getElem?_eq_none (by simpa using hl)] at e1'; cases e1'
  rw [List.getElem?_set_ne hj] at e1'
  exact ⟨j, xs, hj.symm, e1', e2⟩
theorem own_less {i : Nat} {o : Option Sl} (ho : ∀ xs, o ≠ some (.ow xs)) {p : Addr} (h : Own σ { s with env := s.env.set i o } p) : Own σ s p :=
  let ⟨j, xs, _, e1, e2⟩ := own_drop ho h; ⟨j, xs, e1, e2⟩
/-- one's own list is frozen where its name is read -/
theorem W.freezeAt (w : W K C F H σ s) {i : Nat} {xs : List D} (e : s.env[i]? = some (some (.ow xs))) : ∃ p vs, σ[i]? = some (some (.ref p)) ∧ H p = some (.lst vs) ∧ F p = none ∧
    RpL K (updF F p (.lst vs)) vs xs ∧ W K C (updF F p (.lst vs)) H σ { s with env := s.env.set i (some (.fz (.list xs))) } ∧ Mv C σ F H s (updF F p (.lst vs)) H { s with env := s.env.set i (some (.fz (.list xs))) } := by
  obtain ⟨v, ev, p, vs, rfl, hp, r, f, c⟩ := w.slot _ _ e
  have n : ¬ Own σ { s with env := s.env.set i none } p := fun h => by
    obtain ⟨j, ys, hj, e1, e2⟩ := own_drop (by intro _ z; cases z) h
    exact hj (w.sep j i p _ _ e1 e e2 ev)
  have w2 := (w.drop i).freeze hp f c n
  have r2 : RpL K (updF F p (.lst vs)) vs xs := r.up (sub_upd f)
  have w3 := w2.fz (d := .list xs) ev (.lst updF_same r2)
  have e3 : (s.env.set i none).set i (some (.fz (.list xs))) = s.env.set i (some (.fz (.list xs))) := by rw [List.set_set]
  refine ⟨p, vs, ev, hp, f, r2, ?_, sub_upd f, fun q o hq fq _ nq => ⟨hq, ?_⟩, fun q hq => own_less (by intro _ z; cases z) hq, fun _ h => h⟩
  · have w3' : W K C (updF F p (.lst vs)) H σ { s with env := (s.env.set i none).set i (some (.fz (.list xs))) } := w3
    rw [e3] at w3'
    exact w3'
  · rw [updF_ne]
    · exact fq
    · rintro rfl
      exact nq ⟨i, xs, e, ev⟩
end

section
variable {X : Cx} {C : Ct} {pos : Pos}
theorem de_var {i : Nat} {e : Expr} (h : PE X e (tVar i)) : PE X e (tD X.K C (dVar i)) := pe_imp h fun σ H Q ⟨F, s, d, s', w, e, q⟩ => by
  unfold dVar at e
  split at e
  · rename_i d' he
    cases e
    obtain ⟨v, ev, r⟩ := w.slot _ _ he
    exact ⟨v, ev, q v F H .refl w r⟩
  · rename_i xs he
    cases e
    obtain ⟨p, vs, ev, hp, f, r, w2, m⟩ := w.freezeAt he
    exact ⟨_, ev, q _ _ H m w2 (.lst updF_same r)⟩
  · cases e

/-! the chain of a reading: from the data's worth to the rule's -/
theorem tD_run {K : PySem.W.Frag} {f : Ex} {σ : L2.St} {F : Fz} {H : Hp} {s s' : S} {d : D} {Q : VK} (w : W K C F H σ s) (e : f s = some (d, s'))
    (q : ∀ v F' H', Mv C σ F H s F' H' s' → W K C F' H' σ s' → Rp K F' v d → Q v H') : tD K C f σ H Q := ⟨F, s, d, s', w, e, q⟩
theorem tA_run {K : PySem.W.Frag} {f : Ax} {σ : L2.St} {F : Fz} {H : Hp} {s s' : S} {d : List D} {Q : List V → Hp → Prop} (w : W K C F H σ s) (e : f s = some (d, s'))
    (q : ∀ v F' H', Mv C σ F H s F' H' s' → W K C F' H' σ s' → RpL K F' v d → Q v H') : tA K C f σ H Q := ⟨F, s, d, s', w, e, q⟩
theorem tT_run {K : PySem.W.Frag} {f : Tx} {σ : L2.St} {F : Fz} {H : Hp} {s s' : S} {d : Bool} {Q : Bool → Hp → Prop} (w : W K C F H σ s) (e : f s = some (d, s'))
    (q : ∀ F' H', Mv C σ F H s F' H' s' → W K C F' H' σ s' → Q d H') : tT K C f σ H Q := ⟨F, s, d, s', w, e, q⟩

variable {a b c : Expr} {fa fb fc : Ex} {g g' : D → D → Option D}
/-- two parts in a row, then an operation by data -/
theorem bin_run {K : PySem.W.Frag} {σ : L2.St} {H : Hp} {Q : VK} (h : tD K C (dBin g fa fb) σ H Q) : tD K C fa σ H fun x H1 => tD K C fb σ H1 fun y H2 => rOpD K g x y H2 Q := by
  obtain ⟨F, s, d, s', w, e, q⟩ := h
  unfold dBin at e
  split at e
  · cases e
  rename_i x s1 ea
  split at e
  · cases e
  rename_i y s2 eb
  split at e
  · cases e
  rename_i r er
  cases e
  refine tD_run w ea fun vx F1 H1 m1 w1 r1 => tD_run w1 eb fun vy F2 H2 m2 w2 r2 => ⟨F2, x, y, d, w2.into, r1.up m2.sub, r2, er, fun v F' H' gr rv => ?_⟩
  exact q v F' H' ((m1.trans m2).trans (.grow gr)) (w2.grow gr) rv
theorem de_bin {op : Operator} (ho : OpD X (binaryOp op) g) (ha : PE X a (tD X.K C fa)) (hb : PE X b (tD X.K C fb)) : PE X (.BinOp a op b pos) (tD X.K C (dBin g fa fb)) :=
  pe_imp (pe_op ho ha hb) fun _ _ _ h => bin_run h
theorem de_cmp {op : CmpOp} (ho : OpD X (compareOp op) g) (ha : PE X a (tD X.K C fa)) (hb : PE X b (tD X.K C fb)) (hm : behindInMarks op b = false) : PE X (.Compare a [op] [b] pos) (tD X.K C (dBin g fa fb)) :=
  pe_imp (pe_cmpR ho ha hb hm) fun _ _ _ h => bin_run h
theorem de_ix (ho : IxD X g) (ha : PE X a (tD X.K C fa)) (hb : PE X b (tD X.K C fb)) (hs : PlainIx b) : PE X (.Subscript a b pos) (tD X.K C (dBin g fa fb)) :=
  pe_imp (pe_ix ho ha hb hs) fun _ _ _ h => bin_run h
theorem de_un {op : UnaryOp} {g : D → Option D} (ho : UnD X (unaryOp op) g) (ha : PE X a (tD X.K C fa)) : PE X (.UnaryOp op a pos) (tD X.K C (dUn g fa)) :=
  pe_imp (pe_un ho ha) fun σ H Q ⟨F, s, d, s', w, e, q⟩ => by
    unfold dUn at e
    split at e
    · cases e
    rename_i x s1 ea
    split at e
    · cases e
    rename_i r er
    cases e
    exact tD_run w ea fun vx F1 H1 m1 w1 r1 => ⟨F1, x, d, w1.into, r1, er, fun v F' H' gr rv => q v F' H' (m1.trans (.grow gr)) (w1.grow gr) rv⟩
theorem chain_run {K : PySem.W.Frag} {σ : L2.St} {H : Hp} {Q : VK} (h : tD K C (dChain g g' fa fb fc) σ H Q) : tChain (rOpD K g) (rOpD K g') (tD K C fa) (tD K C fb) (tD K C fc) σ H Q := by
    obtain ⟨F, s, d, s', w, e, q⟩ := h
    unfold dChain at e
    split at e
    · cases e
    rename_i x s1 ea
    split at e
    · cases e
    rename_i y s2 eb
    refine tD_run w ea fun vx F1 H1 m1 w1 r1 => tD_run w1 eb fun vy F2 H2 m2 w2 r2 => ?_
    split at e
    · rename_i er
      split at e
      · cases e
      rename_i z s3 ec
      split at e
      · rename_i r' er'
        cases e
        refine ⟨F2, x, y, _, w2.into, r1.up m2.sub, r2, er, fun v F' H' gr rv => ?_⟩
        cases rv
        refine ⟨true, rfl, ?_⟩
        rw [if_pos rfl]
        refine tD_run (w2.grow gr) ec fun vz F3 H3 m3 w3 r3 => ⟨F3, y, z, _, w3.into, (r2.up gr.sub).up m3.sub, r3, er', fun v F4 H4 gr4 rv => ?_⟩
        cases rv
        exact q _ _ _ ((((m1.trans m2).trans (.grow gr)).trans m3).trans (.grow gr4)) (w3.grow gr4) (.bl _)
      · cases e
    · rename_i er
      cases e
      refine ⟨F2, x, y, _, w2.into, r1.up m2.sub, r2, er, fun v F' H' gr rv => ?_⟩
      cases rv
      refine ⟨false, rfl, ?_⟩
      rw [if_neg Bool.false_ne_true]
      exact q _ _ _ ((m1.trans m2).trans (.grow gr)) (w2.grow gr) (.bl _)
    · cases e
theorem de_chain {op op' : CmpOp} (ho : OpD X (compareOp op) g) (ho' : OpD X (compareOp op') g') (ha : PE X a (tD X.K C fa)) (hb : PE X b (tD X.K C fb)) (hc : PE X c (tD X.K C fc)) (hm : lastMarks [op, op'] [b, c] = false := by rfl) :
    PE X (.Compare a [op, op'] [b, c] pos) (tD X.K C (dChain g g' fa fb fc)) :=
  pe_imp (pe_chain ho ho' ha hb hc hm) fun _ _ _ h => chain_run h
end

/-! ### argument lists, displays, calls of built-ins, slices -/
section
variable {X : Cx} {C : Ct} {pos p : Pos} {e o : Expr} {es : List Expr} {fe fo : Ex} {fr : Ax}
theorem da_nil : PA X [] (tA X.K C aNil) := pa_imp pa_nil fun σ H Q ⟨F, s, d, s', w, e, q⟩ => by
  cases e
  exact q [] F H .refl w .nil
theorem da_cons (ha : PE X e (tD X.K C fe)) (hr : PA X es (tA X.K C fr)) (hs : starEach (e :: es) X.env = (false, eval e X.env) :: starEach es X.env := by rfl) : PA X (e :: es) (tA X.K C (aCons fe fr)) :=
  pa_imp (pa_cons ha hr hs) fun σ H Q ⟨F, s, d, s', w, e, q⟩ => by
    unfold aCons at e
    split at e
    · cases e
    rename_i x s1 ea
    split at e
    · cases e
    rename_i xs s2 er
    cases e
    exact tD_run w ea fun vx F1 H1 m1 w1 r1 => tA_run w1 er fun vs F2 H2 m2 w2 r2 => q _ F2 H2 (m1.trans m2) w2 (.cons (r1.up m2.sub) r2)
theorem app_run {K : PySem.W.Frag} {σ : L2.St} {H : Hp} {Q : VK} {g : List D → Option D} (h : tD K C (dApp g fr) σ H Q) : tA K C fr σ H fun vs H1 => rCallD K g vs H1 Q := by
  obtain ⟨F, s, d, s', w, e, q⟩ := h
  unfold dApp at e
  split at e
  · cases e
  rename_i xs s1 ea
  split at e
  · cases e
  rename_i r er
  cases e
  exact tA_run w ea fun vs F1 H1 m1 w1 r1 => ⟨F1, xs, d, w1.into, r1, er, fun v F' H' gr rv => q v F' H' (m1.trans (.grow gr)) (w1.grow gr) rv⟩
/-- a part of a slice -/
def tP (K : PySem.W.Frag) (C : Ct) (f : S → Option (Option Int × S)) : TO := fun σ H Q => ∃ F s d s', W K C F H σ s ∧ f s = some (d, s') ∧
  ∀ F' H', Mv C σ F H s F' H' s' → W K C F' H' σ s' → Q d H'
theorem po_imp {e : Option Expr} {t t' : TO} (h : PO X e t) (q : ∀ σ H Q, t' σ H Q → t σ H Q) : PO X e t' := ⟨fun pins s σ H Q I z => h.run pins s σ H Q I (q σ H Q z)⟩
theorem dp_none : PO X none (tP X.K C dNoPart) := po_imp po_none fun σ H Q ⟨F, s, d, s', w, e, q⟩ => by
  cases e
  exact q F H .refl w
theorem dp_some (h : PE X e (tD X.K C fe)) : PO X (some e) (tP X.K C (dPart fe)) := po_imp (po_some h) fun σ H Q ⟨F, s, d, s', w, e, q⟩ => by
  unfold dPart at e
  split at e
  · rename_i i s1 ea
    cases e
    refine tD_run w ea fun v F1 H1 m1 w1 r1 => ?_
    cases r1
    exact ⟨i, rfl, q F1 H1 m1 w1⟩
  · cases e
theorem de_sl {lo hi : Option Expr} {p2 : Pos} {fl fh : S → Option (Option Int × S)} {g : D → Option Int → Option Int → Option D} (hr : SlD X g) (he : PE X e (tD X.K C fe)) (hl : PO X lo (tP X.K C fl)) (hu : PO X hi (tP X.K C fh)) :
    PE X (.Subscript e (.Slice lo hi none p2) pos) (tD X.K C (dSl g fe fl fh)) := pe_imp (pe_slice hr he hl hu) fun σ H Q ⟨F, s, d, s', w, e, q⟩ => by
  unfold dSl at e
  split at e
  · cases e
  rename_i x s1 ea
  split at e
  · cases e
  rename_i l s2 el
  split at e
  · cases e
  rename_i u s3 eu
  split at e
  · cases e
  rename_i r er
  cases e
  refine tD_run w ea fun vx F1 H1 m1 w1 r1 => ⟨F1, s1, l, s2, w1, el, fun F2 H2 m2 w2 => ⟨F2, s2, u, s', w2, eu, fun F3 H3 m3 w3 => ?_⟩⟩
  exact ⟨F3, x, d, w3.into, r1.up (m2.sub.trans m3.sub), er, fun v F' H' gr rv => q v F' H' (((m1.trans m2).trans m3).trans (.grow gr)) (w3.grow gr) rv⟩
theorem sizeLine_eq : sizeLine = 16777216 := by decide
theorem fits_le {n : Nat} (h : fits n = true) : n ≤ sizeLine := by
  rw [sizeLine_eq]
  exact of_decide_eq_true h
theorem de_tup {x1} (h : PA X es (tA X.K C fr)) : PE X (.Tuple es x1 pos) (tD X.K C (dTup fr)) := pe_imp (pe_tupK h) fun σ H Q ⟨F, s, d, s', w, e, q⟩ => by
  unfold dTup at e
  split at e
  · cases e
  rename_i xs s1 ea
  split at e
  · rename_i hf
    cases e
    refine tA_run w ea fun vs F1 H1 m1 w1 r1 => ⟨by rw [r1.len]; exact fits_le hf, fun p o hp hc hd => ?_⟩
    have gr := grow_new (o := .frz o (.tup vs)) w1.into hp
    exact q _ _ _ (m1.trans (.grow gr)) (w1.grow gr) (.tup ⟨o, updF_same, hc, hd⟩ (r1.up gr.sub))
  · cases e
/-- a new list of one's own -/
theorem oe_lst (h : PA X es (tA X.K C fr)) : PE X (.List es pos) (tO X.K C (oLst fr)) := pe_imp (pe_lst h) fun σ H Q ⟨F, s, d, s', w, e, q⟩ => by
  unfold oLst at e
  split at e
  · cases e
  rename_i xs s1 ea
  split at e
  · rename_i hf
    cases e
    refine tA_run w ea fun vs F1 H1 m1 w1 r1 => ⟨by rw [r1.len]; exact fits_le hf, fun p hp => ?_⟩
    have gr := grow_own (o := .lst vs) w1.into hp
    refine q _ _ _ _ (m1.trans (.grow gr)) (w1.grow gr) upd_same ?_ (w1.gr.live _ hp) ?_ ?_ (m1.live _ hp) (r1.up gr.sub)
    · exact w1.gr.into.free hp
    · intro hx
      unfold exOf at hx
      split at hx
      · cases hx
      · rename_i dp dc hdk
        obtain ⟨_, c1, c2⟩ := w1.deck _ _ hdk
        have : p = dp ∨ p = dc := by simpa using hx
        rcases this with z | z
        · rw [← z] at c1; exact c1 (w1.gr.live _ hp)
        · rw [← z] at c2; exact c2 (w1.gr.live _ hp)
    · rintro ⟨i, ys, e1, e2⟩
      obtain ⟨v, ev, p', vs', e3, hp', _⟩ := w1.slot _ _ e1
      rw [e2] at ev; cases ev
      cases e3
      rw [hp] at hp'; cases hp'
  · cases e
/-- .. taken as data -/
theorem ofO_run {K : PySem.W.Frag} {fo : Ax} {σ : L2.St} {H : Hp} {Q : VK} (h : tD K C (dOfO fo) σ H Q) : tO K C fo σ H Q := by
  obtain ⟨F, s, d, s', w, e, q⟩ := h
  unfold dOfO at e
  split at e
  · cases e
  rename_i xs s1 ea
  cases e
  refine ⟨F, s, xs, s', w, ea, fun p vs F1 H1 m1 w1 hp fp cp ex n hn r => ?_⟩
  have w2 := w1.freeze hp fp cp n
  have m : Mv C σ F H s (updF F1 p (.lst vs)) H1 s' := ⟨m1.sub.trans (sub_upd fp), fun b u hb fb eb nb => by
    obtain ⟨h1, f1⟩ := m1.oth b u hb fb eb nb
    exact ⟨h1, by rw [updF_ne (ne_of_none hb hn)]; exact f1⟩, m1.own, m1.live⟩
  exact q _ _ _ m w2 (.lst updF_same (r.up (sub_upd fp)))
theorem de_ofO {fo : Ax} (h : PE X e (tO X.K C fo)) : PE X e (tD X.K C (dOfO fo)) := pe_imp h fun _ _ _ h => ofO_run h
end
end Dl

/-! The data layer, part 3: tests, truth, statements, calls of own defs. -/
namespace Dl
open PySem PySem.Spec L2

/-! ### tests -/
section
variable {X : Cx} {C : Ct} {pos : Pos} {e a b c : Expr} {fe fa fb fc : Ex} {g g' : D → D → Option D} {ta tb : Tx}
theorem tof_run {K : PySem.W.Frag} {σ : L2.St} {H : Hp} {Q : Bool → Hp → Prop} (h : tT K C (tOf fe) σ H Q) : tD K C fe σ H fun x H1 => ∃ k, x = .bl k ∧ Q k H1 := by
  obtain ⟨F, s, d, s', w, e, q⟩ := h
  unfold tOf at e
  split at e
  · rename_i b s1 ea
    cases e
    refine tD_run w ea fun v F1 H1 m1 w1 r1 => ?_
    cases r1
    exact ⟨_, rfl, q F1 H1 m1 w1⟩
  · cases e
theorem dt_val (h : PE X e (tD X.K C fe)) (he : ∀ whole, isTrue e X.env whole = (do let v ← whole; standAt e.pos; holding [v] (truthy v)) := by intro _; rfl) : PT X e (tT X.K C (tOf fe)) :=
  pt_imp (pt_val h he) fun _ _ _ h => tof_run h
theorem dt_cmp {op : CmpOp} (ho : OpD X (compareOp op) g) (ha : PE X a (tD X.K C fa)) (hb : PE X b (tD X.K C fb)) (hm : behindInMarks op b = false) : PT X (.Compare a [op] [b] pos) (tT X.K C (tOf (dBin g fa fb))) :=
  pt_imp (pt_cmpR ho ha hb hm) fun _ _ _ h => by
    obtain ⟨F, s, d, s', w, e, q⟩ := tof_run h
    exact bin_run ⟨F, s, d, s', w, e, q⟩
theorem dt_chain {op op' : CmpOp} (ho : OpD X (compareOp op) g) (ho' : OpD X (compareOp op') g') (ha : PE X a (tD X.K C fa)) (hb : PE X b (tD X.K C fb)) (hc : PE X c (tD X.K C fc)) (hm : lastMarks [op, op'] [b, c] = false := by with_unfolding_all rfl) :
    PT X (.Compare a [op, op'] [b, c] pos) (tT X.K C (tOf (dChain g g' fa fb fc))) :=
  pt_imp (pt_chain ho ho' ha hb hc hm) fun _ _ _ h => chain_run (tof_run h)
theorem dt_not (h : PT X a (tT X.K C ta)) : PT X (.UnaryOp .Not a pos) (tT X.K C (tNotX ta)) := pt_imp (pt_not h) fun σ H Q ⟨F, s, d, s', w, e, q⟩ => by
  unfold tNotX at e
  split at e
  · cases e
  rename_i x s1 ea
  cases e
  exact tT_run w ea fun F1 H1 m1 w1 => q F1 H1 m1 w1
theorem pw_imp {e : Expr} {t t' : TT} (h : PW X e t) (q : ∀ σ H Q, t' σ H Q → t σ H Q) : PW X e t' := ⟨fun wh pins s σ H Q I z => h.run wh pins s σ H Q I (q σ H Q z)⟩
theorem dw_and1 (h : PT X a (tT X.K C ta)) : PW X (.BoolOp .And [a] pos) (tT X.K C ta) := pw_and1 h
theorem dw_or1 (h : PT X a (tT X.K C ta)) : PW X (.BoolOp .Or [a] pos) (tT X.K C ta) := pw_or1 h
theorem dw_and {rest : List Expr} (h : PT X a (tT X.K C ta)) (hb : PW X (.BoolOp .And (b :: rest) pos) (tT X.K C tb)) : PW X (.BoolOp .And (a :: b :: rest) pos) (tT X.K C (tAndX ta tb)) :=
  pw_imp (pw_and h hb) fun σ H Q ⟨F, s, d, s', w, e, q⟩ => by
    unfold tAndX at e
    split at e
    · cases e
    · rename_i s1 ea
      exact tT_run w ea fun F1 H1 m1 w1 => iteT ⟨F1, s1, d, s', w1, e, fun F2 H2 m2 w2 => q F2 H2 (m1.trans m2) w2⟩
    · rename_i s1 ea
      cases e
      exact tT_run w ea fun F1 H1 m1 w1 => iteF (q F1 H1 m1 w1)
theorem dw_or {rest : List Expr} (h : PT X a (tT X.K C ta)) (hb : PW X (.BoolOp .Or (b :: rest) pos) (tT X.K C tb)) : PW X (.BoolOp .Or (a :: b :: rest) pos) (tT X.K C (tOrX ta tb)) :=
  pw_imp (pw_or h hb) fun σ H Q ⟨F, s, d, s', w, e, q⟩ => by
    unfold tOrX at e
    split at e
    · cases e
    · rename_i s1 ea
      exact tT_run w ea fun F1 H1 m1 w1 => iteF ⟨F1, s1, d, s', w1, e, fun F2 H2 m2 w2 => q F2 H2 (m1.trans m2) w2⟩
    · rename_i s1 ea
      cases e
      exact tT_run w ea fun F1 H1 m1 w1 => iteT (q F1 H1 m1 w1)
theorem dw_pt (h : PW X e (tT X.K C ta)) : PT X e (tT X.K C ta) := h.pt
/-- truth of any data -/
theorem tru_ok {K : PySem.W.Frag} {F : Fz} {H : Hp} {v : V} {d : D} {b : Bool} (i : Into F H) (r : Rp K F v d) (h : tru d = some b) : TruV K v H b := by
  cases r with
  | non => cases h; rfl
  | bl k => cases h; rfl
  | int i => cases h; rfl
  | str x =>
    have h' : (if fits x.length = true then some (x.length != 0) else none) = some b := h
    split at h'
    · rename_i hf
      cases h'
      refine ⟨fits_le hf, ?_⟩
      by_cases h0 : x.length = 0
      · rw [h0]; rfl
      · have h1 : ¬ ((x.length : Int) = 0) := by omega
        have e1 : (x.length == 0) = false := by simpa using h0
        have e2 : ((x.length : Int) == 0) = false := by simpa using h1
        show (!(x.length == 0)) = !((x.length : Int) == 0)
        rw [e1, e2]
    · cases h'
  | lst hs rs =>
    cases h
    refine .inl ⟨_, .inl (.inl (i _ _ hs)), ?_⟩
    cases rs <;> rfl
  | tup hs rs =>
    cases h
    refine .inr (.inl ⟨_, hs.sq i, ?_⟩)
    cases rs <;> rfl
  | @dct a kvs ds hs rs =>
    have h' : (if isRefK ds = true then none else some (!ds.isEmpty)) = some b := h
    rw [rs.noref] at h'
    cases h'
    refine .inr (.inr ⟨_, i _ _ hs, ?_⟩)
    cases rs <;> rfl
  | rf hs => cases h
  | dkt h1 h2 => cases h
theorem dt_tru (h : PE X e (tD X.K C fe)) (he : ∀ whole, isTrue e X.env whole = (do let v ← whole; standAt e.pos; holding [v] (truthy v)) := by intro _; rfl) : PT X e (tT X.K C (tTru fe)) :=
  pt_imp (pt_truth h he) fun σ H Q ⟨F, s, d, s', w, e, q⟩ => by
    unfold tTru at e
    split at e
    · cases e
    rename_i x s1 ea
    split at e
    · cases e
    rename_i b eb
    cases e
    exact tD_run w ea fun v F1 H1 m1 w1 r1 => ⟨_, tru_ok w1.into r1 eb, q F1 H1 m1 w1⟩
/-- and, or, not as values: of truth values -/
def dAnd (a b : Ex) : Ex := fun s => match a s with
  | some (.bool true, s1) => b s1
  | some (.bool false, s1) => some (.bool false, s1)
  | _ => none
def dOr (a b : Ex) : Ex := fun s => match a s with
  | some (.bool false, s1) => b s1
  | some (.bool true, s1) => some (.bool true, s1)
  | _ => none
def dNot (a : Ex) : Ex := fun s => match a s with
  | some (.bool b, s1) => some (.bool !b, s1)
  | _ => none
theorem de_one {op} (h : PE X a (tD X.K C fa)) : PE X (.BoolOp op [a] pos) (tD X.K C fa) := pe_one h
theorem de_and {rest : List Expr} (h : PE X a (tD X.K C fa)) (hb : PE X (.BoolOp .And (b :: rest) pos) (tD X.K C fb)) : PE X (.BoolOp .And (a :: b :: rest) pos) (tD X.K C (dAnd fa fb)) :=
  pe_imp (pe_and h hb) fun σ H Q ⟨F, s, d, s', w, e, q⟩ => by
    unfold dAnd at e
    split at e
    · rename_i s1 ea
      refine tD_run w ea fun v F1 H1 m1 w1 r1 => ?_
      cases r1
      exact ⟨true, rfl, iteT ⟨F1, s1, d, s', w1, e, fun v F2 H2 m2 w2 r2 => q v F2 H2 (m1.trans m2) w2 r2⟩⟩
    · rename_i s1 ea
      cases e
      refine tD_run w ea fun v F1 H1 m1 w1 r1 => ?_
      cases r1
      exact ⟨false, rfl, iteF (q _ F1 H1 m1 w1 (.bl _))⟩
    · cases e
theorem de_or {rest : List Expr} (h : PE X a (tD X.K C fa)) (hb : PE X (.BoolOp .Or (b :: rest) pos) (tD X.K C fb)) : PE X (.BoolOp .Or (a :: b :: rest) pos) (tD X.K C (dOr fa fb)) :=
  pe_imp (pe_or h hb) fun σ H Q ⟨F, s, d, s', w, e, q⟩ => by
    unfold dOr at e
    split at e
    · rename_i s1 ea
      refine tD_run w ea fun v F1 H1 m1 w1 r1 => ?_
      cases r1
      exact ⟨false, rfl, iteF ⟨F1, s1, d, s', w1, e, fun v F2 H2 m2 w2 r2 => q v F2 H2 (m1.trans m2) w2 r2⟩⟩
    · rename_i s1 ea
      cases e
      refine tD_run w ea fun v F1 H1 m1 w1 r1 => ?_
      cases r1
      exact ⟨true, rfl, iteT (q _ F1 H1 m1 w1 (.bl _))⟩
    · cases e
theorem de_not (h : PE X a (tD X.K C fa)) : PE X (.UnaryOp .Not a pos) (tD X.K C (dNot fa)) := pe_imp (pe_not h) fun σ H Q ⟨F, s, d, s', w, e, q⟩ => by
  unfold dNot at e
  split at e
  · rename_i k s1 ea
    cases e
    refine tD_run w ea fun v F1 H1 m1 w1 r1 => ?_
    cases r1
    exact ⟨_, rfl, q _ F1 H1 m1 w1 (.bl _)⟩
  · cases e
theorem de_if (hc : PT X c (tT X.K C ta)) (ha : PE X a (tD X.K C fa)) (hb : PE X b (tD X.K C fb)) : PE X (.IfExp c a b pos) (tD X.K C (dIfE ta fa fb)) := pe_imp (pe_ifExp hc ha hb) fun σ H Q ⟨F, s, d, s', w, e, q⟩ => by
  unfold dIfE at e
  split at e
  · cases e
  · rename_i s1 ea
    exact tT_run w ea fun F1 H1 m1 w1 => iteT ⟨F1, s1, d, s', w1, e, fun v F2 H2 m2 w2 r2 => q v F2 H2 (m1.trans m2) w2 r2⟩
  · rename_i s1 ea
    exact tT_run w ea fun F1 H1 m1 w1 => iteF ⟨F1, s1, d, s', w1, e, fun v F2 H2 m2 w2 r2 => q v F2 H2 (m1.trans m2) w2 r2⟩
end

/-! ### statements -/
def bNil : Bd := fun s => some (.nx s)
def bSeq (a b : Bd) : Bd := fun s => match a s with
  | some (.nx s1) => b s1
  | o => o
def bIf (c : Tx) (a b : Bd) : Bd := fun s => match c s with
  | none => none
  | some (true, s1) => a s1
  | some (false, s1) => b s1
def bRet (a : Ex) : Bd := fun s => match a s with
  | none => none
  | some (d, s1) => some (.rt d s1)
def bRetN : Bd := fun s => some (.rt .none s)
def bDrop (a : Ex) : Bd := fun s => match a s with
  | none => none
  | some (_, s1) => some (.nx s1)
def bSet (i : Nat) (a : Ex) : Bd := fun s => match a s with
  | none => none
  | some (d, s1) => some (.nx { s1 with env := s1.env.set i (some (.fz d)) })
def bSetO (i : Nat) (a : Ax) : Bd := fun s => match a s with
  | none => none
  | some (xs, s1) => some (.nx { s1 with env := s1.env.set i (some (.ow xs)) })
def bBrk : Bd := fun s => some (.bk s)
def bCnt : Bd := fun s => some (.ct s)

section
variable {K : PySem.W.Frag} {C : Ct} {F : Fz} {H : Hp} {σ : L2.St} {s : S}
/-- a name is stored: data -/
theorem W.store (w : W K C F H σ s) {v : V} {d : D} (r : Rp K F v d) (i : Nat) : W K C F H (σ.set i (some v)) { s with env := s.env.set i (some (.fz d)) } := by
  have w0 : W K C F H (σ.set i (some v)) { s with env := s.env.set i none } := by
    have w1 := w.drop i
    have ne : ∀ {j : Nat} {l : Sl}, (s.env.set i none)[j]? = some (some l) → i ≠ j := fun {j l} h z => by
      subst z
      by_cases hl : i < s.env.length
      · rw [List.getElem?_set_self hl] at h; cases h
      · rw [List.getElem?_eq_none (by simpa using hl)] at h; cases h
    refine ⟨w1.gr, by simp [w.len], fun j l q => ?_, fun a b p ys zs ha hb ea eb => ?_, w1.deck, w1.st, w1.pl⟩
    · rw [List.getElem?_set_ne (ne q)]
      exact w1.slot j l q
    · rw [List.getElem?_set_ne (ne ha)] at ea
      rw [List.getElem?_set_ne (ne hb)] at eb
      exact w1.sep a b p ys zs ha hb ea eb
  by_cases hi : i < σ.length
  · have w2 := w0.fz (i := i) (v := v) (d := d) (by rw [List.getElem?_set_self hi]) r
    have e3 : (s.env.set i none).set i (some (.fz d)) = s.env.set i (some (.fz d)) := by rw [List.set_set]
    have w2' : W K C F H (σ.set i (some v)) { s with env := (s.env.set i none).set i (some (.fz d)) } := w2
    rw [e3] at w2'
    exact w2'
  · have hi2 : ¬ i < s.env.length := by rw [w.len]; exact hi
    rw [List.set_eq_of_length_le (by omega), List.set_eq_of_length_le (by omega)]
    exact w
/-- a name is stored: a list of one's own -/
theorem W.storeO (w : W K C F H σ s) {p : Addr} {vs : List V} {xs : List D} (r : RpL K F vs xs) (hp : H p = some (.lst vs)) (fp : F p = none) (cp : C.H0 p = none) (n : ¬ Own σ s p) (i : Nat) : W K C F H (σ.set i (some (.ref p))) { s with env := s.env.set i (some (.ow xs)) } := by
  by_cases hi : i < s.env.length
  · have hs : i < σ.length := by rw [← w.len]; exact hi
    refine ⟨w.gr, by simp [w.len], fun j l q => ?_, fun a b p' ys zs ha hb ea eb => ?_, w.deck, w.st, w.pl⟩
    · by_cases hj : i = j
      · subst hj
        rw [List.getElem?_set_self hi] at q
        cases q
        exact ⟨.ref p, by rw [List.getElem?_set_self hs], p, vs, rfl, hp, r, fp, cp⟩
      · rw [List.getElem?_set_ne hj] at q ⊢
        exact w.slot j l q
    · have ha' : (s.env.set i (some (.ow xs)))[a]? = some (some (.ow ys)) := ha
      have hb' : (s.env.set i (some (.ow xs)))[b]? = some (some (.ow zs)) := hb
      by_cases e1 : i = a
      · subst e1
        by_cases e2 : i = b
        · exact e2
        · rw [List.getElem?_set_self hs] at ea
          cases ea
          rw [List.getElem?_set_ne e2] at hb' eb
          exact absurd ⟨b, zs, hb', eb⟩ n
      · rw [List.getElem?_set_ne e1] at ha' ea
        by_cases e2 : i = b
        · subst e2
          rw [List.getElem?_set_self hs] at eb
          cases eb
          exact absurd ⟨a, ys, ha', ea⟩ n
        · rw [List.getElem?_set_ne e2] at hb' eb
          exact w.sep a b p' ys zs ha' hb' ea eb
  · rw [List.set_eq_of_length_le (by rw [← w.len]; omega), List.set_eq_of_length_le (by omega)]
    exact w
end

section
variable {X : Cx} {C : Ct} {pos : Pos} {e : Expr} {st : Stmt} {rest : List Stmt} {fe : Ex} {fo : Ax} {ga gb : Bd} {ta : Tx}
theorem ds_nil : PSs X [] (tS X.K C Z bNil) := pss_imp pss_nil fun E σ H ⟨F, s, o, w, e, q⟩ => by
  cases e
  exact q σ F H (Sub.refl _) w
theorem ds_cons (h : PS X st (tS X.K C Z ga)) (hr : PSs X rest (tS X.K C Z gb)) : PSs X (st :: rest) (tS X.K C Z (bSeq ga gb)) := pss_imp (pss_cons h hr) fun E σ H ⟨F, s, o, w, e, q⟩ => by
  unfold bSeq at e
  split at e
  · rename_i s1 ea
    exact ⟨F, s, _, w, ea, fun σ' F' H' sub w' => ⟨F', s1, o, w', e, q.up sub⟩⟩
  · rename_i hn
    refine ⟨F, s, o, w, e, ?_⟩
    cases o with
    | nx s1 => exact absurd e (hn s1)
    | bk s1 => exact q
    | ct s1 => exact q
    | rt d s1 => exact q
    | ex x s1 => exact q
theorem ds_one (h : PS X st (tS X.K C Z ga)) : PSs X [st] (tS X.K C Z ga) := pss_one h
theorem ds_if {c : Expr} {a b : List Stmt} (hc : PT X c (tT X.K C ta)) (ha : PSs X a (tS X.K C Z ga)) (hb : PSs X b (tS X.K C Z gb)) : PS X (.If c a b pos) (tS X.K C Z (bIf ta ga gb)) := ps_imp (ps_if hc ha hb) fun E σ H ⟨F, s, o, w, e, q⟩ => by
  unfold bIf at e
  split at e
  · cases e
  · rename_i s1 ea
    exact tT_run w ea fun F1 H1 m1 w1 => iteT ⟨F1, s1, o, w1, e, q.up m1.sub⟩
  · rename_i s1 ea
    exact tT_run w ea fun F1 H1 m1 w1 => iteF ⟨F1, s1, o, w1, e, q.up m1.sub⟩
theorem ds_ret (h : PE X e (tD X.K C fe)) : PS X (.Return (some e) pos) (tS X.K C Z (bRet fe)) := ps_imp (ps_ret h) fun E σ H ⟨F, s, o, w, e, q⟩ => by
  unfold bRet at e
  split at e
  · cases e
  rename_i d s1 ea
  cases e
  exact tD_run w ea fun v F1 H1 m1 w1 r1 => q v σ F1 H1 m1.sub w1 r1
theorem ds_retN : PS X (.Return none pos) (tS X.K C Z bRetN) := ps_imp ps_retN fun E σ H ⟨F, s, o, w, e, q⟩ => by
  cases e
  exact q .non σ F H (Sub.refl _) w .non
theorem ds_drop (h : PE X e (tD X.K C fe)) (hs : swapsWith e none pos.line X.env = pure false := by rfl) : PS X (.Expr e pos) (tS X.K C Z (bDrop fe)) := ps_imp (ps_expr h hs) fun E σ H ⟨F, s, o, w, e, q⟩ => by
  unfold bDrop at e
  split at e
  · cases e
  rename_i d s1 ea
  cases e
  exact tD_run w ea fun v F1 H1 m1 w1 r1 => q σ F1 H1 m1.sub w1
theorem ds_brk : PS X (.Break pos) (tS X.K C Z bBrk) := ps_imp ps_break fun E σ H ⟨F, s, o, w, e, q⟩ => by
  cases e
  exact q σ F H (Sub.refl _) w
theorem ds_cnt : PS X (.Continue pos) (tS X.K C Z bCnt) := ps_imp ps_continue fun E σ H ⟨F, s, o, w, e, q⟩ => by
  cases e
  exact q σ F H (Sub.refl _) w
theorem asg_run {K : PySem.W.Frag} {i : Nat} {E : Ends} {σ : L2.St} {H : Hp} (h : tS K C Z (bSet i fe) E σ H) : tAsg (tD K C fe) (gName i) E σ H := by
  obtain ⟨F, s, o, w, e, q⟩ := h
  unfold bSet at e
  split at e
  · cases e
  rename_i d s1 ea
  cases e
  exact tD_run w ea fun v F1 H1 m1 w1 r1 => q _ F1 H1 m1.sub (w1.store r1 i)
theorem asgO_run {K : PySem.W.Frag} {i : Nat} {E : Ends} {σ : L2.St} {H : Hp} (h : tS K C Z (bSetO i fo) E σ H) : tAsg (tO K C fo) (gName i) E σ H := by
  obtain ⟨F, s, o, w, e, q⟩ := h
  unfold bSetO at e
  split at e
  · cases e
  rename_i d s1 ea
  cases e
  exact ⟨F, s, d, s1, w, ea, fun p vs F1 H1 m1 w1 hp fp cp ex n hn r => q _ F1 H1 m1.sub (w1.storeO r hp fp cp n i)⟩
/-- name = e, by the rule for it (ps_set, ps_setLc) -/
theorem ds_set {i : Nat} (h : PS X st (tAsg (tD X.K C fe) (gName i))) : PS X st (tS X.K C Z (bSet i fe)) := ps_imp h fun _ _ _ h => asg_run h
theorem ds_setO {i : Nat} (h : PS X st (tAsg (tO X.K C fo) (gName i))) : PS X st (tS X.K C Z (bSetO i fo)) := ps_imp h fun _ _ _ h => asgO_run h
end
end Dl

/-! The data layer, part 4: lists of one's own, targets, loops, comprehensions. -/
namespace Dl
open PySem PySem.Spec L2

def sm (n : Nat) : Bool := decide (n < 16777216)
theorem sm_lt {n : Nat} (h : sm n = true) : n < sizeLine := by
  rw [sizeLine_eq]
  exact of_decide_eq_true h
/-- xs[k] = d of a list of one's own -/
def putAt (xs : List D) (k : Int) (d : D) : Option (List D) := match ixN xs.length k with
  | some j => some (xs.set j d)
  | none => none
def owAt (s : S) (i : Nat) : Option (List D) := match s.env[i]? with
  | some (some (.ow xs)) => some xs
  | _ => none
theorem owAt_some {s : S} {i : Nat} {xs : List D} (h : owAt s i = some xs) : s.env[i]? = some (some (.ow xs)) := by
  unfold owAt at h
  split at h
  · cases h; assumption
  · cases h
def setOw (s : S) (i : Nat) (xs : List D) : S := { s with env := s.env.set i (some (.ow xs)) }
def bApp (i : Nat) (a : Ax) : Bd := fun s => match owAt s i with
  | none => none
  | some _ => match a s with
    | some ([d], s1) => (match owAt s1 i with
      | none => none
      | some xs => if sm xs.length then some (.nx (setOw s1 i (xs ++ [d]))) else none)
    | _ => none
def bExt (i : Nat) (a : Ax) : Bd := fun s => match owAt s i with
  | none => none
  | some _ => match a s with
    | some ([.list ds], s1) => (match owAt s1 i with
      | none => none
      | some xs => if fits (xs.length + ds.length) then some (.nx (setOw s1 i (xs ++ ds))) else none)
    | _ => none
def bPut (i : Nat) (ix e : Ex) : Bd := fun s => match e s with
  | none => none
  | some (d, s1) => match owAt s1 i with
    | none => none
    | some _ => match ix s1 with
      | some (.int k, s2) => (match owAt s2 i with
        | none => none
        | some xs => match putAt xs k d with
          | none => none
          | some ys => some (.nx (setOw s2 i ys)))
      | _ => none
def bAugAt (g : D → D → Option D) (i : Nat) (ix e : Ex) : Bd := fun s => match owAt s i with
  | none => none
  | some _ => match ix s with
    | some (.int k, s1) => (match owAt s1 i with
      | none => none
      | some xs => match atI xs k with
        | none => none
        | some x => match e s1 with
          | none => none
          | some (y, s2) => match g x y with
            | none => none
            | some z => match owAt s2 i with
              | none => none
              | some xs2 => match putAt xs2 k z with
                | none => none
                | some ys => some (.nx (setOw s2 i ys)))
    | _ => none
def bAug (g : D → D → Option D) (i : Nat) (e : Ex) : Bd := fun s => match s.env[i]? with
  | some (some (.fz x)) => (match e s with
    | none => none
    | some (y, s1) => match g x y with
      | none => none
      | some z => some (.nx { s1 with env := s1.env.set i (some (.fz z)) }))
  | _ => none
/-- xs[k], len(xs) of a list of one's own, which stays one's own -/
def dAt (i : Nat) (ix : Ex) : Ex := fun s => match owAt s i with
  | none => none
  | some _ => match ix s with
    | some (.int k, s1) => (match owAt s1 i with
      | none => none
      | some xs => match atI xs k with
        | none => none
        | some x => some (x, s1))
    | _ => none
def dLenO (i : Nat) : Ex := fun s => match owAt s i with
  | none => none
  | some xs => some (.int xs.length, s)

theorem RpL.atI {K : PySem.W.Frag} {F : Fz} {vs : List V} {ds : List D} {k : Int} {d : D} (r : RpL K F vs ds) (h : L2.atI ds k = some d) : ∃ v, L2.atI vs k = some v ∧ Rp K F v d := by
  unfold L2.atI at h ⊢
  rw [r.len]
  cases e : ixN ds.length k with
  | none => rw [e] at h; cases h
  | some j =>
    rw [e] at h
    obtain ⟨v, h1, h2⟩ := r.get (i := j) (d := d) h
    exact ⟨v, h1, h2⟩

section
variable {K : PySem.W.Frag} {C : Ct} {F : Fz} {H : Hp} {σ : L2.St} {s : S}
/-- a list of one's own is changed -/
theorem W.change (w : W K C F H σ s) {i : Nat} {xs : List D} (e : s.env[i]? = some (some (.ow xs))) {p : Addr} (ep : σ[i]? = some (some (.ref p))) {ws : List V} {ys : List D} (r : RpL K F ws ys) : W K C F (upd H p (.lst ws)) σ (setOw s i ys) := by
  obtain ⟨v, ev, p', vs, rfl, hp, rp, fp, cp⟩ := w.slot _ _ e
  rw [ep] at ev; cases ev
  have hi : i < s.env.length := (List.getElem?_eq_some_iff.mp e).1
  refine ⟨⟨w.gr.sub, w.gr.into.beside fp, w.gr.new, w.gr.num, fun b o q x y => ?_, fun b q => ?_⟩, by simp [setOw, w.len], fun j l q => ?_, fun a b p' zs zs' ha hb ea eb => ?_, fun dp dc ed => ?_, fun l e => ⟨(w.st l e).1, (w.st l e).2.beside fp⟩, w.pl⟩
  · rw [upd_ne (ne_of_none q cp)]
    exact w.gr.keep _ _ q x y
  · by_cases hb : b = p
    · subst hb; exact cp
    · rw [upd_ne hb] at q; exact w.gr.live _ q
  · have q' : (s.env.set i (some (.ow ys)))[j]? = some (some l) := q
    by_cases hj : i = j
    · subst hj
      rw [List.getElem?_set_self hi] at q'
      cases q'
      exact ⟨.ref p, ep, p, ws, rfl, upd_same, r, fp, cp⟩
    · rw [List.getElem?_set_ne hj] at q'
      obtain ⟨v, ev, z⟩ := w.slot j l q'
      refine ⟨v, ev, ?_⟩
      cases l with
      | fz d => exact z
      | dk => exact z
      | xc e => exact z
      | ow zs =>
        obtain ⟨p2, vs2, rfl, h2, r2, f2, c2⟩ := z
        refine ⟨p2, vs2, rfl, ?_, r2, f2, c2⟩
        rw [upd_ne]
        · exact h2
        · rintro rfl
          exact hj (w.sep i j p2 _ _ e q' ep ev)
  · have nn : ∀ {c : Nat} {zs : List D}, (s.env.set i (some (.ow ys)))[c]? = some (some (.ow zs)) → ∃ zs', s.env[c]? = some (some (.ow zs')) := fun {c zs} h => by
      by_cases hc : i = c
      · subst hc; exact ⟨_, e⟩
      · rw [List.getElem?_set_ne hc] at h; exact ⟨_, h⟩
    obtain ⟨z1, h1⟩ := nn ha
    obtain ⟨z2, h2⟩ := nn hb
    exact w.sep a b p' z1 z2 h1 h2 ea eb
  · obtain ⟨dk, c1, c2⟩ := w.deck dp dc ed
    obtain ⟨ne, _, _, f1, f2⟩ := dk.no
    refine ⟨dk.up (fun _ _ h => h) (fun o h => ?_) (fun o h => ?_) f1 f2, c1, c2⟩
    · rw [upd_ne]
      · exact h
      · rintro rfl; exact c1 cp
    · rw [upd_ne]
      · exact h
      · rintro rfl; exact c2 cp
theorem W.ow (w : W K C F H σ s) {i : Nat} {xs : List D} (e : owAt s i = some xs) : ∃ p vs, σ[i]? = some (some (.ref p)) ∧ H p = some (.lst vs) ∧ RpL K F vs xs ∧ F p = none ∧ C.H0 p = none := by
  obtain ⟨v, ev, p, vs, rfl, hp, r, f, c⟩ := w.slot _ _ (owAt_some e)
  exact ⟨p, vs, ev, hp, r, f, c⟩
end

section
variable {X : Cx} {C : Ct} {pos : Pos} {e : Expr} {st : Stmt} {fe fi : Ex} {fr : Ax} {i : Nat}
theorem ds_app (h : PS X st (tDrop (tBM X.K "list" rAppend (tVar i) (tA X.K C fr)))) : PS X st (tS X.K C Z (bApp i fr)) := ps_imp h fun E σ H ⟨F, s, o, w, e, q⟩ => by
  unfold bApp at e
  split at e
  · cases e
  rename_i xs0 e0
  obtain ⟨p, vs, ev, hp, r, f, c⟩ := w.ow e0
  split at e
  · rename_i d s1 ea
    split at e
    · cases e
    rename_i xs e1
    split at e
    · rename_i hz
      cases e
      refine ⟨.ref p, ev, .inl ⟨rfl, _, .inl (.inl hp)⟩, tA_run w ea fun ws F1 H1 m1 w1 r1 => ?_⟩
      obtain ⟨p', vs', ev', hp', r', f', c'⟩ := w1.ow e1
      rw [ev] at ev'; cases ev'
      cases r1 with
      | cons rd rn =>
        cases rn
        refine ⟨p, vs', _, rfl, rfl, hp', by rw [r'.len]; exact sm_lt hz, ?_⟩
        exact q σ F1 _ m1.sub (w1.change (owAt_some e1) ev (r'.app (.cons rd .nil)))
    · cases e
  · cases e
theorem ds_ext (h : PS X st (tDrop (tBM X.K "list" rExtend (tVar i) (tA X.K C fr)))) : PS X st (tS X.K C Z (bExt i fr)) := ps_imp h fun E σ H ⟨F, s, o, w, e, q⟩ => by
  unfold bExt at e
  split at e
  · cases e
  rename_i xs0 e0
  obtain ⟨p, vs, ev, hp, r, f, c⟩ := w.ow e0
  split at e
  · rename_i ds s1 ea
    split at e
    · cases e
    rename_i xs e1
    split at e
    · rename_i hz
      cases e
      refine ⟨.ref p, ev, .inl ⟨rfl, _, .inl (.inl hp)⟩, tA_run w ea fun ws F1 H1 m1 w1 r1 => ?_⟩
      obtain ⟨p', vs', ev', hp', r', f', c'⟩ := w1.ow e1
      rw [ev] at ev'; cases ev'
      cases r1 with
      | cons rd rn =>
        cases rn
        cases rd with
        | lst hb rb =>
          refine ⟨p, _, vs', _, rfl, rfl, hp', w1.into _ _ hb, by rw [r'.len, rb.len]; exact fits_le hz, ?_⟩
          exact q σ F1 _ m1.sub (w1.change (owAt_some e1) ev (r'.app rb))
    · cases e
  · cases e
theorem put_run {K : PySem.W.Frag} {F : Fz} {H : Hp} {vs : List V} {xs ys : List D} {k : Int} {d : D} (r : RpL K F vs xs) (h : putAt xs k d = some ys) {v : V} (rv : Rp K F v d) : ∃ j, ixN vs.length k = some j ∧ RpL K F (vs.set j v) ys := by
  unfold putAt at h
  split at h
  · rename_i j e
    cases h
    exact ⟨j, by rw [r.len]; exact e, r.set rv j⟩
  · cases h
theorem ds_put (h : PS X st (tAsg (tD X.K C fe) (gSub (tVar i) (tD X.K C fi) rSetL))) : PS X st (tS X.K C Z (bPut i fi fe)) := ps_imp h fun E σ H ⟨F, s, o, w, e, q⟩ => by
  unfold bPut at e
  split at e
  · cases e
  rename_i d s1 ea
  split at e
  · cases e
  rename_i xs0 e0
  split at e
  · rename_i k s2 ek
    split at e
    · cases e
    rename_i xs e1
    split at e
    · cases e
    rename_i ys ey
    cases e
    refine tD_run w ea fun v F1 H1 m1 w1 r1 => ?_
    obtain ⟨p, vs, ev, hp, r, f, c⟩ := w1.ow e0
    refine ⟨.ref p, ev, tD_run w1 ek fun kv F2 H2 m2 w2 r2 => ?_⟩
    obtain ⟨p', vs', ev', hp', r', f', c'⟩ := w2.ow e1
    rw [ev] at ev'; cases ev'
    cases r2
    obtain ⟨j, hj, rj⟩ := put_run (H := H) r' ey (r1.up m2.sub)
    exact ⟨p, vs', k, j, rfl, rfl, hp', hj, q σ F2 _ (m1.sub.trans m2.sub) (w2.change (owAt_some e1) ev rj)⟩
  · cases e
/-- xs[k] read by values -/
theorem pget_list : PGet X (rIxL X.K) := fun pins s σ H o i ov iv Q I ro ri h => by
  obtain ⟨p, xs, k, v, rfl, rfl, hs, hat, q⟩ := h
  cases ro
  obtain ⟨t, rfl⟩ := ri
  obtain ⟨its, rv, pl, hz⟩ := I.list hs
  obtain ⟨j, h1, h2, h3, h4, h5⟩ := atI_get hat
  obtain ⟨w, ew, rw'⟩ := rv.get h2
  have hn := line63
  have hlen := rv.length
  have done : EP X pins σ Q w s := ⟨v, H, I, rw', q⟩
  by_cases h0 : 0 ≤ k
  · have e1 : k.toNat = j := Option.some.inj ((seqIndex_of h0 h5).symm.trans h1)
    refine wpAny_getItem_list pl.isList h0 (by omega) ?_ done
    rw [e1]
    simpa using ew
  · have e1 := (seqIndex_neg (by omega) h4).symm.trans h1
    refine wpAny_getItem_list_neg pl.isList (by omega) ?_ (by omega) ?_ done
    · rw [List.size_toArray]
      omega
    · rw [List.size_toArray, ← hlen, Option.some.inj e1]
      simpa using ew
theorem ds_augAt {g : D → D → Option D} (h : PS X st (tAugS (tVar i) (tD X.K C fi) (tD X.K C fe) (rIxL X.K) (rOpD X.K g) rSetL)) : PS X st (tS X.K C Z (bAugAt g i fi fe)) := ps_imp h fun E σ H ⟨F, s, o, w, e, q⟩ => by
  unfold bAugAt at e
  split at e
  · cases e
  rename_i xs0 e0
  split at e
  · rename_i k s1 ek
    split at e
    · cases e
    rename_i xs e1
    split at e
    · cases e
    rename_i x ex
    split at e
    · cases e
    rename_i y s2 ey
    split at e
    · cases e
    rename_i z ez
    split at e
    · cases e
    rename_i xs2 e2
    split at e
    · cases e
    rename_i ys eys
    cases e
    obtain ⟨p, vs, ev, hp, r, f, c⟩ := w.ow e0
    refine ⟨.ref p, ev, tD_run w ek fun kv F1 H1 m1 w1 r1 => ?_⟩
    cases r1
    obtain ⟨p', vs', ev', hp', r', f', c'⟩ := w1.ow e1
    rw [ev] at ev'; cases ev'
    obtain ⟨xv, hx, rx⟩ := r'.atI ex
    refine ⟨p, vs', k, xv, rfl, rfl, .inl (.inl hp'), hx, tD_run w1 ey fun yv F2 H2 m2 w2 r2 => ?_⟩
    refine ⟨F2, x, y, z, w2.into, rx.up m2.sub, r2, ez, fun zv F3 H3 gr rz => ?_⟩
    have w3 := w2.grow gr
    obtain ⟨p3, vs3, ev3, hp3, r3, f3, c3⟩ := w3.ow e2
    rw [ev] at ev3; cases ev3
    obtain ⟨j, hj, rj⟩ := put_run (H := H) r3 eys rz
    exact ⟨p, vs3, k, j, rfl, rfl, hp3, hj, q σ F3 _ ((m1.sub.trans m2.sub).trans gr.sub) (w3.change (owAt_some e2) ev rj)⟩
  · cases e
theorem ds_aug {g : D → D → Option D} (h : PS X st (tAug i (tD X.K C fe) (rOpD X.K g))) : PS X st (tS X.K C Z (bAug g i fe)) := ps_imp h fun E σ H ⟨F, s, o, w, e, q⟩ => by
  unfold bAug at e
  split at e
  · rename_i x ex
    split at e
    · cases e
    rename_i y s1 ey
    split at e
    · cases e
    rename_i z ez
    cases e
    obtain ⟨xv, exv, rx⟩ := w.slot _ _ ex
    refine ⟨xv, exv, tD_run w ey fun yv F1 H1 m1 w1 r1 => ⟨F1, x, y, z, w1.into, Rp.up m1.sub rx, r1, ez, fun zv F2 H2 gr rz => ?_⟩⟩
    exact q _ F2 H2 (m1.sub.trans gr.sub) ((w1.grow gr).store rz i)
  · cases e
/-- xs[k] of one's own -/
theorem de_at (h : PE X e (tOp (rIxL X.K) (tVar i) (tD X.K C fi))) : PE X e (tD X.K C (dAt i fi)) := pe_imp h fun σ H Q ⟨F, s, d, s', w, e, q⟩ => by
  unfold dAt at e
  split at e
  · cases e
  rename_i xs0 e0
  split at e
  · rename_i k s1 ek
    split at e
    · cases e
    rename_i xs e1
    split at e
    · cases e
    rename_i x ex
    cases e
    obtain ⟨p, vs, ev, hp, r, f, c⟩ := w.ow e0
    refine ⟨.ref p, ev, tD_run w ek fun kv F1 H1 m1 w1 r1 => ?_⟩
    cases r1
    obtain ⟨p', vs', ev', hp', r', f', c'⟩ := w1.ow e1
    rw [ev] at ev'; cases ev'
    obtain ⟨xv, hx, rx⟩ := r'.atI ex
    exact ⟨p, vs', k, xv, rfl, rfl, .inl (.inl hp'), hx, q xv F1 H1 m1 w1 rx⟩
  · cases e
end
end Dl

/-! The data layer, part 5: targets, what is walked, for, while, comprehensions. -/
namespace Dl
open PySem PySem.Spec L2

/-! ### targets -/
abbrev Pt := D → S → Option S
def pName (i : Nat) : Pt := fun d s => some { s with env := s.env.set i (some (.fz d)) }
def pNil : List D → S → Option S
  | [], s => some s
  | _ :: _, _ => none
def pCons (b : Pt) (r : List D → S → Option S) : List D → S → Option S
  | [], _ => none
  | d :: ds, s => match b d s with
    | none => none
    | some s1 => r ds s1
def pTup (n : Nat) (b : List D → S → Option S) : Pt := fun d s => match d with
  | .tuple ds => if ds.length = n then b ds s else none
  | _ => none
/-- only the names at sl are others -/
def Chg (sl : List Nat) (σ σ' : L2.St) : Prop := σ'.length = σ.length ∧ ∀ j, j ∉ sl → σ'[j]? = σ[j]?
theorem Chg.refl (sl : List Nat) (σ : L2.St) : Chg sl σ σ := ⟨rfl, fun _ _ => rfl⟩
theorem Chg.trans {sl sl' : List Nat} {σ σ1 σ2 : L2.St} (a : Chg sl σ σ1) (b : Chg sl' σ1 σ2) : Chg (sl ++ sl') σ σ2 :=
  ⟨b.1.trans a.1, fun j h => (b.2 j fun z => h (List.mem_append_right _ z)).trans (a.2 j fun z => h (List.mem_append_left _ z))⟩
/-- no list of one's own is new -/
def Less (σ : L2.St) (s : S) (σ' : L2.St) (s' : S) : Prop := ∀ p, Own σ' s' p → Own σ s p
def gD (K : PySem.W.Frag) (C : Ct) (b : Pt) (sl : List Nat) : TG := fun v σ H Q => ∃ F s d s', W K C F H σ s ∧ Rp K F v d ∧ b d s = some s' ∧ ∀ σ', W K C F H σ' s' → Chg sl σ σ' → Less σ s σ' s' → Q σ' H
def gDs (K : PySem.W.Frag) (C : Ct) (b : List D → S → Option S) (sl : List Nat) : TGs := fun vs σ H Q => ∃ F s ds s', W K C F H σ s ∧ RpL K F vs ds ∧ b ds s = some s' ∧ ∀ σ', W K C F H σ' s' → Chg sl σ σ' → Less σ s σ' s' → Q σ' H
section
variable {X : Cx} {C : Ct} {pos : Pos} {e : Expr} {es : List Expr} {b : Pt} {r : List D → S → Option S} {sl sl' : List Nat}
theorem pg_imp {t t' : TG} (h : PG X e t) (q : ∀ v σ H Q, t' v σ H Q → t v σ H Q) : PG X e t' := ⟨fun pins s σ H v u Q I rv z => h.run pins s σ H v u Q I rv (q v σ H Q z)⟩
theorem pgs_imp {t t' : TGs} (h : PGs X es t) (q : ∀ v σ H Q, t' v σ H Q → t v σ H Q) : PGs X es t' := ⟨fun pins s σ H v u Q I rv z => h.run pins s σ H v u Q I rv (q v σ H Q z)⟩
theorem less_store {σ : L2.St} {s : S} {i : Nat} {v : V} {d : D} (hl : s.env.length = σ.length) : Less σ s (σ.set i (some v)) { s with env := s.env.set i (some (.fz d)) } := fun p h => by
  obtain ⟨j, xs, hj, e1, e2⟩ := own_drop (s := s) (σ := σ.set i (some v)) (i := i) (o := some (.fz d)) (by intro _ z; cases z) h
  rw [List.getElem?_set_ne hj.symm] at e2
  exact ⟨j, xs, e1, e2⟩
theorem dg_name {i : Nat} (h : PG X e (gName i)) : PG X e (gD X.K C (pName i) [i]) := pg_imp h fun v σ H Q ⟨F, s, d, s', w, rv, eb, q⟩ => by
  cases eb
  refine q _ (w.store rv i) ⟨by simp, fun j hj => ?_⟩ (less_store w.len)
  rw [List.getElem?_set_ne]
  intro z
  exact hj (by simp [z])
theorem dgs_nil : PGs X [] (gDs X.K C pNil []) := pgs_imp pgs_nil fun v σ H Q ⟨F, s, d, s', w, rv, eb, q⟩ => by
  cases rv with
  | nil =>
    cases eb
    exact ⟨rfl, q σ w (.refl _ _) fun _ h => h⟩
  | cons _ _ => cases eb
theorem dgs_cons (h1 : PG X e (gD X.K C b sl)) (h2 : PGs X es (gDs X.K C r sl')) (hs : (assignEach (e :: es) X.env).map (·.2) = assign e X.env :: (assignEach es X.env).map (·.2) := by rfl) : PGs X (e :: es) (gDs X.K C (pCons b r) (sl ++ sl')) :=
  pgs_imp (pgs_cons h1 h2 hs) fun v σ H Q ⟨F, s, d, s', w, rv, eb, q⟩ => by
    cases rv with
    | nil => cases eb
    | @cons v0 vs d0 ds r0 rs =>
      have eb' : (match b d0 s with | none => none | some s1 => r ds s1) = some s' := eb
      split at eb'
      · cases eb'
      rename_i s1 e1
      exact ⟨_, _, rfl, F, s, d0, s1, w, r0, e1, fun σ1 w1 c1 l1 => ⟨F, s1, ds, s', w1, rs, eb', fun σ2 w2 c2 l2 => q σ2 w2 (c1.trans c2) fun p hp => l1 p (l2 p hp)⟩⟩
theorem dg_tup {k n : Nat} (hc : X.calm = true) (h : PGs X es (gDs X.K C r sl)) (hn : (assignEach es X.env).length = n := by rfl) (hst : (assignEach es X.env).findIdx? (·.1) = none := by rfl) : PG X (.Tuple es k pos) (gD X.K C (pTup n r) sl) :=
  pg_imp (pg_tup hc h hn hst) fun v σ H Q ⟨F, s, d, s', w, rv, eb, q⟩ => by
    cases rv with
    | @tup a xs ds hs rs =>
      have eb' : (if ds.length = n then r ds s else none) = some s' := eb
      split at eb'
      · rename_i hl
        exact ⟨a, xs, rfl, hs.sq w.into, by rw [rs.len]; exact hl, F, s, ds, s', w, rs, eb', q⟩
      · cases eb'
    | _ => cases eb
end

/-! ### what is walked -/
structure WalkD (K : PySem.W.Frag) (J : It) (ds : List D) (F : Fz) : Prop where
  goes : ∀ (i : Nat) (H : Hp) (F' : Fz), i < ds.length → Sub F F' → Into F' H → J.go i H
  stops : ∀ (H : Hp) (F' : Fz), Sub F F' → Into F' H → J.stop ds.length H
  yields : ∀ (i : Nat) (H : Hp) (x : V) (H' : Hp) (F' : Fz), i < ds.length → Sub F F' → Into F' H → J.yld i H x H' → ∃ F'' d, ds[i]? = some d ∧ Grow F' H F'' H' [] ∧ Rp K F'' x d
theorem WalkD.up {K : PySem.W.Frag} {J : It} {ds : List D} {F F1 : Fz} (w : WalkD K J ds F) (e : Sub F F1) : WalkD K J ds F1 :=
  ⟨fun i H F' hi s1 s2 => w.goes i H F' hi (e.trans s1) s2, fun H F' s1 s2 => w.stops H F' (e.trans s1) s2, fun i H x H' F' hi s1 s2 y => w.yields i H x H' F' hi (e.trans s1) s2 y⟩
def tI (K : PySem.W.Frag) (C : Ct) (f : Ax) : TI := fun σ H R => ∃ F s ds s', W K C F H σ s ∧ f s = some (ds, s') ∧
  ∀ J F' H', Mv C σ F H s F' H' s' → W K C F' H' σ s' → WalkD K J ds F' → R J H'
/-- the items of a list or a tuple -/
def iSeq (a : Ex) : Ax := fun s => match a s with
  | some (.list ds, s1) => some (ds, s1)
  | some (.tuple ds, s1) => some (ds, s1)
  | _ => none
def rgD (lo : Int) (n : Nat) : List D := (List.range n).map fun k => .int (lo + (k : Nat))
noncomputable def inR (i : Int) : Bool := sealB (decide (-(2 ^ 62) ≤ i) && decide (i < 2 ^ 62))
noncomputable def iRange1 (a : Ax) : Ax := fun s => match a s with
  | some ([.int j], s1) => if inR j then some (rgD 0 j.toNat, s1) else none
  | _ => none
noncomputable def iRange2 (a : Ax) : Ax := fun s => match a s with
  | some ([.int i, .int j], s1) => if inR i && inR j then some (rgD i (j - i).toNat, s1) else none
  | _ => none
section
variable {X : Cx} {C : Ct} {tg e : Expr} {fe : Ex} {fr : Ax}
theorem pi_imp {t t' : TI} (h : PI X tg e t) (q : ∀ σ H R, t' σ H R → t σ H R) : PI X tg e t' := ⟨fun pins s σ H R I z => h.run pins s σ H R I (q σ H R z)⟩
theorem pi_or {t t' : TI} (h : PI X tg e t) (h' : PI X tg e t') : PI X tg e (fun σ H R => t σ H R ∨ t' σ H R) := ⟨fun pins s σ H R I z => z.elim (h.run pins s σ H R I) (h'.run pins s σ H R I)⟩
theorem walkD_list {K : PySem.W.Frag} {F : Fz} {a : Addr} {xs : List V} {ds : List D} (h : F a = some (.obj (.lst xs))) (r : RpL K F xs ds) : WalkD K (Itl K a) ds F where
  goes := fun i H F' hi s1 s2 => (walk_list (xs := xs)).goes i H (by rw [r.len]; exact hi) (.inl (.inl (s2 _ _ (s1 _ _ h))))
  stops := fun H F' s1 s2 => by
    have := (walk_list (K := K) (a := a) (xs := xs)).stops H (.inl (.inl (s2 _ _ (s1 _ _ h))))
    rwa [r.len] at this
  yields := fun i H x H' F' hi s1 s2 y => by
    obtain ⟨e1, e2⟩ := (walk_list (K := K) (a := a) (xs := xs)).yields i H x H' (by rw [r.len]; exact hi) (.inl (.inl (s2 _ _ (s1 _ _ h)))) y
    subst e1
    obtain ⟨d, hd, rd⟩ := r.getV e2
    exact ⟨F', d, hd, .refl s2, rd.up s1⟩
theorem walkD_tup {K : PySem.W.Frag} {F : Fz} {a : Addr} {xs : List V} {ds : List D} (h : KnF F a xs) (r : RpL K F xs ds) : WalkD K (Itt K a) ds F where
  goes := fun i H F' hi s1 s2 => (walk_tup (xs := xs)).goes i H (by rw [r.len]; exact hi) ((h.up s1).sq s2)
  stops := fun H F' s1 s2 => by
    have := (walk_tup (K := K) (a := a) (xs := xs)).stops H ((h.up s1).sq s2)
    rwa [r.len] at this
  yields := fun i H x H' F' hi s1 s2 y => by
    obtain ⟨e1, e2⟩ := (walk_tup (K := K) (a := a) (xs := xs)).yields i H x H' (by rw [r.len]; exact hi) ((h.up s1).sq s2) y
    subst e1
    obtain ⟨d, hd, rd⟩ := r.getV e2
    exact ⟨F', d, hd, .refl s2, rd.up s1⟩
theorem di_seq (h : PE X e (tD X.K C fe)) : PI X tg e (tI X.K C (iSeq fe)) := pi_imp (pi_or (pi_list h) (pi_tup h)) fun σ H R ⟨F, s, d, s', w, e, q⟩ => by
  unfold iSeq at e
  split at e
  · rename_i ds s1 ea
    cases e
    refine .inl (tD_run w ea fun v F1 H1 m1 w1 r1 => ?_)
    cases r1 with
    | lst hs rs => exact ⟨_, rfl, ⟨_, .inl (.inl (w1.into _ _ hs))⟩, q _ F1 H1 m1 w1 (walkD_list hs rs)⟩
  · rename_i ds s1 ea
    cases e
    refine .inr (tD_run w ea fun v F1 H1 m1 w1 r1 => ?_)
    cases r1 with
    | tup hs rs => exact ⟨_, rfl, ⟨_, hs.sq w1.into⟩, q _ F1 H1 m1 w1 (walkD_tup hs rs)⟩
  · cases e
theorem rgD_len (lo : Int) (n : Nat) : (rgD lo n).length = n := by simp [rgD]
theorem walkD_range {K : PySem.W.Frag} {F : Fz} {lo : Int} {n : Nat} : WalkD K (Itr lo n) (rgD lo n) F where
  goes := fun i H F' hi _ _ => walk_range.goes i H (by rw [rgD_len] at hi; exact hi) trivial
  stops := fun H F' _ _ => by rw [rgD_len]; exact walk_range.stops H trivial
  yields := fun i H x H' F' hi s1 s2 y => by
    rw [rgD_len] at hi
    obtain ⟨e1, e2⟩ := walk_range.yields i H x H' hi trivial y
    subst e1 e2
    exact ⟨F', .int (lo + i), by simp [rgD, hi], .refl s2, .int _⟩
theorem inR_ok {i : Int} (h : inR i = true) : -(2 ^ 62) ≤ i ∧ i < 2 ^ 62 := by
  rw [inR, sealB_eq] at h
  simpa using h
theorem di_range1 {a : Expr} {p pos : Pos} (h : PI X tg (.Call (.Name "range" p) [a] [] pos) (iRng1 (tA X.K C fr))) : PI X tg (.Call (.Name "range" p) [a] [] pos) (tI X.K C (iRange1 fr)) := pi_imp h fun σ H R ⟨F, s, d, s', w, e, q⟩ => by
  unfold iRange1 at e
  split at e
  · rename_i j s1 ea
    split at e
    · rename_i hj
      cases e
      refine tA_run w ea fun vs F1 H1 m1 w1 r1 => ?_
      cases r1 with
      | cons r0 rn =>
        cases rn
        cases r0
        exact ⟨j, rfl, (inR_ok hj).1, (inR_ok hj).2, q _ F1 H1 m1 w1 walkD_range⟩
    · cases e
  · cases e
theorem di_range2 {a b : Expr} {p pos : Pos} (h : PI X tg (.Call (.Name "range" p) [a, b] [] pos) (iRng2 (tA X.K C fr))) : PI X tg (.Call (.Name "range" p) [a, b] [] pos) (tI X.K C (iRange2 fr)) := pi_imp h fun σ H R ⟨F, s, d, s', w, e, q⟩ => by
  unfold iRange2 at e
  split at e
  · rename_i i j s1 ea
    split at e
    · rename_i hj
      cases e
      simp only [Bool.and_eq_true] at hj
      refine tA_run w ea fun vs F1 H1 m1 w1 r1 => ?_
      cases r1 with
      | cons r0 rn =>
        cases rn with
        | cons r2 rn =>
          cases rn
          cases r0
          cases r2
          exact ⟨i, j, rfl, ⟨(inR_ok hj.1).1, (inR_ok hj.1).2, (inR_ok hj.2).1, (inR_ok hj.2).2⟩, q _ F1 H1 m1 w1 walkD_range⟩
    · cases e
  · cases e
end

/-! ### for, while -/
def forL (b : Pt) (g : Bd) : List D → S → Option Out
  | [], s => some (.nx s)
  | d :: ds, s => match b d s with
    | none => none
    | some s1 => match g s1 with
      | none => none
      | some (.nx s2) => forL b g ds s2
      | some (.ct s2) => forL b g ds s2
      | some (.bk s2) => some (.nx s2)
      | some (.rt d s2) => some (.rt d s2)
      | some (.ex x s2) => some (.ex x s2)
def bFor (it : Ax) (b : Pt) (g : Bd) : Bd := fun s => match it s with
  | none => none
  | some (ds, s1) => forL b g ds s1
def whN (c : Tx) (g : Bd) : Nat → S → Option Out
  | 0, _ => none
  | n + 1, s => match c s with
    | none => none
    | some (false, s1) => some (.nx s1)
    | some (true, s1) => match g s1 with
      | none => none
      | some (.nx s2) => whN c g n s2
      | some (.ct s2) => whN c g n s2
      | some (.bk s2) => some (.nx s2)
      | some (.rt d s2) => some (.rt d s2)
      | some (.ex x s2) => some (.ex x s2)
/-- n: more than the turns -/
def bWhile (n : Nat) (c : Tx) (g : Bd) : Bd := fun s => whN c g n s
section
variable {X : Cx} {C : Ct} {pos : Pos} {tg iter : Expr} {body : List Stmt} {it : Ax} {b : Pt} {g : Bd} {sl : List Nat} {c : Tx}
theorem ds_for (hp : PassesOwn (model X.prog X.w) X.A X.env X.xe) (hc : X.calm = true) (hi : PI X tg iter (tI X.K C it)) (hg : PG X tg (gD X.K C b sl)) (hb : PSs X body (tS X.K C Z g)) (hs : ∀ x, foldedSetIterable iter X.env x = pure x := by intro _; rfl) :
    PS X (.For tg iter body [] pos) (tS X.K C Z (bFor it b g)) := ps_imp (ps_for hp hc hi hg hb hs) fun E σ H ⟨F, s, o, w, e, q⟩ => by
  unfold bFor at e
  split at e
  · cases e
  rename_i ds s1 ea
  refine ⟨F, s, ds, s1, w, ea, fun J F1 H1 m1 w1 wk => ?_⟩
  have q1 := q.up m1.sub
  refine ⟨fun i m σ' H' => m = ds.length - i ∧ i ≤ ds.length ∧ ∃ F' s', W X.K C F' H' σ' s' ∧ Sub F1 F' ∧ forL b g (ds.drop i) s' = some o, ⟨ds.length, by simp, Nat.zero_le _, F1, s1, w1, .refl _, by simpa using e⟩, ?_⟩
  rintro i m σ' H' ⟨rfl, hi, F', s', w', sub, ef⟩
  by_cases hlt : i < ds.length
  · refine .inr ⟨wk.goes i H' F' hlt sub w'.into, fun σ2 H2 => i + 1 ≤ ds.length ∧ ∃ F2 s2, W X.K C F2 H2 σ2 s2 ∧ Sub F1 F2 ∧ forL b g (ds.drop (i + 1)) s2 = some o, fun σ2 H2 ⟨hi2, F2, s2, w2, sub2, e2⟩ => ⟨ds.length - (i + 1), by omega, rfl, hi2, F2, s2, w2, sub2, e2⟩, fun x H2 y => ?_⟩
    obtain ⟨F2, d, hd, gr, rx⟩ := wk.yields i H' x H2 F' hlt sub w'.into y
    have ed : ds.drop i = d :: ds.drop (i + 1) := by
      rw [List.drop_eq_getElem_cons hlt]
      congr 1
      rw [List.getElem?_eq_getElem hlt] at hd
      exact Option.some.inj hd
    rw [ed] at ef
    unfold forL at ef
    split at ef
    · cases ef
    rename_i s2 eb
    refine ⟨F2, s', d, s2, w'.grow gr, rx, eb, fun σ3 w3 c3 l3 => ?_⟩
    split at ef
    · cases ef
    · rename_i s4 eg
      exact ⟨F2, s2, _, w3, eg, fun σ5 F5 H5 sub5 w5 => ⟨hlt, F5, s4, w5, sub.trans (gr.sub.trans sub5), ef⟩⟩
    · rename_i s4 eg
      exact ⟨F2, s2, _, w3, eg, fun σ5 F5 H5 sub5 w5 => ⟨hlt, F5, s4, w5, sub.trans (gr.sub.trans sub5), ef⟩⟩
    · rename_i s4 eg
      cases ef
      exact ⟨F2, s2, _, w3, eg, fun σ5 F5 H5 sub5 w5 => q1 σ5 F5 H5 (sub.trans (gr.sub.trans sub5)) w5⟩
    · rename_i dr s4 eg
      cases ef
      exact ⟨F2, s2, _, w3, eg, fun v σ5 F5 H5 sub5 w5 rv => q1 v σ5 F5 H5 (sub.trans (gr.sub.trans sub5)) w5 rv⟩
    · rename_i dr s4 eg
      cases ef
      exact ⟨F2, s2, _, w3, eg, fun cv d σ5 F5 H5 sub5 w5 rv => q1 cv d σ5 F5 H5 (sub.trans (gr.sub.trans sub5)) w5 rv⟩
  · have e1 : i = ds.length := by omega
    subst e1
    refine .inl ⟨wk.stops H' F' sub w'.into, ?_⟩
    rw [List.drop_length] at ef
    cases ef
    exact q1 σ' F' H' sub w'
theorem ds_while {n : Nat} {ce : Expr} (hp : PassesOwn (model X.prog X.w) X.A X.env X.xe) (hc : PT X ce (tT X.K C c)) (hb : PSs X body (tS X.K C Z g)) : PS X (.While ce body [] pos) (tS X.K C Z (bWhile n c g)) := ps_imp (ps_while hp hc hb) fun E σ H ⟨F, s, o, w, e, q⟩ => by
  refine ⟨fun m σ' H' => ∃ F' s', W X.K C F' H' σ' s' ∧ Sub F F' ∧ whN c g m s' = some o, ⟨n, F, s, w, .refl _, e⟩, ?_⟩
  rintro m σ' H' ⟨F', s', w', sub, ew⟩
  cases m with
  | zero => cases ew
  | succ m =>
    unfold whN at ew
    split at ew
    · cases ew
    · rename_i s1 ec
      cases ew
      exact ⟨F', s', false, s1, w', ec, fun F2 H2 m2 w2 => iteF (q σ' F2 H2 (sub.trans m2.sub) w2)⟩
    · rename_i s1 ec
      refine ⟨F', s', true, s1, w', ec, fun F2 H2 m2 w2 => iteT ⟨fun σ3 H3 => ∃ F3 s3, W X.K C F3 H3 σ3 s3 ∧ Sub F F3 ∧ whN c g m s3 = some o, fun σ3 H3 h => ⟨m, Nat.lt_succ_self m, h⟩, ?_⟩⟩
      split at ew
      · cases ew
      · rename_i s4 eg
        exact ⟨F2, s1, _, w2, eg, fun σ5 F5 H5 sub5 w5 => ⟨F5, s4, w5, (sub.trans m2.sub).trans sub5, ew⟩⟩
      · rename_i s4 eg
        exact ⟨F2, s1, _, w2, eg, fun σ5 F5 H5 sub5 w5 => ⟨F5, s4, w5, (sub.trans m2.sub).trans sub5, ew⟩⟩
      · rename_i s4 eg
        cases ew
        exact ⟨F2, s1, _, w2, eg, fun σ5 F5 H5 sub5 w5 => q σ5 F5 H5 ((sub.trans m2.sub).trans sub5) w5⟩
      · rename_i dr s4 eg
        cases ew
        exact ⟨F2, s1, _, w2, eg, fun v σ5 F5 H5 sub5 w5 rv => q v σ5 F5 H5 ((sub.trans m2.sub).trans sub5) w5 rv⟩
      · rename_i dr s4 eg
        cases ew
        exact ⟨F2, s1, _, w2, eg, fun cv d σ5 F5 H5 sub5 w5 rv => q cv d σ5 F5 H5 ((sub.trans m2.sub).trans sub5) w5 rv⟩
end
end Dl

/-! The data layer, part 6: list comprehensions of one clause. -/
namespace Dl
open PySem PySem.Spec L2

def wipeE (env : List (Option Sl)) : List Nat → List (Option Sl)
  | [] => env
  | v :: vs => (wipeE env vs).set v none
def wipeS (s : S) (vs : List Nat) : S := { s with env := wipeE s.env vs }
/-- the names of the block hold again what they held ahead of it, where that is data -/
def backE (old : List (Option Sl)) (env : List (Option Sl)) : List Nat → List (Option Sl)
  | [] => env
  | v :: vs => match old[v]? with
    | some (some (.fz d)) => (backE old env vs).set v (some (.fz d))
    | _ => (backE old env vs).set v none
def lcL (b : Pt) (t : Tx) (e : Ex) (vs : List Nat) : List D → List D → S → Option (List D × S)
  | [], acc, s => some (acc, s)
  | d :: ds, acc, s => match b d s with
    | none => none
    | some s1 => match t s1 with
      | none => none
      | some (false, s2) => lcL b t e vs ds acc (wipeS s2 vs)
      | some (true, s2) => match e s2 with
        | none => none
        | some (y, s3) => if sm acc.length then lcL b t e vs ds (acc ++ [y]) (wipeS s3 vs) else none
def oLc (it : Ax) (b : Pt) (t : Tx) (e : Ex) (vs : List Nat) : Ax := fun s => match it s with
  | none => none
  | some (ds, s1) => match lcL b t e vs ds [] (wipeS s1 vs) with
    | none => none
    | some (ys, s2) => some (ys, { s2 with env := backE s1.env s2.env vs })
def tYesX : Tx := fun s => some (true, s)

theorem wipeE_len (env : List (Option Sl)) : ∀ vs, (wipeE env vs).length = env.length
  | [] => rfl
  | v :: vs => by unfold wipeE; rw [List.length_set, wipeE_len env vs]
theorem backE_len (old env : List (Option Sl)) : ∀ vs, (backE old env vs).length = env.length
  | [] => rfl
  | v :: vs => by
    unfold backE
    split <;> rw [List.length_set, backE_len old env vs]
theorem wipeE_some {env : List (Option Sl)} {i : Nat} {l : Sl} : ∀ {vs : List Nat}, (wipeE env vs)[i]? = some (some l) → env[i]? = some (some l) ∧ i ∉ vs
  | [], h => ⟨h, by simp⟩
  | v :: vs, h => by
    unfold wipeE at h
    by_cases hi : v = i
    · subst hi
      by_cases hv : v < (wipeE env vs).length
      · rw [List.getElem?_set_self hv] at h; cases h
      · rw [List.getElem?_eq_none (by simpa using hv)] at h; cases h
    · rw [List.getElem?_set_ne hi] at h
      obtain ⟨h1, h2⟩ := wipeE_some h
      exact ⟨h1, by simp [h2, Ne.symm hi]⟩
theorem backE_some {old env : List (Option Sl)} {i : Nat} {l : Sl} : ∀ {vs : List Nat}, (backE old env vs)[i]? = some (some l) → (env[i]? = some (some l) ∧ i ∉ vs) ∨ (i ∈ vs ∧ old[i]? = some (some l) ∧ ∃ d, l = .fz d)
  | [], h => .inl ⟨h, by simp⟩
  | v :: vs, h => by
    unfold backE at h
    by_cases hi : v = i
    · subst hi
      split at h
      · rename_i d e
        by_cases hv : v < (backE old env vs).length
        · rw [List.getElem?_set_self hv] at h
          cases h
          exact .inr ⟨by simp, e, d, rfl⟩
        · rw [List.getElem?_eq_none (by simpa using hv)] at h; cases h
      · by_cases hv : v < (backE old env vs).length
        · rw [List.getElem?_set_self hv] at h; cases h
        · rw [List.getElem?_eq_none (by simpa using hv)] at h; cases h
    · have h' : (backE old env vs)[i]? = some (some l) := by
        split at h <;> rwa [List.getElem?_set_ne hi] at h
      rcases backE_some h' with ⟨h1, h2⟩ | ⟨h1, h2⟩
      · exact .inl ⟨h1, by simp [h2, Ne.symm hi]⟩
      · exact .inr ⟨by simp [h1], h2⟩
theorem wipe_get {σ : L2.St} {i : Nat} : ∀ {vs : List Nat}, i ∉ vs → (wipe σ vs)[i]? = σ[i]?
  | [], _ => rfl
  | v :: vs, h => by
    have hv : v ≠ i := fun z => h (by simp [z])
    have hm : i ∉ vs := fun z => h (List.mem_cons_of_mem _ z)
    unfold wipe
    rw [List.getElem?_set_ne hv, wipe_get hm]
theorem wipe_in {σ : L2.St} {i : Nat} : ∀ {vs : List Nat}, i ∈ vs → i < σ.length → (wipe σ vs)[i]? = some none
  | [], h, _ => by cases h
  | v :: vs, h, hl => by
    unfold wipe
    by_cases hi : v = i
    · subst hi
      rw [List.getElem?_set_self (by rw [wipe_length]; exact hl)]
    · rw [List.getElem?_set_ne hi]
      rcases List.mem_cons.mp h with z | z
      · exact absurd z.symm hi
      · exact wipe_in z hl
theorem wipe_chg {σ σ' : L2.St} {vs sl : List Nat} (h : Chg sl (wipe σ vs) σ') (hs : ∀ j ∈ sl, j ∈ vs) : wipe σ' vs = wipe σ vs := by
  apply List.ext_getElem?
  intro i
  by_cases hi : i ∈ vs
  · by_cases hl : i < σ.length
    · rw [wipe_in hi hl, wipe_in hi (by rw [h.1, wipe_length]; exact hl)]
    · rw [List.getElem?_eq_none (by rw [wipe_length, h.1, wipe_length]; omega), List.getElem?_eq_none (by rw [wipe_length]; omega)]
  · rw [wipe_get hi, h.2 i fun z => hi (hs i z)]

section
variable {K : PySem.W.Frag} {C : Ct} {F : Fz} {H : Hp} {F' : Fz} {H' : Hp} {σ : L2.St} {s s' : S}
theorem W.wipe (w : W K C F H σ s) (vs : List Nat) : W K C F H (wipe σ vs) (wipeS s vs) where
  gr := w.gr
  len := by show (wipeE s.env vs).length = _; rw [wipeE_len, wipe_length]; exact w.len
  slot := fun i l q => by
    obtain ⟨h1, h2⟩ := wipeE_some (show (wipeE s.env vs)[i]? = some (some l) from q)
    obtain ⟨v, e, z⟩ := w.slot i l h1
    exact ⟨v, by rw [wipe_get h2]; exact e, z⟩
  sep := fun a b p ys zs ha hb ea eb => by
    obtain ⟨h1, h2⟩ := wipeE_some (show (wipeE s.env vs)[a]? = some (some (.ow ys)) from ha)
    obtain ⟨h3, h4⟩ := wipeE_some (show (wipeE s.env vs)[b]? = some (some (.ow zs)) from hb)
    rw [wipe_get h2] at ea
    rw [wipe_get h4] at eb
    exact w.sep a b p ys zs h1 h3 ea eb
  deck := w.deck
  st := w.st
  pl := w.pl
theorem own_wipe {vs : List Nat} {p : Addr} (h : Own (L2.wipe σ vs) (wipeS s vs) p) : Own σ s p := by
  obtain ⟨i, xs, e1, e2⟩ := h
  obtain ⟨h1, h2⟩ := wipeE_some (show (wipeE s.env vs)[i]? = some (some (.ow xs)) from e1)
  rw [wipe_get h2] at e2
  exact ⟨i, xs, h1, e2⟩
/-- behind the block: the names as ahead of it -/
theorem W.back (w : W K C F H σ s) {vs : List Nat} (w' : W K C F' H' (L2.wipe σ vs) s') (sub : Sub F F') : W K C F' H' σ { s' with env := backE s.env s'.env vs } where
  gr := w'.gr
  len := by rw [backE_len, w'.len, wipe_length]
  slot := fun i l q => by
    rcases backE_some q with ⟨h1, h2⟩ | ⟨h1, h2, d, rfl⟩
    · obtain ⟨v, e, z⟩ := w'.slot i l h1
      rw [wipe_get h2] at e
      exact ⟨v, e, z⟩
    · obtain ⟨v, e, z⟩ := w.slot i _ h2
      exact ⟨v, e, Rp.up sub z⟩
  sep := fun a b p ys zs ha hb ea eb => by
    rcases backE_some ha with ⟨h1, h2⟩ | ⟨_, _, d, z⟩
    · rcases backE_some hb with ⟨h3, h4⟩ | ⟨_, _, d, z⟩
      · exact w'.sep a b p ys zs h1 h3 (by rw [wipe_get h2]; exact ea) (by rw [wipe_get h4]; exact eb)
      · cases z
    · cases z
  deck := w'.deck
  st := w'.st
  pl := w'.pl
theorem own_back {vs : List Nat} {p : Addr} {old : List (Option Sl)} (h : Own σ { s' with env := backE old s'.env vs } p) : Own (L2.wipe σ vs) s' p := by
  obtain ⟨i, xs, e1, e2⟩ := h
  rcases backE_some e1 with ⟨h1, h2⟩ | ⟨_, _, d, z⟩
  · exact ⟨i, xs, h1, by rw [wipe_get h2]; exact e2⟩
  · cases z
/-- the parts of a move that don't speak of names: A: one's own lists at the start -/
structure Mw (C : Ct) (A : Addr → Prop) (F : Fz) (H : Hp) (F' : Fz) (H' : Hp) : Prop where
  sub : Sub F F'
  oth : ∀ p o, H p = some o → F p = none → p ∉ exOf C → ¬ A p → H' p = some o ∧ F' p = none
  live : ∀ p, H' p = none → H p = none
theorem Mv.mw (m : Mv C σ F H s F' H' s') {A : Addr → Prop} (h : ∀ p, Own σ s p → A p) : Mw C A F H F' H' := ⟨m.sub, fun p o a b c d => m.oth p o a b c fun z => d (h p z), m.live⟩
theorem Mw.trans {A : Addr → Prop} {F1 : Fz} {H1 : Hp} (a : Mw C A F H F1 H1) (b : Mw C A F1 H1 F' H') : Mw C A F H F' H' :=
  ⟨a.sub.trans b.sub, fun p o h f e n => let ⟨h1, f1⟩ := a.oth p o h f e n; b.oth p o h1 f1 e n, fun p q => a.live p (b.live p q)⟩
end

section
variable {X : Cx} {C : Ct} {K : PySem.W.Frag} {it : Ax} {b : Pt} {t : Tx} {e : Ex} {sl vs : List Nat}
/-- an object beside the state is changed -/
theorem W.beside {F : Fz} {H : Hp} {σ : L2.St} {s : S} (w : W K C F H σ s) {p : Addr} {o : HO} (fp : F p = none) (cp : C.H0 p = none) (n : ¬ Own σ s p) : W K C F (upd H p o) σ s where
  gr := ⟨w.gr.sub, w.gr.into.beside fp, w.gr.new, w.gr.num, fun b u q x y => by rw [upd_ne (ne_of_none q cp)]; exact w.gr.keep _ _ q x y, fun b q => by
    by_cases hb : b = p
    · subst hb; exact cp
    · rw [upd_ne hb] at q; exact w.gr.live _ q⟩
  len := w.len
  slot := fun i l q => by
    obtain ⟨v, ev, z⟩ := w.slot i l q
    refine ⟨v, ev, ?_⟩
    cases l with
    | fz d => exact z
    | dk => exact z
    | xc x => exact z
    | ow zs =>
      obtain ⟨p2, vs2, rfl, h2, r2, f2, c2⟩ := z
      refine ⟨p2, vs2, rfl, ?_, r2, f2, c2⟩
      rw [upd_ne]
      · exact h2
      · rintro rfl
        exact n ⟨i, zs, q, ev⟩
  sep := w.sep
  deck := fun dp dc ed => by
    obtain ⟨dk, c1, c2⟩ := w.deck dp dc ed
    obtain ⟨ne, _, _, f1, f2⟩ := dk.no
    refine ⟨dk.up (fun _ _ h => h) (fun o h => ?_) (fun o h => ?_) f1 f2, c1, c2⟩
    · rw [upd_ne]
      · exact h
      · rintro rfl; exact c1 cp
    · rw [upd_ne]
      · exact h
      · rintro rfl; exact c2 cp
  st := fun l e => ⟨(w.st l e).1, (w.st l e).2.beside fp⟩
  pl := w.pl
theorem W.nex {F : Fz} {H : Hp} {σ : L2.St} {s : S} (w : W K C F H σ s) {p : Addr} (cp : C.H0 p = none) : p ∉ exOf C := by
  intro hx
  unfold exOf at hx
  split at hx
  · cases hx
  · rename_i dp dc hdk
    obtain ⟨_, c1, c2⟩ := w.deck _ _ hdk
    have : p = dp ∨ p = dc := by simpa using hx
    rcases this with z | z
    · rw [← z] at c1; exact c1 cp
    · rw [← z] at c2; exact c2 cp
theorem W.nown {F : Fz} {H : Hp} {σ : L2.St} {s : S} (w : W K C F H σ s) {p : Addr} (hp : H p = none) : ¬ Own σ s p := by
  rintro ⟨i, ys, e1, e2⟩
  obtain ⟨v, ev, p', vs', e3, hp', _⟩ := w.slot _ _ e1
  rw [e2] at ev; cases ev
  cases e3
  rw [hp] at hp'; cases hp'

theorem lc_run {σ : L2.St} {H : Hp} {Q : VK} (hsl : ∀ j ∈ sl, j ∈ vs) (h : tO K C (oLc it b t e vs) σ H Q) : tLc (tI K C it) (gD K C b sl) (tT K C t) (tD K C e) vs σ H Q := by
  obtain ⟨F, s, res, s', w, ee, q⟩ := h
  unfold oLc at ee
  split at ee
  · cases ee
  rename_i ds s1 ei
  split at ee
  · cases ee
  rename_i ys s2 el
  cases ee
  refine ⟨F, s, ds, s1, w, ei, fun J F1 H1 m1 w1 wk => ?_⟩
  intro Dp hD
  have cD : C.H0 Dp = none := w1.gr.live _ hD
  have fD : F1 Dp = none := w1.into.free hD
  have nexD := w1.nex cD
  have nO : ¬ Own σ s Dp := fun z => w1.nown hD (by
    obtain ⟨i, xs, e1, e2⟩ := z
    exact absurd (m1.live _ hD) (by
      obtain ⟨v, ev, p', vs', e3, hp', _⟩ := w.slot _ _ e1
      rw [e2] at ev; cases ev
      cases e3
      rw [hp']; exact fun z => nomatch z))
  -- the state at turn i
  let Pv : Nat → Hp → Prop := fun i H' => ∃ (F' : Fz) (s' : S) (acc : List D) (vacc : List V), W K C F' H' (wipe σ vs) s' ∧ Mw C (Own σ s) F H F' (fun p => if p = Dp then none else H' p) ∧ Sub F1 F' ∧
    H' Dp = some (.lst vacc) ∧ RpL K F' vacc acc ∧ F' Dp = none ∧ (∀ p, Own (wipe σ vs) s' p → Own σ s p) ∧ lcL b t e vs (ds.drop i) acc s' = some (res, s2)
  have H0D : H Dp = none := m1.live _ hD
  have offD : ∀ {H' : Hp}, ∀ p, p ≠ Dp → (fun p => if p = Dp then none else H' p) p = H' p := fun p hp => if_neg hp
  refine ⟨fun i m H' => m = ds.length - i ∧ i ≤ ds.length ∧ Pv i H', ⟨ds.length, by simp, Nat.zero_le _, ?_⟩, ?_⟩
  · have w2 := (w1.wipe vs).beside (o := .lst []) fD cD (fun z => w1.nown hD (own_wipe z))
    refine ⟨F1, wipeS s1 vs, [], [], w2, ⟨m1.sub, fun p o h1 h2 h3 h4 => ?_, fun p hp => ?_⟩, .refl _, upd_same, .nil, fD, fun p hp => m1.own p (own_wipe hp), by simpa using el⟩
    · obtain ⟨a1, a2⟩ := m1.oth p o h1 h2 h3 h4
      have hp : p ≠ Dp := ne_of_none h1 H0D
      refine ⟨?_, a2⟩
      show (if p = Dp then none else upd H1 Dp (.lst []) p) = some o
      rw [if_neg hp, upd_ne hp]
      exact a1
    · by_cases hpD : p = Dp
      · subst hpD; exact H0D
      · have hp' : (if p = Dp then none else upd H1 Dp (.lst []) p) = none := hp
        rw [if_neg hpD, upd_ne hpD] at hp'
        exact m1.live _ hp'
  rintro i m H' ⟨rfl, hi, F', s3, acc, vacc, w3, mw, sub, hDl, racc, fD', own3, ef⟩
  by_cases hlt : i < ds.length
  · refine .inr ⟨wk.goes i H' F' hlt sub w3.into, fun H'' => i + 1 ≤ ds.length ∧ Pv (i + 1) H'', fun H'' ⟨h1, h2⟩ => ⟨ds.length - (i + 1), by omega, rfl, h1, h2⟩, fun x H2 y => ?_⟩
    obtain ⟨F2, d, hd, gr, rx⟩ := wk.yields i H' x H2 F' hlt sub w3.into y
    have ed : ds.drop i = d :: ds.drop (i + 1) := by
      rw [List.drop_eq_getElem_cons hlt]
      congr 1
      rw [List.getElem?_eq_getElem hlt] at hd
      exact Option.some.inj hd
    rw [ed] at ef
    unfold lcL at ef
    split at ef
    · cases ef
    rename_i s4 eb
    have noD : ∀ {σ' : L2.St} {s' : S}, (∀ p, Own σ' s' p → Own σ s p) → ¬ Own σ' s' Dp := fun h z => nO (h _ z)
    -- the growth at the turn keeps what is beside
    have mwg : Mw C (Own σ s) F H F2 (fun p => if p = Dp then none else H2 p) := ⟨mw.sub.trans gr.sub, fun p o h1 h2 h3 h4 => (by
        obtain ⟨a1, a2⟩ := mw.oth p o h1 h2 h3 h4
        have hp : p ≠ Dp := ne_of_none h1 H0D
        have a1' : (if p = Dp then none else H' p) = some o := a1
        rw [if_neg hp] at a1'
        refine ⟨?_, ?_⟩
        · show (if p = Dp then none else H2 p) = some o
          rw [if_neg hp]
          exact gr.keep _ _ a1' (by simp) (fun z => nomatch z)
        · cases z : F2 p with
          | none => rfl
          | some u =>
            rcases gr.new p u z with r | r
            · rw [a2] at r; cases r
            · rw [a1'] at r; cases r), fun p hp => by
        by_cases hpD : p = Dp
        · subst hpD; exact H0D
        · have hp' : (if p = Dp then none else H2 p) = none := hp
          rw [if_neg hpD] at hp'
          refine mw.live p ?_
          show (if p = Dp then none else H' p) = none
          rw [if_neg hpD]
          exact gr.live _ hp'⟩
    have hD2 : H2 Dp = some (.lst vacc) := gr.keep _ _ hDl (by simp) (fun z => nomatch z)
    have fD2 : F2 Dp = none := by
      cases z : F2 Dp with
      | none => rfl
      | some u =>
        rcases gr.new Dp u z with r | r
        · rw [fD'] at r; cases r
        · rw [hDl] at r; cases r
    -- a step within the block keeps what is beside, and the new list
    have step : ∀ {σ' : L2.St} {Fa : Fz} {Ha : Hp} {Fb : Fz} {Hb : Hp} {sa sb : S}, (∀ p, Own σ' sa p → Own σ s p) → Mw C (Own σ s) F H Fa (fun p => if p = Dp then none else Ha p) → Ha Dp = some (.lst vacc) → Fa Dp = none → Mv C σ' Fa Ha sa Fb Hb sb →
        Mw C (Own σ s) F H Fb (fun p => if p = Dp then none else Hb p) ∧ Hb Dp = some (.lst vacc) ∧ Fb Dp = none := fun {σ' Fa Ha Fb Hb sa sb} own mwa hda fda mv => by
      obtain ⟨k1, k2⟩ := mv.oth Dp _ hda fda nexD (noD own)
      refine ⟨⟨mwa.sub.trans mv.sub, fun p o h1 h2 h3 h4 => ?_, fun p hp => ?_⟩, k1, k2⟩
      · obtain ⟨a1, a2⟩ := mwa.oth p o h1 h2 h3 h4
        have hp : p ≠ Dp := ne_of_none h1 H0D
        have a1' : (if p = Dp then none else Ha p) = some o := a1
        rw [if_neg hp] at a1'
        obtain ⟨c1, c2⟩ := mv.oth p o a1' a2 h3 fun z => h4 (own p z)
        refine ⟨?_, c2⟩
        show (if p = Dp then none else Hb p) = some o
        rw [if_neg hp]
        exact c1
      · by_cases hpD : p = Dp
        · subst hpD; exact H0D
        · have hp' : (if p = Dp then none else Hb p) = none := hp
          rw [if_neg hpD] at hp'
          refine mwa.live p ?_
          show (if p = Dp then none else Ha p) = none
          rw [if_neg hpD]
          exact mv.live _ hp'
    refine ⟨F2, s3, d, s4, w3.grow gr, rx, eb, fun σ2 w4 c2 l2 => ⟨wipe_chg c2 hsl, ?_⟩⟩
    have ew : wipe σ2 vs = wipe σ vs := wipe_chg c2 hsl
    have own4 : ∀ p, Own σ2 s4 p → Own σ s p := fun p hp => own3 p (l2 p hp)
    split at ef
    · cases ef
    · rename_i s5 et
      refine tT_run w4 et fun F5 H5 m5 w5 => iteF ⟨hlt, ?_⟩
      obtain ⟨mw5, hD5, fD5⟩ := step own4 mwg hD2 fD2 m5
      refine ⟨F5, wipeS s5 vs, acc, vacc, by rw [← ew]; exact w5.wipe vs, mw5, sub.trans (gr.sub.trans m5.sub), hD5, (racc.up gr.sub).up m5.sub, fD5, fun p hp => ?_, ef⟩
      rw [← ew] at hp
      exact own4 p (m5.own p (own_wipe hp))
    · rename_i s5 et
      split at ef
      · cases ef
      rename_i y s6 ee
      split at ef
      · rename_i hz
        refine tT_run w4 et fun F5 H5 m5 w5 => iteT ?_
        obtain ⟨mw5, hD5, fD5⟩ := step own4 mwg hD2 fD2 m5
        have own5 : ∀ p, Own σ2 s5 p → Own σ s p := fun p hp => own4 p (m5.own p hp)
        refine tD_run w5 ee fun yv F6 H6 m6 w6 r6 => ?_
        obtain ⟨mw6, hD6, fD6⟩ := step own5 mw5 hD5 fD5 m6
        have own6 : ∀ p, Own σ2 s6 p → Own σ s p := fun p hp => own5 p (m6.own p hp)
        have r6' := ((racc.up gr.sub).up m5.sub).up m6.sub
        refine ⟨vacc, hD6, by rw [r6'.len]; exact sm_lt hz, hlt, ?_⟩
        have w7 := w6.beside (o := .lst (vacc ++ [yv])) fD6 cD (noD own6)
        refine ⟨F6, wipeS s6 vs, acc ++ [y], vacc ++ [yv], by rw [← ew]; exact w7.wipe vs, ⟨mw6.sub, fun p o h1 h2 h3 h4 => ?_, fun p hp => ?_⟩, sub.trans (gr.sub.trans (m5.sub.trans m6.sub)), upd_same, r6'.app (.cons r6 .nil), fD6, fun p hp => ?_, ef⟩
        · obtain ⟨a1, a2⟩ := mw6.oth p o h1 h2 h3 h4
          have hp : p ≠ Dp := ne_of_none h1 H0D
          have a1' : (if p = Dp then none else H6 p) = some o := a1
          rw [if_neg hp] at a1'
          refine ⟨?_, a2⟩
          show (if p = Dp then none else upd H6 Dp _ p) = some o
          rw [if_neg hp, upd_ne hp]
          exact a1'
        · by_cases hpD : p = Dp
          · subst hpD; exact H0D
          · have hp' : (if p = Dp then none else upd H6 Dp (.lst (vacc ++ [yv])) p) = none := hp
            rw [if_neg hpD, upd_ne hpD] at hp'
            refine mw6.live p ?_
            show (if p = Dp then none else H6 p) = none
            rw [if_neg hpD]
            exact hp'
        · rw [← ew] at hp
          exact own6 p (own_wipe hp)
      · cases ef
  · have e1 : i = ds.length := by omega
    subst e1
    rw [List.drop_length] at ef
    cases ef
    refine .inl ⟨wk.stops H' F' sub w3.into, ?_⟩
    have wb := w1.back w3 sub
    refine q Dp vacc F' H' ⟨mw.sub, fun p o h1 h2 h3 h4 => ?_, fun p hp => own3 p (own_back hp), fun p hp => ?_⟩ wb hDl fD' cD nexD (fun hp => nO (own3 _ (own_back hp))) H0D racc
    · obtain ⟨a1, a2⟩ := mw.oth p o h1 h2 h3 h4
      have hp : p ≠ Dp := ne_of_none h1 H0D
      have a1' : (if p = Dp then none else H' p) = some o := a1
      rw [if_neg hp] at a1'
      exact ⟨a1', a2⟩
    · by_cases hpD : p = Dp
      · subst hpD; exact H0D
      · refine mw.live p ?_
        show (if p = Dp then none else H' p) = none
        rw [if_neg hpD]
        exact hp
/-- a list comprehension: a new list of one's own -/
theorem oe_lc {el : Expr} (hsl : ∀ j ∈ sl, j ∈ vs) (h : PE X el (tLc (tI X.K C it) (gD X.K C b sl) (tT X.K C t) (tD X.K C e) vs)) : PE X el (tO X.K C (oLc it b t e vs)) := pe_imp h fun _ _ _ h => lc_run hsl h
theorem tyes {σ : L2.St} {H : Hp} {Q : Bool → Hp → Prop} (h : tT K C tYesX σ H Q) : tYes σ H Q := by
  obtain ⟨F, s, d, s', w, ee, q⟩ := h
  cases ee
  exact q F H .refl w
end
end Dl
namespace Dl
open PySem PySem.Spec L2
section
variable {X : Cx} {C : Ct} {c : Expr} {t : Tx}
theorem dts_nil : PTs X [] (tT X.K C tYesX) := ⟨fun pins s σ H Q I z => pts_nil.run pins s σ H Q I (tyes z)⟩
theorem dts_one (h : PT X c (tT X.K C t)) : PTs X [c] (tT X.K C t) := pts_one h
end
end Dl

/-! The data layer, part 7: own defs: what they promise in data, their calls; the law's end. No text of an object is being made where a def is called (guards): so repr may be asked. -/
namespace Dl
open PySem PySem.Spec L2

structure GFn (P : Program) (w : World) (K : PySem.W.Frag) (mg : Str → Option Value) (base : Heap) (CX : CXT) (k : Nat) (f : Addr) (fd : FuncData) (ps : List Str) (sp : Sp) : Prop where
  many : ∀ vs H Q E, sp vs H Q E → vs.length = ps.length
  goes : ∀ (A : Around) (outer : List Env) (s : Shared) (H : Hp) (args : Args) (us : List Value) (vs : List V) (Q : VK) (E : XK), A.guards = some [] → Room k A →
    Env0 P w K mg base A outer s H → BindsTo s fd args (ps.zip us) → Vals vs us → sp vs H Q E → codeAny (model P w) A (.call (.ref f) args) (CR CX outer P w H s Q E) s
theorem GFn.mono {P : Program} {w : World} {K : PySem.W.Frag} {mg : Str → Option Value} {base : Heap} {CX : CXT} {j k : Nat} {f : Addr} {fd : FuncData} {ps : List Str} {sp : Sp} (F : GFn P w K mg base CX j f fd ps sp) (h : j ≤ k) : GFn P w K mg base CX k f fd ps sp :=
  ⟨F.many, fun A outer s H args us vs Q E hg hr => F.goes A outer s H args us vs Q E hg (hr.mono h)⟩
/-- a promise, where no text is being made, from the layer's own -/
theorem GFn.of {P : Program} {w : World} {K : PySem.W.Frag} {mg : Str → Option Value} {base : Heap} {CX : CXT} {k : Nat} {f : Addr} {fd : FuncData} {ps : List Str} {sp : Sp} (F : FnOk P w K mg base CX k f fd ps sp) : GFn P w K mg base CX k f fd ps sp :=
  ⟨F.len, fun A outer s H args us vs Q E _ => F.run A outer s H args us vs Q E⟩

section
variable {P : Program} {w : World} {K : PySem.W.Frag} {mg : Str → Option Value} {base : Heap}
/-- a def, from its body -/
theorem g_def {CX : CXT} {x qual : Str} {st : Stmt} {f : Addr} {fd : FuncData} {N ps : List Str} {k : Nat} {sp : Sp} (F : Fun K x qual st f fd) (sc : FnScope N ps (defScope st)) (many : ∀ vs H Q E, sp vs H Q E → vs.length = ps.length)
    (body : ∀ (cdv : Value) (A : Around) (outer : List Env) (s : Shared) (H : Hp) (vs : List V) (Q : VK) (E : XK), A.guards = some [] → Room k (A.deeper (PyProof.Rows.envOfC qual (defScope st) s.heap.objs.size f cdv)) → sp vs H Q E →
      ∃ t, PSs (cxOf CX P w K mg base N qual (defScope st) f cdv A outer s H E) (defBody st) t ∧ t { nx := fun _ H' => Q .non H', rt := Q } (L2.start N vs) H) : GFn P w K mg base CX (k + 1) f fd ps sp := by
  obtain ⟨oc, od, kV, doc, pm, an, cdv, ct, osl, rfl, lk, hcd⟩ := F.ex
  refine ⟨many, fun A outer s H args us vs Q E hg hr e0 hb r hs => ?_⟩
  have nolim : s.heap.NoLimit := e0.mod.nolimit.keeps fun b o e => (e0.bs b o e).1
  have kin : K.In s.heap := e0.mod.kin.keeps fun b o e => (e0.bs b o e).1
  have kinds : ∀ y ∈ ps.zip us, (defScope st).names.lookup y.1 = some .local ∨ ((defScope st).names.lookup y.1 = some .cell ∧ ((cellsFrom (s.heap.objs.size + 1) (defScope st).names []).lookup y.1).isSome = true) := by
    rintro ⟨n, v⟩ hy
    rcases sc.par n (List.of_mem_zip hy).1 with q | q
    · exact .inl q
    · exact .inr ⟨q, PySem.W.cellsFrom_some _ _ _ (.inl q)⟩
  refine PySem.codeAny_call_function hr.depth (kin _ _ lk) rfl sc.co sc.gen rfl (PySem.W.codeRec_of kin hcd) (hb _ _ _ _ ?_)
  refine PySem.wpAny_newFunctionEnv_cells sc.kind kinds fun env he s1 hx => ?_
  subst he
  refine ⟨nolim.keeps hx.toInCall.keep, PySem.codeAny_func ?_⟩
  obtain ⟨t, ht, hq⟩ := body cdv A outer s H vs Q E hg (hr.deeper _) hs
  have I := inv_start (CX := CX) (P := P) (w := w) (K := K) (mg := mg) (base := base) (qual := qual) (f := f) (cd := cdv) (A := A) (E := E) sc hr.hd e0 (many _ _ _ _ hs) r hx
  refine PySem.wpAny_mono (ht.run [] s1 (L2.start N vs) H _ I hq) (fun fl s' hs => ?_) fun e s' hs => hs
  cases fl with
  | ret u =>
    obtain ⟨v, σ', H', J, rv, q⟩ := hs
    exact ⟨v, H', J.os, J.bare, J.base, J.hok, rv, q⟩
  | next =>
    obtain ⟨σ', H', J, q⟩ := hs
    exact ⟨.non, H', J.os, J.bare, J.base, J.hok, rfl, q⟩
  | brk => exact (hs.choose_spec.choose_spec.2).elim
  | cont => exact (hs.choose_spec.choose_spec.2).elim
end

section
variable {X : Cx} {CX : CXT} {k : Nat} {f : Addr} {fd : FuncData} {ps : List Str} {sp : Sp} {dvs : List V} {ds : List Value} {E : XK} {x : Str} {p pos : Pos} {e : Expr} {es : List Expr} {t : TA}
theorem g_run {pins : List (Addr × Obj)} {σ : L2.St} {H : Hp} {s : Shared} {Q : VK} {us : List Value} {vs : List V} (F : GFn X.prog X.w X.K X.mg X.base CX k f fd ps sp) (hg : X.A.guards = some []) (hr : Room k X.A) (hb : Binds X.K fd ps ds)
    (hd : Vals dvs ds) (hx : Passes CX X E) (I : Inv X pins σ H s) (r : Vals vs us) (h : sp (vs ++ dvs) H Q E) : wpAny (model X.prog X.w) X.A (call (.ref f) us) (EP X pins σ Q) X.xe s := by
  have rr := r.append hd
  have many : (us ++ ds).length = ps.length := rr.length ▸ F.many _ _ _ _ h
  refine PySem.wpAny_call (PySem.codeAny_mono (F.goes X.A X.stack s H ⟨us, []⟩ _ _ Q E hg hr I.env0 (hb s us I.kIn many) rr h) fun res s' hq => ?_)
  match res, hq with
  | .error e, hq => exact hx pins σ H s e s' I hq
  | .ok (.ret u), hq => exact I.after hq
  | .ok .next, hq => exact hq.elim
  | .ok .brk, hq => exact hq.elim
  | .ok .cont, hq => exact hq.elim
theorem ge_call (F : GFn X.prog X.w X.K X.mg X.base CX k f fd ps sp) (hg : X.A.guards = some []) (hr : Room k X.A) (hgl : Gl X x) (hm : X.mg x = some (.ref f)) (hk : PySem.W.keepIn X.K (.ref f) = true) (hb : Binds X.K fd ps ds) (hd : Vals dvs ds) (hx : Passes CX X E)
    (ha : PA X (e :: es) t) (hdb : (x == ("__debug__" : Str)) = false := by decide) (he : starEach (e :: es) X.env = (false, eval e X.env) :: starEach es X.env := by rfl) (hpl : (backTo pos (starEach es X.env)).any (·.1) = false := by rfl) :
    PE X (.Call (.Name x p) (e :: es) [] pos) (tCall sp dvs E t) := by
  constructor
  intro pins s σ H Q I h
  refine PySem.wpAny_Call_Name_kw (ld_glob I hgl hm (PySem.W.callWith_K (h₀ := X.base) I.ok.mod.kin hk (thn (ha.run pos pins s σ H _ I h) ?_) he hpl) hdb)
  intro us s1 ⟨vs, H1, I1, r, q⟩
  exact ⟨I1.kIn, g_run F hg hr hb hd hx I1 r q⟩
end

/-! ### promises in data -/
def NoNum (F : Fz) : Prop := ∀ p n, F p ≠ some (.num n)
/-- a def over data -/
def FnSp (K : PySem.W.Frag) (n : Nat) (f : List D → Option D) : Sp := fun vs H Q _ => ∃ F ds r, ds.length = n ∧ NoNum F ∧ Into F H ∧ RpL K F vs ds ∧ f ds = some r ∧ ∀ v F' H', Grow F H F' H' [] → Rp K F' v r → Q v H'
/-- a def that draws from the deck, its first argument -/
def DkSp (K : PySem.W.Frag) (n : Nat) (f : List D → List Int → Int → Option (D × List Int × Int)) : Sp := fun vs H Q _ => ∃ F dp dc vs' ds cs m r cs' m', vs = .ref dp :: vs' ∧ ds.length = n ∧ NoNum F ∧ Into F H ∧ DeckAt F H dp dc cs m ∧ RpL K F vs' ds ∧
  f ds cs m = some (r, cs', m') ∧ ∀ v F' H', Grow F H F' H' [dp, dc] → DeckAt F' H' dp dc cs' m' → Rp K F' v r → Q v H'
/-- what a body is worth as a def: n names in all -/
def fnP (n : Nat) (b : Bd) : List D → Option D := fun ds => match b ⟨ds.map (fun d => some (.fz d)) ++ List.replicate (n - ds.length) none, [], 0⟩ with
  | some (.rt d _) => some d
  | some (.nx _) => some .none
  | _ => none
def fnK (n : Nat) (b : Bd) : List D → List Int → Int → Option (D × List Int × Int) := fun ds cs m => match b ⟨some .dk :: ds.map (fun d => some (.fz d)) ++ List.replicate (n - (ds.length + 1)) none, cs, m⟩ with
  | some (.rt d s) => some (d, s.cs, s.n)
  | some (.nx s) => some (.none, s.cs, s.n)
  | _ => none
def dCall (f : List D → Option D) (a : Ax) : Ex := dApp f a
/-- the deck's name stands at slot i; a: the other arguments -/
def dCallK (f : List D → List Int → Int → Option (D × List Int × Int)) (i : Nat) (a : Ax) : Ex := fun s => match s.env[i]? with
  | some (some .dk) => (match a s with
    | none => none
    | some (ds, s1) => match f ds s1.cs s1.n with
      | none => none
      | some (r, cs', m') => some (r, { s1 with cs := cs', n := m' }))
  | _ => none

section
variable {K : PySem.W.Frag} {C : Ct} {F : Fz} {H : Hp} {F' : Fz} {H' : Hp} {σ : L2.St} {s : S}
theorem grow_none {ex : List Addr} (g : Grow F H F' H' ex) {p : Addr} {o : HO} (h : H p = some o) (f : F p = none) : F' p = none := by
  cases z : F' p with
  | none => rfl
  | some u =>
    rcases g.new p u z with q | q
    · rw [f] at q; cases q
    · rw [h] at q; cases q
/-- behind a def that draws -/
theorem W.growK (w : W K C F H σ s) {dp dc : Addr} (hk : C.dk = some (dp, dc)) (g : Grow F H F' H' [dp, dc]) {cs' : List Int} {m' : Int} (dk : DeckAt F' H' dp dc cs' m') : W K C F' H' σ { s with cs := cs', n := m' } := by
  have hex : exOf C = [dp, dc] := by unfold exOf; rw [hk]
  have out : ∀ {p : Addr}, C.H0 p = none → p ∉ [dp, dc] := fun {p} h => by rw [← hex]; exact w.nex h
  refine ⟨w.gr.trans g (fun z => nomatch z) (fun _ _ z => by rw [hex]; exact z), w.len, fun i l h => ?_, w.sep, fun a b e => ?_, fun l e => ⟨(w.st l e).1, (w.st l e).2.grow g fun n a z y => ?_⟩, fun z p n h => w.pl z p n (g.num rfl p n h)⟩
  · obtain ⟨v, e, q⟩ := w.slot i l h
    refine ⟨v, e, ?_⟩
    cases l with
    | fz d => exact Rp.up g.sub q
    | dk => exact q
    | xc x =>
      obtain ⟨a, cv, d, h1, h2, h3⟩ := q
      exact ⟨a, cv, d, h1, h2, h3.up g.sub⟩
    | ow xs =>
      obtain ⟨p, vs, e1, e2, r, f, c⟩ := q
      exact ⟨p, vs, e1, g.keep _ _ e2 (out c) (fun z => nomatch z), r.up g.sub, grow_none g e2 f, c⟩
  · rw [hk] at e
    cases e
    exact ⟨dk, (w.deck _ _ hk).2⟩
  · obtain ⟨_, _, _, f1, f2⟩ := (w.deck _ _ hk).1.no
    have : a = dp ∨ a = dc := by simpa using y
    rcases this with r | r
    · rw [r, f1] at z; cases z
    · rw [r, f2] at z; cases z
theorem Mv.growK {dp dc : Addr} (hk : C.dk = some (dp, dc)) (g : Grow F H F' H' [dp, dc]) {cs' : List Int} {m' : Int} : Mv C σ F H s F' H' { s with cs := cs', n := m' } where
  sub := g.sub
  oth := fun p o h f e _ => by
    have z : exOf C = [dp, dc] := by
      unfold exOf
      rw [hk]
    rw [z] at e
    exact ⟨g.keep p o h e (fun z => nomatch z), grow_none g h f⟩
  own := fun _ q => q
  live := g.live
end
section
variable {K : PySem.W.Frag} {F : Fz} {H : Hp}
theorem rpl_map {vs : List V} {ds : List D} (r : RpL K F vs ds) {i : Nat} {l : Sl} (h : (ds.map fun d => some (Sl.fz d))[i]? = some (some l)) : ∃ v d, l = .fz d ∧ vs[i]? = some v ∧ Rp K F v d := by
  rw [List.getElem?_map] at h
  cases e : ds[i]? with
  | none => rw [e] at h; cases h
  | some d =>
    rw [e] at h
    cases h
    obtain ⟨v, h1, h2⟩ := r.get e
    exact ⟨v, d, rfl, h1, h2⟩
/-- the state at a def's start -/
theorem w_start {vs : List V} {ds : List D} (N : List Str) (nn : NoNum F) (e : Into F H) (r : RpL K F vs ds) : W K { H0 := H, F0 := F } F H (L2.start N vs) ⟨ds.map (fun d => some (.fz d)) ++ List.replicate (N.length - ds.length) none, [], 0⟩ where
  gr := ⟨Sub.refl _, e, fun _ _ h => .inl h, fun _ _ _ h => h, fun _ _ h _ _ => h, fun _ h => h⟩
  len := by simp [L2.start, r.len]
  slot := fun i l h => by
    have h' : (ds.map (fun d => some (Sl.fz d)) ++ List.replicate (N.length - ds.length) none)[i]? = some (some l) := h
    by_cases hi : i < ds.length
    · rw [List.getElem?_append_left (by simpa using hi)] at h'
      obtain ⟨v, d, rfl, h1, h2⟩ := rpl_map r h'
      refine ⟨v, ?_, h2⟩
      unfold L2.start
      rw [List.getElem?_append_left (by simp [r.len, hi]), List.getElem?_map, h1]
      rfl
    · rw [List.getElem?_append_right (by simpa using hi), List.getElem?_replicate] at h'
      split at h' <;> cases h'
  sep := fun a b p ys zs ha _ _ _ => by
    exfalso
    have h' : (ds.map (fun d => some (Sl.fz d)) ++ List.replicate (N.length - ds.length) none)[a]? = some (some (.ow ys)) := ha
    by_cases hi : a < ds.length
    · rw [List.getElem?_append_left (by simpa using hi)] at h'
      obtain ⟨v, d, z, _⟩ := rpl_map r h'
      cases z
    · rw [List.getElem?_append_right (by simpa using hi), List.getElem?_replicate] at h'
      split at h' <;> cases h'
  deck := fun _ _ h => by cases h
  st := fun _ h => by cases h
  pl := fun _ => nn
theorem w_startK {dp dc : Addr} {vs : List V} {ds : List D} {cs : List Int} {m : Int} (N : List Str) (nn : NoNum F) (e : Into F H) (dk : DeckAt F H dp dc cs m) (r : RpL K F vs ds) :
    W K { H0 := H, F0 := F, dk := some (dp, dc) } F H (L2.start N (.ref dp :: vs)) ⟨some .dk :: ds.map (fun d => some (.fz d)) ++ List.replicate (N.length - (ds.length + 1)) none, cs, m⟩ where
  gr := ⟨Sub.refl _, e, fun _ _ h => .inl h, fun _ _ _ h => h, fun _ _ h _ _ => h, fun _ h => h⟩
  len := by simp [L2.start, r.len]
  slot := fun i l h => by
    cases i with
    | zero =>
      cases h
      exact ⟨.ref dp, rfl, dp, dc, rfl, rfl⟩
    | succ i =>
      have h' : (ds.map (fun d => some (Sl.fz d)) ++ List.replicate (N.length - (ds.length + 1)) none)[i]? = some (some l) := h
      by_cases hi : i < ds.length
      · rw [List.getElem?_append_left (by simpa using hi)] at h'
        obtain ⟨v, d, rfl, h1, h2⟩ := rpl_map r h'
        refine ⟨v, ?_, h2⟩
        show (vs.map some ++ _)[i]? = _
        rw [List.getElem?_append_left (by simp [r.len, hi]), List.getElem?_map, h1]
        rfl
      · rw [List.getElem?_append_right (by simpa using hi), List.getElem?_replicate] at h'
        split at h' <;> cases h'
  sep := fun a b p ys zs ha _ _ _ => by
    exfalso
    cases a with
    | zero => cases ha
    | succ a =>
      have h' : (ds.map (fun d => some (Sl.fz d)) ++ List.replicate (N.length - (ds.length + 1)) none)[a]? = some (some (.ow ys)) := ha
      by_cases hi : a < ds.length
      · rw [List.getElem?_append_left (by simpa using hi)] at h'
        obtain ⟨v, d, z, _⟩ := rpl_map r h'
        cases z
      · rw [List.getElem?_append_right (by simpa using hi), List.getElem?_replicate] at h'
        split at h' <;> cases h'
  deck := fun a b h => by
    cases h
    obtain ⟨_, ⟨_, h1⟩, ⟨_, h2⟩, _, _⟩ := dk.no
    refine ⟨dk, ?_, ?_⟩
    · show H dp ≠ none
      rw [h1]
      exact fun z => nomatch z
    · show H dc ≠ none
      rw [h2]
      exact fun z => nomatch z
  st := fun _ h => by cases h
  pl := fun _ => nn
end

section
variable {P : Program} {w : World} {K : PySem.W.Frag} {mg : Str → Option Value} {base : Heap}
/-- THE RULE for a def over data -/
theorem ok_fn {x qual : Str} {st : Stmt} {f : Addr} {fd : FuncData} {N ps : List Str} {k : Nat} {b : Bd} (F : Fun K x qual st f fd) (sc : FnScope N ps (defScope st))
    (body : ∀ (cdv : Value) (A : Around) (outer : List Env) (s : Shared) (H : Hp) (C : Ct), C.ob = false → A.guards = some [] → Room k (A.deeper (PyProof.Rows.envOfC qual (defScope st) s.heap.objs.size f cdv)) →
      PSs (cxOf CX0 P w K mg base N qual (defScope st) f cdv A outer s H E0).nox (defBody st) (tS K C (fun _ _ _ _ => False) b)) : GFn P w K mg base CX0 (k + 1) f fd ps (FnSp K ps.length (fnP N.length b)) :=
  g_def F sc (fun vs H Q E ⟨F, ds, r, hl, _, _, rr, _⟩ => rr.len.trans hl) fun cdv A outer s H vs Q E hg hr ⟨F0, ds, r, hl, nn, e, rr, hf, q⟩ => by
    refine ⟨_, PSs.nox (body cdv A outer s H { H0 := H, F0 := F0 } rfl hg hr), ?_⟩
    unfold fnP at hf
    split at hf
    · rename_i d s' eb
      cases hf
      exact ⟨F0, _, _, w_start N nn e rr, eb, fun v σ' F' H' sub w' rv => q v F' H' (w'.gr) rv⟩
    · rename_i s' eb
      cases hf
      exact ⟨F0, _, _, w_start N nn e rr, eb, fun σ' F' H' sub w' => q .non F' H' w'.gr .non⟩
    · cases hf
theorem ok_fnK {x qual : Str} {st : Stmt} {f : Addr} {fd : FuncData} {N ps : List Str} {k n : Nat} {b : Bd} (F : Fun K x qual st f fd) (sc : FnScope N ps (defScope st)) (hn : ps.length = n + 1)
    (body : ∀ (cdv : Value) (A : Around) (outer : List Env) (s : Shared) (H : Hp) (C : Ct), C.ob = false → A.guards = some [] → Room k (A.deeper (PyProof.Rows.envOfC qual (defScope st) s.heap.objs.size f cdv)) →
      PSs (cxOf CX0 P w K mg base N qual (defScope st) f cdv A outer s H E0).nox (defBody st) (tS K C (fun _ _ _ _ => False) b)) : GFn P w K mg base CX0 (k + 1) f fd ps (DkSp K n (fnK N.length b)) :=
  g_def F sc (fun vs H Q E ⟨F, dp, dc, vs', ds, cs, m, r, cs', m', hv, hl, _, _, _, rr, _⟩ => by rw [hv, hn, List.length_cons, rr.len, hl]) fun cdv A outer s H vs Q E hg hr ⟨F0, dp, dc, vs', ds, cs, m, r, cs', m', hv, hl, nn, e, dk, rr, hf, q⟩ => by
    subst hv
    refine ⟨_, PSs.nox (body cdv A outer s H { H0 := H, F0 := F0, dk := some (dp, dc) } rfl hg hr), ?_⟩
    unfold fnK at hf
    split at hf
    · rename_i d s' eb
      cases hf
      exact ⟨F0, _, _, w_startK N nn e dk rr, eb, fun v σ' F' H' sub w' rv => q v F' H' w'.gr (w'.deck dp dc rfl).1 rv⟩
    · rename_i s' eb
      cases hf
      exact ⟨F0, _, _, w_startK N nn e dk rr, eb, fun σ' F' H' sub w' => q .non F' H' w'.gr (w'.deck dp dc rfl).1 .non⟩
    · cases hf
end

section
variable {X : Cx} {C : Ct} {k : Nat} {fa : Addr} {fd : FuncData} {ps : List Str} {x : Str} {p pos : Pos} {e : Expr} {es : List Expr} {fr : Ax}
theorem de_call {f : List D → Option D} {n : Nat} (hob : C.ob = false) (F : GFn X.prog X.w X.K X.mg X.base CX0 k fa fd ps (FnSp X.K n f)) (hps : ps.length = n) (hg : X.A.guards = some []) (hr : Room k X.A) (hgl : Gl X x) (hm : X.mg x = some (.ref fa)) (hk : PySem.W.keepIn X.K (.ref fa) = true)
    (hb : Binds X.K fd ps []) (hlen : (e :: es).length = n) (ha : PA X (e :: es) (tA X.K C fr)) (hfr : ∀ s ds s', fr s = some (ds, s') → ds.length = (e :: es).length) (hdb : (x == ("__debug__" : Str)) = false := by decide)
    (he : starEach (e :: es) X.env = (false, eval e X.env) :: starEach es X.env := by rfl) (hpl : (backTo pos (starEach es X.env)).any (·.1) = false := by rfl) : PE X (.Call (.Name x p) (e :: es) [] pos) (tD X.K C (dCall f fr)) :=
  pe_imp (ge_call (E := E0) F hg hr hgl hm hk hb .nil pass0 ha hdb he hpl) fun σ H Q ⟨F0, s, d, s', w, ee, q⟩ => by
    unfold dCall dApp at ee
    split at ee
    · cases ee
    rename_i xs s1 ea
    split at ee
    · cases ee
    rename_i r er
    cases ee
    refine tA_run w ea fun vs F1 H1 m1 w1 r1 => ?_
    rw [List.append_nil]
    exact ⟨F1, xs, d, (hfr _ _ _ ea).trans hlen, w1.pl hob, w1.into, r1, er, fun v F' H' gr rv => q v F' H' (m1.trans (.grow gr)) (w1.grow gr) rv⟩
theorem de_callK {f : List D → List Int → Int → Option (D × List Int × Int)} {n i : Nat} {e0 : Expr} {es : List Expr} (hob : C.ob = false) (F : GFn X.prog X.w X.K X.mg X.base CX0 k fa fd ps (DkSp X.K n f)) (hg : X.A.guards = some []) (hr : Room k X.A) (hgl : Gl X x) (hm : X.mg x = some (.ref fa))
    (hk : PySem.W.keepIn X.K (.ref fa) = true) (hb : Binds X.K fd ps []) (hlen : es.length = n) (h0 : PE X e0 (tVar i)) (ha : PA X es (tA X.K C fr)) (hfr : ∀ s ds s', fr s = some (ds, s') → ds.length = es.length) (hdb : (x == ("__debug__" : Str)) = false := by decide)
    (he : starEach (e0 :: es) X.env = (false, eval e0 X.env) :: starEach es X.env := by rfl) (hpl : (backTo pos (starEach es X.env)).any (·.1) = false := by rfl) : PE X (.Call (.Name x p) (e0 :: es) [] pos) (tD X.K C (dCallK f i fr)) :=
  pe_imp (ge_call (E := E0) F hg hr hgl hm hk hb .nil pass0 (pa_cons h0 ha he) hdb he hpl) fun σ H Q ⟨F0, s, d, s', w, ee, q⟩ => by
    unfold dCallK at ee
    split at ee
    · rename_i ek
      split at ee
      · cases ee
      rename_i ds s1 ea
      split at ee
      · cases ee
      rename_i r cs' m' er
      cases ee
      obtain ⟨v0, ev0, dp, dc, hdk, rfl⟩ := w.slot _ _ ek
      refine ⟨.ref dp, ev0, tA_run w ea fun vs F1 H1 m1 w1 r1 => ?_⟩
      refine ⟨F1, dp, dc, vs, ds, s1.cs, s1.n, d, cs', m', by rw [List.append_nil], (hfr _ _ _ ea).trans hlen, w1.pl hob, w1.into, (w1.deck _ _ hdk).1, r1, er, fun v F' H' gr dk rv => ?_⟩
      exact q v F' H' (m1.trans (.growK hdk gr)) (w1.growK hdk gr dk) rv
    · cases ee
/-- as many arguments as written -/
theorem aNil_len : ∀ s ds s', aNil s = some (ds, s') → ds.length = ([] : List Expr).length := fun s ds s' h => by cases h; rfl
theorem aCons_len {fe : Ex} {e : Expr} {es : List Expr} (h : ∀ s ds s', fr s = some (ds, s') → ds.length = es.length) : ∀ s ds s', aCons fe fr s = some (ds, s') → ds.length = (e :: es).length := fun s ds s' q => by
  unfold aCons at q
  split at q
  · cases q
  rename_i x s1 e1
  split at q
  · cases q
  rename_i xs s2 e2
  cases q
  simp [h _ _ _ e2]
end
end Dl

/-! t * 0, t * 1 of tuples; repr of data. -/
namespace Dl
open PySem PySem.Spec PyProof.Rows L2
/-! ### repr -/
section
variable {X : Cx} {pins : List (Addr × Obj)} {σ : L2.St} {F : Fz} {H : Hp} {s : Shared}
/-- the table of the modules stands, a dict -/
def SysAt (base : Heap) : Prop := ∃ o es ep, base.get? sysModules = some o ∧ o.data = .dict es ep
theorem sys_list (Y : SysAt X.base) (I : Inv X pins σ H s) {a : Addr} {o : Obj} {vs : Array Value} {n : Nat} (h : s.heap.get? a = some o) (hd : o.data = .seq vs n) : sysModules ≠ a := fun e => by
  obtain ⟨ob, es, ep, q, qd⟩ := Y
  have q1 := I.bk _ _ q
  rw [e, h] at q1
  cases q1
  rw [hd] at qd
  cases qd
end
mutual
/-- no object with a number in it -/
def plain : D → Bool
  | .list xs => plainL xs
  | .tuple xs => plainL xs
  | .dict kvs => !isRefK kvs && plainK kvs
  | _ => true
def plainL : List D → Bool
  | [] => true
  | d :: ds => plain d && plainL ds
def plainK : List (D × D) → Bool
  | [] => true
  | (_, d) :: ds => plain d && plainK ds
end
section
variable {X : Cx} {pins : List (Addr × Obj)} {σ : L2.St} {F : Fz} {H : Hp} {s : Shared}
mutual
theorem rp_reads (Y : SysAt X.base) (I : Inv X pins σ H s) (i : Into F H) : ∀ (d : D) (v : V) (u : Value), plain d = true → Rp X.K F v d → RelV v u → ∃ as, Reads s.heap u d as ∧ sysModules ∉ as
  | .none, _, _, _, h, r => by cases h; cases r; exact ⟨_, .none, List.not_mem_nil⟩
  | .bool b, _, _, _, h, r => by cases h; cases r; exact ⟨_, .bool b, List.not_mem_nil⟩
  | .int n, _, _, _, h, r => by cases h; obtain ⟨t, rfl⟩ := r; exact ⟨_, .int n t, List.not_mem_nil⟩
  | .str x, _, _, _, h, r => by cases h; obtain ⟨t, rfl⟩ := r; exact ⟨_, .str x t, List.not_mem_nil⟩
  | .list ds, _, _, pl, h, r => by
    cases h with
    | lst hs ha =>
      cases r
      obtain ⟨its, rv, ⟨o, n, ho, hc, _, hdd⟩, _⟩ := I.list (.inl (.inl (i _ _ hs)))
      obtain ⟨as, hr, hn⟩ := rp_readsL Y I i ds _ its pl ha rv
      exact ⟨_, .list ho hc hdd hr, List.not_mem_cons_of_ne_of_not_mem (sys_list Y I ho hdd) hn⟩
  | .tuple ds, _, _, pl, h, r => by
    cases h with
    | tup hs ha =>
      cases r
      obtain ⟨its, rv, ⟨o, ho, hc, n, hdd⟩, _⟩ := I.tuple (hs.sq i)
      obtain ⟨as, hr, hn⟩ := rp_readsL Y I i ds _ its pl ha rv
      exact ⟨_, .tuple ho hc hdd hr, hn⟩
  | .dict ds, _, _, pl, h, r => by
    cases h with
    | @dct a kvs ds hs ha =>
      cases r
      obtain ⟨_, y, vs, kv, o, es, ep, ho, ex, hdd, _, hp, _⟩ := I.hok _ _ (i _ _ hs)
      have pl : (!isRefK ds && plainK ds) = true := pl
      rw [Bool.and_eq_true] at pl
      obtain ⟨as, bs, h1, h2, n1, n2⟩ := rp_readsK Y I i ds kvs vs es.toList pl.2 ha kv hp
      refine ⟨_, .dict ho ex.1 hdd h1 h2, ?_⟩
      have ya : sysModules ≠ a := fun e => by rw [← e] at y; exact absurd y (by decide)
      rw [List.cons_append]
      exact List.not_mem_cons_of_ne_of_not_mem ya fun z => (List.mem_append.mp z).elim n1 n2
    | rf hs => cases pl
    | dkt h1 h2 => cases pl
theorem rp_readsL (Y : SysAt X.base) (I : Inv X pins σ H s) (i : Into F H) : ∀ (ds : List D) (vs : List V) (us : List Value), plainL ds = true → RpL X.K F vs ds → Vals vs us → ∃ as, ReadsAll s.heap us ds as ∧ sysModules ∉ as
  | [], _, _, _, h, r => by cases h; cases r; exact ⟨_, .nil, List.not_mem_nil⟩
  | d :: ds, _, _, pl, h, r => by
    have pl : (plain d && plainL ds) = true := pl
    rw [Bool.and_eq_true] at pl
    cases h with
    | cons h1 h2 =>
      cases r with
      | cons r1 r2 =>
        obtain ⟨as, q1, n1⟩ := rp_reads Y I i d _ _ pl.1 h1 r1
        obtain ⟨bs, q2, n2⟩ := rp_readsL Y I i ds _ _ pl.2 h2 r2
        exact ⟨_, .cons q1 q2, fun z => (List.mem_append.mp z).elim n1 n2⟩
theorem rp_readsK (Y : SysAt X.base) (I : Inv X pins σ H s) (i : Into F H) : ∀ (ds : List (D × D)) (kvs : List (L2.Key × V)) (vs : List (L2.Key × Value)) (es : List DictEntry), plainK ds = true → RpK X.K F kvs ds → KV kvs vs → Pairs (mixKind X.prog X.w) es vs →
    ∃ as bs, ReadsAll s.heap (es.map (·.key)) (ds.map (·.1)) as ∧ ReadsAll s.heap (es.map (·.val)) (ds.map (·.2)) bs ∧ sysModules ∉ as ∧ sysModules ∉ bs
  | [], _, _, _, _, h, r, p => by
    cases h
    cases r
    cases p
    exact ⟨[], [], .nil, .nil, List.not_mem_nil, List.not_mem_nil⟩
  | _ :: ds, _, _, _, pl, h, r, p => by
    cases h with
    | @cons k v r0 d ds h1 h2 =>
      have pl : (plain d && plainK ds) = true := pl
      rw [Bool.and_eq_true] at pl
      cases r with
      | @cons a b as0 bs0 r1 r2 =>
        cases p with
        | cons p1 p2 p3 =>
          obtain ⟨as, q1, n1⟩ := rp_reads Y I i d _ _ pl.1 h1 r1.2
          obtain ⟨bs, cs, q2, q3, n2, n3⟩ := rp_readsK Y I i ds _ _ _ pl.2 h2 r2 p3
          have ek : b.1 = k := r1.1.symm
          rw [ek] at p1
          refine ⟨[] ++ bs, as ++ cs, .cons ?_ q2, .cons (show Reads s.heap _ d as by dsimp only; rw [p2]; exact q1) q3, fun z => (List.mem_append.mp z).elim (fun y => by cases y) n2, fun z => (List.mem_append.mp z).elim n1 n3⟩
          rcases keyIs_shape p1 with ⟨j, t, rfl, e2⟩ | ⟨x, t, rfl, e2⟩
          · dsimp only; rw [e2]; exact Reads.int j t
          · dsimp only; rw [e2]; exact Reads.str x t
end
end
def reprOk (d : D) : Bool := d.showable && decide (d.depth ≤ 64) && fits d.shown.length && plain d
def reprD : List D → Option D
  | [d] => if reprOk d then some (.str d.shown) else none
  | _ => none
section
variable {X : Cx}
theorem cd_repr (Y : SysAt X.base) (hg : X.A.guards = some []) (hu : X.A.units + 66 < cLine) : CallD X (.builtin "repr") reprD := by
  intro pins s σ H xs us Q I r ⟨F, ds, res, i, rx, hf, q⟩
  unfold reprD at hf
  split at hf
  · rename_i d
    split at hf
    · rename_i ok
      cases hf
      simp only [reprOk, Bool.and_eq_true, decide_eq_true_eq] at ok
      obtain ⟨⟨⟨o1, o3⟩, o4⟩, opl⟩ := ok
      have o4' := fits_le o4
      cases rx with
      | cons h1 hn =>
        cases hn
        cases r with
        | cons r1 rn =>
          cases rn
          have done : ∀ (h' : Heap) (tk : Nat) (u : Tok), (∀ b o, s.heap.get? b = some o → h'.get? b = some o) → EP X pins σ Q (.str d.shown u) { s with heap := h', toks := tk } := fun h' tk u hk =>
            ⟨.str d.shown, H, I.kept hk, ⟨u, rfl⟩, q _ F H (.refl i) (.str _)⟩
          cases h1 with
          | non => cases r1; exact PySem.P.repr_of_none (done s.heap _ _ fun _ _ e => e)
          | bl b => cases r1; exact PySem.P.repr_of_bool (done s.heap _ _ fun _ _ e => e)
          | int n =>
            obtain ⟨t, rfl⟩ := r1
            exact PySem.P.repr_of_int (by simpa [PyData.showable] using o1) (done s.heap _ _ fun _ _ e => e)
          | str x =>
            obtain ⟨t, rfl⟩ := r1
            exact PySem.P.repr_of_str (done s.heap _ _ fun _ _ e => e) o4'
          | @lst a ys es hs rs =>
            cases r1
            obtain ⟨as, hr, hn⟩ := rp_reads Y I i _ _ _ opl (Rp.lst hs rs) rfl
            exact repr_of_reads' hr o1 (fun _ => hn) hg (by omega) (fun _ _ e => e) (fun h' u tk hk => done h' tk u hk) o4'
          | @tup a ys es hs rs =>
            cases r1
            obtain ⟨as, hr, hn⟩ := rp_reads Y I i _ _ _ opl (Rp.tup hs rs) rfl
            exact repr_of_reads' hr o1 (fun _ => hn) hg (by omega) (fun _ _ e => e) (fun h' u tk hk => done h' tk u hk) o4'
          | dct hs rs =>
            cases r1
            obtain ⟨as, hr, hn⟩ := rp_reads Y I i _ _ _ opl (Rp.dct hs rs) rfl
            exact repr_of_reads' hr o1 (fun _ => hn) hg (by omega) (fun _ _ e => e) (fun h' u tk hk => done h' tk u hk) o4'
          | rf hs => cases opl
          | dkt h1 h2 => cases opl
    · cases hf
  · cases hf
end
end Dl

/-! The data layer, part 8: the end of a law's row, from the promise of its def where no text is being made. -/
namespace Dl
open PySem PySem.Spec L2
open PyProof.Rows (AllBare)

/-- from an abstract heap that tracks nothing but the script -/
theorem g_core {P : Program} {w : World} {K : PySem.W.Frag} {mg mb : Str → Option Value} {k : Nat} {fa a : Addr} {fd : FuncData} {x : Str} {sp : Sp} {s : Shared} {ob : Obj} {es0 : Array Value} {H : Hp}
    (kin : K.In s.heap) (gl : s.heap.Ns mainGlobals mg) (bl : s.heap.Ns builtinsNs mb) (bb : ∀ x : Str, x ≠ "__name__" → mb x = bootBuiltins x) (nl : s.heap.NoLimit) (gens : s.gens = #[])
    (hob : s.heap.get? a = some ob) (hod : ob.data = .seq es0) (hr : Room k callerA)
    (hsys : s.heap.NoSeer) (F : ∀ base : Heap, K.In base → base.Ns mainGlobals mg → SysAt base → GFn P w K mg base CX0 k fa fd [x] sp) (hb : ∀ (s : Shared) (u : Value), BindsTo s fd ⟨[u], []⟩ [(x, u)])
    (hs : sp [.ref a] H (fun v _ => v = .bl true) fun _ _ _ => False) (only : Only H) (hok : HOk P w H s.heap) (atA : ∀ b, H b ≠ none → b = a) (notK : H a ≠ none → K.lookup a = none) :
    codeAny (model P w) callerA (.call (.ref fa) ⟨[.ref a], []⟩) (fun r s' => r = .ok (.ret (.bool true)) ∧ PySem.OldK s.heap s'.heap ∧ s'.os = s.os ∧ AllBare s'.gens) s := by
  have dictFree : ∀ {b : Addr} {o : Obj} {es : Array DictEntry} {ep : Nat}, s.heap.get? b = some o → o.data = .dict es ep → H b = none := by
    intro b o es ep e d
    refine Classical.byContradiction fun z => ?_
    have e1 := atA b z
    subst e1
    rw [hob] at e
    cases e
    rw [hod] at d
    cases d
  have nsUp : ∀ {b : Addr} {m : Str → Option Value}, s.heap.Ns b m → (hidT s.heap H).Ns b m := by
    rintro b m ⟨o, es, ep, e, d, r⟩
    exact ⟨o, es, ep, hidT_get e (dictFree e d), d, r⟩
  have kinUp : K.In (hidT s.heap H) := by
    intro b o e
    refine hidT_get (kin b o e) (Classical.byContradiction fun z => ?_)
    have e1 := atA b z
    subst e1
    rw [notK z] at e
    cases e
  obtain ⟨mc, nl1, nl2⟩ := nl
  have md : Mod K mg (hidT s.heap H) := ⟨kinUp, nsUp gl, ⟨mb, nsUp bl, bb⟩, ⟨mc, nsUp nl1, nl2⟩⟩
  have env : Env0 P w K mg (hidT s.heap H) callerA [] s H :=
    { frames := rfl, mod := md, bs := fun b o e => of_hidT e, bsz := Nat.le_of_eq (hidT_size _ _), funs := trivial, frf := fun b hb => (List.not_mem_nil hb).elim, hok := hok, bare := .of_eq gens }
  have sys : SysAt (hidT s.heap H) := by
    obtain ⟨mm, hn, _⟩ := hsys.mods
    obtain ⟨o, es, ep, e, d, _⟩ := nsUp hn
    exact ⟨o, es, ep, e, d⟩
  have run := (F _ kinUp (nsUp gl) sys).goes callerA [] s H ⟨[.ref a], []⟩ [.ref a] [.ref a] _ _ rfl hr env (hb s (.ref a)) (.cons rfl .nil) hs
  refine PySem.codeAny_mono run fun r s' h => ?_
  match r, h with
  | .error e, h => exact h.elim
  | .ok .next, h => exact h.elim
  | .ok .brk, h => exact h.elim
  | .ok .cont, h => exact h.elim
  | .ok (.ret u), ⟨v, H', os, bare, un, hok', rv, q⟩ =>
    obtain rfl : v = .bl true := q
    obtain rfl : u = Value.bool true := rv
    refine ⟨rfl, .of_keep fun b o e => ?_, os, bare⟩
    cases hbv : H b with
    | none => exact un.keep b o e hbv List.not_mem_nil List.not_mem_nil
    | some z =>
      rcases only b with n | ⟨o2, xs, h2⟩
      · rw [hbv] at n
        cases n
      · have o1 := (hok b _ h2).1
        rw [e] at o1
        cases o1
        exact (hok' b _ (un.frzs b o _ h2)).1

theorem g_walk {l : PySem.W.OpenLaw} {n k : Nat} {q : Program} {loose : List Str} {XP : (Str → Option Value) → Heap → Prop} {YP : World → Heap → Prop} {d : PySem.DefRec} {K : Params → PySem.W.Frag} {sp : PySem.W.Frag → Sp} {x : Str}
    (hn : l.most = some n) (hn2 : n ≤ sizeLine) (hdf : d.params.defaults = []) (hi : PyProof.Rows.importsNone q = true) (hr : Room k callerA) (hY : ∀ (w : World) (h : Heap), YP w h → (K w.params).In h)
    (F : ∀ (w : World) (mg : Str → Option Value) (fa : Addr) (h : Heap), (K w.params).In h → h.Ns mainGlobals mg → mg d.name = some (.ref fa) → ∃ fd : FuncData, (∀ (s : Shared) (u : Value), BindsTo s fd ⟨[u], []⟩ [(x, u)]) ∧
      ∀ base : Heap, (K w.params).In base → base.Ns mainGlobals mg → SysAt base → GFn l.prog w (K w.params) mg base CX0 k fa fd [x] (sp (K w.params)))
    (hsp : ∀ (K : PySem.W.Frag) (H : Hp) (a : Addr) (ns : List Int), ns.length ≤ n → Only H → SqL K H a (ns.map V.int) → sp K [.ref a] H (fun v _ => v = .bl true) fun _ _ _ => False) :
    PySem.W.WalkO q loose XP YP l.row.toRowW d [] (fun f vs => PySem.call f vs) := by
  refine Att.attach_call hn hdf ?_
  intro w s0 s mg mb fa o pm cd doc a vs ns G Y ho hd hcd hmg hobj hints hlen hg
  have kin := hY w _ Y
  obtain ⟨fd, hb, hF⟩ := F w mg fa _ kin G.T.g hmg
  have small : ns.length ≤ sizeLine := Nat.le_trans hlen hn2
  have rv := vals_ints hints
  have lenV := hints.length
  cases hk : (K w.params).lookup a with
  | some o' =>
    have e := kin a o' hk
    rw [hobj] at e
    cases e
    have sq : SqL (K w.params) (fun _ => none) a (ns.map V.int) := .inr ⟨_, vs.toArray, _, hk, rfl, rfl, rfl, by rw [List.size_toArray, lenV]; exact small, by simpa using rv⟩
    exact g_core kin G.T.g G.T.b G.T.builtins G.T.nolimit hg hobj rfl hr (G.T.seer hi) hF hb (hsp _ _ a ns hlen (fun _ => .inl rfl) sq) (fun _ => .inl rfl) (fun b u z => (nomatch z)) (fun b z => absurd rfl z) fun z => absurd rfl z
  | none =>
    have at1 : ∀ {u : HO}, (fun b => if b = a then some (HO.frz { cls := .type "list", data := .seq vs.toArray } (.lst (ns.map V.int))) else none) a = some u → u = .frz { cls := .type "list", data := .seq vs.toArray } (.lst (ns.map V.int)) := by
      intro u z
      have z' := (if_pos rfl).symm.trans z
      exact (Option.some.inj z').symm
    have only : Only (fun b => if b = a then some (HO.frz { cls := .type "list", data := .seq vs.toArray } (.lst (ns.map V.int))) else none) := by
      intro b
      by_cases hb : b = a
      · exact .inr ⟨_, _, if_pos hb⟩
      · exact .inl (if_neg hb)
    refine g_core kin G.T.g G.T.b G.T.builtins G.T.nolimit hg hobj rfl hr (G.T.seer hi) hF hb (hsp _ _ a ns hlen only (.inl (.inr ⟨_, if_pos rfl⟩))) only ?_ ?_ fun _ => hk
    · intro b u z
      by_cases hb : b = a
      · subst hb
        obtain rfl := at1 z
        exact ⟨hobj, by rw [List.length_map]; exact small, vs, _, rv, hobj⟩
      · have z' := (if_neg hb).symm.trans z
        cases z'
    · intro b z
      exact Classical.byContradiction fun hb => z (if_neg hb)
end Dl

/-! A dict is no text. -/
namespace Dl
open PySem PySem.Spec PySem.SeqAt L2
theorem str_eq_declines_dict (b : Str) (u : Tok) (l : Addr) (es : Array DictEntry) (ep : Nat) (dd : Option Addr) (sl : Array (Option Value)) :
    Meets (Builtin.«str.__eq__» ⟨[.str b u, .ref l], []⟩) (fun _ R s => s.heap.get? l = some { cls := .type "dict", dict := dd, data := .dict es ep, slots := sl } ∧ R (.ok (.ret .notImplemented)) s) :=
  .of_wp fun prog w A R s h => by obtain ⟨hp, g, d, tk, os⟩ := s; obtain ⟨hl, h⟩ := h; wp_walk using wpAny_loadPart' hl, wpAny_load hl; exact ⟨_, rfl, h⟩
theorem dict_eq_declines_str (l : Addr) (es : Array DictEntry) (ep : Nat) (dd : Option Addr) (sl : Array (Option Value)) (b : Str) (u : Tok) :
    Meets (Builtin.«dict.__eq__» ⟨[.ref l, .str b u], []⟩) (fun _ R s => s.heap.get? l = some { cls := .type "dict", dict := dd, data := .dict es ep, slots := sl } ∧ R (.ok (.ret .notImplemented)) s) :=
  .of_wp fun prog w A R s h => by obtain ⟨hp, g, d, tk, os⟩ := s; obtain ⟨hl, h⟩ := h; have f1 := F.sub_str_dict; wp_walk using wpAny_loadPart' hl, wpAny_load hl; exact ⟨_, rfl, h⟩
variable {A : Around} {s : Shared}
theorem rcAt_dict_str {l : Addr} {es : Array DictEntry} {ep : Nat} {o : Obj} (b : Str) (u : Tok) (ho : s.heap.get? l = some o) (hc : o.cls = .type "dict") (hd : o.data = .dict es ep) (hu : A.units < cLine) : RcAt A s (.ref l) (.str b u) false := fun prog w E Q h => by
  obtain ⟨cls, dd, data, sl⟩ := o
  simp only at hc hd
  subst hc hd
  exact rc_eq_decline_or (k := false) ⟨_, ho, rfl⟩ (typeIs_str s b u) (by decide) F.sub_str_dict F.slot_dict_eq F.slot_str_eq_refl
    (fun _ hq => call_meets F.slot_dict_eq ⟨_, ho, rfl⟩ F.entry_dict_eq (F.args_dict_eq_2 _ _) (dict_eq_declines_str l es ep dd sl b u) ⟨ho, hq⟩)
    (fun _ hq => call_meets F.slot_str_eq_refl (typeIs_str s b u) F.entry_str_eq (F.args_str_eq_2 _ _) (str_eq_declines_dict b u l es ep dd sl) ⟨ho, hq⟩)
    (fun _ hq => wpAny_of_eq (rfl : isSame (.ref l) (.str b u) = pure false) hq) (.inr hu) h
end Dl

/-! The data layer, part 9: operators, comparisons, subscripts, built-ins, by data. -/
namespace Dl
open PySem PySem.Spec L2

/-! ### what they are worth -/
def addD : D → D → Option D
  | .int a, .int b => some (.int (a + b))
  | .str a, .str b => if fits (a.length + b.length) then some (.str (a ++ b)) else none
  | .tuple a, .tuple b => if fits (a.length + b.length) then some (.tuple (a ++ b)) else none
  | .list a, .list b => if fits (a.length + b.length) then some (.list (a ++ b)) else none
  | _, _ => none
def subD : D → D → Option D
  | .int a, .int b => some (.int (a - b))
  | _, _ => none
noncomputable def small64 (a : Int) : Bool := sealB (decide (-(2 ^ 64) < a) && decide (a < 2 ^ 64))
noncomputable def okK (k : Int) : Bool := sealB (decide (-1000 ≤ k) && decide (k < 2 ^ 63))
noncomputable def okKT (k : Int) : Bool := sealB (decide (-1000 ≤ k) && decide (k ≤ 1000))
noncomputable def okDiv (b : Int) : Bool := sealB (decide (0 < b) && decide (b < 1073741824))
noncomputable def okPow (a b : Int) : Bool := sealB (decide (0 ≤ b) && decide (b ≤ 1000000) && decide (a.natAbs < 2 ^ 64))
noncomputable def mulD : D → D → Option D
  | .int a, .int b => if small64 a || small64 b then some (.int (a * b)) else none
  | .tuple a, .int k => if okKT k && decide (a.length ≤ 1000) then some (.tuple (List.replicate k.toNat a).flatten) else none
  | .list a, .int k => if okK k && fits (a.length * k.toNat) then some (.list (List.replicate k.toNat a).flatten) else none
  | _, _ => none
noncomputable def fdivD : D → D → Option D
  | .int a, .int b => if okDiv b then some (.int (a / b)) else none
  | _, _ => none
def modD : D → D → Option D
  | .int a, .int b => if decide (0 < b) then some (.int (a % b)) else none
  | _, _ => none
noncomputable def powD : D → D → Option D
  | .int a, .int b => if okPow a b then some (.int (a ^ b.toNat)) else none
  | _, _ => none
def negD : D → Option D
  | .int a => some (.int (-a))
  | _ => none
def cmpD (p : Int → Int → Bool) : D → D → Option D
  | .int a, .int b => some (.bool (p a b))
  | _, _ => none
abbrev ltD := cmpD fun a b => decide (a < b)
abbrev leD := cmpD fun a b => decide (a ≤ b)
abbrev gtD := cmpD fun a b => decide (b < a)
abbrev geD := cmpD fun a b => decide (b ≤ a)
/-- texts compare whatever they are; other data where they are of a known shape -/
def eqOk : D → D → Bool
  | .str _, .str _ => true
  | .list _, .list [] => true
  | .tuple _, .tuple [] => true
  | a, b => SeqAt.shaped a && SeqAt.shaped b
/-- a dict is no text -/
def dS : D → D → Bool
  | .dict kvs, .str _ => !isRefK kvs
  | _, _ => false
def eqD (a b : D) : Option D := if eqOk a b || dS a b then some (.bool (PyData.eqv a b)) else none
def neD (a b : D) : Option D := if eqOk a b then some (.bool (!PyData.eqv a b)) else none
def isD : D → D → Option D
  | x, .none => some (.bool (match x with | .none => true | _ => false))
  | .bool a, .bool b => some (.bool (a == b))
  | _, _ => none
def isNotD : D → D → Option D
  | x, .none => some (.bool (match x with | .none => false | _ => true))
  | .bool a, .bool b => some (.bool !(a == b))
  | _, _ => none
def inD (x : D) : D → Option D
  | .list ds => if SeqAt.shaped x && SeqAt.shaped (.list ds) then some (.bool (ds.any fun z => PyData.eqv z x)) else none
  | .tuple ds => if SeqAt.shaped x && SeqAt.shaped (.tuple ds) then some (.bool (ds.any fun z => PyData.eqv z x)) else none
  | _ => none
def notInD (x : D) : D → Option D
  | .list ds => if SeqAt.shaped x && SeqAt.shaped (.list ds) then some (.bool !(ds.any fun z => PyData.eqv z x)) else none
  | .tuple ds => if SeqAt.shaped x && SeqAt.shaped (.tuple ds) then some (.bool !(ds.any fun z => PyData.eqv z x)) else none
  | _ => none
def ixD : D → D → Option D
  | .list ds, .int k => atI ds k
  | .tuple ds, .int k => atI ds k
  | .str x, .int k => if fits x.length then (atI x.cps.toList k).map fun c => .str ⟨#[c]⟩ else none
  | _, _ => none
/-- a cut as of Python's slices -/
def cutD {α : Type} (xs : List α) (lo hi : Option Int) : List α := (xs.drop (HT.sIx xs.length 0 lo)).take (HT.sIx xs.length xs.length hi - HT.sIx xs.length 0 lo)
def slD : D → Option Int → Option Int → Option D
  | .list ds, lo, hi => some (.list (cutD ds lo hi))
  | .tuple ds, lo, hi => some (.tuple (cutD ds lo hi))
  | .str x, lo, hi => if fits x.length then some (.str (cutS x lo hi)) else none
  | _, _, _ => none
def lenD : List D → Option D
  | [.list ds] => some (.int ds.length)
  | [.tuple ds] => some (.int ds.length)
  | [.str x] => if fits x.length then some (.int x.length) else none
  | _ => none
def absD : List D → Option D
  | [.int a] => some (.int (if a < 0 then -a else a))
  | _ => none
def intD : List D → Option D
  | [.int a] => some (.int a)
  | [.bool b] => some (.int (if b then 1 else 0))
  | _ => none
def tupleD : List D → Option D
  | [.list ds] => some (.tuple ds)
  | [.tuple ds] => some (.tuple ds)
  | _ => none
def listD : List D → Option (List D)
  | [.list ds] => some ds
  | [.tuple ds] => some ds
  | _ => none
def max2D : List D → Option D
  | [.int a, .int b] => some (.int (if b > a then b else a))
  | _ => none
def min2D : List D → Option D
  | [.int a, .int b] => some (.int (if b < a then b else a))
  | _ => none
def kindD : D → String
  | .none => "NoneType"
  | .bool _ => "bool"
  | .int _ => "int"
  | .str _ => "str"
  | .list _ => "list"
  | .tuple _ => "tuple"
  | .dict _ => "dict"
/-- isinstance(x, T) for a built-in T -/
def isiD (T : String) : D → Bool
  | .bool _ => T == "bool" || T == "int"
  | d => kindD d == T

/-! ### the rules -/
section
variable {X : Cx}
theorem rp_upd {K : PySem.W.Frag} {F : Fz} {H : Hp} {p : Addr} {vs : List V} {ds : List D} (i : Into F H) (hp : H p = none) (r : RpL K F vs ds) : ∀ {o : Obj}, o.cls = .type "tuple" → o.dict = none → Rp K (updF F p (.frz o (.tup vs))) (.ref p) (.tuple ds) :=
  fun {o} hc hd => .tup ⟨o, updF_same, hc, hd⟩ (r.up (grow_new (o := .frz o (.tup vs)) i hp).sub)
theorem rp_updL {K : PySem.W.Frag} {F : Fz} {H : Hp} {p : Addr} {vs : List V} {ds : List D} (i : Into F H) (hp : H p = none) (r : RpL K F vs ds) : Rp K (updF F p (.lst vs)) (.ref p) (.list ds) :=
  .lst updF_same (r.up (grow_new (o := .lst vs) i hp).sub)
theorem od_add : OpD X (binaryOp .Add) addD := OpR.imp (OpR.or (OpR.or op_add op_add_str) (OpR.or op_catK op_cat)) fun x y H Q ⟨F, d, e, r, i, rx, ry, hg, q⟩ => by
  cases rx with
  | int a =>
    cases ry with
    | int b => cases hg; exact .inl (.inl ⟨a, b, rfl, rfl, q _ F H (.refl i) (.int _)⟩)
    | _ => cases hg
  | str a =>
    cases ry with
    | str b =>
      have hg' : (if fits (a.length + b.length) = true then some (PyData.str (a ++ b)) else none) = some r := hg
      split at hg'
      · rename_i hf
        cases hg'
        exact .inl (.inr ⟨a, b, rfl, rfl, fits_le hf, q _ F H (.refl i) (.str _)⟩)
      · cases hg'
    | _ => cases hg
  | @tup a xs ds hs rs =>
    cases ry with
    | @tup b ys es ht rt =>
      have hg' : (if fits (ds.length + es.length) = true then some (PyData.tuple (ds ++ es)) else none) = some r := hg
      split at hg'
      · rename_i hf
        cases hg'
        refine .inr (.inl ⟨a, b, xs, ys, rfl, rfl, (hs.sq i), (ht.sq i), by rw [rs.len, rt.len]; exact fits_le hf, fun e => ?_, fun _ e => ?_, fun _ _ p o hp hc hd => ?_⟩)
        · subst e
          cases rs
          exact q _ F H (.refl i) (.tup ht rt)
        · subst e
          cases rt
          rw [List.append_nil] at q
          exact q _ F H (.refl i) (.tup hs rs)
        · exact q _ _ _ (grow_new i hp) (rp_upd i hp (rs.app rt) hc hd)
      · cases hg'
    | _ => cases hg
  | @lst a xs ds hs rs =>
    cases ry with
    | @lst b ys es ht rt =>
      have hg' : (if fits (ds.length + es.length) = true then some (PyData.list (ds ++ es)) else none) = some r := hg
      split at hg'
      · rename_i hf
        cases hg'
        exact .inr (.inr ⟨a, b, xs, ys, rfl, rfl, i _ _ hs, i _ _ ht, by rw [rs.len, rt.len]; exact fits_le hf, fun p hp => q _ _ _ (grow_new i hp) (rp_updL i hp (rs.app rt))⟩)
      · cases hg'
    | _ => cases hg
  | _ => cases ry <;> cases hg
theorem od_int {f : Value → Value → Sem Value} {g : Int → Int → V} {g' : D → D → Option D} {C : Int → Int → Prop} (h : OpR X f (rI C g)) (hg : ∀ d e r, g' d e = some r → ∃ a b, d = .int a ∧ e = .int b ∧ C a b ∧ ∀ F, Rp X.K F (g a b) r) : OpD X f g' :=
  OpR.imp h fun x y H Q ⟨F, d, e, r, i, rx, ry, hgg, q⟩ => by
    obtain ⟨a, b, rfl, rfl, hc, hr⟩ := hg d e r hgg
    cases rx
    cases ry
    exact ⟨a, b, rfl, rfl, hc, q _ F H (.refl i) (hr F)⟩
theorem od_int0 {f : Value → Value → Sem Value} {g : Int → Int → V} {g' : D → D → Option D} (h : OpR X f (rI0 g)) (hg : ∀ d e r, g' d e = some r → ∃ a b, d = .int a ∧ e = .int b ∧ ∀ F, Rp X.K F (g a b) r) : OpD X f g' :=
  OpR.imp h fun x y H Q ⟨F, d, e, r, i, rx, ry, hgg, q⟩ => by
    obtain ⟨a, b, rfl, rfl, hr⟩ := hg d e r hgg
    cases rx
    cases ry
    exact ⟨a, b, rfl, rfl, q _ F H (.refl i) (hr F)⟩
theorem od_sub : OpD X (binaryOp .Sub) subD := od_int0 op_sub fun d e r h => by
  unfold subD at h
  split at h
  · cases h; exact ⟨_, _, rfl, rfl, fun _ => .int _⟩
  · cases h
theorem od_iadd : OpD X (inplaceOp .Add) addD → True := fun _ => trivial
theorem od_mod : OpD X (binaryOp .Mod) modD := od_int op_mod fun d e r h => by
  unfold modD at h
  split at h
  · split at h
    · rename_i hb
      cases h
      exact ⟨_, _, rfl, rfl, by simpa using hb, fun _ => .int _⟩
    · cases h
  · cases h
theorem od_fdiv : OpD X (binaryOp .FloorDiv) fdivD := od_int op_fdiv fun d e r h => by
  unfold fdivD at h
  split at h
  · split at h
    · rename_i hb
      cases h
      exact ⟨_, _, rfl, rfl, by simpa [okDiv, sealB_eq, CDiv] using hb, fun _ => .int _⟩
    · cases h
  · cases h
theorem od_pow : OpD X (binaryOp .Pow) powD := od_int op_pow fun d e r h => by
  unfold powD at h
  split at h
  · split at h
    · rename_i hb
      cases h
      simp only [okPow, sealB_eq, Bool.and_eq_true, decide_eq_true_eq] at hb
      exact ⟨_, _, rfl, rfl, ⟨hb.1.1, hb.1.2, hb.2⟩, fun _ => .int _⟩
    · cases h
  · cases h
theorem od_mul : OpD X (binaryOp .Mult) mulD := OpR.imp (OpR.or op_mul (OpR.or op_repK op_rep)) fun x y H Q ⟨F, d, e, r, i, rx, ry, hg, q⟩ => by
  cases rx with
  | int a =>
    cases ry with
    | int b =>
      have hg' : (if (small64 a || small64 b) = true then some (PyData.int (a * b)) else none) = some r := hg
      split at hg'
      · rename_i hb
        cases hg'
        refine .inl ⟨a, b, rfl, rfl, ?_, q _ F H (.refl i) (.int _)⟩
        simpa [small64, sealB_eq, CMul] using hb
      · cases hg'
    | _ => cases hg
  | @tup a xs ds hs rs =>
    cases ry with
    | int k =>
      have hg' : (if (okKT k && decide (ds.length ≤ 1000)) = true then some (PyData.tuple (List.replicate k.toNat ds).flatten) else none) = some r := hg
      split at hg'
      · rename_i hb
        cases hg'
        simp only [okKT, sealB_eq, Bool.and_eq_true, decide_eq_true_eq] at hb
        obtain ⟨⟨b2, b3⟩, b4⟩ := hb
        have rr : ∀ n : Nat, RpL X.K F (List.replicate n xs).flatten (List.replicate n ds).flatten := fun n => by
          induction n with
          | zero => exact .nil
          | succ n ih =>
            rw [List.replicate_succ, List.replicate_succ, List.flatten_cons, List.flatten_cons]
            exact rs.app ih
        refine .inr (.inl ⟨a, k, xs, rfl, rfl, (hs.sq i), by rw [rs.len]; exact b4, by omega, b3, fun h => ?_, fun _ p o hp hc hd => q _ _ _ (grow_new i hp) (rp_upd i hp (rr _) hc hd)⟩)
        have e1 : (List.replicate k.toNat ds).flatten = ds := by
          rcases h with h | h
          · subst h
            cases rs
            simp
          · subst h
            simp
        rw [e1] at q
        exact q _ F H (.refl i) (.tup hs rs)
      · cases hg'
    | _ => cases hg
  | @lst a xs ds hs rs =>
    cases ry with
    | int k =>
      have hg' : (if (okK k && fits (ds.length * k.toNat)) = true then some (PyData.list (List.replicate k.toNat ds).flatten) else none) = some r := hg
      split at hg'
      · rename_i hb
        cases hg'
        simp only [okK, sealB_eq, Bool.and_eq_true, decide_eq_true_eq] at hb
        obtain ⟨⟨b1, b2⟩, b3⟩ := hb
        have rr : ∀ n : Nat, RpL X.K F (List.replicate n xs).flatten (List.replicate n ds).flatten := fun n => by
          induction n with
          | zero => exact .nil
          | succ n ih =>
            rw [List.replicate_succ, List.replicate_succ, List.flatten_cons, List.flatten_cons]
            exact rs.app ih
        exact .inr (.inr ⟨a, k, xs, rfl, rfl, i _ _ hs, by omega, b2, by rw [rs.len]; exact fits_le b3, fun p hp => q _ _ _ (grow_new i hp) (rp_updL i hp (rr _))⟩)
      · cases hg'
    | _ => cases hg
  | _ => cases ry <;> cases hg
theorem ud_neg : UnD X (unaryOp .USub) negD := UnR.imp un_neg fun x H Q ⟨F, d, r, i, rx, hg, q⟩ => by
  cases rx with
  | int a => cases hg; exact ⟨a, rfl, q _ F H (.refl i) (.int _)⟩
  | _ => cases hg
theorem od_cmp {op : CmpOp} {p : Int → Int → Bool} (h : OpR X (compareOp op) (rI0 fun i j => .bl (p i j))) : OpD X (compareOp op) (cmpD p) := od_int0 h fun d e r hh => by
  unfold cmpD at hh
  split at hh
  · cases hh; exact ⟨_, _, rfl, rfl, fun _ => .bl _⟩
  · cases hh
theorem od_lt : OpD X (compareOp .Lt) ltD := od_cmp op_lt
theorem od_le : OpD X (compareOp .LtE) leD := od_cmp op_le
theorem od_gt : OpD X (compareOp .Gt) gtD := od_cmp op_gt
theorem od_ge : OpD X (compareOp .GtE) geD := od_cmp op_ge
mutual
theorem dp_of {K : PySem.W.Frag} {F : Fz} {H : Hp} (i : Into F H) : ∀ (d : D) (v : V), Rp K F v d → d.canLay0 = true → Dp K H v d
  | .none, _, h, _ => by cases h; exact .non
  | .bool b, _, h, _ => by cases h; exact .bl b
  | .int b, _, h, _ => by cases h; exact .int b
  | .str b, _, h, _ => by cases h; exact .str b
  | .list ds, _, h, c => by
    cases h with
    | lst hs rs => exact .lst (.inl (.inl (i _ _ hs))) (dpl_of i ds _ rs (by simpa [PyData.canLay0] using c))
  | .tuple ds, _, h, c => by
    cases h with
    | tup hs rs => exact .tup ((hs.sq i)) (dpl_of i ds _ rs (by simpa [PyData.canLay0] using c))
  | .dict _, _, _, c => by simp [PyData.canLay0] at c
theorem dpl_of {K : PySem.W.Frag} {F : Fz} {H : Hp} (i : Into F H) : ∀ (ds : List D) (vs : List V), RpL K F vs ds → PyData.canLayAll0 ds = true → DpAll K H vs ds
  | [], _, h, _ => by cases h; exact .nil
  | d :: ds, _, h, c => by
    cases h with
    | cons h1 h2 =>
      simp only [PyData.canLayAll0, Bool.and_eq_true] at c
      exact .cons (dp_of i d _ h1 c.1) (dpl_of i ds _ h2 c.2)
end
theorem dp_sh {K : PySem.W.Frag} {F : Fz} {H : Hp} (i : Into F H) {d : D} {v : V} (r : Rp K F v d) (h : SeqAt.shaped d = true) : Dp K H v d := dp_of i d v r (SeqAt.canLay_of_shaped h)
theorem str_beq (x y : PySem.Str) : (x == y) = decide (V.str x = V.str y) := by
  by_cases h : x = y
  · subst h; simp
  · have h2 : ¬ V.str x = V.str y := fun z => h (V.str.inj z)
    simp [h]
theorem eqOk_cases {d e : D} (h : eqOk d e = true) : (∃ x y, d = .str x ∧ e = .str y) ∨ (∃ xs, d = .list xs ∧ e = .list []) ∨ (∃ xs, d = .tuple xs ∧ e = .tuple []) ∨ (SeqAt.shaped d = true ∧ SeqAt.shaped e = true) := by
  unfold eqOk at h
  split at h
  · exact .inl ⟨_, _, rfl, rfl⟩
  · exact .inr (.inl ⟨_, rfl, rfl⟩)
  · exact .inr (.inr (.inl ⟨_, rfl, rfl⟩))
  · simp only [Bool.and_eq_true] at h
    exact .inr (.inr (.inr h))
theorem eqOk_sh {a b : D} (h1 : SeqAt.shaped a = true) (h2 : SeqAt.shaped b = true) : eqOk a b = true := by
  unfold eqOk
  split
  · rfl
  · rfl
  · rfl
  · rw [h1, h2]; rfl
theorem eqOk_or {a b : D} (h : eqOk a b = true) : (eqOk a b || dS a b) = true := by rw [h]; rfl
/-- against an empty list -/
def rEmE : R2 := fun x y H Q => ∃ a b xs, x = .ref a ∧ y = .ref b ∧ H a = some (.lst xs) ∧ H b = some (.lst []) ∧ Q (.bl xs.isEmpty) H
def rEmN : R2 := fun x y H Q => ∃ a b xs, x = .ref a ∧ y = .ref b ∧ H a = some (.lst xs) ∧ H b = some (.lst []) ∧ Q (.bl !xs.isEmpty) H
theorem vals_size {xs : List V} {its : List Value} (h : Vals xs its) : its.toArray.size = xs.length := by
  rw [List.size_toArray]
  induction h with
  | nil => rfl
  | cons _ _ ih => rw [List.length_cons, List.length_cons, ih]
theorem op_emE (hu : X.A.units + 64 < cLine) : OpR X (compareOp .Eq) rEmE := by
  intro pins s σ H x y v u Q I rx ry h
  obtain ⟨a, b, xs, rfl, rfl, ha, hb, q⟩ := h
  cases rx
  cases ry
  obtain ⟨its, rv, hl, _⟩ := I.list (SqL.of ha)
  obtain ⟨its2, rv2, hl2, _⟩ := I.list (SqL.of hb)
  have n1 := vals_size rv
  have n2 := vals_size rv2
  have k1 : s.heap.IsList a its.toArray := by
    obtain ⟨o, n, h1, h2, _, h3⟩ := hl
    exact ⟨_, h1, h2, _, h3⟩
  have k2 : s.heap.IsList b its2.toArray := by
    obtain ⟨o, n, h1, h2, _, h3⟩ := hl2
    exact ⟨_, h1, h2, _, h3⟩
  cases xs with
  | nil =>
    have := SeqAt.RcAt.lists (A := X.A) (e := fun _ => true) k1 k2 (by rw [n1, n2]) (by omega) fun j h1 h2 => absurd h1 (by rw [n1]; exact Nat.not_lt_zero _)
    rw [show ((List.range its.toArray.size).all fun _ => true) = true by simp] at this
    exact this _ _ _ _ ⟨.bl _, H, I, rfl, q⟩
  | cons x xs =>
    have := SeqAt.RcAt.lists_lengths (A := X.A) k1 k2 (by rw [n1, n2]; rfl) (by omega)
    exact this _ _ _ _ ⟨.bl _, H, I, rfl, q⟩
theorem op_emN (hu : X.A.units + 64 < cLine) : OpR X (compareOp .NotEq) rEmN := by
  intro pins s σ H x y v u Q I rx ry h
  obtain ⟨a, b, xs, rfl, rfl, ha, hb, q⟩ := h
  cases rx
  cases ry
  obtain ⟨its, rv, hl, _⟩ := I.list (SqL.of ha)
  obtain ⟨its2, rv2, hl2, _⟩ := I.list (SqL.of hb)
  have n1 := vals_size rv
  have n2 := vals_size rv2
  have k1 : s.heap.IsList a its.toArray := by
    obtain ⟨o, n, h1, h2, _, h3⟩ := hl
    exact ⟨_, h1, h2, _, h3⟩
  have k2 : s.heap.IsList b its2.toArray := by
    obtain ⟨o, n, h1, h2, _, h3⟩ := hl2
    exact ⟨_, h1, h2, _, h3⟩
  cases xs with
  | nil =>
    have := SeqAt.RcNeAt.lists (A := X.A) (e := fun _ => true) k1 k2 (by rw [n1, n2]) (by omega) fun j h1 h2 => absurd h1 (by rw [n1]; exact Nat.not_lt_zero _)
    rw [show ((List.range its.toArray.size).all fun _ => true) = true by simp] at this
    exact this _ _ _ _ ⟨.bl _, H, I, rfl, q⟩
  | cons x xs =>
    have := SeqAt.RcNeAt.lists_lengths (A := X.A) k1 k2 (by rw [n1, n2]; rfl) (by omega)
    exact this _ _ _ _ ⟨.bl _, H, I, rfl, q⟩
def rEmTE (K : PySem.W.Frag) : R2 := fun x y H Q => ∃ a b xs, x = .ref a ∧ y = .ref b ∧ SqT K H a xs ∧ SqT K H b [] ∧ Q (.bl xs.isEmpty) H
def rEmTN (K : PySem.W.Frag) : R2 := fun x y H Q => ∃ a b xs, x = .ref a ∧ y = .ref b ∧ SqT K H a xs ∧ SqT K H b [] ∧ Q (.bl !xs.isEmpty) H
theorem op_emTE (hu : X.A.units + 64 < cLine) : OpR X (compareOp .Eq) (rEmTE X.K) := by
  intro pins s σ H x y v u Q I rx ry h
  obtain ⟨a, b, xs, rfl, rfl, ha, hb, q⟩ := h
  cases rx
  cases ry
  obtain ⟨its, rv, hl, _⟩ := I.tuple ha
  obtain ⟨its2, rv2, hl2, _⟩ := I.tuple hb
  have n1 := vals_size rv
  have n2 := vals_size rv2
  have k1 : s.heap.IsTuple a its.toArray := by
    obtain ⟨o, h1, h2, n, h3⟩ := hl
    exact ⟨_, h1, h2, _, h3⟩
  have k2 : s.heap.IsTuple b its2.toArray := by
    obtain ⟨o, h1, h2, n, h3⟩ := hl2
    exact ⟨_, h1, h2, _, h3⟩
  have n2' : its2.toArray.size = 0 := n2
  have := SeqAt.RcAt.tuples (A := X.A) (e := fun _ => true) k1 k2 (by omega) fun j h1 h2 => absurd h2 (by rw [n2']; exact Nat.not_lt_zero _)
  have e : ((List.range (min its.toArray.size its2.toArray.size)).all (fun _ => true) && its.toArray.size == its2.toArray.size) = xs.isEmpty := by
    rw [n1, n2']
    cases xs <;> simp
  rw [e] at this
  exact this _ _ _ _ ⟨.bl _, H, I, rfl, q⟩
theorem op_emTN (hu : X.A.units + 64 < cLine) : OpR X (compareOp .NotEq) (rEmTN X.K) := by
  intro pins s σ H x y v u Q I rx ry h
  obtain ⟨a, b, xs, rfl, rfl, ha, hb, q⟩ := h
  cases rx
  cases ry
  obtain ⟨its, rv, hl, _⟩ := I.tuple ha
  obtain ⟨its2, rv2, hl2, _⟩ := I.tuple hb
  have n1 := vals_size rv
  have n2 := vals_size rv2
  have k1 : s.heap.IsTuple a its.toArray := by
    obtain ⟨o, h1, h2, n, h3⟩ := hl
    exact ⟨_, h1, h2, _, h3⟩
  have k2 : s.heap.IsTuple b its2.toArray := by
    obtain ⟨o, h1, h2, n, h3⟩ := hl2
    exact ⟨_, h1, h2, _, h3⟩
  have n2' : its2.toArray.size = 0 := n2
  have := SeqAt.RcNeAt.tuples (A := X.A) (e := fun _ => true) k1 k2 (by omega) fun j h1 h2 => absurd h2 (by rw [n2']; exact Nat.not_lt_zero _)
  have e : (!((List.range (min its.toArray.size its2.toArray.size)).all (fun _ => true) && its.toArray.size == its2.toArray.size)) = !xs.isEmpty := by
    rw [n1, n2']
    cases xs <;> simp
  rw [e] at this
  exact this _ _ _ _ ⟨.bl _, H, I, rfl, q⟩
/-- a dict and a text -/
def rDkS : R2 := fun x y H Q => ∃ a kvs t, x = .ref a ∧ y = .str t ∧ H a = some (.dK kvs) ∧ Q (.bl false) H
theorem op_dkS (hu : X.A.units + 64 < cLine) : OpR X (compareOp .Eq) rDkS := by
  intro pins s σ H x y v u Q I rx ry h
  obtain ⟨a, kvs, t, rfl, rfl, ha, q⟩ := h
  cases rx
  obtain ⟨tk, rfl⟩ := ry
  obtain ⟨_, _, vs, _, hd⟩ := (show ObjOk X.prog X.w H s.heap a (.dK kvs) from I.hok a _ ha)
  obtain ⟨o, ho, es, ep, hx, hdt, _⟩ := Heap.dictOf_iff.mp hd
  exact rcAt_dict_str t tk ho hx.1 hdt (by omega) _ _ _ _ ⟨.bl _, H, I, rfl, q⟩
theorem eqv_emptyT (xs : List D) : PyData.eqv (.tuple xs) (.tuple []) = xs.isEmpty := by
  cases xs <;> simp [PyData.eqv, PyData.eqvAll]
theorem eqv_empty (xs : List D) : PyData.eqv (.list xs) (.list []) = xs.isEmpty := by
  cases xs <;> simp [PyData.eqv, PyData.eqvAll]
theorem rpL_empty {K : PySem.W.Frag} {F : Fz} {xs : List V} {ds : List D} (h : RpL K F xs ds) : ds.isEmpty = xs.isEmpty := by
  cases h <;> rfl
theorem od_eq (hu : X.A.units + 64 < cLine) : OpD X (compareOp .Eq) eqD := OpR.imp (OpR.or op_eq (OpR.or (op_emE hu) (OpR.or (op_emTE hu) (OpR.or (op_dkS hu) (op_eqD hu))))) fun x y H Q ⟨F, d, e, r, i, rx, ry, hg, q⟩ => by
  unfold eqD at hg
  split at hg
  · rename_i hb
    cases hg
    have hb : eqOk d e = true ∨ ∃ kvs t, d = .dict kvs ∧ e = .str t := by
      rw [Bool.or_eq_true] at hb
      refine hb.imp id fun h => ?_
      unfold dS at h
      split at h
      · exact ⟨_, _, rfl, rfl⟩
      · cases h
    rcases hb with hb | ⟨kvs, t, rfl, rfl⟩
    rcases eqOk_cases hb with ⟨a, b, rfl, rfl⟩ | ⟨xs, rfl, rfl⟩ | ⟨xs, rfl, rfl⟩ | hb
    · cases rx
      cases ry
      refine .inl ⟨rfl, ?_⟩
      have := q (.bl (PyData.eqv (.str a) (.str b))) F H (.refl i) (.bl _)
      rw [PyData.eqv, str_beq] at this
      exact this
    · cases rx with
      | lst ha hla =>
        cases ry with
        | lst hb hlb =>
          cases hlb
          have := q (.bl (PyData.eqv (.list xs) (.list []))) F H (.refl i) (.bl _)
          rw [eqv_empty, rpL_empty hla] at this
          exact .inr (.inl ⟨_, _, _, rfl, rfl, i _ _ ha, i _ _ hb, this⟩)
    · cases rx with
      | tup ha hla =>
        cases ry with
        | tup hb hlb =>
          cases hlb
          have := q (.bl (PyData.eqv (.tuple xs) (.tuple []))) F H (.refl i) (.bl _)
          rw [eqv_emptyT, rpL_empty hla] at this
          exact .inr (.inr (.inl ⟨_, _, _, rfl, rfl, (ha.sq i), (hb.sq i), this⟩))
    · exact .inr (.inr (.inr (.inr ⟨d, e, dp_sh i rx hb.1, dp_sh i ry hb.2, hb.1, hb.2, q _ F H (.refl i) (.bl _)⟩)))
    · cases rx with
      | dct ha hla =>
        cases ry
        have := q (.bl (PyData.eqv (.dict kvs) (.str t))) F H (.refl i) (.bl _)
        rw [show PyData.eqv (.dict kvs) (.str t) = false by simp [PyData.eqv]] at this
        exact .inr (.inr (.inr (.inl ⟨_, _, _, rfl, rfl, i _ _ ha, this⟩)))
      | rf hs => cases hb
      | dkt h1 h2 => cases hb
  · cases hg
theorem od_ne (hu : X.A.units + 64 < cLine) : OpD X (compareOp .NotEq) neD := OpR.imp (OpR.or op_ne (OpR.or (op_emN hu) (OpR.or (op_emTN hu) (op_neD hu)))) fun x y H Q ⟨F, d, e, r, i, rx, ry, hg, q⟩ => by
  unfold neD at hg
  split at hg
  · rename_i hb
    cases hg
    rcases eqOk_cases hb with ⟨a, b, rfl, rfl⟩ | ⟨xs, rfl, rfl⟩ | ⟨xs, rfl, rfl⟩ | hb
    · cases rx
      cases ry
      refine .inl ⟨rfl, ?_⟩
      have := q (.bl (!PyData.eqv (.str a) (.str b))) F H (.refl i) (.bl _)
      rw [PyData.eqv, str_beq] at this
      exact this
    · cases rx with
      | lst ha hla =>
        cases ry with
        | lst hb hlb =>
          cases hlb
          have := q (.bl (!PyData.eqv (.list xs) (.list []))) F H (.refl i) (.bl _)
          rw [eqv_empty, rpL_empty hla] at this
          exact .inr (.inl ⟨_, _, _, rfl, rfl, i _ _ ha, i _ _ hb, this⟩)
    · cases rx with
      | tup ha hla =>
        cases ry with
        | tup hb hlb =>
          cases hlb
          have := q (.bl (!PyData.eqv (.tuple xs) (.tuple []))) F H (.refl i) (.bl _)
          rw [eqv_emptyT, rpL_empty hla] at this
          exact .inr (.inr (.inl ⟨_, _, _, rfl, rfl, (ha.sq i), (hb.sq i), this⟩))
    · exact .inr (.inr (.inr ⟨d, e, dp_sh i rx hb.1, dp_sh i ry hb.2, hb.1, hb.2, q _ F H (.refl i) (.bl _)⟩))
  · cases hg
theorem od_is : OpD X (compareOp .Is) isD := OpR.imp (OpR.or op_isN op_isBl) fun x y H Q ⟨F, d, e, r, i, rx, ry, hg, q⟩ => by
  cases ry with
  | non =>
    refine .inl ⟨rfl, ?_⟩
    cases rx <;> (cases hg; exact q _ F H (.refl i) (.bl _))
  | bl b =>
    cases rx with
    | bl a =>
      cases hg
      refine .inr ⟨a, b, rfl, rfl, ?_⟩
      have : decide (a = b) = (a == b) := by cases a <;> cases b <;> rfl
      rw [this]
      exact q _ F H (.refl i) (.bl _)
    | _ => cases hg
  | _ => cases rx <;> cases hg
theorem od_isNot : OpD X (compareOp .IsNot) isNotD := OpR.imp (OpR.or op_notN op_notBl) fun x y H Q ⟨F, d, e, r, i, rx, ry, hg, q⟩ => by
  cases ry with
  | non =>
    refine .inl ⟨rfl, ?_⟩
    cases rx <;> (cases hg; exact q _ F H (.refl i) (.bl _))
  | bl b =>
    cases rx with
    | bl a =>
      cases hg
      refine .inr ⟨a, b, rfl, rfl, ?_⟩
      have : decide (a = b) = (a == b) := by cases a <;> cases b <;> rfl
      rw [this]
      exact q _ F H (.refl i) (.bl _)
    | _ => cases hg
  | _ => cases rx <;> cases hg
theorem room_in {A : Around} {ds : List D} {d : D} (h : SeqAt.shaped d = true) (hu : A.units + 65 < cLine) : A.units + 1 + min (PyData.depthAll ds) d.depth < cLine := by
  have h1 := SeqAt.depth_of_shaped h
  have h2 : min (PyData.depthAll ds) d.depth ≤ d.depth := Nat.min_le_right _ _
  omega
theorem od_in (hu : X.A.units + 65 < cLine) : OpD X (compareOp .In) inD := by
  intro pins s σ H x y v u Q I rx ry ⟨F, d, e, r, i, hx, hy, hg, q⟩
  unfold inD at hg
  split at hg
  · split at hg
    · rename_i hb
      simp only [Bool.and_eq_true] at hb
      cases hg
      obtain ⟨as, r1⟩ := Dp.reads I d x v (dp_sh i hx hb.1) rx
      obtain ⟨bs, r2⟩ := Dp.reads I _ y u (dp_sh i hy hb.2) ry
      have c2 := SeqAt.canLay_of_shaped hb.2
      exact SeqAt.in_list_reads r2 r1 (by simpa [PyData.canLay0] using c2) (SeqAt.canLay_of_shaped hb.1) (room_in hb.1 hu) ⟨.bl _, H, I, rfl, q _ F H (.refl i) (.bl _)⟩
    · cases hg
  · split at hg
    · rename_i hb
      simp only [Bool.and_eq_true] at hb
      cases hg
      obtain ⟨as, r1⟩ := Dp.reads I d x v (dp_sh i hx hb.1) rx
      obtain ⟨bs, r2⟩ := Dp.reads I _ y u (dp_sh i hy hb.2) ry
      have c2 := SeqAt.canLay_of_shaped hb.2
      exact SeqAt.in_tuple_reads r2 r1 (by simpa [PyData.canLay0] using c2) (SeqAt.canLay_of_shaped hb.1) (room_in hb.1 hu) ⟨.bl _, H, I, rfl, q _ F H (.refl i) (.bl _)⟩
    · cases hg
  · cases hg

theorem RpL.cut {K : PySem.W.Frag} {F : Fz} {vs : List V} {ds : List D} (r : RpL K F vs ds) (lo hi : Option Int) : RpL K F (cutV vs lo hi) (cutD ds lo hi) := by
  unfold cutV cutD
  rw [r.len]
  exact (r.drop _).take _
theorem id_ix : IxD X ixD := IxR.imp ix_seq fun x y H Q ⟨F, d, e, r, i, rx, ry, hg, q⟩ => by
  cases rx with
  | @lst a xs ds hs rs =>
    cases ry with
    | int k =>
      obtain ⟨v, h1, h2⟩ := rs.atI (show atI ds k = some r from hg)
      exact .inl ⟨a, xs, k, v, rfl, rfl, .inl (.inl (i _ _ hs)), h1, q _ F H (.refl i) h2⟩
    | _ => cases hg
  | @tup a xs ds hs rs =>
    cases ry with
    | int k =>
      obtain ⟨v, h1, h2⟩ := rs.atI (show atI ds k = some r from hg)
      exact .inr (.inl ⟨a, xs, k, v, rfl, rfl, (hs.sq i), h1, q _ F H (.refl i) h2⟩)
    | _ => cases hg
  | str z =>
    cases ry with
    | int k =>
      have hg' : (if fits z.length = true then (atI z.cps.toList k).map fun c => PyData.str ⟨#[c]⟩ else none) = some r := hg
      split at hg'
      · rename_i hf
        cases e : atI z.cps.toList k with
        | none => rw [e] at hg'; cases hg'
        | some c =>
          rw [e] at hg'
          cases hg'
          exact .inr (.inr ⟨z, k, c, rfl, rfl, fits_le hf, e, q _ F H (.refl i) (.str _)⟩)
      · cases hg'
    | _ => cases hg
  | _ => cases ry <;> cases hg
theorem cutD_whole {α : Type} {xs : List α} {lo hi : Option Int} (h : HT.sIx xs.length 0 lo = 0 ∧ HT.sIx xs.length xs.length hi = xs.length) : cutD xs lo hi = xs := by
  unfold cutD
  rw [h.1, h.2]
  simp
theorem sd_sl : SlD X slD := SlR.imp (SlR.or (SlR.or sl_tupK sl_list) sl_str) fun x lo hi H Q ⟨F, d, r, i, rx, hg, q⟩ => by
  cases rx with
  | @lst a xs ds hs rs =>
    cases hg
    exact .inl (.inr ⟨a, xs, rfl, .inl (.inl (i _ _ hs)), fun p hp => q _ _ _ (grow_new i hp) (rp_updL i hp (rs.cut lo hi))⟩)
  | @tup a xs ds hs rs =>
    cases hg
    refine .inl (.inl ⟨a, xs, rfl, (hs.sq i), fun hw => ?_, fun _ p o hp hc hd => q _ _ _ (grow_new i hp) (rp_upd i hp (rs.cut lo hi) hc hd)⟩)
    have e1 : cutD ds lo hi = ds := cutD_whole (by rw [← rs.len]; exact hw)
    rw [e1] at q
    exact q _ F H (.refl i) (.tup hs rs)
  | str z =>
    have hg' : (if fits z.length = true then some (PyData.str (cutS z lo hi)) else none) = some r := hg
    split at hg'
    · rename_i hf
      cases hg'
      exact .inr ⟨z, rfl, fits_le hf, q _ F H (.refl i) (.str _)⟩
    · cases hg'
  | _ => cases hg

/-! ### built-ins -/
theorem RpL.one {K : PySem.W.Frag} {F : Fz} {vs : List V} {d : D} (r : RpL K F vs [d]) : ∃ v, vs = [v] ∧ Rp K F v d := by
  cases r with
  | cons h t => cases t; exact ⟨_, rfl, h⟩
theorem RpL.two {K : PySem.W.Frag} {F : Fz} {vs : List V} {d e : D} (r : RpL K F vs [d, e]) : ∃ v u, vs = [v, u] ∧ Rp K F v d ∧ Rp K F u e := by
  cases r with
  | cons h t =>
    obtain ⟨u, rfl, h2⟩ := t.one
    exact ⟨_, u, rfl, h, h2⟩
theorem cd_len : CallD X (.builtin "len") lenD := CallR.imp (CallR.or call_len_seq call_len_str) fun xs H Q ⟨F, ds, r, i, rx, hg, q⟩ => by
  unfold lenD at hg
  split at hg
  · rename_i es
    cases hg
    obtain ⟨v, rfl, h⟩ := rx.one
    cases h with
    | lst hs rs => exact .inl ⟨_, _, rfl, .inl (.inl (.inl (i _ _ hs))), by rw [rs.len]; exact q _ F H (.refl i) (.int _)⟩
  · rename_i es
    cases hg
    obtain ⟨v, rfl, h⟩ := rx.one
    cases h with
    | tup hs rs => exact .inl ⟨_, _, rfl, .inr ((hs.sq i)), by rw [rs.len]; exact q _ F H (.refl i) (.int _)⟩
  · rename_i x
    split at hg
    · rename_i hf
      cases hg
      obtain ⟨v, rfl, h⟩ := rx.one
      cases h
      exact .inr ⟨x, rfl, fits_le hf, q _ F H (.refl i) (.int _)⟩
    · cases hg
  · cases hg
theorem cd_abs : CallD X (.builtin "abs") absD := CallR.imp call_abs fun xs H Q ⟨F, ds, r, i, rx, hg, q⟩ => by
  unfold absD at hg
  split at hg
  · cases hg
    obtain ⟨v, rfl, h⟩ := rx.one
    cases h
    exact ⟨_, rfl, q _ F H (.refl i) (.int _)⟩
  · cases hg
theorem cd_int : CallD X (.type "int") intD := CallR.imp call_int1 fun xs H Q ⟨F, ds, r, i, rx, hg, q⟩ => by
  unfold intD at hg
  split at hg
  · cases hg
    obtain ⟨v, rfl, h⟩ := rx.one
    cases h
    exact .inl ⟨_, rfl, q _ F H (.refl i) (.int _)⟩
  · cases hg
    obtain ⟨v, rfl, h⟩ := rx.one
    cases h
    exact .inr ⟨_, rfl, q _ F H (.refl i) (.int _)⟩
  · cases hg
theorem cd_max2 (hc : X.calm = true) : CallD X (.builtin "max") max2D := CallR.imp (call_max2 hc) fun xs H Q ⟨F, ds, r, i, rx, hg, q⟩ => by
  unfold max2D at hg
  split at hg
  · cases hg
    obtain ⟨v, u, rfl, h, h2⟩ := rx.two
    cases h
    cases h2
    exact ⟨_, _, rfl, q _ F H (.refl i) (.int _)⟩
  · cases hg
theorem cd_min2 (hc : X.calm = true) : CallD X (.builtin "min") min2D := CallR.imp (call_min2 hc) fun xs H Q ⟨F, ds, r, i, rx, hg, q⟩ => by
  unfold min2D at hg
  split at hg
  · cases hg
    obtain ⟨v, u, rfl, h, h2⟩ := rx.two
    cases h
    cases h2
    exact ⟨_, _, rfl, q _ F H (.refl i) (.int _)⟩
  · cases hg
theorem cd_tuple : CallD X (.type "tuple") tupleD := CallR.imp call_tupK fun xs H Q ⟨F, ds, r, i, rx, hg, q⟩ => by
  unfold tupleD at hg
  split at hg
  · cases hg
    obtain ⟨v, rfl, h⟩ := rx.one
    cases h with
    | lst hs rs => exact ⟨_, _, rfl, .inl ⟨.inl (.inl (i _ _ hs)), fun p o hp hc hd => q _ _ _ (grow_new i hp) (rp_upd i hp rs hc hd)⟩⟩
  · cases hg
    obtain ⟨v, rfl, h⟩ := rx.one
    cases h with
    | tup hs rs => exact ⟨_, _, rfl, .inr ⟨(hs.sq i), q _ F H (.refl i) (.tup hs rs)⟩⟩
  · cases hg
/-- the type of a value, also of a dict whose keys are tuples -/
def TyY (K : PySem.W.Frag) (H : Hp) (x : V) (t : Value) : Prop := TyX K H x t ∨ ∃ a P w xs ep, x = .ref a ∧ H a = some (dctHO P w a xs ep) ∧ t = .type "dict"
theorem kit_ofY {X : Cx} {pins : List (Addr × Obj)} {σ : L2.St} {H : Hp} {s : Shared} {x : V} {u t : Value} (I : Inv X pins σ H s) (rx : RelV x u) (ty : TyY X.K H x t) : ∃ P : Heap → Prop, PySem.W.KitX X.K u t P ∧ P s.heap ∧ u ≠ .builtin "__main__.__loader__#opaque" := by
  rcases ty with ty | ⟨a, P, w, xs, ep, rfl, h, rfl⟩
  · exact kit_of I rx ty
  · cases (show u = Value.ref a from rx)
    obtain ⟨⟨_, _, _, o, es, h1, h2, _⟩, _⟩ := I.hok a _ h
    exact ⟨_, PySem.W.kitx_dict, ⟨o, h1, h2.1⟩, fun z => nomatch z⟩
def rIsiY (K : PySem.W.Frag) : List V → Hp → VK → Prop := fun xs H Q => ∃ (x c : V) (t u : Value) (b : Bool), xs = [x, c] ∧ ClsV c u ∧ TyY K H x t ∧ PySem.W.kitOne K t u = some b ∧ Q (.bl b) H
theorem call_isiY {X : Cx} : CallR X (.builtin "isinstance") (rIsiY X.K) := by
  intro pins s σ H xs us Q I r h
  obtain ⟨x, c, t, u, b, rfl, k, ty, e, q⟩ := h
  obtain ⟨u1, u2, rfl, r1, r2⟩ := vals2 r
  have e2 := k.eq r2
  subst e2
  obtain ⟨P, Z, p, hx⟩ := kit_ofY I r1 ty
  exact PySem.W.kia_one Z I.kIn p e hx fun tk => ⟨.bl b, H, I.tok tk, rfl, q⟩
theorem ty_of {K : PySem.W.Frag} {F : Fz} {H : Hp} {v : V} {d : D} (nn : NoNum F) (i : Into F H) (r : Rp K F v d) : TyY K H v (.type (kindD d)) := by
  cases r with
  | non => exact .inl (.base .non)
  | bl b => exact .inl (.base (.bl b))
  | int n => exact .inl (.base (.int n))
  | str x => exact .inl (.base (.str x))
  | lst hs rs => exact .inl (.base (.lst (i _ _ hs)))
  | tup hs rs =>
    rcases (hs.sq i) with (h | ⟨o, h⟩) | ⟨o, its, n, h, c, _⟩
    · exact .inl (.base (.tup h))
    · exact .inl (.fTuple h)
    · exact .inl (.kTuple h c)
  | dct hs rs => exact .inl (.base (.dK (i _ _ hs)))
  | rf hs => exact absurd hs (nn _ _)
  | dkt h1 h2 => exact .inr ⟨_, _, _, _, _, rfl, i _ _ h1, rfl⟩
/-- .. of a value that is none -/
theorem ty_ofX {K : PySem.W.Frag} {F : Fz} {H : Hp} {v : V} {d : D} (nn : NoNum F) (i : Into F H) (hd : ∀ kvs, d ≠ .dict ((.none, .none) :: kvs)) (r : Rp K F v d) : TyX K H v (.type (kindD d)) := by
  cases r with
  | non => exact .base .non
  | bl b => exact .base (.bl b)
  | int n => exact .base (.int n)
  | str x => exact .base (.str x)
  | lst hs rs => exact .base (.lst (i _ _ hs))
  | tup hs rs =>
    rcases (hs.sq i) with (h | ⟨o, h⟩) | ⟨o, its, n, h, c, _⟩
    · exact .base (.tup h)
    · exact .fTuple h
    · exact .kTuple h c
  | dct hs rs => exact .base (.dK (i _ _ hs))
  | rf hs => exact absurd hs (nn _ _)
  | dkt h1 h2 => exact absurd rfl (hd _)
/-- isinstance(e, T): T a built-in class by its name -/
theorem de_isi {C : Ct} {e : Expr} {fe : Ex} {T : Str} {t : String} {p p2 pos : Pos} (hob : C.ob = false) (hg : Gl X "isinstance") (hm : X.mg "isinstance" = none) (hgT : Gl X T) (hmT : X.mg T = none) (hv : bootBuiltins T = some (.type t))
    (hk : ∀ d : D, kitB (kindD d) t = some (isiD t d)) (he : PE X e (tD X.K C fe)) (hnn : T ≠ "__name__" := by decide) (hdd : (T == ("__debug__" : Str)) = false := by decide)
    (hpl : (backTo pos (starEach [.Name T p2] X.env)).any (·.1) = false := by rfl) (he1 : starEach [e, .Name T p2] X.env = (false, eval e X.env) :: starEach [.Name T p2] X.env := by rfl) (he2 : starEach [.Name T p2] X.env = (false, eval (.Name T p2) X.env) :: starEach [] X.env := by rfl) :
    PE X (.Call (.Name "isinstance" p) [e, .Name T p2] [] pos) (tD X.K C (dUn (fun d => some (.bool (isiD t d))) fe)) := by
  have hb : PE X (.Name T p2) (tC (.ty t)) := pe_bltn (v := .ty t) hgT hmT hv rfl hnn hdd
  refine pe_imp (pe_callB call_isiY hg hm (by decide +kernel) (pa_cons he (pa_cons hb pa_nil he2) he1) (hpl := hpl) (he := he1)) fun σ H Q ⟨F, s, d, s', w, ee, q⟩ => ?_
  unfold dUn at ee
  split at ee
  · cases ee
  rename_i x s1 ea
  cases ee
  exact tD_run w ea fun v F1 H1 m1 w1 r1 => ⟨v, .ty t, .type (kindD x), .type t, isiD t x, rfl, .ty t, ty_of (w1.pl hob) w1.into r1, kit_ty (hk x), q _ F1 H1 m1 w1 (.bl _)⟩
theorem kit_all {T : String} (h0 : kitB "NoneType" T = some ("NoneType" == T)) (h1 : kitB "bool" T = some (T == "bool" || T == "int")) (h2 : kitB "int" T = some ("int" == T)) (h3 : kitB "str" T = some ("str" == T))
    (h4 : kitB "list" T = some ("list" == T)) (h5 : kitB "tuple" T = some ("tuple" == T)) (h6 : kitB "dict" T = some ("dict" == T)) : ∀ d : D, kitB (kindD d) T = some (isiD T d) := fun d => by cases d <;> assumption
theorem kit_bool : ∀ d : D, kitB (kindD d) "bool" = some (isiD "bool" d) := kit_all (by decide +kernel) (by decide +kernel) (by decide +kernel) (by decide +kernel) (by decide +kernel) (by decide +kernel) (by decide +kernel)
theorem kit_int : ∀ d : D, kitB (kindD d) "int" = some (isiD "int" d) := kit_all (by decide +kernel) (by decide +kernel) (by decide +kernel) (by decide +kernel) (by decide +kernel) (by decide +kernel) (by decide +kernel)
theorem kit_tuple : ∀ d : D, kitB (kindD d) "tuple" = some (isiD "tuple" d) := kit_all (by decide +kernel) (by decide +kernel) (by decide +kernel) (by decide +kernel) (by decide +kernel) (by decide +kernel) (by decide +kernel)
theorem kit_str : ∀ d : D, kitB (kindD d) "str" = some (isiD "str" d) := kit_all (by decide +kernel) (by decide +kernel) (by decide +kernel) (by decide +kernel) (by decide +kernel) (by decide +kernel) (by decide +kernel)
theorem kit_list : ∀ d : D, kitB (kindD d) "list" = some (isiD "list" d) := kit_all (by decide +kernel) (by decide +kernel) (by decide +kernel) (by decide +kernel) (by decide +kernel) (by decide +kernel) (by decide +kernel)
/-- a built-in by its name -/
theorem de_b {C : Ct} {id : String} {g : List D → Option D} {x : Str} {p pos : Pos} {e : Expr} {es : List Expr} {fr : Ax} (hc : CallD X (.builtin id) g) (hg : Gl X x) (hm : X.mg x = none) (hv : bootBuiltins x = some (.builtin id)) (ha : PA X (e :: es) (tA X.K C fr))
    (hn : x ≠ "__name__" := by decide) (hdb : (x == ("__debug__" : Str)) = false := by decide) (he : starEach (e :: es) X.env = (false, eval e X.env) :: starEach es X.env := by rfl) (hpl : (backTo pos (starEach es X.env)).any (·.1) = false := by rfl) :
    PE X (.Call (.Name x p) (e :: es) [] pos) (tD X.K C (dApp g fr)) := pe_imp (pe_callB hc hg hm hv ha hn hdb he hpl) fun _ _ _ h => app_run h
theorem de_ty {C : Ct} {id : String} {g : List D → Option D} {x : Str} {p pos : Pos} {e : Expr} {es : List Expr} {fr : Ax} (hc : CallD X (.type id) g) (hg : Gl X x) (hm : X.mg x = none) (hv : bootBuiltins x = some (.type id)) (ha : PA X (e :: es) (tA X.K C fr))
    (hn : x ≠ "__name__" := by decide) (hdb : (x == ("__debug__" : Str)) = false := by decide) (he : starEach (e :: es) X.env = (false, eval e X.env) :: starEach es X.env := by rfl) (hpl : (backTo pos (starEach es X.env)).any (·.1) = false := by rfl) :
    PE X (.Call (.Name x p) (e :: es) [] pos) (tD X.K C (dApp g fr)) := pe_imp (pe_callTy hc hg hm hv ha hn hdb he hpl) fun _ _ _ h => app_run h
end
end Dl

/-! The data layer, part 10: new lists of one's own by calls; several names at once; constants of the module. -/
namespace Dl
open PySem PySem.Spec L2

section
variable {K : PySem.W.Frag} {C : Ct} {σ : L2.St}
/-- what a rule that makes a new list wants, from the state ahead of it -/
theorem new_own {F : Fz} {H : Hp} {F1 : Fz} {H1 : Hp} {s s1 : S} {vs : List V} {ds : List D} {Q : VK} (m1 : Mv C σ F H s F1 H1 s1) (w1 : W K C F1 H1 σ s1) (r : RpL K F1 vs ds)
    (q : ∀ p vs F' H', Mv C σ F H s F' H' s1 → W K C F' H' σ s1 → H' p = some (.lst vs) → F' p = none → C.H0 p = none → p ∉ exOf C → ¬ Own σ s1 p → H p = none → RpL K F' vs ds → Q (.ref p) H') : ∀ p, H1 p = none → Q (.ref p) (upd H1 p (.lst vs)) := fun p hp => by
  have gr := grow_own (o := .lst vs) w1.into hp
  have cp := w1.gr.live _ hp
  exact q _ _ _ _ (m1.trans (.grow gr)) (w1.grow gr) upd_same (w1.into.free hp) cp (w1.nex cp) (w1.nown hp) (m1.live _ hp) r
end

/-- list(e), e a list or a tuple -/
def oList (a : Ex) : Ax := fun s => match a s with
  | some (.list ds, s1) => some (ds, s1)
  | some (.tuple ds, s1) => some (ds, s1)
  | _ => none
/-- [..] * k -/
noncomputable def oMul (a k : Ex) : Ax := fun s => match a s with
  | some (.list ds, s1) => (match k s1 with
    | some (.int n, s2) => if okK n && fits (ds.length * n.toNat) then some ((List.replicate n.toNat ds).flatten, s2) else none
    | _ => none)
  | _ => none
section
variable {X : Cx} {C : Ct} {pos p : Pos} {e a b : Expr} {fe fa fb : Ex}
theorem oe_list {x : Str} (hg : Gl X x) (hm : X.mg x = none) (hv : bootBuiltins x = some (.type "list")) (he : PE X e (tD X.K C fe)) (hn : x ≠ "__name__" := by decide) (hdb : (x == ("__debug__" : Str)) = false := by decide)
    (hs : starEach [e] X.env = (false, eval e X.env) :: starEach [] X.env := by rfl) (hpl : (backTo pos (starEach [] X.env)).any (·.1) = false := by rfl) : PE X (.Call (.Name x p) [e] [] pos) (tO X.K C (oList fe)) :=
  pe_imp (pe_callTy call_list_of hg hm hv (pa_cons he pa_nil hs) hn hdb hs hpl) fun σ H Q ⟨F, s, ds, s', w, ee, q⟩ => by
    unfold oList at ee
    split at ee
    · rename_i es s1 ea
      cases ee
      refine tD_run w ea fun v F1 H1 m1 w1 r1 => ?_
      cases r1 with
      | lst hs rs => exact ⟨_, _, rfl, .inl (.inl (.inl (w1.into _ _ hs))), new_own m1 w1 rs q⟩
    · rename_i es s1 ea
      cases ee
      refine tD_run w ea fun v F1 H1 m1 w1 r1 => ?_
      cases r1 with
      | tup hs rs => exact ⟨_, _, rfl, .inr ((hs.sq w1.into)), new_own m1 w1 rs q⟩
    · cases ee
theorem rpl_rep {K : PySem.W.Frag} {F : Fz} {vs : List V} {ds : List D} (r : RpL K F vs ds) : ∀ n : Nat, RpL K F (List.replicate n vs).flatten (List.replicate n ds).flatten
  | 0 => .nil
  | n + 1 => by
    rw [List.replicate_succ, List.replicate_succ, List.flatten_cons, List.flatten_cons]
    exact r.app (rpl_rep r n)
theorem oe_mul (ha : PE X a (tD X.K C fa)) (hb : PE X b (tD X.K C fb)) : PE X (.BinOp a .Mult b pos) (tO X.K C (oMul fa fb)) := pe_imp (pe_op op_rep ha hb) fun σ H Q ⟨F, s, ds, s', w, ee, q⟩ => by
  unfold oMul at ee
  split at ee
  · rename_i es s1 ea
    split at ee
    · rename_i n s2 eb
      split at ee
      · rename_i hb
        cases ee
        simp only [okK, sealB_eq, Bool.and_eq_true, decide_eq_true_eq] at hb
        obtain ⟨⟨b1, b2⟩, b3⟩ := hb
        refine tD_run w ea fun v F1 H1 m1 w1 r1 => tD_run w1 eb fun u F2 H2 m2 w2 r2 => ?_
        cases r2
        cases r1 with
        | lst hs rs => exact ⟨_, n, _, rfl, rfl, w2.into _ _ (m2.sub _ _ hs), by omega, b2, by rw [rs.len]; exact fits_le b3, new_own (m1.trans m2) w2 (rpl_rep (rs.up m2.sub) _) q⟩
      · cases ee
    · cases ee
  · cases ee
theorem de_lenO {i : Nat} {x : Str} (hg : Gl X x) (hm : X.mg x = none) (hv : bootBuiltins x = some (.builtin "len")) (he : PE X e (tVar i)) (hn : x ≠ "__name__" := by decide) (hdb : (x == ("__debug__" : Str)) = false := by decide)
    (hs : starEach [e] X.env = (false, eval e X.env) :: starEach [] X.env := by rfl) (hpl : (backTo pos (starEach [] X.env)).any (·.1) = false := by rfl) : PE X (.Call (.Name x p) [e] [] pos) (tD X.K C (dLenO i)) :=
  pe_imp (pe_callB call_len_seq hg hm hv (pa_cons he pa_nil hs) hn hdb hs hpl) fun σ H Q ⟨F, s, d, s', w, ee, q⟩ => by
    unfold dLenO at ee
    split at ee
    · cases ee
    rename_i xs e0
    cases ee
    obtain ⟨p, vs, ev, hp, r, f, c⟩ := w.ow e0
    exact ⟨.ref p, ev, p, vs, rfl, .inl (.inl (.inl hp)), by rw [r.len]; exact q _ F H .refl w (.int _)⟩
/-- a constant of the module: an int -/
theorem de_gint {x : Str} {n : Int} {t : Tok} {np : Pos} (hg : Gl X x) (hm : X.mg x = some (.int n t)) (hd : (x == ("__debug__" : Str)) = false := by decide) : PE X (.Name x np) (tD X.K C (dC (.int n))) :=
  de_c (pe_glob (v := .int n) hg hm ⟨_, rfl⟩ hd) fun _ => .int n
end

/-! ### several values at once -/
inductive It1 where
  | da (d : D) | ol (xs : List D)
abbrev Mx := S → Option (List It1 × S)
def mNil : Mx := fun s => some ([], s)
def mD (a : Ex) (r : Mx) : Mx := fun s => match a s with
  | none => none
  | some (d, s1) => match r s1 with
    | none => none
    | some (is, s2) => some (.da d :: is, s2)
def mO (a : Ax) (r : Mx) : Mx := fun s => match a s with
  | none => none
  | some (xs, s1) => match r s1 with
    | none => none
    | some (is, s2) => some (.ol xs :: is, s2)
/-- v stands for the item, beside the state; new since H0 -/
def ItOk (K : PySem.W.Frag) (C : Ct) (Hs : Hp) (F : Fz) (H : Hp) (σ : L2.St) (s : S) (v : V) : It1 → Prop
  | .da d => Rp K F v d
  | .ol xs => ∃ p vs, v = .ref p ∧ H p = some (.lst vs) ∧ RpL K F vs xs ∧ F p = none ∧ C.H0 p = none ∧ p ∉ exOf C ∧ ¬ Own σ s p ∧ Hs p = none
def isOl : It1 → Bool
  | .ol _ => true
  | .da _ => false
inductive MOk (K : PySem.W.Frag) (C : Ct) (Hs : Hp) (F : Fz) (H : Hp) (σ : L2.St) (s : S) : List V → List It1 → Prop
  | nil : MOk K C Hs F H σ s [] []
  | cons {v : V} {vs : List V} {i : It1} {is : List It1} : ItOk K C Hs F H σ s v i → MOk K C Hs F H σ s vs is → (isOl i = true → ∀ x : V × It1, x ∈ vs.zip is → isOl x.2 = true → x.1 ≠ v) → MOk K C Hs F H σ s (v :: vs) (i :: is)
def tM (K : PySem.W.Frag) (C : Ct) (f : Mx) : TA := fun σ H Q => ∃ F s is s', W K C F H σ s ∧ f s = some (is, s') ∧ ∀ vs F' H', Mv C σ F H s F' H' s' → W K C F' H' σ s' → MOk K C H F' H' σ s' vs is → Q vs H'
section
variable {K : PySem.W.Frag} {C : Ct} {F : Fz} {H : Hp} {F' : Fz} {H' Hs Hs' : Hp} {σ : L2.St} {s s' : S}
theorem ItOk.mv {v : V} {i : It1} (h : ItOk K C Hs F H σ s v i) (m : Mv C σ F H s F' H' s') : ItOk K C Hs F' H' σ s' v i := by
  cases i with
  | da d => exact Rp.up m.sub h
  | ol xs =>
    obtain ⟨p, vs, rfl, hp, r, f, c, e, n, hs⟩ := h
    obtain ⟨k1, k2⟩ := m.oth p _ hp f e n
    exact ⟨p, vs, rfl, k1, r.up m.sub, k2, c, e, fun z => n (m.own p z), hs⟩
theorem ItOk.back {v : V} {i : It1} (h : ItOk K C Hs F H σ s v i) (e : ∀ p, Hs p = none → Hs' p = none) : ItOk K C Hs' F H σ s v i := by
  cases i with
  | da d => exact h
  | ol xs =>
    obtain ⟨p, vs, rfl, hp, r, f, c, e', n, hs⟩ := h
    exact ⟨p, vs, rfl, hp, r, f, c, e', n, e p hs⟩
theorem MOk.mv (m : Mv C σ F H s F' H' s') : ∀ {vs : List V} {is : List It1}, MOk K C Hs F H σ s vs is → MOk K C Hs F' H' σ s' vs is
  | _, _, .nil => .nil
  | _, _, .cons h t d => .cons (h.mv m) (MOk.mv m t) d
theorem MOk.back (e : ∀ p, Hs p = none → Hs' p = none) : ∀ {vs : List V} {is : List It1}, MOk K C Hs F H σ s vs is → MOk K C Hs' F H σ s vs is
  | _, _, .nil => .nil
  | _, _, .cons h t d => .cons (h.back e) (MOk.back e t) d
theorem MOk.fresh {p : Addr} (hp : Hs p ≠ none) : ∀ {vs : List V} {is : List It1}, MOk K C Hs F H σ s vs is → ∀ x ∈ vs.zip is, isOl x.2 = true → x.1 ≠ .ref p
  | _, _, .nil, x, h, _ => nomatch h
  | _, _, .cons (v := v) (i := i) h t d, x, hx, ho => by
    rcases List.mem_cons.mp (show x ∈ (v, i) :: List.zip _ _ from hx) with z | z
    · subst z
      cases i with
      | da d => cases ho
      | ol xs =>
        obtain ⟨q, vs, rfl, _, _, _, _, _, _, hs⟩ := h
        intro e
        cases e
        exact hp hs
    · exact MOk.fresh hp t x z ho
end
section
variable {X : Cx} {C : Ct} {e : Expr} {es : List Expr} {fe : Ex} {fo : Ax} {fr : Mx}
theorem dm_nil : PA X [] (tM X.K C mNil) := pa_imp pa_nil fun σ H Q ⟨F, s, is, s', w, ee, q⟩ => by
  cases ee
  exact q [] F H .refl w .nil
theorem dm_d (ha : PE X e (tD X.K C fe)) (hr : PA X es (tM X.K C fr)) (hs : starEach (e :: es) X.env = (false, eval e X.env) :: starEach es X.env := by rfl) : PA X (e :: es) (tM X.K C (mD fe fr)) :=
  pa_imp (pa_cons ha hr hs) fun σ H Q ⟨F, s, is, s', w, ee, q⟩ => by
    unfold mD at ee
    split at ee
    · cases ee
    rename_i d s1 ea
    split at ee
    · cases ee
    rename_i js s2 er
    cases ee
    refine tD_run w ea fun v F1 H1 m1 w1 r1 => ⟨F1, s1, js, s', w1, er, fun vs F2 H2 m2 w2 k => ?_⟩
    exact q _ F2 H2 (m1.trans m2) w2 (.cons (Rp.up m2.sub r1) (k.back m1.live) fun z => nomatch z)
theorem dm_o (ha : PE X e (tO X.K C fo)) (hr : PA X es (tM X.K C fr)) (hs : starEach (e :: es) X.env = (false, eval e X.env) :: starEach es X.env := by rfl) : PA X (e :: es) (tM X.K C (mO fo fr)) :=
  pa_imp (pa_cons ha hr hs) fun σ H Q ⟨F, s, is, s', w, ee, q⟩ => by
    unfold mO at ee
    split at ee
    · cases ee
    rename_i d s1 ea
    split at ee
    · cases ee
    rename_i js s2 er
    cases ee
    refine ⟨F, s, d, s1, w, ea, fun p vs F1 H1 m1 w1 hp fp cp ex n hn r => ⟨F1, s1, js, s', w1, er, fun us F2 H2 m2 w2 k => ?_⟩⟩
    have it1 : ItOk X.K C H F1 H1 σ s1 (.ref p) (.ol d) := ⟨p, vs, rfl, hp, r, fp, cp, ex, n, hn⟩
    refine q _ F2 H2 (m1.trans m2) w2 (.cons (it1.mv m2) (k.back m1.live) fun _ x hx ho => ?_)
    exact k.fresh (by rw [hp]; exact fun z => nomatch z) x hx ho
end
/-- the names at the slots hold the items -/
def stI (env : List (Option Sl)) : List Nat → List It1 → List (Option Sl)
  | i :: r, .da d :: is => stI (env.set i (some (.fz d))) r is
  | i :: r, .ol xs :: is => stI (env.set i (some (.ow xs))) r is
  | _, _ => env
def stV (σ : L2.St) : List Nat → List V → L2.St
  | i :: r, v :: vs => stV (σ.set i (some v)) r vs
  | _, _ => σ
def bPar (sl : List Nat) (f : Mx) : Bd := fun s => match f s with
  | none => none
  | some (is, s1) => if is.length = sl.length then some (.nx { s1 with env := stI s1.env sl is }) else none
section
variable {K : PySem.W.Frag} {C : Ct} {F : Fz} {H Hs : Hp}
theorem own_set {σ : L2.St} {s : S} {i : Nat} {p : Addr} {v : V} {l : Sl} (hl : s.env.length = σ.length) (h : Own (σ.set i (some v)) { s with env := s.env.set i (some l) } p) : Own σ s p ∨ (v = .ref p ∧ ∃ xs, l = .ow xs) := by
  obtain ⟨j, xs, e1, e2⟩ := h
  have e1' : (s.env.set i (some l))[j]? = some (some (.ow xs)) := e1
  by_cases hj : i = j
  · subst hj
    by_cases hi : i < s.env.length
    · rw [List.getElem?_set_self hi] at e1'
      rw [List.getElem?_set_self (by rw [← hl]; exact hi)] at e2
      cases e1'
      cases e2
      exact .inr ⟨rfl, xs, rfl⟩
    · rw [List.getElem?_eq_none (by simpa using hi)] at e1'; cases e1'
  · rw [List.getElem?_set_ne hj] at e1' e2
    exact .inl ⟨j, xs, e1', e2⟩
theorem MOk.apart {σ : L2.St} {s : S} {i : Nat} {v : V} {l : Sl} (hl : s.env.length = σ.length) : ∀ {vs : List V} {is : List It1}, MOk K C Hs F H σ s vs is → ((∃ xs, l = .ow xs) → ∀ x ∈ vs.zip is, isOl x.2 = true → x.1 ≠ v) →
    MOk K C Hs F H (σ.set i (some v)) { s with env := s.env.set i (some l) } vs is
  | _, _, .nil, _ => .nil
  | _, _, .cons (v := u) (vs := vs) (i := it) (is := is) h t d, ha => by
    refine .cons ?_ (MOk.apart hl t fun ho x hx => ha ho x (by
      show x ∈ (u, it) :: List.zip vs is
      exact List.mem_cons_of_mem _ hx)) d
    cases it with
    | da d => exact h
    | ol xs =>
      obtain ⟨p, ws, rfl, hp, r, f, c, e, n, hs⟩ := h
      refine ⟨p, ws, rfl, hp, r, f, c, e, fun z => ?_, hs⟩
      rcases own_set hl z with z | ⟨z, ho⟩
      · exact n z
      · exact ha ho (.ref p, .ol xs) (by
          show (V.ref p, It1.ol xs) ∈ (V.ref p, It1.ol xs) :: List.zip vs is
          exact List.mem_cons_self) rfl z.symm
theorem W.stores : ∀ {vs : List V} {is : List It1} {sl : List Nat} {σ : L2.St} {s : S}, W K C F H σ s → MOk K C Hs F H σ s vs is → is.length = sl.length → W K C F H (stV σ sl vs) { s with env := stI s.env sl is }
  | _, _, [], _, _, w, .nil, _ => w
  | _, _, i :: sl, σ, s, w, .cons (v := v) (vs := vs) (i := it) (is := is) h t d, hl => by
    have hl' : is.length = sl.length := by simpa using hl
    cases it with
    | da d0 =>
      have w' := w.store (show Rp K F v d0 from h) i
      have t' := t.apart (i := i) (v := v) (l := .fz d0) w.len (fun ⟨xs, z⟩ => by cases z)
      exact W.stores (sl := sl) w' t' hl'
    | ol xs =>
      obtain ⟨p, ws, rfl, hp, r, f, c, e, n, hs⟩ := h
      have w' := w.storeO r hp f c n i
      have t' := t.apart (i := i) (v := .ref p) (l := .ow xs) w.len (fun _ x hx ho => d rfl x hx ho)
      exact W.stores (sl := sl) w' t' hl'
theorem MOk.len {σ : L2.St} {s : S} : ∀ {vs : List V} {is : List It1}, MOk K C Hs F H σ s vs is → vs.length = is.length
  | _, _, .nil => rfl
  | _, _, .cons _ t _ => by simp [MOk.len t]
end
section
variable {X : Cx} {C : Ct} {st : Stmt} {f : Mx} {i j l : Nat}
theorem par_run {K : PySem.W.Frag} {sl : List Nat} {E : Ends} {σ : L2.St} {H : Hp} (h : tS K C Z (bPar sl f) E σ H) : tM K C f σ H fun vs H1 => vs.length = sl.length ∧ E.nx (stV σ sl vs) H1 := by
  obtain ⟨F, s, o, w, ee, q⟩ := h
  unfold bPar at ee
  split at ee
  · cases ee
  rename_i is s1 ea
  split at ee
  · rename_i hl
    cases ee
    exact ⟨F, s, is, s1, w, ea, fun vs F1 H1 m1 w1 k => ⟨k.len.trans hl, q _ F1 H1 m1.sub (w1.stores k hl)⟩⟩
  · cases ee
theorem ds_par2 (h : PS X st (tPar i j (tM X.K C f))) : PS X st (tS X.K C Z (bPar [i, j] f)) := ps_imp h fun E σ H h => by
  obtain ⟨F, s, is, s', w, ee, q⟩ := par_run h
  refine ⟨F, s, is, s', w, ee, fun vs F1 H1 m w1 k => ?_⟩
  obtain ⟨hl, e⟩ := q vs F1 H1 m w1 k
  match vs, hl, e with
  | [v, u], _, e => exact ⟨v, u, rfl, e⟩
theorem ds_par3 (h : PS X st (tPar3 i j l (tM X.K C f))) : PS X st (tS X.K C Z (bPar [i, j, l] f)) := ps_imp h fun E σ H h => by
  obtain ⟨F, s, is, s', w, ee, q⟩ := par_run h
  refine ⟨F, s, is, s', w, ee, fun vs F1 H1 m w1 k => ?_⟩
  obtain ⟨hl, e⟩ := q vs F1 H1 m w1 k
  match vs, hl, e with
  | [v, u, x], _, e => exact ⟨v, u, x, rfl, e⟩
/-- names, one by one -/
def gNs : List Nat → TGs
  | [] => gNil
  | i :: r => gCons (gName i) (gNs r)
theorem gNs_run : ∀ {sl : List Nat} {vs : List V} {σ : L2.St} {H : Hp} {Q : L2.St → Hp → Prop}, vs.length = sl.length → Q (stV σ sl vs) H → gNs sl vs σ H Q
  | [], [], σ, H, Q, _, h => ⟨rfl, h⟩
  | i :: sl, v :: vs, σ, H, Q, hl, h => ⟨v, vs, rfl, gNs_run (by simpa using hl) h⟩
theorem ds_parN {sl : List Nat} {n : Nat} (hn : n = sl.length) (hz : n ≤ 1000) (h : PS X st (tAsg (tTup (tM X.K C f)) (gTup X.K n (gNs sl)))) : PS X st (tS X.K C Z (bPar sl f)) := ps_imp h fun E σ H h => by
  obtain ⟨F, s, is, s', w, ee, q⟩ := par_run h
  refine ⟨F, s, is, s', w, ee, fun vs F1 H1 m w1 k => ?_⟩
  obtain ⟨hl, _⟩ := q vs F1 H1 m w1 k
  refine ⟨by rw [hl, ← hn]; exact Nat.le_trans hz (by decide), fun p hp => ⟨p, vs, rfl, .inl (.inl upd_same), by rw [hl, hn], ?_⟩⟩
  have gr := grow_own (o := .tup vs) w1.into hp
  exact gNs_run hl (q vs F1 (upd H1 p (.tup vs)) (m.trans (.grow gr)) (w1.grow gr) (k.mv (.grow gr))).2
end
end Dl

/-! The data layer, part 11: the law's own start; what a draw is worth. -/
namespace Dl
open PySem PySem.Spec L2

theorem room65 {k : Nat} {A : Around} (h : Room k A) : A.units + 65 < cLine := by have := h.un; omega
theorem room66 {k : Nat} {A : Around} (h : Room k A) : A.units + 66 < cLine := by have := h.un; omega
theorem pss_ex {X : Cx} {st : List Stmt} {ι : Type} {t : ι → TS} (h : ∀ i, PSs X st (t i)) : PSs X st (fun E σ H => ∃ i, t i E σ H) := ⟨fun pins s σ H E I ⟨i, z⟩ => (h i).run pins s σ H E I z⟩
/-- the law's promise -/
def spLaw (K : PySem.W.Frag) : Sp := fun vs H Q _ => ∃ (a : Addr) (ns : List Int), vs = [.ref a] ∧ SqL K H a (ns.map V.int) ∧ ns.length ≤ 63 ∧ ∀ H', Q (.bl true) H'
/-- the promise of the def that makes the deck: g of the script's ints -/
def spDeck (K : PySem.W.Frag) (g : List Int → List Int) : Sp := fun vs H Q _ => ∃ (a : Addr) (ns : List Int), vs = [.ref a] ∧ SqL K H a (ns.map V.int) ∧ ns.length ≤ 63 ∧
  ∀ F0 dp dc H', NoNum F0 → Into F0 H' → DeckAt F0 H' dp dc (g ns) 0 → Q (.ref dp) H'
/-- behind the deck's making: nothing else is known -/
theorem w_law {K : PySem.W.Frag} {F0 : Fz} {H : Hp} {σ : L2.St} {i n : Nat} {dp dc : Addr} {cs : List Int} (hn : σ.length = n) (hi : σ[i]? = some (some (.ref dp))) (nn : NoNum F0) (e : Into F0 H) (d : DeckAt F0 H dp dc cs 0) :
    W K { H0 := H, F0 := F0, dk := some (dp, dc) } F0 H σ ⟨(List.replicate n none).set i (some .dk), cs, 0⟩ where
  gr := ⟨Sub.refl _, e, fun _ _ h => .inl h, fun _ _ _ h => h, fun _ _ h _ _ => h, fun _ h => h⟩
  len := by simp [hn]
  slot := fun j l h => by
    have h' : ((List.replicate n (none : Option Sl)).set i (some .dk))[j]? = some (some l) := h
    have hil : i < n := by rw [← hn]; exact (List.getElem?_eq_some_iff.mp hi).1
    by_cases hj : i = j
    · subst hj
      rw [List.getElem?_set_self (by simpa using hil)] at h'
      cases h'
      exact ⟨_, hi, dp, dc, rfl, rfl⟩
    · rw [List.getElem?_set_ne hj, List.getElem?_replicate] at h'
      split at h' <;> cases h'
  sep := fun a b p ys zs ha _ _ _ => by
    exfalso
    have hil : i < n := by rw [← hn]; exact (List.getElem?_eq_some_iff.mp hi).1
    have h' : ((List.replicate n (none : Option Sl)).set i (some .dk))[a]? = some (some (.ow ys)) := ha
    by_cases hj : i = a
    · subst hj
      rw [List.getElem?_set_self (by simpa using hil)] at h'
      cases h'
    · rw [List.getElem?_set_ne hj, List.getElem?_replicate] at h'
      split at h' <;> cases h'
  deck := fun a b e => by
    cases e
    obtain ⟨_, ⟨_, h1⟩, ⟨_, h2⟩, _, _⟩ := d.no
    refine ⟨d, ?_, ?_⟩
    · show H dp ≠ none
      rw [h1]
      exact fun z => nomatch z
    · show H dc ≠ none
      rw [h2]
      exact fun z => nomatch z
  st := fun _ h => by cases h
  pl := fun _ => nn
/-- .. with an empty store -/
theorem w_lawO {K : PySem.W.Frag} {cl : Nat → Addr} {F0 : Fz} {H : Hp} {σ : L2.St} {i n : Nat} {dp dc : Addr} {cs : List Int} (hn : σ.length = n) (hi : σ[i]? = some (some (.ref dp))) (nn : NoNum F0) (e : Into F0 H) (d : DeckAt F0 H dp dc cs 0) :
    W K { H0 := H, F0 := F0, dk := some (dp, dc), ob := true, cl := cl } F0 H σ { st := ⟨some []⟩, env := (List.replicate n none).set i (some .dk), cs := cs, n := 0 } where
  gr := ⟨Sub.refl _, e, fun _ _ h => .inl h, fun _ _ _ h => h, fun _ _ h _ _ => h, fun _ h => h⟩
  len := by simp [hn]
  slot := fun j l h => by
    have h' : ((List.replicate n (none : Option Sl)).set i (some .dk))[j]? = some (some l) := h
    have hil : i < n := by rw [← hn]; exact (List.getElem?_eq_some_iff.mp hi).1
    by_cases hj : i = j
    · subst hj
      rw [List.getElem?_set_self (by simpa using hil)] at h'
      cases h'
      exact ⟨_, hi, dp, dc, rfl, rfl⟩
    · rw [List.getElem?_set_ne hj, List.getElem?_replicate] at h'
      split at h' <;> cases h'
  sep := fun a b p ys zs ha _ _ _ => by
    exfalso
    have hil : i < n := by rw [← hn]; exact (List.getElem?_eq_some_iff.mp hi).1
    have h' : ((List.replicate n (none : Option Sl)).set i (some .dk))[a]? = some (some (.ow ys)) := ha
    by_cases hj : i = a
    · subst hj
      rw [List.getElem?_set_self (by simpa using hil)] at h'
      cases h'
    · rw [List.getElem?_set_ne hj, List.getElem?_replicate] at h'
      split at h' <;> cases h'
  deck := fun a b e => by
    cases e
    obtain ⟨_, ⟨_, h1⟩, ⟨_, h2⟩, _, _⟩ := d.no
    refine ⟨d, ?_, ?_⟩
    · show H dp ≠ none
      rw [h1]
      exact fun z => nomatch z
    · show H dc ≠ none
      rw [h2]
      exact fun z => nomatch z
  st := fun l h => by
    cases h
    exact ⟨rfl, ⟨fun _ _ h => (by cases h), fun n a h => absurd h (nn _ _), fun n a b h => absurd h (nn _ _)⟩⟩
  pl := fun z => by cases z

/-! ### draws -/
def mix1 (cell m k : Int) : Int := (cell % 2147483587 + 7919 * m + 1) ^ 5 % 2147483647 / 7 % k
def mix2 (cell m k : Int) : Int := ((cell % 2147483563 + 104729 * m + 7) ^ 4 % 2147483629 / 8 + 31 * m) % k
def drawAt (mix : Int → Int → Int → Int) (cs : List Int) (m k : Int) : Int × List Int :=
  match cs[(m % (cs.length : Int)).toNat]? with
  | none => (mix 0 m k, cs)
  | some cell => if 1000000000000000000 ≤ cell then (cell % k, cs.set (m % (cs.length : Int)).toNat (cell / k)) else (mix cell m k, cs)
/-- the def's worth: how many chances, the deck's cells, how many were drawn -/
def drawF (mix : Int → Int → Int → Int) : List D → List Int → Int → Option (D × List Int × Int)
  | [.int k], cs, n => if decide (0 < k) && decide (k < 1000000) && decide (0 ≤ n) && decide (n < 1000000000) then some (.int (drawAt mix cs (n + 1) k).1, (drawAt mix cs (n + 1) k).2, n + 1) else none
  | _, _, _ => none
theorem draw_range {mix : Int → Int → Int → Int} (hm : ∀ c m k, 0 < k → 0 ≤ mix c m k ∧ mix c m k < k) {cs : List Int} {m k : Int} (hk : 0 < k) : 0 ≤ (drawAt mix cs m k).1 ∧ (drawAt mix cs m k).1 < k := by
  unfold drawAt
  split
  · exact hm _ _ _ hk
  · split
    · exact ⟨Int.emod_nonneg _ (by omega), Int.emod_lt_of_pos _ hk⟩
    · exact hm _ _ _ hk
theorem mix1_ok (c m k : Int) (hk : 0 < k) : 0 ≤ mix1 c m k ∧ mix1 c m k < k := ⟨Int.emod_nonneg _ (by omega), Int.emod_lt_of_pos _ hk⟩
theorem mix2_ok (c m k : Int) (hk : 0 < k) : 0 ≤ mix2 c m k ∧ mix2 c m k < k := ⟨Int.emod_nonneg _ (by omega), Int.emod_lt_of_pos _ hk⟩
/-- what is known of a draw: a number from 0 on below k, one more drawn -/
theorem draw_some {mix : Int → Int → Int → Int} (hm : ∀ c m k, 0 < k → 0 ≤ mix c m k ∧ mix c m k < k) {cs : List Int} {n k : Int} (hk : 0 < k) (hk2 : k < 1000000) (h0 : 0 ≤ n) (h1 : n < 1000000000) :
    ∃ r cs', drawF mix [.int k] cs n = some (.int r, cs', n + 1) ∧ 0 ≤ r ∧ r < k := by
  refine ⟨(drawAt mix cs (n + 1) k).1, (drawAt mix cs (n + 1) k).2, ?_, (draw_range hm hk).1, (draw_range hm hk).2⟩
  show (if (decide (0 < k) && decide (k < 1000000) && decide (0 ≤ n) && decide (n < 1000000000)) = true then _ else none) = _
  rw [if_pos (by simp [hk, hk2, h0, h1])]

theorem same_upd2 {H : Hp} {p : Addr} {o : HO} : ∀ b u, H b = some u → b ≠ p → (upd H p o) b = some u := fun b u h hb => by rw [upd_ne hb]; exact h
/-- the deck's two lists after writes: what a def that draws must tell -/
theorem grow_deck {F : Fz} {H H' : Hp} {dp dc : Addr} (e : Into F H) (fp : F dp = none) (fc : F dc = none) (h1 : H dp ≠ none) (h2 : H dc ≠ none) (keep : ∀ b u, H b = some u → b ≠ dp → b ≠ dc → H' b = some u) (live : ∀ b, H' b = none → H b = none) : Grow F H F H' [dp, dc] where
  sub := Sub.refl _
  into := ⟨fun b u h => keep b u (e b u h) (by rintro rfl; rw [fp] at h; cases h) (by rintro rfl; rw [fc] at h; cases h), fun b n h z => e.num b n h (live b z)⟩
  new := fun _ _ h => .inl h
  num := fun _ _ _ h => h
  keep := fun b u h hb _ => keep b u h (fun z => hb (by simp [z])) (fun z => hb (by simp [z]))
  live := live
end Dl

/-! The data layer, part 12: the deck's own reads and writes; what is left of statements. -/
namespace Dl
open PySem PySem.Spec L2

def isDk (s : S) (i : Nat) : Bool := match s.env[i]? with
  | some (some .dk) => true
  | _ => false
/-- deck[1], len(deck[0]), deck[0][e], (deck[0] + [0])[e] -/
def dDkN (i : Nat) : Ex := fun s => if isDk s i then some (.int s.n, s) else none
def dDkLen (i : Nat) : Ex := fun s => if isDk s i then some (.int s.cs.length, s) else none
def dDkAt (i : Nat) (a : Ex) : Ex := fun s => if isDk s i then (match a s with
  | some (.int k, s1) => (match atI s1.cs k with
    | none => none
    | some c => some (.int c, s1))
  | _ => none) else none
def dDkAt0 (i : Nat) (a : Ex) : Ex := fun s => if isDk s i && fits (s.cs.length + 1) then (match a s with
  | some (.int k, s1) => (match atI (s.cs ++ [0]) k with
    | none => none
    | some c => some (.int c, s1))
  | _ => none) else none
/-- deck[1] = e, deck[0][k] = e -/
def bDkN (i : Nat) (a : Ex) : Bd := fun s => match a s with
  | some (.int m, s1) => if isDk s1 i then some (.nx { s1 with n := m }) else none
  | _ => none
def bDkPut (i : Nat) (ix a : Ex) : Bd := fun s => match a s with
  | some (.int c, s1) => if isDk s1 i then (match ix s1 with
    | some (.int k, s2) => (match ixN s2.cs.length k with
      | some j => some (.nx { s2 with cs := s2.cs.set j c })
      | none => none)
    | _ => none) else none
  | _ => none
section
variable {X : Cx} {C : Ct} {pos : Pos} {e : Expr} {st : Stmt} {fe fi : Ex} {i : Nat}
theorem at_map {cs : List Int} {k c : Int} (h : atI cs k = some c) : atI (cs.map V.int) k = some (.int c) := by
  unfold atI at h ⊢
  rw [List.length_map]
  cases e : ixN cs.length k with
  | none => rw [e] at h; cases h
  | some j =>
    rw [e] at h
    have h' : cs[j]? = some c := h
    show (cs.map V.int)[j]? = some (.int c)
    rw [List.getElem?_map, h']
    rfl
/-! ### a, b = e, and what else a text writes -/
def bUnp (a : Ex) (b : Pt) : Bd := fun s => match a s with
  | none => none
  | some (d, s1) => match b d s1 with
    | none => none
    | some s2 => some (.nx s2)
theorem ds_unp {b : Pt} {sl : List Nat} (h : PS X st (tAsg (tD X.K C fe) (gD X.K C b sl))) : PS X st (tS X.K C Z (bUnp fe b)) := ps_imp h fun E σ H ⟨F, s, o, w, ee, q⟩ => by
  unfold bUnp at ee
  split at ee
  · cases ee
  rename_i d s1 ea
  split at ee
  · cases ee
  rename_i s2 eb
  cases ee
  exact tD_run w ea fun v F1 H1 m1 w1 r1 => ⟨F1, s1, d, s2, w1, r1, eb, fun σ' w' _ _ => q σ' F1 H1 m1.sub w'⟩
def iaddD : D → D → Option D
  | .int a, .int b => some (.int (a + b))
  | _, _ => none
theorem od_iadd' : OpD X (inplaceOp .Add) iaddD := od_int0 iop_add fun d e r h => by
  unfold iaddD at h
  split at h
  · cases h; exact ⟨_, _, rfl, rfl, fun _ => .int _⟩
  · cases h
theorem od_isub : OpD X (inplaceOp .Sub) subD := od_int0 iop_sub fun d e r h => by
  unfold subD at h
  split at h
  · cases h; exact ⟨_, _, rfl, rfl, fun _ => .int _⟩
  · cases h
theorem ds_pass : PS X (.Pass pos) (tS X.K C Z bNil) := ps_imp ps_pass fun E σ H ⟨F, s, o, w, ee, q⟩ => by
  cases ee
  exact q σ F H (Sub.refl _) w
/-- name = [.. for ..] on one line -/
theorem ds_lcO {it : Ax} {b : Pt} {t : Tx} {f : Ex} {sl vs : List Nat} (hsl : ∀ j ∈ sl, j ∈ vs) (h : PS X st (tAsg (tLc (tI X.K C it) (gD X.K C b sl) (tT X.K C t) (tD X.K C f) vs) (gName i))) : PS X st (tS X.K C Z (bSetO i (oLc it b t f vs))) :=
  ps_imp h fun E σ H h => lc_run hsl (asgO_run h)
theorem ds_lc {it : Ax} {b : Pt} {t : Tx} {f : Ex} {sl vs : List Nat} (hsl : ∀ j ∈ sl, j ∈ vs) (h : PS X st (tAsg (tLc (tI X.K C it) (gD X.K C b sl) (tT X.K C t) (tD X.K C f) vs) (gName i))) : PS X st (tS X.K C Z (bSet i (dOfO (oLc it b t f vs)))) :=
  ps_imp h fun E σ H h => by
    have h2 : tD X.K C (dOfO (oLc it b t f vs)) σ H (fun x H1 => gName i x σ H1 E.nx) := asg_run h
    have h3 : tO X.K C (oLc it b t f vs) σ H (fun x H1 => gName i x σ H1 E.nx) := ofO_run h2
    exact lc_run hsl h3
end
end Dl

/-! What the words of the layer are worth, step by step (for simp); loops by relations. -/
namespace Dl
theorem pow62 : (2 : Int) ^ 62 = 4611686018427387904 := by decide +kernel
theorem pow63 : (2 : Int) ^ 63 = 9223372036854775808 := by decide +kernel
theorem pow64 : (2 : Int) ^ 64 = 18446744073709551616 := by decide +kernel
theorem pow64n : (2 : Nat) ^ 64 = 18446744073709551616 := by decide +kernel
section
variable (s : S) (a b c : Ex) (g g' : D → D → Option D) (i j : Nat) (d : D) (x y : Ax) (t u : Tx) (p q : Bd) (m r : Mx)
@[simp] theorem ev_dC : dC d s = some (d, s) := Eq.trans rfl rfl
@[simp] theorem ev_dVar : dVar i s = (match s.env[i]? with
  | some (some (.fz d)) => some (d, s)
  | some (some (.ow xs)) => some (.list xs, { s with env := s.env.set i (some (.fz (.list xs))) })
  | _ => none) := Eq.trans rfl rfl
@[simp] theorem ev_dBin : dBin g a b s = (match a s with
  | none => none
  | some (x, s1) => match b s1 with
    | none => none
    | some (y, s2) => match g x y with
      | none => none
      | some r => some (r, s2)) := Eq.trans rfl rfl
@[simp] theorem ev_dUn (g : D → Option D) : dUn g a s = (match a s with
  | none => none
  | some (x, s1) => match g x with
    | none => none
    | some r => some (r, s1)) := Eq.trans rfl rfl
@[simp] theorem ev_aNil : aNil s = some ([], s) := Eq.trans rfl rfl
@[simp] theorem ev_aCons : aCons a x s = (match a s with
  | none => none
  | some (d, s1) => match x s1 with
    | none => none
    | some (ds, s2) => some (d :: ds, s2)) := Eq.trans rfl rfl
@[simp] theorem ev_dApp (g : List D → Option D) : dApp g x s = (match x s with
  | none => none
  | some (xs, s1) => match g xs with
    | none => none
    | some r => some (r, s1)) := Eq.trans rfl rfl
@[simp] theorem ev_dMt (g : D → List D → Option D) : dMt g a x s = (match a s with
  | none => none
  | some (d, s1) => match x s1 with
    | none => none
    | some (xs, s2) => match g d xs with
      | none => none
      | some r => some (r, s2)) := Eq.trans rfl rfl
@[simp] theorem ev_dCall (g : List D → Option D) : dCall g x s = (match x s with
  | none => none
  | some (xs, s1) => match g xs with
    | none => none
    | some r => some (r, s1)) := Eq.trans rfl rfl
@[simp] theorem ev_dCallK (f : List D → List Int → Int → Option (D × List Int × Int)) : dCallK f i x s = (match s.env[i]? with
  | some (some .dk) => (match x s with
    | none => none
    | some (ds, s1) => match f ds s1.cs s1.n with
      | none => none
      | some (r, (cs', m')) => some (r, { s1 with cs := cs', n := m' }))
  | _ => none) := Eq.trans rfl rfl
@[simp] theorem ev_dNoPart : dNoPart s = some (none, s) := Eq.trans rfl rfl
@[simp] theorem ev_dPart : dPart a s = (match a s with
  | some (.int i, s1) => some (some i, s1)
  | _ => none) := Eq.trans rfl rfl
@[simp] theorem ev_dSl (g : D → Option Int → Option Int → Option D) (lo hi : S → Option (Option Int × S)) : dSl g a lo hi s = (match a s with
  | none => none
  | some (x, s1) => match lo s1 with
    | none => none
    | some (l, s2) => match hi s2 with
      | none => none
      | some (h, s3) => match g x l h with
        | none => none
        | some r => some (r, s3)) := Eq.trans rfl rfl
@[simp] theorem ev_dTup : dTup x s = (match x s with
  | none => none
  | some (xs, s1) => if fits xs.length then some (.tuple xs, s1) else none) := Eq.trans rfl rfl
@[simp] theorem ev_oLst : oLst x s = (match x s with
  | none => none
  | some (xs, s1) => if fits xs.length then some (xs, s1) else none) := Eq.trans rfl rfl
@[simp] theorem ev_dOfO : dOfO x s = (match x s with
  | none => none
  | some (xs, s1) => some (.list xs, s1)) := Eq.trans rfl rfl
@[simp] theorem ev_tOf : tOf a s = (match a s with
  | some (.bool b, s1) => some (b, s1)
  | _ => none) := Eq.trans rfl rfl
@[simp] theorem ev_tTru : tTru a s = (match a s with
  | none => none
  | some (d, s1) => match tru d with
    | none => none
    | some b => some (b, s1)) := Eq.trans rfl rfl
@[simp] theorem ev_tNotX : tNotX t s = (match t s with
  | none => none
  | some (b, s1) => some (!b, s1)) := Eq.trans rfl rfl
@[simp] theorem ev_tAndX : tAndX t u s = (match t s with
  | none => none
  | some (true, s1) => u s1
  | some (false, s1) => some (false, s1)) := Eq.trans rfl rfl
@[simp] theorem ev_tOrX : tOrX t u s = (match t s with
  | none => none
  | some (false, s1) => u s1
  | some (true, s1) => some (true, s1)) := Eq.trans rfl rfl
@[simp] theorem ev_dIfE : dIfE t a b s = (match t s with
  | none => none
  | some (true, s1) => a s1
  | some (false, s1) => b s1) := Eq.trans rfl rfl
@[simp] theorem ev_dAnd : dAnd a b s = (match a s with
  | some (.bool true, s1) => b s1
  | some (.bool false, s1) => some (.bool false, s1)
  | _ => none) := Eq.trans rfl rfl
@[simp] theorem ev_dOr : dOr a b s = (match a s with
  | some (.bool false, s1) => b s1
  | some (.bool true, s1) => some (.bool true, s1)
  | _ => none) := Eq.trans rfl rfl
@[simp] theorem ev_dNot : dNot a s = (match a s with
  | some (.bool b, s1) => some (.bool !b, s1)
  | _ => none) := Eq.trans rfl rfl
@[simp] theorem ev_dChain : dChain g g' a b c s = (match a s with
  | none => none
  | some (x, s1) => match b s1 with
    | none => none
    | some (y, s2) => match g x y with
      | some (.bool true) => (match c s2 with
        | none => none
        | some (z, s3) => match g' y z with
          | some (.bool r) => some (.bool r, s3)
          | _ => none)
      | some (.bool false) => some (.bool false, s2)
      | _ => none) := Eq.trans rfl rfl
@[simp] theorem ev_bNil : bNil s = some (.nx s) := Eq.trans rfl rfl
@[simp] theorem ev_bSeq : bSeq p q s = (match p s with
  | some (.nx s1) => q s1
  | o => o) := Eq.trans rfl rfl
@[simp] theorem ev_bIf : bIf t p q s = (match t s with
  | none => none
  | some (true, s1) => p s1
  | some (false, s1) => q s1) := Eq.trans rfl rfl
@[simp] theorem ev_bRet : bRet a s = (match a s with
  | none => none
  | some (d, s1) => some (.rt d s1)) := Eq.trans rfl rfl
@[simp] theorem ev_bRetN : bRetN s = some (.rt .none s) := Eq.trans rfl rfl
@[simp] theorem ev_bDrop : bDrop a s = (match a s with
  | none => none
  | some (_, s1) => some (.nx s1)) := Eq.trans rfl rfl
@[simp] theorem ev_bSet : bSet i a s = (match a s with
  | none => none
  | some (d, s1) => some (.nx { s1 with env := s1.env.set i (some (.fz d)) })) := Eq.trans rfl rfl
@[simp] theorem ev_bSetO : bSetO i x s = (match x s with
  | none => none
  | some (xs, s1) => some (.nx { s1 with env := s1.env.set i (some (.ow xs)) })) := Eq.trans rfl rfl
@[simp] theorem ev_owAt : owAt s i = (match s.env[i]? with
  | some (some (.ow xs)) => some xs
  | _ => none) := Eq.trans rfl rfl
@[simp] theorem ev_setOw (xs : List D) : setOw s i xs = { s with env := s.env.set i (some (.ow xs)) } := Eq.trans rfl rfl
@[simp] theorem ev_bApp : bApp i x s = (match owAt s i with
  | none => none
  | some _ => match x s with
    | some ([d], s1) => (match owAt s1 i with
      | none => none
      | some xs => if sm xs.length then some (.nx (setOw s1 i (xs ++ [d]))) else none)
    | _ => none) := Eq.trans rfl rfl
@[simp] theorem ev_bExt : bExt i x s = (match owAt s i with
  | none => none
  | some _ => match x s with
    | some ([.list ds], s1) => (match owAt s1 i with
      | none => none
      | some xs => if fits (xs.length + ds.length) then some (.nx (setOw s1 i (xs ++ ds))) else none)
    | _ => none) := Eq.trans rfl rfl
@[simp] theorem ev_bPut : bPut i a b s = (match b s with
  | none => none
  | some (d, s1) => match owAt s1 i with
    | none => none
    | some _ => match a s1 with
      | some (.int k, s2) => (match owAt s2 i with
        | none => none
        | some xs => match putAt xs k d with
          | none => none
          | some ys => some (.nx (setOw s2 i ys)))
      | _ => none) := Eq.trans rfl rfl
@[simp] theorem ev_bAugAt : bAugAt g i a b s = (match owAt s i with
  | none => none
  | some _ => match a s with
    | some (.int k, s1) => (match owAt s1 i with
      | none => none
      | some xs => match L2.atI xs k with
        | none => none
        | some x => match b s1 with
          | none => none
          | some (y, s2) => match g x y with
            | none => none
            | some z => match owAt s2 i with
              | none => none
              | some xs2 => match putAt xs2 k z with
                | none => none
                | some ys => some (.nx (setOw s2 i ys)))
    | _ => none) := Eq.trans rfl rfl
@[simp] theorem ev_bAug : bAug g i a s = (match s.env[i]? with
  | some (some (.fz x)) => (match a s with
    | none => none
    | some (y, s1) => match g x y with
      | none => none
      | some z => some (.nx { s1 with env := s1.env.set i (some (.fz z)) }))
  | _ => none) := Eq.trans rfl rfl
@[simp] theorem ev_dAt : dAt i a s = (match owAt s i with
  | none => none
  | some _ => match a s with
    | some (.int k, s1) => (match owAt s1 i with
      | none => none
      | some xs => match L2.atI xs k with
        | none => none
        | some x => some (x, s1))
    | _ => none) := Eq.trans rfl rfl
@[simp] theorem ev_dLenO : dLenO i s = (match owAt s i with
  | none => none
  | some xs => some (.int xs.length, s)) := Eq.trans rfl rfl
@[simp] theorem ev_oList : oList a s = (match a s with
  | some (.list ds, s1) => some (ds, s1)
  | some (.tuple ds, s1) => some (ds, s1)
  | _ => none) := Eq.trans rfl rfl
@[simp] theorem ev_oMul : oMul a b s = (match a s with
  | some (.list ds, s1) => (match b s1 with
    | some (.int n, s2) => if okK n && fits (ds.length * n.toNat) then some ((List.replicate n.toNat ds).flatten, s2) else none
    | _ => none)
  | _ => none) := Eq.trans rfl rfl
@[simp] theorem ev_mNil : mNil s = some ([], s) := Eq.trans rfl rfl
@[simp] theorem ev_mD : mD a r s = (match a s with
  | none => none
  | some (d, s1) => match r s1 with
    | none => none
    | some (is, s2) => some (.da d :: is, s2)) := Eq.trans rfl rfl
@[simp] theorem ev_mO : mO x r s = (match x s with
  | none => none
  | some (d, s1) => match r s1 with
    | none => none
    | some (is, s2) => some (.ol d :: is, s2)) := Eq.trans rfl rfl
@[simp] theorem ev_bPar (sl : List Nat) : bPar sl r s = (match r s with
  | none => none
  | some (is, s1) => if is.length = sl.length then some (.nx { s1 with env := stI s1.env sl is }) else none) := Eq.trans rfl rfl
@[simp] theorem ev_stI0 (env : List (Option Sl)) : stI env [] [] = env := Eq.trans rfl rfl
@[simp] theorem ev_stID (env : List (Option Sl)) (i : Nat) (sl : List Nat) (d : D) (is : List It1) : stI env (i :: sl) (.da d :: is) = stI (env.set i (some (.fz d))) sl is := Eq.trans rfl rfl
@[simp] theorem ev_stIO (env : List (Option Sl)) (i : Nat) (sl : List Nat) (d : List D) (is : List It1) : stI env (i :: sl) (.ol d :: is) = stI (env.set i (some (.ow d))) sl is := Eq.trans rfl rfl
@[simp] theorem ev_isDk : isDk s i = (match s.env[i]? with
  | some (some .dk) => true
  | _ => false) := Eq.trans rfl rfl
@[simp] theorem ev_dDkN : dDkN i s = if isDk s i then some (.int s.n, s) else none := Eq.trans rfl rfl
@[simp] theorem ev_dDkLen : dDkLen i s = if isDk s i then some (.int s.cs.length, s) else none := Eq.trans rfl rfl
@[simp] theorem ev_dDkAt : dDkAt i a s = if isDk s i then (match a s with
  | some (.int k, s1) => (match L2.atI s1.cs k with
    | none => none
    | some c => some (.int c, s1))
  | _ => none) else none := Eq.trans rfl rfl
@[simp] theorem ev_dDkAt0 : dDkAt0 i a s = if isDk s i && fits (s.cs.length + 1) then (match a s with
  | some (.int k, s1) => (match L2.atI (s.cs ++ [0]) k with
    | none => none
    | some c => some (.int c, s1))
  | _ => none) else none := Eq.trans rfl rfl
@[simp] theorem ev_bDkN : bDkN i a s = (match a s with
  | some (.int m, s1) => if isDk s1 i then some (.nx { s1 with n := m }) else none
  | _ => none) := Eq.trans rfl rfl
@[simp] theorem ev_bDkPut : bDkPut i a b s = (match b s with
  | some (.int c, s1) => if isDk s1 i then (match a s1 with
    | some (.int k, s2) => (match L2.ixN s2.cs.length k with
      | some j => some (.nx { s2 with cs := s2.cs.set j c })
      | none => none)
    | _ => none) else none
  | _ => none) := Eq.trans rfl rfl
@[simp] theorem ev_bUnp (b : Pt) : bUnp a b s = (match a s with
  | none => none
  | some (d, s1) => match b d s1 with
    | none => none
    | some s2 => some (.nx s2)) := Eq.trans rfl rfl
@[simp] theorem ev_pName : pName i d s = some { s with env := s.env.set i (some (.fz d)) } := Eq.trans rfl rfl
@[simp] theorem ev_pTup (n : Nat) (k : List D → S → Option S) (ds : List D) : pTup n k (.tuple ds) s = if ds.length = n then k ds s else none := Eq.trans rfl rfl
@[simp] theorem ev_pNil : pNil [] s = some s := Eq.trans rfl rfl
@[simp] theorem ev_pCons (b : Pt) (k : List D → S → Option S) (ds : List D) : pCons b k (d :: ds) s = (match b d s with
  | none => none
  | some s1 => k ds s1) := Eq.trans rfl rfl
@[simp] theorem ev_bFor (b : Pt) : bFor x b p s = (match x s with
  | none => none
  | some (ds, s1) => forL b p ds s1) := Eq.trans rfl rfl
@[simp] theorem ev_oLc (b : Pt) (vs : List Nat) : oLc x b t a vs s = (match x s with
  | none => none
  | some (ds, s1) => match lcL b t a vs ds [] (wipeS s1 vs) with
    | none => none
    | some (ys, s2) => some (ys, { s2 with env := backE s1.env s2.env vs })) := Eq.trans rfl rfl
@[simp] theorem ev_tYesX : tYesX s = some (true, s) := Eq.trans rfl rfl
@[simp] theorem ev_wipeS (vs : List Nat) : wipeS s vs = { s with env := wipeE s.env vs } := Eq.trans rfl rfl
@[simp] theorem ev_wipeE0 (env : List (Option Sl)) : wipeE env [] = env := Eq.trans rfl rfl
@[simp] theorem ev_wipeE1 (env : List (Option Sl)) (v : Nat) (vs : List Nat) : wipeE env (v :: vs) = (wipeE env vs).set v none := Eq.trans rfl rfl
@[simp] theorem ev_backE0 (old env : List (Option Sl)) : backE old env [] = env := Eq.trans rfl rfl
@[simp] theorem ev_backE1 (old env : List (Option Sl)) (v : Nat) (vs : List Nat) : backE old env (v :: vs) = (match old[v]? with
    | some (some (.fz d)) => (backE old env vs).set v (some (.fz d))
    | _ => (backE old env vs).set v none) := Eq.trans rfl rfl
@[simp] theorem ev_iSeq : iSeq a s = (match a s with
  | some (.list ds, s1) => some (ds, s1)
  | some (.tuple ds, s1) => some (ds, s1)
  | _ => none) := Eq.trans rfl rfl
@[simp] theorem ev_iRange1 : iRange1 x s = (match x s with
  | some ([.int j], s1) => if inR j then some (rgD 0 j.toNat, s1) else none
  | _ => none) := Eq.trans rfl rfl
@[simp] theorem ev_iRange2 : iRange2 x s = (match x s with
  | some ([.int i, .int j], s1) => if inR i && inR j then some (rgD i (j - i).toNat, s1) else none
  | _ => none) := Eq.trans rfl rfl
theorem inR_int {i : Int} (h : -4000000000000000000 < i) (h2 : i < 4000000000000000000) : inR i = true := by
  rw [inR, sealB_eq, Bool.and_eq_true, decide_eq_true_iff, decide_eq_true_iff]
  omega
theorem inR_nat {i : Nat} (h : i < 4000000000000000000) : inR (i : Int) = true := inR_int (by omega) (by omega)
@[simp] theorem inR_lit (n : Nat) (h : n < 4000000000000000000) : inR (no_index (@OfNat.ofNat Int n _)) = true := inR_nat h
theorem okK_int {i : Int} (h : -1000 ≤ i) (h2 : i < 4000000000000000000) : okK i = true := by
  rw [okK, sealB_eq, Bool.and_eq_true, decide_eq_true_iff, decide_eq_true_iff]
  omega
theorem okK_nat {i : Nat} (h : i < 4000000000000000000) : okK (i : Int) = true := okK_int (by omega) (by omega)
@[simp] theorem okK_lit (n : Nat) (h : n < 4000000000000000000) : okK (no_index (@OfNat.ofNat Int n _)) = true := okK_nat h
theorem okKT_int {i : Int} (h : -1000 ≤ i) (h2 : i ≤ 1000) : okKT i = true := by
  rw [okKT, sealB_eq, Bool.and_eq_true, decide_eq_true_iff, decide_eq_true_iff]
  omega
theorem okKT_nat {i : Nat} (h : i ≤ 1000) : okKT (i : Int) = true := okKT_int (by omega) (by omega)
@[simp] theorem okKT_lit (n : Nat) (h : n ≤ 1000) : okKT (no_index (@OfNat.ofNat Int n _)) = true := okKT_nat h
theorem okDiv_int {i : Int} (h : 0 < i) (h2 : i < 1073741824) : okDiv i = true := by
  rw [okDiv, sealB_eq, Bool.and_eq_true, decide_eq_true_iff, decide_eq_true_iff]
  omega
@[simp] theorem okDiv_lit (n : Nat) (h : 0 < n) (h2 : n < 1073741824) : okDiv (no_index (@OfNat.ofNat Int n _)) = true := okDiv_int (i := (n : Int)) (by omega) (by omega)
theorem okPow_int {a b : Int} (h : 0 ≤ b) (h2 : b ≤ 1000000) (h3 : -1000000000000000000 < a) (h4 : a < 1000000000000000000) : okPow a b = true := by
  rw [okPow, sealB_eq, Bool.and_eq_true, Bool.and_eq_true, decide_eq_true_iff, decide_eq_true_iff, decide_eq_true_iff]
  omega
@[simp] theorem okPow_lit (m n : Nat) (h : n ≤ 1000000) (h2 : m < 1000000000000000000) : okPow (no_index (@OfNat.ofNat Int m _)) (no_index (@OfNat.ofNat Int n _)) = true := okPow_int (a := (m : Int)) (b := (n : Int)) (by omega) (by omega) (by omega) (by omega)
@[simp] theorem small_lit (n : Nat) (h : n < 1000000000000000000) : Dl.small64 (no_index (@OfNat.ofNat Int n _)) = true := by
  rw [Dl.small64, sealB_eq, Bool.and_eq_true, decide_eq_true_iff, decide_eq_true_iff]
  have : (@OfNat.ofNat Int n _) = (n : Int) := rfl
  omega
@[simp] theorem ev_fits (n : Nat) : fits n = decide (n ≤ 16777216) := Eq.trans rfl rfl
@[simp] theorem ev_sm (n : Nat) : sm n = decide (n < 16777216) := Eq.trans rfl rfl
/-! operators on ints, truth values -/
@[simp] theorem ev_add (a b : Int) : addD (.int a) (.int b) = some (.int (a + b)) := Eq.trans rfl rfl
@[simp] theorem ev_addT (a b : List D) : addD (.tuple a) (.tuple b) = if fits (a.length + b.length) then some (.tuple (a ++ b)) else none := Eq.trans rfl rfl
@[simp] theorem ev_addL (a b : List D) : addD (.list a) (.list b) = if fits (a.length + b.length) then some (.list (a ++ b)) else none := Eq.trans rfl rfl
@[simp] theorem ev_iadd (a b : Int) : iaddD (.int a) (.int b) = some (.int (a + b)) := Eq.trans rfl rfl
@[simp] theorem ev_sub (a b : Int) : subD (.int a) (.int b) = some (.int (a - b)) := Eq.trans rfl rfl
theorem small_int {a : Int} (h : -1000000000000000000 < a) (h2 : a < 1000000000000000000) : Dl.small64 a = true := by
  rw [Dl.small64, sealB_eq, Bool.and_eq_true, decide_eq_true_iff, decide_eq_true_iff]
  omega
theorem small_nat {a : Nat} (h : a < 1000000000000000000) : Dl.small64 (a : Int) = true := small_int (by omega) (by omega)
@[simp] theorem ev_mul (a b : Int) : mulD (.int a) (.int b) = if Dl.small64 a || Dl.small64 b then some (.int (a * b)) else none := Eq.trans rfl rfl
@[simp] theorem ev_mulT (a : List D) (k : Int) : mulD (.tuple a) (.int k) = if okKT k && decide (a.length ≤ 1000) then some (.tuple (List.replicate k.toNat a).flatten) else none := Eq.trans rfl rfl
@[simp] theorem ev_mulL (a : List D) (k : Int) : mulD (.list a) (.int k) = if okK k && fits (a.length * k.toNat) then some (.list (List.replicate k.toNat a).flatten) else none := Eq.trans rfl rfl
@[simp] theorem ev_fdiv (a b : Int) : fdivD (.int a) (.int b) = if okDiv b then some (.int (a / b)) else none := Eq.trans rfl rfl
@[simp] theorem ev_mod (a b : Int) : modD (.int a) (.int b) = if decide (0 < b) then some (.int (a % b)) else none := Eq.trans rfl rfl
@[simp] theorem ev_pow (a b : Int) : powD (.int a) (.int b) = if okPow a b then some (.int (a ^ b.toNat)) else none := Eq.trans rfl rfl
@[simp] theorem ev_neg (a : Int) : negD (.int a) = some (.int (-a)) := Eq.trans rfl rfl
@[simp] theorem ev_cmp (f : Int → Int → Bool) (a b : Int) : cmpD f (.int a) (.int b) = some (.bool (f a b)) := Eq.trans rfl rfl
@[simp] theorem ev_truB (b : Bool) : tru (.bool b) = some b := Eq.trans rfl rfl
@[simp] theorem ev_truI (i : Int) : tru (.int i) = some (i != 0) := Eq.trans rfl rfl
@[simp] theorem ev_truN : tru .none = some false := Eq.trans rfl rfl
@[simp] theorem ev_truL (xs : List D) : tru (.list xs) = some (!xs.isEmpty) := Eq.trans rfl rfl
@[simp] theorem ev_truT (xs : List D) : tru (.tuple xs) = some (!xs.isEmpty) := Eq.trans rfl rfl
@[simp] theorem ev_lenL (xs : List D) : lenD [.list xs] = some (.int xs.length) := Eq.trans rfl rfl
@[simp] theorem ev_lenT (xs : List D) : lenD [.tuple xs] = some (.int xs.length) := Eq.trans rfl rfl
@[simp] theorem ev_abs (a : Int) : absD [.int a] = some (.int (if a < 0 then -a else a)) := Eq.trans rfl rfl
@[simp] theorem ev_intI (a : Int) : intD [.int a] = some (.int a) := Eq.trans rfl rfl
@[simp] theorem ev_intB (b : Bool) : intD [.bool b] = some (.int (if b then 1 else 0)) := Eq.trans rfl rfl
@[simp] theorem ev_tupL (xs : List D) : tupleD [.list xs] = some (.tuple xs) := Eq.trans rfl rfl
@[simp] theorem ev_tupT (xs : List D) : tupleD [.tuple xs] = some (.tuple xs) := Eq.trans rfl rfl
@[simp] theorem ev_max2 (a b : Int) : max2D [.int a, .int b] = some (.int (if b > a then b else a)) := Eq.trans rfl rfl
@[simp] theorem ev_min2 (a b : Int) : min2D [.int a, .int b] = some (.int (if b < a then b else a)) := Eq.trans rfl rfl
@[simp] theorem ev_ixL (xs : List D) (k : Int) : ixD (.list xs) (.int k) = L2.atI xs k := Eq.trans rfl rfl
@[simp] theorem ev_ixT (xs : List D) (k : Int) : ixD (.tuple xs) (.int k) = L2.atI xs k := Eq.trans rfl rfl
@[simp] theorem ev_slT (xs : List D) (l h : Option Int) : slD (.tuple xs) l h = some (.tuple (cutD xs l h)) := Eq.trans rfl rfl
@[simp] theorem ev_slL (xs : List D) (l h : Option Int) : slD (.list xs) l h = some (.list (cutD xs l h)) := Eq.trans rfl rfl
@[simp] theorem ev_isN (d : D) : isD d .none = some (.bool (match d with | .none => true | _ => false)) := by cases d <;> rfl
@[simp] theorem ev_isNotN (d : D) : isNotD d .none = some (.bool (match d with | .none => false | _ => true)) := by cases d <;> rfl
@[simp] theorem ev_isB (a b : Bool) : isD (.bool a) (.bool b) = some (.bool (a == b)) := Eq.trans rfl rfl
@[simp] theorem ev_isiB (T : String) (b : Bool) : isiD T (.bool b) = (T == "bool" || T == "int") := Eq.trans rfl rfl
@[simp] theorem ev_isiI (T : String) (b : Int) : isiD T (.int b) = ("int" == T) := Eq.trans rfl rfl
@[simp] theorem ev_isiN (T : String) : isiD T .none = ("NoneType" == T) := Eq.trans rfl rfl
@[simp] theorem ev_isiS (T : String) (b : PySem.Str) : isiD T (.str b) = ("str" == T) := Eq.trans rfl rfl
@[simp] theorem ev_isiL (T : String) (b : List D) : isiD T (.list b) = ("list" == T) := Eq.trans rfl rfl
@[simp] theorem ev_isiT (T : String) (b : List D) : isiD T (.tuple b) = ("tuple" == T) := Eq.trans rfl rfl
@[simp] theorem ev_isiD (T : String) (b : List (D × D)) : isiD T (.dict b) = ("dict" == T) := Eq.trans rfl rfl
end
/-! == -/
theorem shapedI (a : Int) : PySem.SeqAt.shaped (.int a) = true := by simp [PySem.SeqAt.shaped, PySem.PyData.canLay0, PySem.PyData.depth]
@[simp] theorem ev_eqI (a b : Int) : eqD (.int a) (.int b) = some (.bool (a == b)) := by simp [eqD, eqOk, shapedI, PySem.PyData.eqv]
@[simp] theorem ev_neI (a b : Int) : neD (.int a) (.int b) = some (.bool (!(a == b))) := by simp [neD, eqOk, shapedI, PySem.PyData.eqv]
@[simp] theorem ev_eqS (a b : PySem.Str) : eqD (.str a) (.str b) = some (.bool (a == b)) := by simp [eqD, eqOk, PySem.PyData.eqv]
@[simp] theorem ev_neS (a b : PySem.Str) : neD (.str a) (.str b) = some (.bool (!(a == b))) := by simp [neD, eqOk, PySem.PyData.eqv]
/-- equal data of a known shape -/
theorem eqD_same {d : D} (h : PySem.SeqAt.shaped d = true) : eqD d d = some (.bool true) := by
  have e : PySem.PyData.eqv d d = true := PySem.SeqAt.eqv_refl d (PySem.SeqAt.canLay_of_shaped h)
  unfold eqD
  rw [e, if_pos (eqOk_or (eqOk_sh h h))]
theorem neD_same {d : D} (h : PySem.SeqAt.shaped d = true) : neD d d = some (.bool false) := by
  have e : PySem.PyData.eqv d d = true := PySem.SeqAt.eqv_refl d (PySem.SeqAt.canLay_of_shaped h)
  unfold neD
  rw [e, if_pos (eqOk_sh h h)]
  rfl
/-! places -/
theorem ixN_nat {n j : Nat} (h : j < n) : L2.ixN n (j : Int) = some j := by
  unfold L2.ixN
  rw [if_pos (by omega), if_pos (by omega)]
  simp
theorem ixN_int {n : Nat} {k : Int} (h0 : 0 ≤ k) (h : k < n) : L2.ixN n k = some k.toNat := by
  unfold L2.ixN
  rw [if_pos h0, if_pos h]
theorem ixN_last {n : Nat} (h : 0 < n) : L2.ixN n (-1) = some (n - 1) := by
  unfold L2.ixN
  rw [if_neg (by omega), if_pos (by omega)]
  congr 1
  omega
theorem at_nat {α : Type} {xs : List α} {j : Nat} {v : α} (h : xs[j]? = some v) : L2.atI xs (j : Int) = some v := L2.atI_nat h
theorem at_mapN {α : Type} {xs : List α} {f : α → D} {j : Nat} (h : j < xs.length) : L2.atI (xs.map f) (j : Int) = some (f xs[j]) := by
  refine L2.atI_nat ?_
  rw [List.getElem?_map, List.getElem?_eq_getElem h]
  rfl
theorem put_mapN {α : Type} {xs : List α} {f : α → D} {j : Nat} {v : α} {d : D} (h : j < xs.length) (hd : d = f v) : putAt (xs.map f) (j : Int) d = some ((xs.set j v).map f) := by
  unfold putAt
  rw [List.length_map, ixN_nat h, hd]
  show some ((xs.map f).set j (f v)) = _
  rw [List.map_set]

/-! loops -/
section
variable {α β : Type}
/-- a loop without a way out, by a relation between what it is about and the state -/
theorem forL_rel (R : α → S → Prop) (step : α → β → α) (toD : β → D) {b : Pt} {g : Bd} : ∀ (items : List β) (a : α) (s : S), R a s →
    (∀ a x s, x ∈ items → R a s → ∃ s1 s2, b (toD x) s = some s1 ∧ (g s1 = some (.nx s2) ∨ g s1 = some (.ct s2)) ∧ R (step a x) s2) → ∃ s', forL b g (items.map toD) s = some (.nx s') ∧ R (items.foldl step a) s'
  | [], a, s, h, _ => ⟨s, rfl, h⟩
  | x :: xs, a, s, h, hs => by
    obtain ⟨s1, s2, h1, h2, h3⟩ := hs a x s (List.mem_cons_self ..) h
    obtain ⟨s', h4, h5⟩ := forL_rel R step toD xs (step a x) s2 h3 fun a y s hy => hs a y s (List.mem_cons_of_mem _ hy)
    refine ⟨s', ?_, h5⟩
    show (match b (toD x) s with | none => none | some s1 => match g s1 with | none => none | some (.nx s2) => forL b g (xs.map toD) s2 | some (.ct s2) => forL b g (xs.map toD) s2 | some (.bk s2) => some (.nx s2) | some (.rt d s2) => some (.rt d s2) | some (.ex x s2) => some (.ex x s2)) = _
    rcases h2 with h2 | h2
    · rw [h1]; dsimp only; rw [h2]; exact h4
    · rw [h1]; dsimp only; rw [h2]; exact h4
/-- .. with the turn -/
theorem forL_relN (R : Nat → α → S → Prop) (step : α → β → α) (toD : β → D) {b : Pt} {g : Bd} : ∀ (items : List β) (k : Nat) (a : α) (s : S), R k a s →
    (∀ j x a s, items[j]? = some x → R (k + j) a s → ∃ s1 s2, b (toD x) s = some s1 ∧ (g s1 = some (.nx s2) ∨ g s1 = some (.ct s2)) ∧ R (k + j + 1) (step a x) s2) → ∃ s', forL b g (items.map toD) s = some (.nx s') ∧ R (k + items.length) (items.foldl step a) s'
  | [], k, a, s, h, _ => ⟨s, rfl, h⟩
  | x :: xs, k, a, s, h, hs => by
    obtain ⟨s1, s2, h1, h2, h3⟩ := hs 0 x a s rfl h
    obtain ⟨s', h4, h5⟩ := forL_relN R step toD xs (k + 1) (step a x) s2 h3 fun j y a s hy hp => by
      have e : k + 1 + j = k + (j + 1) := by omega
      rw [e] at hp
      obtain ⟨s1, s2, q1, q2, q3⟩ := hs (j + 1) y a s (by simpa using hy) hp
      exact ⟨s1, s2, q1, q2, by rw [e]; exact q3⟩
    refine ⟨s', ?_, ?_⟩
    · show (match b (toD x) s with | none => none | some s1 => match g s1 with | none => none | some (.nx s2) => forL b g (xs.map toD) s2 | some (.ct s2) => forL b g (xs.map toD) s2 | some (.bk s2) => some (.nx s2) | some (.rt d s2) => some (.rt d s2) | some (.ex x s2) => some (.ex x s2)) = _
      rcases h2 with h2 | h2
      · rw [h1]; dsimp only; rw [h2]; exact h4
      · rw [h1]; dsimp only; rw [h2]; exact h4
    · have e : k + (x :: xs).length = k + 1 + xs.length := by simp; omega
      rw [e]; exact h5
/-- by places: an invariant that knows the turn -/
theorem forL_inv (P : Nat → S → Prop) {b : Pt} {g : Bd} : ∀ (items : List D) (k : Nat) (s : S), P k s →
    (∀ j x s, items[j]? = some x → P (k + j) s → ∃ s1 s2, b x s = some s1 ∧ (g s1 = some (.nx s2) ∨ g s1 = some (.ct s2)) ∧ P (k + j + 1) s2) → ∃ s', forL b g items s = some (.nx s') ∧ P (k + items.length) s'
  | [], k, s, h, _ => ⟨s, rfl, h⟩
  | x :: xs, k, s, h, hs => by
    obtain ⟨s1, s2, h1, h2, h3⟩ := hs 0 x s rfl h
    obtain ⟨s', h4, h5⟩ := forL_inv P xs (k + 1) s2 h3 fun j y s hy hp => by
      have e : k + 1 + j = k + (j + 1) := by omega
      rw [e] at hp
      obtain ⟨s1, s2, q1, q2, q3⟩ := hs (j + 1) y s (by simpa using hy) hp
      exact ⟨s1, s2, q1, q2, by rw [e]; exact q3⟩
    refine ⟨s', ?_, ?_⟩
    · show (match b x s with | none => none | some s1 => match g s1 with | none => none | some (.nx s2) => forL b g xs s2 | some (.ct s2) => forL b g xs s2 | some (.bk s2) => some (.nx s2) | some (.rt d s2) => some (.rt d s2) | some (.ex x s2) => some (.ex x s2)) = _
      rcases h2 with h2 | h2
      · rw [h1]; dsimp only; rw [h2]; exact h4
      · rw [h1]; dsimp only; rw [h2]; exact h4
    · have e : k + (x :: xs).length = k + 1 + xs.length := by simp; omega
      rw [e]; exact h5
/-- a comprehension, by an invariant that knows the turn and what is made so far -/
theorem lcL_inv (P : Nat → List D → S → Prop) {b : Pt} {t : Tx} {e : Ex} {vs : List Nat} : ∀ (items : List D) (k : Nat) (acc : List D) (s : S), P k acc s →
    (∀ j x acc s, items[j]? = some x → P (k + j) acc s → ∃ s1, b x s = some s1 ∧ ((∃ s2, t s1 = some (false, s2) ∧ P (k + j + 1) acc (wipeS s2 vs)) ∨
      ∃ s2 y s3, t s1 = some (true, s2) ∧ e s2 = some (y, s3) ∧ acc.length < 16777216 ∧ P (k + j + 1) (acc ++ [y]) (wipeS s3 vs))) →
    ∃ ys s', lcL b t e vs items acc s = some (ys, s') ∧ P (k + items.length) ys s'
  | [], k, acc, s, h, _ => ⟨acc, s, rfl, h⟩
  | x :: xs, k, acc, s, h, hs => by
    obtain ⟨s1, h1, h2⟩ := hs 0 x acc s rfl h
    have next : ∀ (acc' : List D) (s2 : S), P (k + 0 + 1) acc' s2 → ∃ ys s', lcL b t e vs xs acc' s2 = some (ys, s') ∧ P (k + (x :: xs).length) ys s' := fun acc' s2 h3 => by
      obtain ⟨ys, s', h4, h5⟩ := lcL_inv P xs (k + 1) acc' s2 h3 fun j y acc s hy hp => by
        have e : k + 1 + j = k + (j + 1) := by omega
        rw [e] at hp ⊢
        exact hs (j + 1) y acc s (by simpa using hy) hp
      refine ⟨ys, s', h4, ?_⟩
      have e : k + (x :: xs).length = k + 1 + xs.length := by simp; omega
      rw [e]; exact h5
    rcases h2 with ⟨s2, ht, hp⟩ | ⟨s2, y, s3, ht, he, hz, hp⟩
    · obtain ⟨ys, s', h4, h5⟩ := next acc _ hp
      refine ⟨ys, s', ?_, h5⟩
      unfold lcL
      rw [h1]; dsimp only; rw [ht]; exact h4
    · obtain ⟨ys, s', h4, h5⟩ := next _ _ hp
      refine ⟨ys, s', ?_, h5⟩
      unfold lcL
      rw [h1]; dsimp only; rw [ht]; dsimp only; rw [he]; dsimp only
      rw [if_pos (by simp [sm, hz])]; exact h4
/-- .. where nothing is left out: a map, the state as it was -/
theorem lcL_map (f : β → D) (toD : β → D) {b : Pt} {t : Tx} {e : Ex} {vs : List Nat} (s : S) (h : ∀ x, ∃ s1 s2 s3, b (toD x) s = some s1 ∧ t s1 = some (true, s2) ∧ e s2 = some (f x, s3) ∧ wipeS s3 vs = s) :
    ∀ (items : List β) (acc : List D), acc.length + items.length < 16777216 → lcL b t e vs (items.map toD) acc s = some (acc ++ items.map f, s)
  | [], acc, _ => by simp [lcL]
  | x :: xs, acc, hl => by
    obtain ⟨s1, s2, s3, h1, h2, h3, h4⟩ := h x
    simp only [List.map_cons]
    unfold lcL
    rw [h1]; dsimp only; rw [h2]; dsimp only; rw [h3]; dsimp only
    rw [if_pos (by simp [sm]; simp at hl; omega), h4, lcL_map f toD s h xs (acc ++ [f x]) (by simp at hl ⊢; omega)]
    simp
end
end Dl

/-! Rows, walkers, plans as data; the rule. -/
namespace Dl
abbrev natD (n : Nat) : D := .int (n : Int)
def rowD (r : List Nat) : D := .tuple (r.map natD)
def wayD (w : Nat × Nat) : D := .tuple [natD w.1, natD w.2]
def walkD (ws : List (Nat × Nat)) : D := .tuple (ws.map wayD)
def stD (st : List Nat) : D := .tuple (st.map natD)
def planD (p : List (List Nat)) : D := .tuple (p.map stD)
theorem rgD_nat (f n : Nat) : rgD (f : Int) n = (List.range' f n).map natD := by
  unfold rgD
  rw [List.range'_eq_map_range, List.map_map]
  apply List.map_congr_left
  intro k _
  simp [natD]
theorem rgD_zero (n : Nat) : rgD 0 n = (List.range n).map natD := by
  unfold rgD
  apply List.map_congr_left
  intro k _
  simp [natD]
def at0 (c : List Nat) (s : Nat) : Nat := c.getD s 0
def carry (c : List Nat) (s : Nat) : List Nat := (c.set s (at0 c s - 1)).set (s + 1) (at0 c (s + 1) + 1)
theorem carry_len (c : List Nat) (s : Nat) : (carry c s).length = c.length := by simp [carry]
theorem at0_eq {c : List Nat} {s : Nat} (h : s < c.length) : at0 c s = c[s] := by simp [at0, List.getD, List.getElem?_eq_getElem h]
theorem at0_set {c : List Nat} {s t v : Nat} (h : t < c.length) : at0 (c.set s v) t = if s = t then v else at0 c t := by
  rw [at0_eq (by simpa using h), at0_eq h, List.getElem_set]
theorem at0_set_ne {c : List Nat} {s t v : Nat} (h : s ≠ t) : at0 (c.set s v) t = at0 c t := by
  unfold at0 List.getD
  rw [List.getElem?_set_ne h]
theorem nat_at {c : List Nat} {s : Nat} (h : s < c.length) : L2.atI (c.map natD) (s : Int) = some (.int (at0 c s : Int)) := by
  rw [at_mapN h, at0_eq h]
theorem nat_at1 {c : List Nat} {s : Nat} (h : s + 1 < c.length) : L2.atI (c.map natD) ((s : Int) + 1) = some (.int (at0 c (s + 1) : Int)) := by
  have := nat_at h
  rwa [Int.natCast_add] at this
theorem nat_put {c : List Nat} {s v : Nat} {d : D} (h : s < c.length) (hd : d = natD v) : putAt (c.map natD) (s : Int) d = some ((c.set s v).map natD) := put_mapN h hd
theorem nat_dec {c : List Nat} {s : Nat} (h : s < c.length) (hp : 0 < at0 c s) : putAt (c.map natD) (s : Int) (.int ((at0 c s : Int) - 1)) = some ((c.set s (at0 c s - 1)).map natD) :=
  nat_put h (by congr 1; omega)
theorem nat_inc1 {c : List Nat} {s : Nat} (h : s + 1 < c.length) : putAt (c.map natD) ((s : Int) + 1) (.int ((at0 c (s + 1) : Int) + 1)) = some ((c.set (s + 1) (at0 c (s + 1) + 1)).map natD) := by
  have := nat_put (c := c) (s := s + 1) (v := at0 c (s + 1) + 1) (d := .int ((at0 c (s + 1) : Int) + 1)) h rfl
  rwa [Int.natCast_add] at this
/-- ways within n stations -/
def Ways (n : Nat) (ws : List (Nat × Nat)) : Prop := ∀ w ∈ ws, w.1 < w.2 ∧ w.2 < n
/-- a stage under limits: chairs, what is left, the stages so far -/
def limStep (a : List Nat × List Nat × List Nat) (s : Nat) : List Nat × List Nat × List Nat :=
  if 0 < at0 a.1 s ∧ 0 < at0 a.2.1 s then (carry a.1 s, a.2.1.set s (at0 a.2.1 s - 1), a.2.2 ++ [s]) else a
def limWalk (c l : List Nat) (w : Nat × Nat) : List Nat × List Nat × List Nat := (List.range' w.1 (w.2 - w.1)).foldl limStep (c, l, [])
def limAll (a : List Nat × List Nat × List (List Nat)) (w : Nat × Nat) : List Nat × List Nat × List (List Nat) :=
  ((limWalk a.1 a.2.1 w).1, (limWalk a.1 a.2.1 w).2.1, a.2.2 ++ [(limWalk a.1 a.2.1 w).2.2])
def limPlan (c l : List Nat) (ws : List (Nat × Nat)) : List (List Nat) := (ws.foldl limAll (c, l, [])).2.2
theorem limStep_len (a : List Nat × List Nat × List Nat) (s : Nat) : (limStep a s).1.length = a.1.length ∧ (limStep a s).2.1.length = a.2.1.length ∧ (limStep a s).2.2.length ≤ a.2.2.length + 1 := by
  unfold limStep
  split
  · simp [carry_len]
  · simp
/-- a stage as the document has it -/
def dueStep (a : List Nat × List Nat) (s : Nat) : List Nat × List Nat := if 0 < at0 a.1 s then (carry a.1 s, a.2 ++ [s]) else a
def dueWalk (c : List Nat) (w : Nat × Nat) : List Nat × List Nat := (List.range' w.1 (w.2 - w.1)).foldl dueStep (c, [])
def dueAll (a : List Nat × List (List Nat)) (w : Nat × Nat) : List Nat × List (List Nat) := ((dueWalk a.1 w).1, a.2 ++ [(dueWalk a.1 w).2])
def duePlan (c : List Nat) (ws : List (Nat × Nat)) : List (List Nat) := (ws.foldl dueAll (c, [])).2
theorem dueStep_len (a : List Nat × List Nat) (s : Nat) : (dueStep a s).1.length = a.1.length ∧ (dueStep a s).2.length ≤ a.2.length + 1 := by
  unfold dueStep
  split
  · simp [carry_len]
  · simp
/-- where no limit is met, the limits change nothing -/
theorem lim_due : ∀ (n f : Nat) (c l st : List Nat), (∀ s, f ≤ s → s < f + n → 0 < at0 l s) →
    ((List.range' f n).foldl limStep (c, l, st)).1 = ((List.range' f n).foldl dueStep (c, st)).1 ∧ ((List.range' f n).foldl limStep (c, l, st)).2.2 = ((List.range' f n).foldl dueStep (c, st)).2 ∧
    (∀ t, at0 l t ≤ at0 ((List.range' f n).foldl limStep (c, l, st)).2.1 t + 1) ∧ (∀ t, t < f → at0 l t = at0 ((List.range' f n).foldl limStep (c, l, st)).2.1 t)
  | 0, f, c, l, st, _ => ⟨rfl, rfl, fun t => Nat.le_succ _, fun t _ => rfl⟩
  | n + 1, f, c, l, st, h => by
    rw [List.range'_succ, List.foldl_cons, List.foldl_cons]
    have hf := h f (Nat.le_refl _) (by omega)
    by_cases hp : 0 < at0 c f
    · have e1 : limStep (c, l, st) f = (carry c f, l.set f (at0 l f - 1), st ++ [f]) := by simp [limStep, hp, hf]
      have e2 : dueStep (c, st) f = (carry c f, st ++ [f]) := by simp [dueStep, hp]
      have hne : ∀ t, t ≠ f → at0 (l.set f (at0 l f - 1)) t = at0 l t := fun t ht => at0_set_ne (fun e => ht e.symm)
      have hfe : at0 l f ≤ at0 (l.set f (at0 l f - 1)) f + 1 := by
        by_cases hlt : f < l.length
        · rw [at0_set hlt]; simp; omega
        · have : at0 l f = 0 := by simp [at0, List.getD, List.getElem?_eq_none (Nat.le_of_not_lt hlt)]
          omega
      obtain ⟨a, b, d, g⟩ := lim_due n (f + 1) (carry c f) (l.set f (at0 l f - 1)) (st ++ [f]) fun s h1 h2 => by
        rw [hne s (by omega)]
        exact h s (by omega) (by omega)
      rw [e1, e2]
      refine ⟨a, b, fun t => ?_, fun t ht => ?_⟩
      · by_cases e : t = f
        · subst e
          rw [← g t (by omega)]
          exact hfe
        · rw [← hne t e]
          exact d t
      · rw [← hne t (by omega)]
        exact g t (by omega)
    · have e1 : limStep (c, l, st) f = (c, l, st) := by simp [limStep, hp]
      have e2 : dueStep (c, st) f = (c, st) := by simp [dueStep, hp]
      obtain ⟨a, b, d, g⟩ := lim_due n (f + 1) c l st fun s h1 h2 => h s (by omega) (by omega)
      rw [e1, e2]
      exact ⟨a, b, d, fun t ht => g t (by omega)⟩
theorem limAll_due : ∀ (ws : List (Nat × Nat)) (c l : List Nat) (p : List (List Nat)), (∀ w ∈ ws, ∀ s, s < w.2 → ws.length ≤ at0 l s) →
    (ws.foldl limAll (c, l, p)).1 = (ws.foldl dueAll (c, p)).1 ∧ (ws.foldl limAll (c, l, p)).2.2 = (ws.foldl dueAll (c, p)).2
  | [], c, l, p, _ => ⟨rfl, rfl⟩
  | w :: ws, c, l, p, h => by
    obtain ⟨a, b, d, _⟩ := lim_due (w.2 - w.1) w.1 c l [] fun s h1 h2 => by
      have := h w (List.mem_cons_self ..) s (by omega)
      simp at this
      omega
    have e : limAll (c, l, p) w = ((dueWalk c w).1, (limWalk c l w).2.1, p ++ [(dueWalk c w).2]) := by
      unfold limAll limWalk dueWalk
      rw [a, b]
    rw [List.foldl_cons, List.foldl_cons, e]
    refine limAll_due ws (dueWalk c w).1 (limWalk c l w).2.1 (p ++ [(dueWalk c w).2]) fun v hv s hs => ?_
    have h1 := h v (List.mem_cons_of_mem _ hv) s hs
    have h2 := d s
    unfold limWalk
    simp at h1
    omega
theorem limPlan_due {c : List Nat} {ws : List (Nat × Nat)} (hw : Ways c.length ws) : limPlan c (List.replicate (c.length - 1) ws.length) ws = duePlan c ws :=
  (limAll_due ws c _ [] fun w h s hs => by
    have := (hw w h).2
    rw [at0_eq (by simp; omega)]
    simp).2

end Dl

/-! What repr writes of data fits. -/
namespace Dl
open PySem
mutual
theorem plain_nodict : ∀ d : D, d.hasDict = false → plain d = true
  | .none, _ => rfl
  | .bool _, _ => rfl
  | .int _, _ => rfl
  | .str _, _ => rfl
  | .list xs, h => plain_nodictL xs (by rw [PyData.hasDict] at h; exact h)
  | .tuple xs, h => plain_nodictL xs (by rw [PyData.hasDict] at h; exact h)
  | .dict _, h => by rw [PyData.hasDict] at h; cases h
theorem plain_nodictL : ∀ ds : List D, PyData.hasDictAll ds = false → plainL ds = true
  | [], _ => rfl
  | d :: ds, h => by
    rw [PyData.hasDictAll, Bool.or_eq_false_iff] at h
    show (plain d && plainL ds) = true
    rw [plain_nodict d h.1, plain_nodictL ds h.2]
    rfl
end
/-- data without a dict, of depth at most k, of bulk at most w -/
structure Fine (d : D) (k w : Nat) : Prop where
  a : d.showable = true
  b : d.hasDict = false
  c : d.leavesShort 13 = true
  dp : d.depth ≤ k
  bk : d.bulk ≤ w
  cl : d.canLay0 = true
theorem Fine.up {d : D} {k w k2 w2 : Nat} (h : Fine d k w) (hk : k ≤ k2) (hw : w ≤ w2) : Fine d k2 w2 := ⟨h.a, h.b, h.c, Nat.le_trans h.dp hk, Nat.le_trans h.bk hw, h.cl⟩
theorem fine_int {i : Int} (h1 : -999999999999 ≤ i) (h2 : i ≤ 999999999999) : Fine (.int i) 0 0 where
  a := by
    rw [PyData.showable, decide_eq_true_iff]
    rcases Nat.eq_zero_or_pos i.natAbs with h | h
    · rw [h]; decide
    · exact Nat.lt_trans ((Nat.log2_lt (by omega)).mpr (show i.natAbs < 2 ^ 40 by omega)) (by decide)
  b := by rw [PyData.hasDict]
  c := by
    rw [PyData.leavesShort, decide_eq_true_iff]
    exact PyData.shown_int_le2 h1 h2
  dp := by rw [PyData.depth]; exact Nat.le_refl _
  bk := by rw [PyData.bulk]; exact Nat.le_refl _
  cl := by rw [PyData.canLay0]
theorem fine_none : Fine .none 0 0 := ⟨by rw [PyData.showable], by rw [PyData.hasDict], by rw [PyData.leavesShort], by rw [PyData.depth]; exact Nat.le_refl _, by rw [PyData.bulk]; exact Nat.le_refl _, by rw [PyData.canLay0]⟩
theorem fine_bool (b : Bool) : Fine (.bool b) 0 0 := ⟨by rw [PyData.showable], by rw [PyData.hasDict], by rw [PyData.leavesShort], by rw [PyData.depth]; exact Nat.le_refl _, by rw [PyData.bulk]; exact Nat.le_refl _, by rw [PyData.canLay0]⟩
theorem fine_all : ∀ {xs : List D} {k w : Nat}, (∀ x ∈ xs, Fine x k w) → PyData.showableAll xs = true ∧ PyData.hasDictAll xs = false ∧ PyData.leavesShortAll 13 xs = true ∧ PyData.depthAll xs ≤ k ∧ PyData.bulkAll xs ≤ xs.length * (w + 1) ∧ PyData.canLayAll0 xs = true
  | [], k, w, _ => ⟨by rw [PyData.showableAll], by rw [PyData.hasDictAll], by rw [PyData.leavesShortAll], by rw [PyData.depthAll]; exact Nat.zero_le _, by rw [PyData.bulkAll]; exact Nat.zero_le _, by rw [PyData.canLayAll0]⟩
  | x :: xs, k, w, h => by
    obtain ⟨a, b, c, d, e, g⟩ := fine_all (fun y hy => h y (List.mem_cons_of_mem _ hy))
    have q := h x (List.mem_cons_self ..)
    refine ⟨by rw [PyData.showableAll, q.a, a]; rfl, by rw [PyData.hasDictAll, q.b, b]; rfl, by rw [PyData.leavesShortAll, q.c, c]; rfl, by rw [PyData.depthAll]; exact Nat.max_le.mpr ⟨q.dp, d⟩, ?_, by rw [PyData.canLayAll0, q.cl, g]; rfl⟩
    rw [PyData.bulkAll, List.length_cons, Nat.succ_mul]
    have := q.bk
    omega
theorem fine_list {xs : List D} {k w n : Nat} (h : ∀ x ∈ xs, Fine x k w) (hn : xs.length ≤ n) : Fine (.list xs) (k + 1) (n * (w + 1)) := by
  obtain ⟨a, b, c, d, e, g⟩ := fine_all h
  refine ⟨by rw [PyData.showable, a], by rw [PyData.hasDict, b], by rw [PyData.leavesShort, c], by rw [PyData.depth]; omega, ?_, by rw [PyData.canLay0, g]⟩
  rw [PyData.bulk]
  exact Nat.le_trans e (Nat.mul_le_mul_right _ hn)
theorem fine_tup {xs : List D} {k w n : Nat} (h : ∀ x ∈ xs, Fine x k w) (hn : xs.length ≤ n) : Fine (.tuple xs) (k + 1) (n * (w + 1)) := by
  obtain ⟨a, b, c, d, e, g⟩ := fine_all h
  refine ⟨by rw [PyData.showable, a], by rw [PyData.hasDict, b], by rw [PyData.leavesShort, c], by rw [PyData.depth]; omega, ?_, by rw [PyData.canLay0, g]⟩
  rw [PyData.bulk]
  exact Nat.le_trans e (Nat.mul_le_mul_right _ hn)
theorem reprOk_of {d : D} {k w : Nat} (h : Fine d k w) (hk : k ≤ 64) (hw : w ≤ 1048576) : reprOk d = true := by
  have e : (2 : Nat) ^ 20 = 1048576 := by decide
  have hz := PyData.shown_fits_bulk (by decide) (by decide) h.c (by rw [e]; exact Nat.le_trans h.bk hw)
  have h4 := h.dp
  rw [sizeLine_eq] at hz
  unfold reprOk fits
  rw [h.a, decide_eq_true (show d.depth ≤ 64 by omega), decide_eq_true hz, plain_nodict d h.b]
  rfl
theorem reprD_of {d : D} {k w : Nat} (h : Fine d k w) (hk : k ≤ 64) (hw : w ≤ 1048576) : reprD [d] = some (.str d.shown) := by
  show (if reprOk d = true then some (PyData.str d.shown) else none) = _
  rw [reprOk_of h hk hw]
  rfl
theorem shaped_of {d : D} {k w : Nat} (h : Fine d k w) (hk : k ≤ 64) : SeqAt.shaped d = true := by
  have := h.dp
  unfold SeqAt.shaped
  rw [h.cl, decide_eq_true (show d.depth ≤ 64 by omega)]
  rfl
/-! any data: what repr writes of it is short -/
structure Shw (d : D) (k w : Nat) : Prop where
  a : d.showable = true
  dp : d.depth ≤ k
  ln : d.shown.length ≤ w
  pl : plain d = true
theorem Shw.up {d : D} {k w k2 w2 : Nat} (h : Shw d k w) (hk : k ≤ k2) (hw : w ≤ w2) : Shw d k2 w2 := ⟨h.a, Nat.le_trans h.dp hk, Nat.le_trans h.ln hw, h.pl⟩
theorem shw_none : Shw .none 0 4 := ⟨by rw [PyData.showable], by rw [PyData.depth]; exact Nat.le_refl _, by rw [PyData.shown]; decide, rfl⟩
theorem shw_bool (b : Bool) : Shw (.bool b) 0 5 := ⟨by rw [PyData.showable], by rw [PyData.depth]; exact Nat.le_refl _, by rw [PyData.shown]; cases b <;> decide, rfl⟩
theorem shw_all : ∀ {xs : List D} {k w : Nat}, (∀ x ∈ xs, Shw x k w) → PyData.showableAll xs = true ∧ PyData.depthAll xs ≤ k ∧ (PyData.shownAll xs).length = xs.length ∧ (∀ t ∈ PyData.shownAll xs, t.length ≤ w) ∧ plainL xs = true
  | [], k, w, _ => ⟨by rw [PyData.showableAll], by rw [PyData.depthAll]; exact Nat.zero_le _, by rw [PyData.shownAll]; rfl, fun t h => (by rw [PyData.shownAll] at h; cases h), rfl⟩
  | x :: xs, k, w, h => by
    obtain ⟨a, d, e, g, pl⟩ := shw_all (fun y hy => h y (List.mem_cons_of_mem _ hy))
    have q := h x (List.mem_cons_self ..)
    refine ⟨by rw [PyData.showableAll, q.a, a]; rfl, by rw [PyData.depthAll]; exact Nat.max_le.mpr ⟨q.dp, d⟩, by rw [PyData.shownAll, List.length_cons, e, List.length_cons], fun t ht => ?_, by show (plain x && plainL xs) = true; rw [q.pl, pl]; rfl⟩
    rw [PyData.shownAll] at ht
    rcases List.mem_cons.mp ht with rfl | ht
    · exact q.ln
    · exact g t ht
theorem piled_le : ∀ {ts : List Str} {w : Nat}, (∀ t ∈ ts, t.length ≤ w) → piled ts ≤ ts.length * (w + 2)
  | [], w, _ => by simp [piled]
  | t :: ts, w, h => by
    have := piled_le (ts := ts) fun y hy => h y (List.mem_cons_of_mem _ hy)
    have := h t (List.mem_cons_self ..)
    rw [piled_cons, List.length_cons, Nat.succ_mul]
    omega
theorem textFrom_le : ∀ (ts : List Str) (k : Nat) (acc : Str) (w : Nat), (∀ t ∈ ts, t.length ≤ w) → (textFrom k acc ts).length ≤ acc.length + ts.length * (w + 2)
  | [], k, acc, w, _ => by unfold textFrom; simp
  | t :: ts, k, acc, w, h => by
    have h1 := textFrom_le ts (k + 1) (acc ++ (if k > 0 then ", " else "" : String) ++ t) w fun y hy => h y (List.mem_cons_of_mem _ hy)
    have h2 := h t (List.mem_cons_self ..)
    have h3 : ((if k > 0 then ", " else "" : String) : Str).length ≤ 2 := by split <;> decide
    unfold textFrom
    rw [strLen_append, strLen_append] at h1
    rw [List.length_cons, Nat.succ_mul]
    omega
theorem shw_list {xs : List D} {k w n : Nat} (h : ∀ x ∈ xs, Shw x k w) (hn : xs.length ≤ n) : Shw (.list xs) (k + 1) (n * (w + 2) + 2) := by
  obtain ⟨a, d, e, g, pl⟩ := shw_all h
  refine ⟨by rw [PyData.showable, a], by rw [PyData.depth]; omega, ?_, pl⟩
  rw [PyData.shown]
  unfold listText
  have h1 := textFrom_le (PyData.shownAll xs) 0 "[" w g
  have h2 : ((("[" : String) : Str)).length = 1 := rfl
  have h3 : ((("]" : String) : Str)).length = 1 := rfl
  have h4 := Nat.mul_le_mul_right (w + 2) hn
  rw [strLen_append, h3]
  rw [e, h2] at h1
  omega
theorem shw_tup {xs : List D} {k w n : Nat} (h : ∀ x ∈ xs, Shw x k w) (hn : xs.length ≤ n) : Shw (.tuple xs) (k + 1) (n * (w + 2) + 3) := by
  obtain ⟨a, d, e, g, pl⟩ := shw_all h
  refine ⟨by rw [PyData.showable, a], by rw [PyData.depth]; omega, ?_, pl⟩
  rw [PyData.shown]
  unfold tupleText
  have h2 : ((("(" : String) : Str)).length = 1 := rfl
  have h3 : (((if (PyData.shownAll xs).length == 1 then ",)" else ")" : String) : Str)).length ≤ 2 := by split <;> decide
  have h4 := Nat.mul_le_mul_right (w + 2) hn
  have h5 := piled_le g
  rw [e] at h5
  have h6 : (Str.join ", " (PyData.shownAll xs)).length ≤ piled (PyData.shownAll xs) := by
    by_cases hz : PyData.shownAll xs = []
    · rw [hz]; decide
    · have := join_length_add _ hz
      omega
  rw [strLen_append, strLen_append, h2]
  omega
theorem reprOk_shw {d : D} {k w : Nat} (h : Shw d k w) (hk : k ≤ 64) (hw : w ≤ 16777216) : reprOk d = true := by
  have h1 := h.dp
  have h2 := h.ln
  unfold reprOk fits
  rw [h.a, decide_eq_true (show d.depth ≤ 64 by omega), decide_eq_true (show d.shown.length ≤ 16777216 by omega), h.pl]
  rfl
theorem reprD_shw {d : D} {k w : Nat} (h : Shw d k w) (hk : k ≤ 64) (hw : w ≤ 16777216) : reprD [d] = some (.str d.shown) := by
  show (if reprOk d = true then some (PyData.str d.shown) else none) = _
  rw [reprOk_shw h hk hw]
  rfl
/-- by looking -/
theorem shw_dec {d : D} {k w : Nat} (h : (d.showable && decide (d.depth ≤ k) && decide (d.shown.length ≤ w) && plain d) = true) : Shw d k w := by
  simp only [Bool.and_eq_true, decide_eq_true_eq] at h
  exact ⟨h.1.1.1, h.1.1.2, h.1.2, h.2⟩
theorem shw_int {i : Int} (h1 : -999999999999 ≤ i) (h2 : i ≤ 999999999999) : Shw (.int i) 0 13 := by
  have f := fine_int h1 h2
  refine ⟨f.a, f.dp, ?_, rfl⟩
  rw [PyData.shown]
  exact PyData.shown_int_le2 h1 h2
/-! the shapes -/
theorem fine_nat {n : Nat} (h : n ≤ 999999999999) : Fine (natD n) 0 0 := fine_int (by omega) (by omega)
theorem fine_nats {r : List Nat} {n : Nat} (h : ∀ x ∈ r, x ≤ 999999999999) (hn : r.length ≤ n) : Fine (.tuple (r.map natD)) 1 n :=
  (fine_tup (k := 0) (w := 0) (n := n) (fun x hx => by
    obtain ⟨y, hy, rfl⟩ := List.mem_map.mp hx
    exact fine_nat (h y hy)) (by rw [List.length_map]; exact hn)).up (Nat.le_refl _) (by omega)
theorem fine_row {r : List Nat} {n : Nat} (h : ∀ x ∈ r, x ≤ 999999999999) (hn : r.length ≤ n) : Fine (rowD r) 1 n := fine_nats h hn
theorem fine_way {w : Nat × Nat} (h1 : w.1 ≤ 999999999999) (h2 : w.2 ≤ 999999999999) : Fine (wayD w) 1 2 :=
  (fine_tup (k := 0) (w := 0) (n := 2) (fun x hx => by
    simp only [List.mem_cons, List.not_mem_nil, or_false] at hx
    rcases hx with rfl | rfl
    · exact fine_nat h1
    · exact fine_nat h2) (by simp)).up (Nat.le_refl _) (by omega)
theorem fine_walk {ws : List (Nat × Nat)} {n m : Nat} (h : Ways m ws) (hm : m ≤ 999999999999) (hn : ws.length ≤ n) : Fine (walkD ws) 2 (n * 3) :=
  fine_tup (k := 1) (w := 2) (n := n) (fun x hx => by
    obtain ⟨y, hy, rfl⟩ := List.mem_map.mp hx
    have := h y hy
    exact fine_way (by omega) (by omega)) (by rw [List.length_map]; exact hn)
theorem fine_st {r : List Nat} {n : Nat} (h : ∀ x ∈ r, x ≤ 999999999999) (hn : r.length ≤ n) : Fine (stD r) 1 n := fine_nats h hn
theorem fine_plan {p : List (List Nat)} {n m : Nat} (h : ∀ st ∈ p, st.length ≤ m ∧ ∀ x ∈ st, x ≤ 999999999999) (hn : p.length ≤ n) : Fine (planD p) 2 (n * (m + 1)) :=
  fine_tup (k := 1) (w := m) (n := n) (fun x hx => by
    obtain ⟨y, hy, rfl⟩ := List.mem_map.mp hx
    exact fine_st (h y hy).2 (h y hy).1) (by rw [List.length_map]; exact hn)
theorem fine_pair {a b : D} {k w : Nat} (h1 : Fine a k w) (h2 : Fine b k w) : Fine (.list [a, b]) (k + 1) (2 * (w + 1)) :=
  fine_list (fun x hx => by
    simp only [List.mem_cons, List.not_mem_nil, or_false] at hx
    rcases hx with rfl | rfl
    · exact h1
    · exact h2) (by simp)
/-- the stages of the plan of the rule -/
theorem dueWalk_st : ∀ (n f : Nat) (c st : List Nat), (∀ x ∈ ((List.range' f n).foldl dueStep (c, st)).2, x ∈ st ∨ (f ≤ x ∧ x < f + n)) ∧ ((List.range' f n).foldl dueStep (c, st)).2.length ≤ st.length + n
  | 0, f, c, st => ⟨fun x hx => .inl hx, Nat.le_refl _⟩
  | n + 1, f, c, st => by
    rw [List.range'_succ, List.foldl_cons]
    by_cases hp : 0 < at0 c f
    · have e : dueStep (c, st) f = (carry c f, st ++ [f]) := by simp [dueStep, hp]
      rw [e]
      obtain ⟨a, b⟩ := dueWalk_st n (f + 1) (carry c f) (st ++ [f])
      refine ⟨fun x hx => ?_, by simp at b; omega⟩
      rcases a x hx with h | h
      · rcases List.mem_append.mp h with h | h
        · exact .inl h
        · have : x = f := by simpa using h
          exact .inr (by omega)
      · exact .inr (by omega)
    · have e : dueStep (c, st) f = (c, st) := by simp [dueStep, hp]
      rw [e]
      obtain ⟨a, b⟩ := dueWalk_st n (f + 1) c st
      refine ⟨fun x hx => ?_, by omega⟩
      rcases a x hx with h | h
      · exact .inl h
      · exact .inr (by omega)
theorem duePlan_all : ∀ (ws : List (Nat × Nat)) (c : List Nat) (p : List (List Nat)) (n : Nat), Ways n ws → (∀ st ∈ p, st.length ≤ n ∧ ∀ x ∈ st, x < n) →
    (∀ st ∈ (ws.foldl dueAll (c, p)).2, st.length ≤ n ∧ ∀ x ∈ st, x < n) ∧ (ws.foldl dueAll (c, p)).2.length = p.length + ws.length
  | [], c, p, n, _, h => ⟨h, rfl⟩
  | w :: ws, c, p, n, hw, h => by
    have hw0 := hw w (List.mem_cons_self ..)
    rw [List.foldl_cons]
    obtain ⟨a, b⟩ := dueWalk_st (w.2 - w.1) w.1 c []
    obtain ⟨i, j⟩ := duePlan_all ws (dueWalk c w).1 (p ++ [(dueWalk c w).2]) n (fun v hv => hw v (List.mem_cons_of_mem _ hv)) fun st hst => by
      rcases List.mem_append.mp hst with hh | hh
      · exact h st hh
      · have e : st = (dueWalk c w).2 := by simpa using hh
        subst e
        refine ⟨Nat.le_trans b (by simp; omega), fun x hx => ?_⟩
        rcases a x hx with q | q
        · cases q
        · omega
    exact ⟨i, by
      have e : dueAll (c, p) w = ((dueWalk c w).1, p ++ [(dueWalk c w).2]) := rfl
      rw [e, j]
      simp
      omega⟩
theorem duePlan_fine {c : List Nat} {ws : List (Nat × Nat)} {n m : Nat} (hw : Ways n ws) (hn : n ≤ 999999999999) (hm : ws.length ≤ m) : Fine (planD (duePlan c ws)) 2 (m * (n + 1)) := by
  obtain ⟨a, b⟩ := duePlan_all ws c [] n hw (fun st h => by cases h)
  refine fine_plan (fun st hst => ⟨(a st hst).1, fun x hx => ?_⟩) ?_
  · have := (a st hst).2 x hx
    omega
  · unfold duePlan
    rw [b]
    simpa using hm
end Dl

/-! Plans that are carried out; counting. -/
namespace Dl
open PySem
theorem forL_nx {b : Pt} {g : Bd} {x : D} {xs : List D} {s s1 s2 : S} (h1 : b x s = some s1) (h2 : g s1 = some (.nx s2)) : forL b g (x :: xs) s = forL b g xs s2 := by
  show (match b x s with | none => none | some s1 => match g s1 with | none => none | some (.nx s2) => forL b g xs s2 | some (.ct s2) => forL b g xs s2 | some (.bk s2) => some (.nx s2) | some (.rt d s2) => some (.rt d s2) | some (.ex x s2) => some (.ex x s2)) = _
  rw [h1]; dsimp only; rw [h2]
theorem forL_rt {b : Pt} {g : Bd} {x d : D} {xs : List D} {s s1 s2 : S} (h1 : b x s = some s1) (h2 : g s1 = some (.rt d s2)) : forL b g (x :: xs) s = some (.rt d s2) := by
  show (match b x s with | none => none | some s1 => match g s1 with | none => none | some (.nx s2) => forL b g xs s2 | some (.ct s2) => forL b g xs s2 | some (.bk s2) => some (.nx s2) | some (.rt d s2) => some (.rt d s2) | some (.ex x s2) => some (.ex x s2)) = _
  rw [h1]; dsimp only; rw [h2]
theorem forL_nil {b : Pt} {g : Bd} {s : S} : forL b g [] s = some (.nx s) := rfl
/-- a comprehension with a condition, the state as it was -/
theorem lcL_fil {β : Type} (p : β → Bool) (f : β → D) (toD : β → D) {b : Pt} {t : Tx} {e : Ex} {vs : List Nat} (s : S) : ∀ (items : List β) (acc : List D),
    (∀ x ∈ items, ∃ s1 s2, b (toD x) s = some s1 ∧ t s1 = some (p x, s2) ∧ (p x = false → wipeS s2 vs = s) ∧ (p x = true → ∃ s3, e s2 = some (f x, s3) ∧ wipeS s3 vs = s)) →
    acc.length + items.length < 16777216 → lcL b t e vs (items.map toD) acc s = some (acc ++ (items.filter p).map f, s)
  | [], acc, _, _ => by simp [lcL]
  | x :: xs, acc, h, hl => by
    obtain ⟨s1, s2, h1, h2, h3, h4⟩ := h x (List.mem_cons_self ..)
    simp only [List.map_cons]
    unfold lcL
    rw [h1]; dsimp only; rw [h2]
    cases hp : p x with
    | false =>
      dsimp only
      rw [h3 hp, lcL_fil p f toD s xs acc (fun y hy => h y (List.mem_cons_of_mem _ hy)) (by simp at hl ⊢; omega), List.filter_cons_of_neg (by simp [hp])]
    | true =>
      obtain ⟨s3, h5, h6⟩ := h4 hp
      dsimp only; rw [h5]; dsimp only
      rw [if_pos (by simp [sm]; simp at hl; omega), h6, lcL_fil p f toD s xs (acc ++ [f x]) (fun y hy => h y (List.mem_cons_of_mem _ hy)) (by simp at hl ⊢; omega), List.filter_cons_of_pos hp]
      simp
/-- .. where nothing is left out -/
theorem lcL_mapM {β : Type} (f : β → D) (toD : β → D) {b : Pt} {t : Tx} {e : Ex} {vs : List Nat} (s : S) (items : List β) (acc : List D)
    (h : ∀ x ∈ items, ∃ s1 s2 s3, b (toD x) s = some s1 ∧ t s1 = some (true, s2) ∧ e s2 = some (f x, s3) ∧ wipeS s3 vs = s)
    (hl : acc.length + items.length < 16777216) : lcL b t e vs (items.map toD) acc s = some (acc ++ items.map f, s) := by
  have := lcL_fil (fun _ => true) f toD (b := b) (t := t) (e := e) (vs := vs) s items acc (fun x hx => by
    obtain ⟨s1, s2, s3, a1, a2, a3, a4⟩ := h x hx
    exact ⟨s1, s2, a1, a2, (fun h => by cases h), fun _ => ⟨s3, a3, a4⟩⟩) hl
  rwa [List.filter_eq_self.mpr (fun _ _ => rfl)] at this
/-! being in a tuple of numbers -/
theorem eqv_int (a b : Int) : PyData.eqv (.int a) (.int b) = (a == b) := by simp [PyData.eqv]
theorem in_tup {st : List Nat} {s : Int} : inD (.int s) (.tuple (st.map natD)) = some (.bool (st.any fun x => (x : Int) == s)) := by
  have e1 := shapedI s
  have e2 : SeqAt.shaped (.tuple (st.map natD)) = true := by
    have h : ∀ x ∈ st.map natD, PyData.canLay0 x = true ∧ x.depth = 0 := fun x hx => by
      obtain ⟨y, _, rfl⟩ := List.mem_map.mp hx
      exact ⟨by rw [PyData.canLay0], by rw [PyData.depth]⟩
    have h2 : ∀ xs : List D, (∀ x ∈ xs, PyData.canLay0 x = true ∧ x.depth = 0) → PyData.canLayAll0 xs = true ∧ PyData.depthAll xs = 0 := by
      intro xs
      induction xs with
      | nil => intro _; exact ⟨by rw [PyData.canLayAll0], by rw [PyData.depthAll]⟩
      | cons x xs ih =>
        intro h
        obtain ⟨a, b⟩ := ih fun y hy => h y (List.mem_cons_of_mem _ hy)
        obtain ⟨c, d⟩ := h x (List.mem_cons_self ..)
        exact ⟨by rw [PyData.canLayAll0, c, a]; rfl, by rw [PyData.depthAll, b, d]; rfl⟩
    obtain ⟨a, b⟩ := h2 _ h
    unfold SeqAt.shaped
    rw [PyData.canLay0, a, PyData.depth, b]
    rfl
  show (if SeqAt.shaped (.int s) && SeqAt.shaped (.tuple (st.map natD)) then some (PyData.bool ((st.map natD).any fun z => PyData.eqv z (.int s))) else none) = _
  rw [e1, e2, List.any_map]
  have : ((fun z => PyData.eqv z (.int s)) ∘ natD) = fun (x : Nat) => (x : Int) == s := by
    funext x
    exact eqv_int _ _
  rw [this]
  rfl
/-! carrying out -/
def runSt : List Nat → List Nat → Option (List Nat)
  | c, [] => some c
  | c, s :: st => if 0 < at0 c s then runSt (carry c s) st else none
def runPlan : List Nat → List (List Nat) → Option (List Nat)
  | c, [] => some c
  | c, st :: p => (runSt c st).bind fun c1 => runPlan c1 p
theorem runSt_app : ∀ (st : List Nat) (c : List Nat) (x : Nat), runSt c (st ++ [x]) = (runSt c st).bind fun c1 => if 0 < at0 c1 x then some (carry c1 x) else none
  | [], c, x => by simp [runSt]
  | s :: st, c, x => by
    simp only [List.cons_append, runSt]
    by_cases h : 0 < at0 c s
    · rw [if_pos h, if_pos h, runSt_app st]
    · rw [if_neg h, if_neg h]; rfl
theorem runPlan_app : ∀ (p : List (List Nat)) (c : List Nat) (st : List Nat), runPlan c (p ++ [st]) = (runPlan c p).bind fun c1 => runSt c1 st
  | [], c, st => by
    simp only [List.nil_append, runPlan, Option.bind_some]
    cases runSt c st <;> rfl
  | q :: p, c, st => by
    simp only [List.cons_append, runPlan]
    cases runSt c q with
    | none => rfl
    | some c1 => exact runPlan_app p c1 st
theorem runSt_len : ∀ (st : List Nat) {c c' : List Nat}, runSt c st = some c' → c'.length = c.length
  | [], c, c', h => by cases h; rfl
  | s :: st, c, c', h => by
    unfold runSt at h
    split at h
    · rw [runSt_len st h, carry_len]
    · cases h
theorem runPlan_len : ∀ (p : List (List Nat)) {c c' : List Nat}, runPlan c p = some c' → c'.length = c.length
  | [], c, c', h => by cases h; rfl
  | st :: p, c, c', h => by
    unfold runPlan at h
    cases h1 : runSt c st with
    | none => rw [h1] at h; cases h
    | some c1 =>
      rw [h1] at h
      rw [runPlan_len p h, runSt_len st h1]
def one (b : Bool) : Int := if b then 1 else 0
def has (s : Int) (st : List Nat) : Bool := st.any fun x => (x : Int) == s
theorem at0_carry {c : List Nat} {x s : Nat} (hx : x + 1 < c.length) (hp : 0 < at0 c x) (hs : s < c.length) : (at0 (carry c x) s : Int) = at0 c s - one (x == s) + one (x + 1 == s) := by
  unfold carry one
  rw [at0_set (by simpa using hs)]
  by_cases e1 : x + 1 = s
  · have e0 : ¬ x = s := by omega
    subst e1
    simp
  · rw [if_neg e1, at0_set hs]
    by_cases e2 : x = s
    · subst e2
      simp
      omega
    · simp [e1, e2]
theorem has_cons (s : Int) (x : Nat) (st : List Nat) : has s (x :: st) = ((x : Int) == s || has s st) := rfl
theorem has_none {s : Int} {st : List Nat} (h : ∀ x ∈ st, (x : Int) ≠ s) : has s st = false := by
  unfold has
  rw [List.any_eq_false]
  intro x hx
  simpa using h x hx
theorem flowSt : ∀ (st : List Nat) {c c' : List Nat}, runSt c st = some c' → st.Pairwise (· < ·) → (∀ x ∈ st, x + 1 < c.length) → ∀ s, s < c.length → (at0 c' s : Int) = at0 c s - one (has s st) + one (has ((s : Int) - 1) st)
  | [], c, c', h, _, _, s, _ => by
    cases h
    simp [has, one]
  | x :: st, c, c', h, hp, hb, s, hs => by
    unfold runSt at h
    split at h
    · rename_i h0
      have hx := hb x (List.mem_cons_self ..)
      have hp1 := List.pairwise_cons.mp hp
      have ih := flowSt st h hp1.2 (fun y hy => by rw [carry_len]; exact hb y (List.mem_cons_of_mem _ hy)) s (by rw [carry_len]; exact hs)
      rw [ih, at0_carry hx h0 hs, has_cons, has_cons]
      have k1 : (x == s) = ((x : Int) == (s : Int)) := by
        rw [Bool.eq_iff_iff, beq_iff_eq, beq_iff_eq]; omega
      have k2 : (x + 1 == s) = ((x : Int) == (s : Int) - 1) := by
        rw [Bool.eq_iff_iff, beq_iff_eq, beq_iff_eq]; omega
      rw [k1, k2]
      have n1 : ((x : Int) == (s : Int)) = true → has s st = false := fun q => has_none fun y hy => by
        have := hp1.1 y hy
        have q : (x : Int) = s := by simpa using q
        omega
      have n2 : ((x : Int) == (s : Int) - 1) = true → has ((s : Int) - 1) st = false := fun q => has_none fun y hy => by
        have := hp1.1 y hy
        have q : (x : Int) = (s : Int) - 1 := by simpa using q
        omega
      generalize ((x : Int) == (s : Int)) = b1 at *
      generalize ((x : Int) == (s : Int) - 1) = b2 at *
      generalize has s st = b3 at *
      generalize has ((s : Int) - 1) st = b4 at *
      cases b1 <;> cases b2 <;> cases b3 <;> cases b4 <;> simp [one] at * <;> omega
    · cases h
/-- how many of the walkers carry over it -/
def cnt (s : Int) (p : List (List Nat)) : Nat := (p.filter (has s)).length
def Tidy (n : Nat) (p : List (List Nat)) : Prop := ∀ st ∈ p, st.Pairwise (· < ·) ∧ ∀ x ∈ st, x + 1 < n
theorem cnt_cons (s : Int) (st : List Nat) (p : List (List Nat)) : (cnt s (st :: p) : Int) = one (has s st) + cnt s p := by
  unfold cnt one
  cases h : has s st
  · rw [List.filter_cons_of_neg (by simp [h])]; simp
  · rw [List.filter_cons_of_pos h]; simp; omega
theorem flowPlan : ∀ (p : List (List Nat)) {c c' : List Nat}, runPlan c p = some c' → Tidy c.length p → ∀ s, s < c.length → (at0 c' s : Int) = at0 c s - cnt s p + cnt ((s : Int) - 1) p
  | [], c, c', h, _, s, _ => by
    cases h
    simp [cnt]
  | st :: p, c, c', h, ht, s, hs => by
    unfold runPlan at h
    cases h1 : runSt c st with
    | none => rw [h1] at h; cases h
    | some c1 =>
      rw [h1] at h
      have hl := runSt_len st h1
      obtain ⟨a, b⟩ := ht st (List.mem_cons_self ..)
      have f1 := flowSt st h1 a b s hs
      have f2 := flowPlan p h (by rw [hl]; exact fun q hq => ht q (List.mem_cons_of_mem _ hq)) s (by rw [hl]; exact hs)
      rw [f2, f1, cnt_cons, cnt_cons]
      omega
theorem cnt_le (s : Int) (p : List (List Nat)) : cnt s p ≤ p.length := List.length_filter_le _ _
theorem at0_mem {c : List Nat} {h : Nat} (hc : ∀ x ∈ c, x ≤ h) (s : Nat) : at0 c s ≤ h := by
  unfold at0 List.getD
  cases e : c[s]? with
  | none => exact Nat.zero_le _
  | some v => exact hc v (List.mem_of_getElem? e)
theorem run_le {p : List (List Nat)} {c c' : List Nat} {h : Nat} (hr : runPlan c p = some c') (ht : Tidy c.length p) (hc : ∀ x ∈ c, x ≤ h) : ∀ x ∈ c', x ≤ h + p.length := fun x hx => by
  obtain ⟨s, hs, rfl⟩ := List.getElem_of_mem hx
  have hl := runPlan_len p hr
  have f := flowPlan p hr ht s (by omega)
  rw [at0_eq hs] at f
  have a := at0_mem hc s
  have b := cnt_le ((s : Int) - 1) p
  omega
/-! lists side by side -/
def All2 {α β : Type} (R : α → β → Prop) : List α → List β → Prop
  | [], [] => True
  | a :: as, b :: bs => R a b ∧ All2 R as bs
  | _, _ => False
theorem All2.app {α β : Type} {R : α → β → Prop} : ∀ {as : List α} {bs : List β} {a : α} {b : β}, All2 R as bs → R a b → All2 R (as ++ [a]) (bs ++ [b])
  | [], [], _, _, _, h => ⟨h, trivial⟩
  | _ :: _, _ :: _, _, _, h1, h => ⟨h1.1, h1.2.app h⟩
  | [], _ :: _, _, _, h1, _ => h1.elim
  | _ :: _, [], _, _, h1, _ => h1.elim
theorem All2.len {α β : Type} {R : α → β → Prop} : ∀ {as : List α} {bs : List β}, All2 R as bs → as.length = bs.length
  | [], [], _ => rfl
  | _ :: _, _ :: _, h => by rw [List.length_cons, List.length_cons, h.2.len]
  | [], _ :: _, h => h.elim
  | _ :: _, [], h => h.elim
theorem All2.right {α β : Type} {R : α → β → Prop} : ∀ {as : List α} {bs : List β}, All2 R as bs → ∀ b ∈ bs, ∃ a ∈ as, R a b
  | [], [], _, b, hb => by cases hb
  | a :: as, b' :: bs, h, b, hb => by
    rcases List.mem_cons.mp hb with rfl | hb
    · exact ⟨a, List.mem_cons_self .., h.1⟩
    · obtain ⟨x, hx, q⟩ := h.2.right b hb
      exact ⟨x, List.mem_cons_of_mem _ hx, q⟩
  | [], _ :: _, h, _, _ => h.elim
  | _ :: _, [], h, _, _ => h.elim
theorem take_step {α : Type} {xs : List α} {j : Nat} {x : α} (h : xs[j]? = some x) : xs.take (j + 1) = xs.take j ++ [x] := by
  rw [List.take_succ, h]
  rfl
/-- stages of a walker's own way, ascending -/
def OwnSt (w : Nat × Nat) (st : List Nat) : Prop := st.Pairwise (· < ·) ∧ ∀ x ∈ st, w.1 ≤ x ∧ x < w.2
theorem tidy_of {n : Nat} {ws : List (Nat × Nat)} {p : List (List Nat)} (hw : Ways n ws) (h : All2 OwnSt ws p) : Tidy n p := fun st hst => by
  obtain ⟨w, hw1, a, b⟩ := h.right st hst
  refine ⟨a, fun x hx => ?_⟩
  have := b x hx
  have := hw w hw1
  omega
theorem pair_len : ∀ {st : List Nat} {a b : Nat}, st.Pairwise (· < ·) → (∀ x ∈ st, a ≤ x ∧ x < b) → st.length ≤ b - a
  | [], _, _, _, _ => Nat.zero_le _
  | x :: st, a, b, hp, h => by
    have hp1 := List.pairwise_cons.mp hp
    have h0 := h x (List.mem_cons_self ..)
    have ih := pair_len (a := x + 1) (b := b) hp1.2 fun y hy => by
      have := hp1.1 y hy
      have := h y (List.mem_cons_of_mem _ hy)
      omega
    rw [List.length_cons]
    omega
theorem tidy_fine {p : List (List Nat)} {n m : Nat} (h : Tidy n p) (hn : n ≤ 999999999999) (hm : p.length ≤ m) : Fine (planD p) 2 (m * (n + 1)) := fine_plan (fun st hst => by
  obtain ⟨a, b⟩ := h st hst
  refine ⟨?_, fun x hx => by have := b x hx; omega⟩
  have := pair_len (a := 0) (b := n) a fun x hx => by have := b x hx; omega
  omega) hm
end Dl

/-! The data layer, part 13: sums, greatest and least items, ranges downward, lists reversed and sorted. -/
namespace Dl
open PySem PySem.Spec L2
/-- numbers alone -/
def intsOf : List D → Option (List Int)
  | [] => some []
  | .int i :: ds => (intsOf ds).map (i :: ·)
  | _ :: _ => none
theorem intsOf_map : ∀ ns : List Int, intsOf (ns.map .int) = some ns
  | [] => rfl
  | n :: ns => by
    show (intsOf (ns.map .int)).map (n :: ·) = _
    rw [intsOf_map ns]
    rfl
theorem ints_rp {K : PySem.W.Frag} {F : Fz} : ∀ {vs : List V} {ds : List D} {ns : List Int}, RpL K F vs ds → intsOf ds = some ns → vs = ns.map V.int
  | _, _, ns, .nil, h => by
    cases h
    rfl
  | _, _, ns, .cons (d := d) r rs, h => by
    cases r with
    | int i =>
      rename_i vs ds
      have h' : (intsOf ds).map (i :: ·) = some ns := h
      obtain ⟨ms, h1, rfl⟩ := Option.map_eq_some_iff.mp h'
      rw [ints_rp rs h1]
      rfl
    | _ => cases h
theorem rp_ints {K : PySem.W.Frag} {F : Fz} : ∀ ns : List Int, RpL K F (ns.map V.int) (ns.map .int)
  | [] => .nil
  | n :: ns => .cons (.int n) (rp_ints ns)
def sumD : List D → Option D
  | [.list ds] => (intsOf ds).map fun ns => .int ns.sum
  | [.tuple ds] => (intsOf ds).map fun ns => .int ns.sum
  | _ => none
def maxZ : Int → List Int → Int
  | m, [] => m
  | m, n :: ns => maxZ (if n > m then n else m) ns
def minZ : Int → List Int → Int
  | m, [] => m
  | m, n :: ns => minZ (if n < m then n else m) ns
theorem maxZ_ok : ∀ (ns : List Int) (m : Int), (maxZ m ns = m ∨ maxZ m ns ∈ ns) ∧ m ≤ maxZ m ns ∧ ∀ y ∈ ns, y ≤ maxZ m ns
  | [], m => ⟨.inl rfl, Int.le_refl _, fun y h => by cases h⟩
  | n :: ns, m => by
    unfold maxZ
    by_cases h : n > m
    · rw [if_pos h]
      obtain ⟨a, b, c⟩ := maxZ_ok ns n
      refine ⟨.inr ?_, by omega, fun y hy => ?_⟩
      · rcases a with a | a
        · rw [a]; exact List.mem_cons_self ..
        · exact List.mem_cons_of_mem _ a
      · rcases List.mem_cons.mp hy with rfl | hy
        · exact b
        · exact c y hy
    · rw [if_neg h]
      obtain ⟨a, b, c⟩ := maxZ_ok ns m
      refine ⟨?_, b, fun y hy => ?_⟩
      · rcases a with a | a
        · exact .inl a
        · exact .inr (List.mem_cons_of_mem _ a)
      · rcases List.mem_cons.mp hy with rfl | hy
        · omega
        · exact c y hy
theorem minZ_ok : ∀ (ns : List Int) (m : Int), (minZ m ns = m ∨ minZ m ns ∈ ns) ∧ minZ m ns ≤ m ∧ ∀ y ∈ ns, minZ m ns ≤ y
  | [], m => ⟨.inl rfl, Int.le_refl _, fun y h => by cases h⟩
  | n :: ns, m => by
    unfold minZ
    by_cases h : n < m
    · rw [if_pos h]
      obtain ⟨a, b, c⟩ := minZ_ok ns n
      refine ⟨.inr ?_, by omega, fun y hy => ?_⟩
      · rcases a with a | a
        · rw [a]; exact List.mem_cons_self ..
        · exact List.mem_cons_of_mem _ a
      · rcases List.mem_cons.mp hy with rfl | hy
        · exact b
        · exact c y hy
    · rw [if_neg h]
      obtain ⟨a, b, c⟩ := minZ_ok ns m
      refine ⟨?_, b, fun y hy => ?_⟩
      · rcases a with a | a
        · exact .inl a
        · exact .inr (List.mem_cons_of_mem _ a)
      · rcases List.mem_cons.mp hy with rfl | hy
        · omega
        · exact c y hy
def maxD : List D → Option D
  | [.list ds] => (match intsOf ds with
    | some (n :: ns) => some (.int (maxZ n ns))
    | _ => none)
  | [.tuple ds] => (match intsOf ds with
    | some (n :: ns) => some (.int (maxZ n ns))
    | _ => none)
  | _ => none
def minD : List D → Option D
  | [.list ds] => (match intsOf ds with
    | some (n :: ns) => some (.int (minZ n ns))
    | _ => none)
  | [.tuple ds] => (match intsOf ds with
    | some (n :: ns) => some (.int (minZ n ns))
    | _ => none)
  | _ => none
/-! ranges downward -/
def rgC (lo c : Int) (n : Nat) : List D := (List.range n).map fun k => .int (lo + (k : Nat) * c)
noncomputable def iRange3 (a : Ax) : Ax := fun s => match a s with
  | some ([.int i, .int j, .int c], s1) => if inR i && inR j && decide (c = -1) then some (rgC i (-1) (i - j).toNat, s1) else none
  | _ => none
section
variable {X : Cx} {C : Ct} {tg e : Expr} {fe : Ex} {fr : Ax}
theorem rgC_len (lo c : Int) (n : Nat) : (rgC lo c n).length = n := by simp [rgC]
theorem walkD_rangeC {K : PySem.W.Frag} {F : Fz} {lo c : Int} {n : Nat} : WalkD K (Itc lo c n) (rgC lo c n) F where
  goes := fun i H F' hi _ _ => walk_rangeC.goes i H (by rw [rgC_len] at hi; exact hi) trivial
  stops := fun H F' _ _ => by rw [rgC_len]; exact walk_rangeC.stops H trivial
  yields := fun i H x H' F' hi s1 s2 y => by
    rw [rgC_len] at hi
    obtain ⟨e1, e2⟩ := walk_rangeC.yields i H x H' hi trivial y
    subst e1 e2
    exact ⟨F', .int (lo + i * c), by simp [rgC, hi], .refl s2, .int _⟩
theorem di_range3 {a b c : Expr} {p pos : Pos} (hg : Gl X "range") (hm : X.mg "range" = none) (ha : PA X [a, b, c] (tA X.K C fr))
    (hs : starEach [a, b, c] X.env = (false, eval a X.env) :: starEach [b, c] X.env := by rfl) (hpl : (backTo pos (starEach [b, c] X.env)).any (·.1) = false := by rfl) :
    PI X tg (.Call (.Name "range" p) [a, b, c] [] pos) (tI X.K C (iRange3 fr)) := pi_imp (pi_range3 hg hm ha hs hpl) fun σ H R ⟨F, s, d, s', w, e, q⟩ => by
  unfold iRange3 at e
  split at e
  · rename_i i j k s1 ea
    split at e
    · rename_i hj
      cases e
      simp only [Bool.and_eq_true, decide_eq_true_eq] at hj
      obtain ⟨⟨h1, h2⟩, rfl⟩ := hj
      refine tA_run w ea fun vs F1 H1 m1 w1 r1 => ?_
      cases r1 with
      | cons r0 rn =>
        cases rn with
        | cons r2 rn =>
          cases rn with
          | cons r3 rn =>
            cases rn
            cases r0
            cases r2
            cases r3
            exact ⟨i, j, -1, (i - j).toNat, rfl, RgC.neg (inR_ok h1).1 (inR_ok h1).2 (inR_ok h2).1 (inR_ok h2).2, q _ F1 H1 m1 w1 walkD_rangeC⟩
    · cases e
  · cases e
/-! xs[::-1] of a list -/
def revD : D → Option D
  | .list ds => some (.list ds.reverse)
  | _ => none
theorem de_rev {k : Nat} {p1 p2 p3 pos : Pos} (he : PE X e (tD X.K C fe)) : PE X (.Subscript e (.Slice none none (some (.UnaryOp .USub (.Constant (.int 1) k p1) p2)) p3) pos) (tD X.K C (dUn revD fe)) := pe_imp (pe_revL he) fun σ H Q ⟨F, s, d, s', w, ee, q⟩ => by
  unfold dUn at ee
  split at ee
  · cases ee
  rename_i x s1 ea
  split at ee
  · cases ee
  rename_i r hr
  cases ee
  refine tD_run w ea fun v F1 H1 m1 w1 r1 => ?_
  unfold revD at hr
  split at hr
  · cases hr
    cases r1 with
    | @lst a xs ds hs rs =>
      refine ⟨_, _, rfl, .inl (.inl (w1.into _ _ hs)), fun p hp => ?_⟩
      have gr := grow_new (o := .lst xs.reverse) w1.into hp
      exact q _ _ _ (m1.trans (.grow gr)) (w1.grow gr) (rp_updL w1.into hp rs.rev)
  · cases hr
end
end Dl

/-! The data layer, part 14: enumerate. -/
namespace PySem
open Sem (wp)
open AutoSeq1 (wpAny_loadPart')
set_option maxHeartbeats 1000000 in
theorem meets_enum1 {v : Value} {ob : Obj} {Hh : Heap → Prop} (Bg : Begins v ob Hh) :
    Meets (Builtin.«enumerate.__new__» ⟨[.type "enumerate", v], []⟩) (fun _ R s => Hh s.heap ∧
      R (.ok (.ret (.ref (s.heap.push ob).objs.size))) { s with heap := (s.heap.push ob).push { cls := .type "enumerate", data := .fields #[.none, .bool false, .ref s.heap.objs.size, rawInt 0, .none, .none] } }) :=
  .of_wp fun prg wd Ar R st hyp => by
    obtain ⟨hep, gen, dr, tok, sys⟩ := st
    obtain ⟨hyp1, hyp2⟩ := hyp
    have hsub := sub_enumerate
    have step : ∀ {A' : Around} {E : Value → Shared → Prop} {Q : Value → Shared → Prop}, Q (.ref hep.objs.size) ⟨hep.push ob, gen, dr, tok, sys⟩ → wpAny (model prg wd) A' (pyIter v) Q E ⟨hep, gen, dr, tok, sys⟩ :=
      fun q => Bg.iter prg wd _ _ ⟨hep, gen, dr, tok, sys⟩ _ hyp1 q
    wp_walk using step
    refine wpAny_stack_any fun stk => wpAny_pure ?_
    split
    · rename_i cls0 _ _ _ _ _
      cases (cls0 == Value.type "enumerate")
      · wp_walk using step
        exact ⟨_, rfl, hyp2⟩
      · wp_walk using step
        exact ⟨_, rfl, hyp2⟩
    · wp_walk using step
      exact ⟨_, rfl, hyp2⟩
theorem call_enum1 {prog : Program} {w : World} {A : Around} {E : Value → Shared → Prop} {s : Shared} {v : Value} {ob : Obj} {Hh : Heap → Prop} {Q : Value → Shared → Prop} (Bg : Begins v ob Hh) (h1 : Hh s.heap)
    (h : ∀ h', IsEnum h' (s.heap.objs.size + 1) s.heap.objs.size 0 .none → h'.get? s.heap.objs.size = some ob → (∀ b o, s.heap.get? b = some o → h'.get? b = some o) → Q (.ref (s.heap.objs.size + 1)) { s with heap := h' }) :
    wpAny (model prog w) A (call (.type "enumerate") [v]) Q E s := by
  refine callType_new F.called_enumerate (by decide) (F.typeCall_enumerate_1 _) (F.newCall_enumerate_1 _) (fun obj => F.args_object_init_2 obj _) F.entry_enumerate_new (meets_enum1 Bg) ⟨h1, ?_⟩
  have size1 : (s.heap.push ob).objs.size = s.heap.objs.size + 1 := Heap.size_push ..
  show _ ∧ _
  rw [size1]
  have isE : IsEnum ((s.heap.push ob).push { cls := .type "enumerate", data := .fields #[.none, .bool false, .ref s.heap.objs.size, rawInt 0, .none, .none] }) (s.heap.objs.size + 1) s.heap.objs.size 0 .none := by
    have q := Heap.get?_push_size (s.heap.push ob) (o := { cls := .type "enumerate", data := .fields #[.none, .bool false, .ref s.heap.objs.size, rawInt 0, .none, .none] }) rfl
    rw [size1] at q
    exact q
  exact ⟨⟨_, isE, rfl⟩, h _ isE (Heap.get?_push_of_some _ (Heap.get?_push_size _ Bg.free)) fun b o x => Heap.get?_push_of_some _ (Heap.get?_push_of_some _ x)⟩
end PySem
namespace Dl
open PySem PySem.Spec L2 PyProof.Rows
/-! a list or a tuple that is walked by an iterator of its own -/
def SqK (k : Bool) (K : PySem.W.Frag) (H : Hp) (a : Addr) (xs : List V) : Prop := match k with
  | true => SqL K H a xs
  | false => SqT K H a xs
def HasK (k : Bool) (h : Heap) (a : Addr) (items : Array Value) : Prop := match k with
  | true => h.IsList a items
  | false => h.IsTuple a items
def AtK (k : Bool) (h : Heap) (it a : Addr) (i : Nat) : Prop := match k with
  | true => h.IsListIter it a i
  | false => h.IsTupleIter it a i
def objK (k : Bool) (a : Addr) : Obj := { cls := .type (match k with | true => "list_iterator" | false => "tuple_iterator"), data := .fields #[.ref a, .int 0 0] }
/-- a list or a tuple that no longer changes -/
def SqFK (k : Bool) (F : Fz) (a : Addr) (xs : List V) : Prop := match k with
  | true => F a = some (.obj (.lst xs))
  | false => KnF F a xs
theorem SqFK.up {k : Bool} {F F' : Fz} {a : Addr} {xs : List V} (h : SqFK k F a xs) (e : Sub F F') : SqFK k F' a xs := by
  cases k
  · exact KnF.up e h
  · exact e _ _ h
theorem SqFK.sq {k : Bool} {K : PySem.W.Frag} {F : Fz} {H : Hp} {a : Addr} {xs : List V} (h : SqFK k F a xs) (e : Into F H) : SqK k K H a xs := by
  cases k
  · exact KnF.sq e h
  · exact .inl (.inl (e.obj _ _ h))
section
variable {X : Cx} {pins : List (Addr × Obj)} {σ : L2.St} {H : Hp} {s : Shared}
theorem sqK_items {k : Bool} {a : Addr} {xs : List V} (I : Inv X pins σ H s) (h : SqK k X.K H a xs) : ∃ its : List Value, Vals xs its ∧ HasK k s.heap a its.toArray := by
  cases k
  · obtain ⟨its, r, p, _⟩ := I.tuple h
    exact ⟨its, r, p⟩
  · obtain ⟨its, r, p, _⟩ := I.list h
    exact ⟨its, r, p.isList⟩
theorem sqK_inj {k : Bool} {a : Addr} {xs ys : List V} (I : Inv X pins σ H s) (h : SqK k X.K H a xs) (h' : SqK k X.K H a ys) : xs = ys := by
  cases k
  · exact I.tuple_inj h h'
  · exact I.list_inj h h'
end
theorem atK_at {k : Bool} {h h' : Heap} {it a : Addr} {i : Nat} (x : AtK k h it a i) (e : ∀ o, h.get? it = some o → h'.get? it = some o) : AtK k h' it a i := by
  cases k
  · obtain ⟨o, ho, r⟩ := x
    exact ⟨o, e o ho, r⟩
  · obtain ⟨o, ho, r⟩ := x
    exact ⟨o, e o ho, r⟩
theorem atK_obj {k : Bool} {h : Heap} {it a : Addr} {i : Nat} (x : AtK k h it a i) : ∃ o, h.get? it = some o ∧ ∀ v, o.data ≠ .cell v := by
  cases k
  · obtain ⟨o, ho, _, hd⟩ := x
    exact ⟨o, ho, fun v q => by rw [hd] at q; cases q⟩
  · obtain ⟨o, ho, _, hd⟩ := x
    exact ⟨o, ho, fun v q => by rw [hd] at q; cases q⟩
theorem atK_new {k : Bool} {h : Heap} {it a : Addr} (e : h.get? it = some (objK k a)) : AtK k h it a 0 := by
  cases k
  · exact ⟨_, e, rfl, rfl⟩
  · exact ⟨_, e, rfl, rfl⟩
theorem hasK_ne {k : Bool} {h : Heap} {it a : Addr} {i : Nat} {items : Array Value} (x : HasK k h a items) (y : AtK k h it a i) : a ≠ it := fun z => by
  subst z
  cases k
  · obtain ⟨o, ho, hc, _⟩ := x
    obtain ⟨u, hu, hd, _⟩ := y
    rw [ho] at hu
    cases hu
    rw [hc] at hd
    exact absurd hd (by decide)
  · obtain ⟨o, ho, hc, _⟩ := x
    obtain ⟨u, hu, hd, _⟩ := y
    rw [ho] at hu
    cases hu
    rw [hc] at hd
    exact absurd hd (by decide)
theorem hasK_cls {k : Bool} {h : Heap} {a : Addr} {items : Array Value} (x : HasK k h a items) : ∃ o, h.get? a = some o ∧ (o.cls = .type "list" ∨ o.cls = .type "tuple") := by
  cases k
  · obtain ⟨o, ho, hc, _⟩ := x
    exact ⟨o, ho, .inr hc⟩
  · obtain ⟨o, ho, hc, _⟩ := x
    exact ⟨o, ho, .inl hc⟩
theorem drawsK {prog : Program} {w : World} {A : Around} (k : Bool) (hh : A.handled = none) (it a : Addr) (hne : a ≠ it) (items : Array Value) :
    Draws prog w A it [it, a] items.size (fun i v => items[i]? = some v) (fun i h => AtK k h it a i ∧ HasK k h a items) := by
  cases k
  · exact Draws.tuple hh it a hne items
  · exact Draws.list hh it a hne items
theorem beginsK (k : Bool) (a : Addr) (items : Array Value) : Begins (.ref a) (objK k a) fun h => HasK k h a items := by
  cases k
  · exact begins_tuple a items
  · exact begins_list a items
theorem hasK_lt {k : Bool} {h : Heap} {a : Addr} {items : Array Value} (x : HasK k h a items) : a < h.objs.size := by
  obtain ⟨o, ho, _⟩ := hasK_cls x
  exact Heap.lt_size ho
/-- what is handed out: a new pair -/
def PairAt (x y : V) (H : Hp) (v : V) (H' : Hp) : Prop := ∃ (T : Addr) (o : Obj), v = .ref T ∧ H T = none ∧ o.cls = .type "tuple" ∧ o.dict = none ∧ H' = upd H T (.frz o (.tup [x, y]))
theorem pair_made {X : Cx} {pins : List (Addr × Obj)} {σ : L2.St} {H : Hp} {s : Shared} {h2 : Heap} {tk : Nat} {ch : List Addr} {x y : V} {u v : Value} {T : Addr} (I : Inv X pins σ H s) (hk : ∀ b o, b ∉ ch → s.heap.get? b = some o → h2.get? b = some o) (hf : ∀ b ∈ ch, FpOk X pins H b)
    (hT : s.heap.objs.size ≤ T) (e : h2.get? T = some { cls := .type "tuple", data := .seq #[u, v] }) (ru : RelV x u) (rv : RelV y v) :
    ∃ H', Inv X pins σ H' { s with heap := h2, toks := tk } ∧ PairAt x y H (.ref T) H' ∧ ∀ b, b < s.heap.objs.size → H b = none → H' b = none := by
  refine ⟨upd H T (.frz { cls := .type "tuple", data := .seq #[u, v] } (.tup [x, y])), I.turnedNew hk hf hT ⟨e, ?_, [u, v], .cons ru (.cons rv .nil), _, e, rfl, _, rfl⟩, ⟨T, _, rfl, I.hok.fresh hT, rfl, rfl, rfl⟩, fun b hb hn => ?_⟩
  · rw [sizeLine_eq]
    show 2 ≤ 16777216
    decide
  · rw [upd_ne (Nat.ne_of_lt (Nat.lt_of_lt_of_le hb hT))]
    exact hn
/-- the items at a, in new pairs with the turn -/
def ItEk (k : Bool) (K : PySem.W.Frag) (a : Addr) : It :=
  ⟨fun i H => ∃ (xs : List V) (x : V), SqK k K H a xs ∧ xs[i]? = some x, fun i H v H' => ∃ x, PairAt (.int (i : Nat)) x H v H' ∧ ∀ xs, SqK k K H a xs → xs[i]? = some x, fun i H => ∃ xs : List V, SqK k K H a xs ∧ xs.length = i⟩
theorem turn_enumK {P : Program} {w : World} {K : PySem.W.Frag} {elts : List Expr} {kk : Nat} {tpos : Pos} (k : Bool) (tp en ti : Addr) :
    Turn P w K (.Tuple elts kk tpos) (ItEk k K tp) [en, ti] en (fun i h => (∃ old, IsEnum h en ti ((i : Nat) : Int) old) ∧ AtK k h ti tp i ∧ en ≠ ti) where
  mem := List.mem_cons_self ..
  obj := fun i h ⟨⟨old, he⟩, hi, _⟩ b hb => by
    simp only [List.mem_cons, List.not_mem_nil, or_false] at hb
    rcases hb with rfl | rfl
    · exact ⟨_, he, fun v q => by cases q⟩
    · exact atK_obj hi
  keep := fun i h h' ⟨⟨old, he⟩, hi, hne⟩ kp => ⟨⟨old, kp en (by simp) _ he⟩, atK_at hi fun o q => kp ti (by simp) o q, hne⟩
  item := by
    intro X xP xw xK calm i pins s σ H E I hf ⟨⟨old, he⟩, hit, hne⟩ ⟨xs, x, hq, hx⟩
    subst xP xw xK
    obtain ⟨its, rv, p⟩ := sqK_items I hq
    obtain ⟨u, hu, ru⟩ := rv.get hx
    have elt : en < s.heap.objs.size := Heap.lt_size he
    have ilt : ti < s.heap.objs.size := by obtain ⟨_, q, _⟩ := atK_obj hit; exact Heap.lt_size q
    have n1 : tp ≠ ti := hasK_ne p hit
    have n2 : en ≠ tp := fun z => by
      obtain ⟨o1, q1, c1⟩ := hasK_cls p
      rw [← z, he] at q1
      cases q1
      rcases c1 with c1 | c1
      · exact absurd (show Value.type "enumerate" = Value.type "list" from c1) (by decide)
      · exact absurd (show Value.type "enumerate" = Value.type "tuple" from c1) (by decide)
    have hun : its.toArray[i]? = some u := by simpa using hu
    have ilen : i < its.toArray.size := (Array.getElem?_eq_some_iff.mp hun).1
    refine wpAny_pyNext_enum_itemD (drawsK k (A := X.A.in1) (I.ok.hd calm) ti tp n1 its.toArray) he ⟨hit, p⟩ ilen hne (by simp [hne, n2]) fun y h' tk hy ho hst hT hsz hk => ?_
    have yu : y = u := by
      have hy' : its.toArray[i]? = some y := hy
      rw [hun] at hy'
      exact (Option.some.inj hy').symm
    subst yu
    refine ⟨_, rfl, wpAny_letOwnedTupleGo_enum (s := { s with heap := h', toks := tk + 1 }) ho fun h2 he2 sb => ?_⟩
    have hT2 : h2.get? s.heap.objs.size = some { cls := .type "tuple", data := .seq #[.int i tk, y] } := (sb.2 _ (Nat.ne_of_gt elt)).trans hT
    obtain ⟨H', I1, pr, fr⟩ := pair_made (tk := tk + 1) (ch := [en, ti]) (x := .int (i : Nat)) (y := x) I (fun b ob hb q => by
        simp only [List.mem_cons, List.not_mem_nil, or_false, not_or] at hb
        exact (sb.2 b hb.1).trans (hk b ob hb.1 hb.2 q)) hf (Nat.le_refl _) hT2 ⟨tk, rfl⟩ ru
    refine ⟨.ref s.heap.objs.size, _, I1, rfl, ⟨x, pr, fun ys hy2 => by rw [sqK_inj I hy2 hq]; exact hx⟩, ⟨⟨y, ?_⟩, atK_at hst.1 fun o q => (sb.2 ti (Ne.symm hne)).trans q, hne⟩, fun b hb => fr b ?_ (hf b hb).1⟩
    · rw [show ((i + 1 : Nat) : Int) = (i : Int) + 1 by omega]
      exact he2
    · simp only [List.mem_cons, List.not_mem_nil, or_false] at hb
      rcases hb with rfl | rfl
      · exact elt
      · exact ilt
  done := by
    intro X xP xw xK calm i pins s σ H E I hf ⟨⟨old, he⟩, hit, hne⟩ ⟨xs, hq, hx⟩
    subst xP xw xK
    obtain ⟨its, rv, p⟩ := sqK_items I hq
    have n1 : tp ≠ ti := hasK_ne p hit
    have hl := rv.length
    have ei : its.toArray.size = i := by rw [List.size_toArray]; omega
    have D := drawsK (prog := X.prog) (w := X.w) k (A := X.A.in1) (I.ok.hd calm) ti tp n1 its.toArray
    rw [ei] at D
    obtain ⟨f0, f1, f2, f3, f4, f5⟩ := hf ti (by simp)
    exact wpAny_pyNext_enum_endD D he ⟨hit, p⟩ fun h' eb => ⟨rfl, I.turned (t' := s.toks) (fun b o hb q => eb b o hb q) f0 f1 f3 f4 f5⟩
  self := fun A i s Q E ⟨⟨_, he⟩, _⟩ h => wpAny_pyIter_enum he h
/-- the items at a and b, in new pairs -/
def ItZk (k l : Bool) (K : PySem.W.Frag) (a b : Addr) : It :=
  ⟨fun i H => ∃ (xs ys : List V) (x y : V), SqK k K H a xs ∧ SqK l K H b ys ∧ xs[i]? = some x ∧ ys[i]? = some y, fun i H v H' => ∃ x y, PairAt x y H v H' ∧ ∀ xs ys, SqK k K H a xs → SqK l K H b ys → xs[i]? = some x ∧ ys[i]? = some y,
    fun i H => ∃ xs ys : List V, SqK k K H a xs ∧ SqK l K H b ys ∧ i ≤ xs.length ∧ i ≤ ys.length ∧ (i = xs.length ∨ i = ys.length)⟩
theorem turn_zipK {P : Program} {w : World} {K : PySem.W.Frag} {elts : List Expr} {kk : Nat} {tpos : Pos} (k l : Bool) (a b z TI TO i1 i2 : Addr) (S : ZipSep2 z TI TO i1 i2 [i1, a] [i2, b]) :
    Turn P w K (.Tuple elts kk tpos) (ItZk k l K a b) [z, TI, TO, i1, i2] z (fun i h => IsZip h z TI TO .none ∧ IsTupOf2 h TI (.ref i1) (.ref i2) ∧ (∃ a1 a2, IsTupOf2 h TO a1 a2) ∧ AtK k h i1 a i ∧ AtK l h i2 b i) where
  mem := List.mem_cons_self ..
  obj := fun i h ⟨hz, ht, ⟨_, _, hu⟩, h1, h2⟩ c hc => by
    simp only [List.mem_cons, List.not_mem_nil, or_false] at hc
    rcases hc with rfl | rfl | rfl | rfl | rfl
    · exact ⟨_, hz, fun v q => by cases q⟩
    · exact ⟨_, ht, fun v q => by cases q⟩
    · exact ⟨_, hu, fun v q => by cases q⟩
    · exact atK_obj h1
    · exact atK_obj h2
  keep := fun i h h' ⟨hz, ht, ⟨a1, a2, hu⟩, h1, h2⟩ kp => ⟨kp z (by simp) _ hz, kp TI (by simp) _ ht, ⟨a1, a2, kp TO (by simp) _ hu⟩, atK_at h1 fun o q => kp i1 (by simp) o q, atK_at h2 fun o q => kp i2 (by simp) o q⟩
  item := by
    intro X xP xw xK calm i pins s σ H E I hf ⟨hz, hTI, ⟨a1, a2, hTO⟩, h1, h2⟩ ⟨xs, ys, x, y, hx, hy, ex, ey⟩
    subst xP xw xK
    obtain ⟨us, ru, pu⟩ := sqK_items I hx
    obtain ⟨vs, rv, pv⟩ := sqK_items I hy
    obtain ⟨u, hu, rxu⟩ := ru.get ex
    obtain ⟨v, hv, ryv⟩ := rv.get ey
    have n1 : a ≠ i1 := hasK_ne pu h1
    have n2 : b ≠ i2 := hasK_ne pv h2
    have hun : us.toArray[i]? = some u := by simpa using hu
    have hvn : vs.toArray[i]? = some v := by simpa using hv
    have l1 : i < us.toArray.size := (Array.getElem?_eq_some_iff.mp hun).1
    have l2 : i < vs.toArray.size := (Array.getElem?_eq_some_iff.mp hvn).1
    have zlt : z < s.heap.objs.size := Heap.lt_size hz
    refine wpAny_pyNext_zipD2_item S (drawsK k (A := X.A.in1) (I.ok.hd calm) i1 a n1 us.toArray) (drawsK l (A := X.A.in1) (I.ok.hd calm) i2 b n2 vs.toArray) hz hTI hTO ⟨h1, pu⟩ ⟨h2, pv⟩ l1 l2 fun x1 x2 h' tk y1 y2 b1 b2 d1 d2 b5 b6 b7 => ?_
    have e1 : x1 = u := by
      have q : us.toArray[i]? = some x1 := y1
      rw [hun] at q
      exact (Option.some.inj q).symm
    have e2 : x2 = v := by
      have q : vs.toArray[i]? = some x2 := y2
      rw [hvn] at q
      exact (Option.some.inj q).symm
    subst e1 e2
    refine ⟨_, rfl, wpAny_letOwnedTupleGo_zip (s := { s with heap := h', toks := tk }) b1 fun h2' hz2 sb => ?_⟩
    have nz : ∀ c, c ∈ [TI, TO, i1, i2] → c ≠ z := fun c hc => by
      simp only [List.mem_cons, List.not_mem_nil, or_false] at hc
      rcases hc with rfl | rfl | rfl | rfl
      · exact S.TIz
      · exact S.TOz
      · exact S.zi1.symm
      · exact S.zi2.symm
    obtain ⟨H', I1, pr, fr⟩ := pair_made (tk := tk) (ch := [z, TI, TO, i1, i2]) (x := x) (y := y) (u := x1) (v := x2) (h2 := h2') I (fun c ob hc q => by
        simp only [List.mem_cons, List.not_mem_nil, or_false, not_or] at hc
        exact (sb.2 c hc.1).trans (b7 c ob hc.1 hc.2.2.1 hc.2.2.2.1 hc.2.2.2.2 q)) hf (Nat.le_refl _) ((sb.2 _ (Nat.ne_of_gt zlt)).trans b5) rxu ryv
    refine ⟨.ref s.heap.objs.size, _, I1, rfl, ⟨x, y, pr, fun xs' ys' hx' hy' => ⟨by rw [sqK_inj I hx' hx]; exact ex, by rw [sqK_inj I hy' hy]; exact ey⟩⟩,
      ⟨hz2, (sb.2 _ (nz TI (by simp))).trans (b7 _ _ S.TIz S.TITO S.TIi1 S.TIi2 hTI), ⟨x1, x2, (sb.2 _ (nz TO (by simp))).trans b2⟩, atK_at d1.1 fun o q => (sb.2 _ (nz i1 (by simp))).trans q, atK_at d2.1 fun o q => (sb.2 _ (nz i2 (by simp))).trans q⟩, fun c hc => fr c ?_ (hf c hc).1⟩
    simp only [List.mem_cons, List.not_mem_nil, or_false] at hc
    rcases hc with rfl | rfl | rfl | rfl | rfl
    · exact zlt
    · exact Heap.lt_size hTI
    · exact Heap.lt_size hTO
    · obtain ⟨_, q, _⟩ := atK_obj h1; exact Heap.lt_size q
    · obtain ⟨_, q, _⟩ := atK_obj h2; exact Heap.lt_size q
  done := by
    intro X xP xw xK calm i pins s σ H E I hf ⟨hz, hTI, ⟨a1, a2, hTO⟩, h1, h2⟩ ⟨xs, ys, hx, hy, ex, ey, he⟩
    subst xP xw xK
    obtain ⟨us, ru, pu⟩ := sqK_items I hx
    obtain ⟨vs, rv, pv⟩ := sqK_items I hy
    have n1 : a ≠ i1 := hasK_ne pu h1
    have n2 : b ≠ i2 := hasK_ne pv h2
    have l1 := ru.length
    have l2 := rv.length
    refine wpAny_pyNext_zipD2_end S (drawsK k (A := X.A.in1) (I.ok.hd calm) i1 a n1 us.toArray) (drawsK l (A := X.A.in1) (I.ok.hd calm) i2 b n2 vs.toArray) hz hTI hTO ⟨h1, pu⟩ ⟨h2, pv⟩ (by rw [List.size_toArray]; omega) (by rw [List.size_toArray]; omega) (by rw [List.size_toArray, List.size_toArray]; omega) fun h' tk hk => ⟨rfl, ?_⟩
    refine I.turnedL (t' := tk) (ch := [z, TI, TO, i1, i2]) (fun c ob hc q => ?_) hf
    simp only [List.mem_cons, List.not_mem_nil, or_false, not_or] at hc
    exact hk c ob hc.1 hc.2.2.1 hc.2.2.2.1 hc.2.2.2.2 q
  self := fun A i s Q E ⟨hz, _⟩ h => wpAny_pyIter_zip hz h
/-! enumerate of a list or a tuple -/
def enD : Nat → List D → List D
  | _, [] => []
  | k, d :: ds => .tuple [.int (k : Int), d] :: enD (k + 1) ds
theorem enD_len : ∀ (ds : List D) (k : Nat), (enD k ds).length = ds.length
  | [], _ => rfl
  | d :: ds, k => by rw [enD, List.length_cons, List.length_cons, enD_len ds]
theorem enD_get : ∀ (ds : List D) (k i : Nat) {d : D}, ds[i]? = some d → (enD k ds)[i]? = some (.tuple [.int ((k + i : Nat) : Int), d])
  | [], _, i, d, h => by simp at h
  | x :: ds, k, 0, d, h => by
    cases h
    rfl
  | x :: ds, k, i + 1, d, h => by
    have := enD_get ds (k + 1) i (d := d) h
    rw [enD, List.getElem?_cons_succ, this, show k + 1 + i = k + (i + 1) by omega]
def iEnum (a : Ex) : Ax := fun s => match a s with
  | some (.list ds, s1) => some (enD 0 ds, s1)
  | some (.tuple ds, s1) => some (enD 0 ds, s1)
  | _ => none
/-- the items of a list or a tuple -/
def seqD : D → Option (List D)
  | .list ds => some ds
  | .tuple ds => some ds
  | _ => none
def zipD (xs ys : List D) : List D := List.zipWith (fun a b => .tuple [a, b]) xs ys
def zip2D : List D → Option (List D)
  | [x, y] => (match seqD x with
    | none => none
    | some xs => (match seqD y with
      | none => none
      | some ys => some (zipD xs ys)))
  | _ => none
def iZip (a : Ax) : Ax := fun s => match a s with
  | none => none
  | some (ds, s1) => match zip2D ds with
    | none => none
    | some rs => some (rs, s1)
section
variable {X : Cx} {C : Ct} {tg e e2 : Expr} {fe : Ex} {fr : Ax}
theorem pair_yield {K : PySem.W.Frag} {F' : Fz} {H H' : Hp} {x y v : V} {d1 d2 : D} (rx : Rp K F' x d1) (ry : Rp K F' y d2) (s2 : Into F' H) (h : PairAt x y H v H') : ∃ F'', Grow F' H F'' H' [] ∧ Rp K F'' v (.tuple [d1, d2]) := by
  obtain ⟨T, o, rfl, hT, hc, hd, rfl⟩ := h
  have gr := grow_new (o := .frz o (.tup [x, y])) s2 hT
  exact ⟨updF F' T (.frz o (.tup [x, y])), gr, .tup ⟨o, updF_same, hc, hd⟩ (.cons (rx.up gr.sub) (.cons (ry.up gr.sub) .nil))⟩
theorem sq_rp {K : PySem.W.Frag} {F : Fz} {v : V} {d : D} {ds : List D} (r : Rp K F v d) (h : seqD d = some ds) : ∃ k a xs, v = .ref a ∧ SqFK k F a xs ∧ RpL K F xs ds := by
  cases r with
  | lst hx rs => cases h; exact ⟨true, _, _, rfl, hx, rs⟩
  | tup hx rs => cases h; exact ⟨false, _, _, rfl, hx, rs⟩
  | _ => cases h
theorem walkD_enumK {K : PySem.W.Frag} {F : Fz} {k : Bool} {a : Addr} {xs : List V} {ds : List D} (h : SqFK k F a xs) (r : RpL K F xs ds) : WalkD K (ItEk k K a) (enD 0 ds) F where
  goes := fun i H F' hi s1 s2 => by
    rw [enD_len, ← r.len] at hi
    exact ⟨xs, xs[i], (h.up s1).sq s2, by simp [hi]⟩
  stops := fun H F' s1 s2 => ⟨xs, (h.up s1).sq s2, by rw [enD_len, r.len]⟩
  yields := fun i H v H' F' hi s1 s2 ⟨x, pr, hall⟩ => by
    obtain ⟨d, hd, rd⟩ := r.getV (hall xs ((h.up s1).sq s2))
    obtain ⟨F'', gr, rp⟩ := pair_yield (.int (i : Nat)) (rd.up s1) s2 pr
    exact ⟨F'', _, by rw [enD_get ds 0 i hd, Nat.zero_add], gr, rp⟩
theorem zipD_len (xs ys : List D) : (zipD xs ys).length = min xs.length ys.length := by simp [zipD]
theorem walkD_zipK {K : PySem.W.Frag} {F : Fz} {k l : Bool} {a b : Addr} {xs ys : List V} {ds es : List D} (h : SqFK k F a xs) (r : RpL K F xs ds) (h2 : SqFK l F b ys) (r2 : RpL K F ys es) : WalkD K (ItZk k l K a b) (zipD ds es) F where
  goes := fun i H F' hi s1 s2 => by
    rw [zipD_len, ← r.len, ← r2.len] at hi
    exact ⟨xs, ys, xs[i]'(by omega), ys[i]'(by omega), (h.up s1).sq s2, (h2.up s1).sq s2, by simp [show i < xs.length by omega], by simp [show i < ys.length by omega]⟩
  stops := fun H F' s1 s2 => ⟨xs, ys, (h.up s1).sq s2, (h2.up s1).sq s2, by rw [zipD_len, r.len]; omega, by rw [zipD_len, r2.len]; omega, by rw [zipD_len, r.len, r2.len]; omega⟩
  yields := fun i H v H' F' hi s1 s2 ⟨x, y, pr, hall⟩ => by
    obtain ⟨e1, e2⟩ := hall xs ys ((h.up s1).sq s2) ((h2.up s1).sq s2)
    obtain ⟨d, hd, rd⟩ := r.getV e1
    obtain ⟨d2, hd2, rd2⟩ := r2.getV e2
    obtain ⟨F'', gr, rp⟩ := pair_yield (rd.up s1) (rd2.up s1) s2 pr
    exact ⟨F'', _, by simp [zipD, List.getElem?_zipWith, hd, hd2], gr, rp⟩
def wiEnum (K : PySem.W.Frag) (ta : TA) : TI := fun σ H R => ta σ H fun vs H1 => ∃ k a xs, vs = [.ref a] ∧ SqK k K H1 a xs ∧ R (ItEk k K a) H1
theorem pi_enumK {ta : TA} {p pos tpos : Pos} {elts : List Expr} {kk : Nat} (hg : Gl X "enumerate") (hm : X.mg "enumerate" = none) (ha : PA X [e] ta) (hs : starEach [e] X.env = [(false, eval e X.env)] := by rfl) :
    PI X (.Tuple elts kk tpos) (.Call (.Name "enumerate" p) [e] [] pos) (wiEnum X.K ta) :=
  ⟨fun pins s σ H R I h => Call_ (ld_blt I hg hm boot_enumerate (PyProof.Rows.callWith_type1 (thn (ha.run pos pins s σ H _ I h) fun us s1 ⟨vs, H1, I1, r1, k, tp, xs, evs, hq, q⟩ => by
    subst evs
    cases r1 with
    | cons r rr =>
      cases rr
      cases r
      obtain ⟨its, rv, pt⟩ := sqK_items I1 hq
      refine call_enum1 (beginsK k tp its.toArray) pt fun h' he hob hk => wpAny_pyIter_enum he ?_
      have I2 : Inv X pins σ H1 { s1 with heap := h' } := I1.kept (t' := s1.toks) hk
      refine ⟨s1.heap.objs.size + 1, [s1.heap.objs.size + 1, s1.heap.objs.size], _, _, H1, rfl, I2, turn_enumK k tp (s1.heap.objs.size + 1) s1.heap.objs.size, ⟨⟨.none, he⟩, atK_new hob, Nat.succ_ne_self _⟩, fun b hb => ?_, q⟩
      have hle : s1.heap.objs.size ≤ b := by
        simp only [List.mem_cons, List.not_mem_nil, or_false] at hb
        rcases hb with rfl | rfl
        · exact Nat.le_add_right _ _
        · exact Nat.le_refl _
      exact I1.fpOk hle (I1.hok.fresh hle)) hs rfl))⟩
theorem di_enum {p pos tpos : Pos} {elts : List Expr} {kk : Nat} (hg : Gl X "enumerate") (hm : X.mg "enumerate" = none) (he : PE X e (tD X.K C fe)) (hs : starEach [e] X.env = [(false, eval e X.env)] := by rfl) :
    PI X (.Tuple elts kk tpos) (.Call (.Name "enumerate" p) [e] [] pos) (tI X.K C (iEnum fe)) :=
  pi_imp (pi_enumK hg hm (da_cons he da_nil hs) hs) fun σ H R ⟨F, s, d, s', w, ee, q⟩ => by
    have go : ∀ {d0 : D} {ds : List D} {s1 : S}, fe s = some (d0, s1) → seqD d0 = some ds → d = enD 0 ds → s' = s1 → wiEnum X.K (tA X.K C (aCons fe aNil)) σ H R := fun {d0 ds s1} ea es e1 e2 => by
      subst e1 e2
      refine tA_run (d := [d0]) w (by unfold aCons aNil; rw [ea]) fun vs F1 H1 m1 w1 r1 => ?_
      obtain ⟨v, rfl, rv⟩ : ∃ v, vs = [v] ∧ Rp X.K F1 v d0 := by
        cases r1 with
        | cons r0 rn => cases rn; exact ⟨_, rfl, r0⟩
      obtain ⟨k, a, xs, rfl, hx, rs⟩ := sq_rp rv es
      exact ⟨k, a, xs, rfl, hx.sq w1.into, q _ F1 H1 m1 w1 (walkD_enumK hx rs)⟩
    unfold iEnum at ee
    split at ee
    · rename_i ds s1 ea
      cases ee
      exact go ea rfl rfl rfl
    · rename_i ds s1 ea
      cases ee
      exact go ea rfl rfl rfl
    · cases ee
def wiZip (K : PySem.W.Frag) (ta : TA) : TI := fun σ H R => ta σ H fun vs H1 => ∃ k l a b xs ys, vs = [.ref a, .ref b] ∧ SqK k K H1 a xs ∧ SqK l K H1 b ys ∧ R (ItZk k l K a b) H1
theorem pi_zipK {ta : TA} {p pos tpos : Pos} {elts : List Expr} {kk : Nat} (hg : Gl X "zip") (hm : X.mg "zip" = none) (ha : PA X [e, e2] ta)
    (hs : starEach [e, e2] X.env = (false, eval e X.env) :: starEach [e2] X.env := by rfl) (hpl : (backTo pos (starEach [e2] X.env)).any (·.1) = false := by rfl) :
    PI X (.Tuple elts kk tpos) (.Call (.Name "zip" p) [e, e2] [] pos) (wiZip X.K ta) :=
  ⟨fun pins s σ H R I h => Call_ (ld_blt I hg hm PyProof.Rows.boot_zip (PyProof.Rows.callWith_type1 (thn (ha.run pos pins s σ H _ I h) fun us s1 ⟨vs, H1, I1, r1, k, l, a, b, xs, ys, evs, hx, hy, q⟩ => by
    subst evs
    cases r1 with
    | cons r rr =>
      cases rr with
      | cons r' rr =>
        cases rr
        cases r
        cases r'
        obtain ⟨us, _, pu⟩ := sqK_items I1 hx
        obtain ⟨vs, _, pv⟩ := sqK_items I1 hy
        refine zip_begins2 (beginsK k a us.toArray) (beginsK l b vs.toArray) pu pv fun h' hz hTI hTO h1 h2 hsz hk => wpAny_pyIter_zip hz ?_
        have I2 : Inv X pins σ H1 { s1 with heap := h' } := I1.kept (t' := s1.toks) hk
        have S := zip_sep2 (N := s1.heap.objs.size) (fp1 := [a]) (fp2 := [b]) (fun c hc => (by rw [List.mem_singleton.mp hc]; exact hasK_lt pu)) (fun c hc => (by rw [List.mem_singleton.mp hc]; exact hasK_lt pv))
        refine ⟨s1.heap.objs.size + 4, _, _, _, H1, rfl, I2, turn_zipK k l a b _ _ _ _ _ S, ⟨hz, hTI, ⟨_, _, hTO⟩, atK_new h1, atK_new h2⟩, fun c hc => ?_, q⟩
        have hle : s1.heap.objs.size ≤ c := by
          simp only [List.mem_cons, List.not_mem_nil, or_false] at hc
          rcases hc with rfl | rfl | rfl | rfl | rfl
          · exact Nat.le_add_right _ _
          · exact Nat.le_add_right _ _
          · exact Nat.le_add_right _ _
          · exact Nat.le_refl _
          · exact Nat.le_add_right _ _
        exact I1.fpOk hle (I1.hok.fresh hle)) hs hpl))⟩
theorem di_zip {p pos tpos : Pos} {elts : List Expr} {kk : Nat} (hg : Gl X "zip") (hm : X.mg "zip" = none) (ha : PA X [e, e2] (tA X.K C fr))
    (hs : starEach [e, e2] X.env = (false, eval e X.env) :: starEach [e2] X.env := by rfl) (hpl : (backTo pos (starEach [e2] X.env)).any (·.1) = false := by rfl) :
    PI X (.Tuple elts kk tpos) (.Call (.Name "zip" p) [e, e2] [] pos) (tI X.K C (iZip fr)) :=
  pi_imp (pi_zipK hg hm ha hs hpl) fun σ H R ⟨F, s, d, s', w, ee, q⟩ => by
    unfold iZip at ee
    split at ee
    · cases ee
    rename_i ds s1 ea
    split at ee
    · cases ee
    rename_i rs ez
    cases ee
    refine tA_run w ea fun vs F1 H1 m1 w1 r1 => ?_
    unfold zip2D at ez
    split at ez
    rotate_left
    · cases ez
    split at ez
    · cases ez
    rename_i x y xs ex
    split at ez
    · cases ez
    rename_i ys ey
    cases ez
    obtain ⟨v, u, rfl, rv, ru⟩ := r1.two
    obtain ⟨k, a, as, rfl, hx, rs⟩ := sq_rp rv ex
    obtain ⟨l, b, bs, rfl, hy, rt⟩ := sq_rp ru ey
    exact ⟨k, l, a, b, as, bs, rfl, hx.sq w1.into, hy.sq w1.into, q _ F1 H1 m1 w1 (walkD_zipK hx rs hy rt)⟩
end
end Dl

namespace Dl
open PySem PySem.Spec PyProof.Rows L2
section
variable {prog : Program} {w : World} {A : Around} {E : Value → Shared → Prop} {s : Shared}
theorem collect_tuple {l : Addr} {vs : List Value} {Q : List Value → Shared → Prop} (hl : s.heap.IsTuple l vs.toArray)
    (h : Q vs { s with heap := (s.heap.push (seqObj "list" #[] 0)).update s.heap.objs.size (Obj.mapSeq (· ++ vs.toArray)) }) (hsz : vs.length ≤ sizeLine) :
    wpAny (model prog w) A (collect (.ref l)) Q E s := by
  obtain ⟨o, ho, hc, n, hd⟩ := id hl
  unfold collect
  refine wpAny_bind (wpAny_runValue (codeAny_builtin entry_proto_collect' ?_))
  show wpAny _ _ (do again (.builtin "list.__iadd__" ⟨[← newList [], .ref l], []⟩)) _ _ s
  refine wpAny_bind (wpAny_newList (wpAny_pure ⟨Code.quiet_builtin _ (by decide +kernel), codeAny_builtin entry_list_iadd' ?_⟩))
  show wpAny _ _ (Builtin.List.listExtendWith (.ref s.heap.objs.size) (.ref l) (.ref s.heap.objs.size)) _ _ { s with heap := s.heap.push (seqObj "list" #[] 0) }
  unfold Builtin.List.listExtendWith
  have ho' : (s.heap.push (seqObj "list" #[] 0)).get? l = some o := Heap.get?_push_of_some _ ho
  refine wpAny_bind (wpAny_typeOf (T := "tuple") ⟨o, ho', hc⟩ ?_)
  have ht : (Value.type "tuple" == Value.type "tuple") = true := by rfl
  rw [if_pos (by rw [ht]; simp)]
  refine wpAny_bind (listItems_at ho' hd ?_)
  refine wpAny_bind (listItems_at (xs := #[]) (n := 0) (Heap.get?_push_size _ rfl) rfl ?_)
  rw [if_neg (by simp)]
  refine wpAny_bind (listUpdate_at (xs := #[]) (n := 0) (Heap.get?_push_size _ rfl) rfl ?_ (Nat.zero_le _) (by show (#[] ++ vs.toArray).size ≤ sizeLine + 1; simp only [Array.size_append, List.size_toArray, List.length_nil]; omega))
  refine wpAny_pure ?_
  show wpAny (model prog w) A (do
      let o ← load s.heap.objs.size
      match o.data with
      | .seq xs _ => pure xs.toList
      | _ => unsupported "internal:collect") Q E { s with heap := (s.heap.push (seqObj "list" #[] 0)).update s.heap.objs.size (Obj.mapSeq (· ++ vs.toArray)) }
  refine wpAny_bind (wpAny_load (get?_update_seq (Heap.get?_push_size _ rfl) _) ?_)
  show wpAny _ _ (pure ((#[] : Array Value) ++ vs.toArray).toList) Q E _
  rw [show ((#[] : Array Value) ++ vs.toArray).toList = vs by simp]
  exact wpAny_pure h
open SrtO in
theorem sorted_ordT {l : Addr} {vs : List Value} {ltv : Value → Value → Bool} {Q : Value → Shared → Prop} (O : Swo ltv) (hl : s.heap.IsTuple l vs.toArray) (hz : vs.length ≤ sizeLine)
    (hS : 2 ≤ vs.length → ∀ (h₁ : Heap) (a : Addr), h₁.get? a = some (seqObj "list" vs.toArray 0) → (∀ b o, s.heap.get? b = some o → b ≠ a ∧ h₁.get? b = some o) → SortableO prog w A.in1.in1 { s with heap := h₁ } a vs ltv)
    (h : ∀ out : List Value, Srtd ltv out → Stb ltv out vs → Q (.ref (s.heap.objs.size + 1)) { s with heap := sortedAll s.heap vs out.toArray }) :
    wpAny (model prog w) A (call (.builtin "sorted") [.ref l]) Q E s := by
  refine Calls.call_function_entry kind_sorted plain_sorted entry_sorted (args_sorted1 _) ?_
  unfold Builtin.«sorted»
  refine wpAny_bind (m := checkCount "sorted" 1 1 _) (wpAny_pure ?_)
  refine wpAny_bind (collect_tuple hl ?_ hz)
  refine wpAny_bind (wpAny_newList ?_ hz)
  have hsz : ((s.heap.push (seqObj "list" #[] 0)).update s.heap.objs.size (Obj.mapSeq (· ++ vs.toArray))).objs.size = s.heap.objs.size + 1 := by
    rw [Heap.size_update, size_push']
  have hoL : (((s.heap.push (seqObj "list" #[] 0)).update s.heap.objs.size (Obj.mapSeq (· ++ vs.toArray))).push (seqObj "list" vs.toArray 0)).get? (s.heap.objs.size + 1) = some (seqObj "list" vs.toArray 0) := by
    rw [← hsz]; exact Heap.get?_push_size _ rfl
  have keep : ∀ b o, s.heap.get? b = some o → b ≠ s.heap.objs.size + 1 ∧ (((s.heap.push (seqObj "list" #[] 0)).update s.heap.objs.size (Obj.mapSeq (· ++ vs.toArray))).push (seqObj "list" vs.toArray 0)).get? b = some o := fun b o q => by
    have hlt : b < s.heap.objs.size := Heap.lt_size q
    refine ⟨Nat.ne_of_lt (Nat.lt_succ_of_lt hlt), Heap.get?_push_of_some _ ?_⟩
    rw [Heap.get?_update_ne _ _ _ _ (Nat.ne_of_lt hlt)]
    exact Heap.get?_push_of_some _ q
  show wpAny _ _ _ _ _ { s with heap := ((s.heap.push (seqObj "list" #[] 0)).update s.heap.objs.size (Obj.mapSeq (· ++ vs.toArray))).push (seqObj "list" vs.toArray 0) }
  rw [hsz]
  refine wpAny_bind (wpAny_holding (wpAny_call_entry slot_list_sort ⟨_, hoL, rfl⟩ entry_list_sort (list_sort_ord O hoL hz (fun h2 => hS h2 _ _ hoL keep) fun out hs hb => ⟨_, rfl, ?_⟩) (args_list_sort _)))
  exact wpAny_pure ⟨_, rfl, h out hs hb⟩
end
/-- sorted of a tuple of ints -/
def rSortedT (K : PySem.W.Frag) : List V → Hp → VK → Prop := fun vs H Q => ∃ (a : Addr) (ns : List Int), vs = [V.ref a] ∧ SqT K H a (ns.map V.int) ∧
  ∀ (ns' : List Int) (p : Addr), ns'.Perm ns → ns'.Pairwise (· ≤ ·) → H p = none → Q (.ref p) (upd H p (.lst (ns'.map V.int)))
variable {X : Cx}
theorem cr_sortedT : CallR X (.builtin "sorted") (rSortedT X.K) := by
  intro pins s σ H vs us Q I r h
  obtain ⟨a, ns, rfl, hs, q⟩ := h
  obtain ⟨its, rv, ⟨o, ho, hc, n, hd⟩, hz⟩ := I.tuple hs
  rw [Vals.ref1 r]
  have hi := rv.ints
  refine sorted_ordT SrtO.swo_int ⟨o, ho, hc, n, hd⟩ (by rw [← rv.length]; exact hz) (fun h2 h₁ a' _ _ => SrtO.ints_sortable hi h2) fun out h1 h2 => ?_
  obtain ⟨k1, k2, k3⟩ := SrtO.ints_out hi h1 h2
  obtain ⟨ep, he'⟩ := PyProof.Rows.sortedAll_at s.heap its out.toArray
  have hlen : ((out.map SrtO.iv).map V.int).length ≤ sizeLine := by
    rw [List.length_map, k2.length_eq]
    rw [List.length_map] at hz
    exact hz
  exact ⟨.ref _, upd H (s.heap.objs.size + 1) (.lst ((out.map SrtO.iv).map V.int)), I.laid (t' := s.toks) (fun _ _ => PyProof.Rows.sortedAll_old) (Nat.le_succ _) ⟨hlen, out, ep, vals_of_ints k1, he'⟩, rfl, q _ _ k2 k3 (I.hok.fresh (Nat.le_succ _))⟩
end Dl

/-! The data layer, part 15: sorted numbers. -/
namespace Dl
open PySem PySem.Spec L2
def ins (x : Int) : List Int → List Int
  | [] => [x]
  | y :: ys => if x ≤ y then x :: y :: ys else y :: ins x ys
def isort : List Int → List Int
  | [] => []
  | x :: xs => ins x (isort xs)
theorem ins_perm (x : Int) : ∀ ys : List Int, (ins x ys).Perm (x :: ys)
  | [] => .refl _
  | y :: ys => by
    unfold ins
    split
    · exact .refl _
    · exact ((ins_perm x ys).cons y).trans (.swap x y ys)
theorem isort_perm : ∀ xs : List Int, (isort xs).Perm xs
  | [] => .refl _
  | x :: xs => (ins_perm x _).trans ((isort_perm xs).cons x)
theorem ins_pw (x : Int) : ∀ ys : List Int, ys.Pairwise (· ≤ ·) → (ins x ys).Pairwise (· ≤ ·)
  | [], _ => by simp [ins]
  | y :: ys, h => by
    have h1 := List.pairwise_cons.mp h
    unfold ins
    split
    · rename_i hxy
      refine List.pairwise_cons.mpr ⟨fun z hz => ?_, h⟩
      rcases List.mem_cons.mp hz with rfl | hz
      · exact hxy
      · exact Int.le_trans hxy (h1.1 z hz)
    · rename_i hxy
      refine List.pairwise_cons.mpr ⟨fun z hz => ?_, ins_pw x ys h1.2⟩
      rcases List.mem_cons.mp ((ins_perm x ys).mem_iff.mp hz) with rfl | hz
      · omega
      · exact h1.1 z hz
theorem isort_pw : ∀ xs : List Int, (isort xs).Pairwise (· ≤ ·)
  | [] => .nil
  | x :: xs => ins_pw x _ (isort_pw xs)
theorem sorted_one : ∀ {xs ys : List Int}, xs.Perm ys → xs.Pairwise (· ≤ ·) → ys.Pairwise (· ≤ ·) → xs = ys
  | [], ys, p, _, _ => (List.nil_perm.mp p).symm
  | x :: xs, [], p, _, _ => absurd p.length_eq (by simp)
  | x :: xs, y :: ys, p, hx, hy => by
    have h1 := List.pairwise_cons.mp hx
    have h2 := List.pairwise_cons.mp hy
    have e : x = y := by
      have a : x ≤ y := by
        rcases List.mem_cons.mp (p.mem_iff.mpr (List.mem_cons_self (a := y) (l := ys))) with h | h
        · omega
        · exact h1.1 y h
      have b : y ≤ x := by
        rcases List.mem_cons.mp (p.mem_iff.mp (List.mem_cons_self (a := x) (l := xs))) with h | h
        · omega
        · exact h2.1 x h
      omega
    subst e
    rw [sorted_one (List.Perm.cons_inv p) h1.2 h2.2]
def oSorted (a : Ex) : Ax := fun s => match a s with
  | some (.list ds, s1) => (intsOf ds).map fun ns => ((isort ns).map .int, s1)
  | some (.tuple ds, s1) => (intsOf ds).map fun ns => ((isort ns).map .int, s1)
  | _ => none
section
variable {X : Cx} {C : Ct} {e : Expr} {fe : Ex}
theorem oe_sorted {p pos : Pos} (hg : Gl X "sorted") (hm : X.mg "sorted" = none) (he : PE X e (tD X.K C fe)) (hv : bootBuiltins "sorted" = some (.builtin "sorted") := by decide +kernel)
    (hs : starEach [e] X.env = (false, eval e X.env) :: starEach [] X.env := by rfl) (hpl : (backTo pos (starEach [] X.env)).any (·.1) = false := by rfl) : PE X (.Call (.Name "sorted" p) [e] [] pos) (tO X.K C (oSorted fe)) :=
  pe_imp (pe_callB (CallR.or cr_sortedI cr_sortedT) hg hm hv (pa_cons he pa_nil hs) (by decide) (by decide) hs hpl) fun σ H Q ⟨F, s, ds, s', w, ee, q⟩ => by
    unfold oSorted at ee
    split at ee
    · rename_i es s1 ea
      obtain ⟨ns, h1, h2⟩ := Option.map_eq_some_iff.mp ee
      cases h2
      refine tD_run w ea fun v F1 H1 m1 w1 r1 => ?_
      cases r1 with
      | lst hx rs =>
        rw [ints_rp rs h1] at hx
        refine .inl ⟨_, ns, rfl, .inl (.inl (w1.into _ _ hx)), fun ns' l pm pw hp => ?_⟩
        rw [sorted_one (pm.trans (isort_perm ns).symm) pw (isort_pw ns)]
        exact new_own m1 w1 (rp_ints _) q l hp
    · rename_i es s1 ea
      obtain ⟨ns, h1, h2⟩ := Option.map_eq_some_iff.mp ee
      cases h2
      refine tD_run w ea fun v F1 H1 m1 w1 r1 => ?_
      cases r1 with
      | tup hx rs =>
        rw [ints_rp rs h1] at hx
        refine .inr ⟨_, ns, rfl, (hx.sq w1.into), fun ns' l pm pw hp => ?_⟩
        rw [sorted_one (pm.trans (isort_perm ns).symm) pw (isort_pw ns)]
        exact new_own m1 w1 (rp_ints _) q l hp
    · cases ee
end
end Dl

/-! The data layer, part 16: sum, max and min of tuples. -/
namespace PySem
section
variable {prog : Program} {w : World} {A : Around} {E : Value → Shared → Prop} {s : Shared} {tp : Addr}
theorem keep_it {h' : Heap} {o1 : Obj} (hk : ∀ b o, b ∉ [s.heap.objs.size] → (s.heap.push o1).get? b = some o → h'.get? b = some o) : ∀ b o, s.heap.get? b = some o → h'.get? b = some o := fun b o e =>
  hk b o (fun hm => by
    simp only [List.mem_cons, List.not_mem_nil, or_false] at hm
    exact absurd (hm ▸ Heap.lt_size e) (Nat.lt_irrefl _)) (Heap.get?_push_of_some _ e)
theorem max_tupI {xs : Array (Int × Tok)} {Q : Value → Shared → Prop} (hh : A.handled = none) (ht : s.heap.IsTuple tp (intItems xs)) (hne : 0 < xs.size)
    (h : ∀ v h' tk, (intItems xs)[argBest (fun i j => decide (numAt xs i > numAt xs j)) (xs.size - 1)]? = some v → (∀ b o, s.heap.get? b = some o → h'.get? b = some o) → Q v { s with heap := h', toks := tk }) :
    wpAny (model prog w) A (call (.builtin "max") [.ref tp]) Q E s := by
  obtain ⟨ob, hob, _⟩ := id ht
  have apart : tp ≠ s.heap.objs.size := Nat.ne_of_lt (Heap.lt_size hob)
  have size0 : (intItems xs).size = xs.size := by simp [intItems]
  refine call_max_walk (wpAny_pyIter_tuple ht ?_)
  refine ⟨s.heap.objs.size, _, _, _, _, _, _, rfl, Walks.tuple (A := A.in1) hh s.heap.objs.size tp apart (intItems xs), ⟨⟨_, Heap.get?_push_size _ rfl, rfl, rfl⟩, ht.at fun o e => Heap.get?_push_of_some _ e⟩, fun b hb => ?_, by rw [size0]; exact hne, CmpOf.ints_gt (numAt xs) (fun _ _ => intItems_at), fun v h' tk hP hk => ?_⟩
  · simp only [List.mem_cons, List.not_mem_nil, or_false] at hb
    rcases hb with rfl | rfl
    · exact Heap.lt_size (Heap.get?_push_size _ rfl)
    · exact Heap.lt_size (Heap.get?_push_of_some _ hob)
  · exact h v h' tk (by rw [size0] at hP; exact hP) (keep_it hk)
theorem min_tupI {xs : Array (Int × Tok)} {Q : Value → Shared → Prop} (hh : A.handled = none) (ht : s.heap.IsTuple tp (intItems xs)) (hne : 0 < xs.size)
    (h : ∀ v h' tk, (intItems xs)[argBest (fun i j => decide (numAt xs i < numAt xs j)) (xs.size - 1)]? = some v → (∀ b o, s.heap.get? b = some o → h'.get? b = some o) → Q v { s with heap := h', toks := tk }) :
    wpAny (model prog w) A (call (.builtin "min") [.ref tp]) Q E s := by
  obtain ⟨ob, hob, _⟩ := id ht
  have apart : tp ≠ s.heap.objs.size := Nat.ne_of_lt (Heap.lt_size hob)
  have size0 : (intItems xs).size = xs.size := by simp [intItems]
  refine call_min_walk (wpAny_pyIter_tuple ht ?_)
  refine ⟨s.heap.objs.size, _, _, _, _, _, _, rfl, Walks.tuple (A := A.in1) hh s.heap.objs.size tp apart (intItems xs), ⟨⟨_, Heap.get?_push_size _ rfl, rfl, rfl⟩, ht.at fun o e => Heap.get?_push_of_some _ e⟩, fun b hb => ?_, by rw [size0]; exact hne, CmpOf.ints_lt (numAt xs) (fun _ _ => intItems_at), fun v h' tk hP hk => ?_⟩
  · simp only [List.mem_cons, List.not_mem_nil, or_false] at hb
    rcases hb with rfl | rfl
    · exact Heap.lt_size (Heap.get?_push_size _ rfl)
    · exact Heap.lt_size (Heap.get?_push_of_some _ hob)
  · exact h v h' tk (by rw [size0] at hP; exact hP) (keep_it hk)
end
end PySem
namespace Dl
open PySem PySem.Spec L2 PyProof.Rows
section
variable {X : Cx}
/-- sum(t) of a tuple of ints; max(t), min(t) -/
def rSumT (K : PySem.W.Frag) : List V → Hp → VK → Prop := fun vs H Q => ∃ (a : Addr) (ns : List Int), vs = [V.ref a] ∧ SqT K H a (ns.map V.int) ∧ Q (.int ns.sum) H
def rMaxT (K : PySem.W.Frag) : List V → Hp → VK → Prop := fun vs H Q => ∃ (a : Addr) (ns : List Int), vs = [V.ref a] ∧ SqT K H a (ns.map V.int) ∧ 0 < ns.length ∧ ∀ m, m ∈ ns → (∀ y, y ∈ ns → y ≤ m) → Q (.int m) H
def rMinT (K : PySem.W.Frag) : List V → Hp → VK → Prop := fun vs H Q => ∃ (a : Addr) (ns : List Int), vs = [V.ref a] ∧ SqT K H a (ns.map V.int) ∧ 0 < ns.length ∧ ∀ m, m ∈ ns → (∀ y, y ∈ ns → m ≤ y) → Q (.int m) H
theorem ints_items {us : List Value} {ns : List Int} (h : IntsAre us ns) : ∃ xs, us.toArray = intItems xs ∧ xs.toList.map (·.1) = ns := by
  obtain ⟨xs, e⟩ := h.allInts.items
  refine ⟨xs, e, ?_⟩
  rw [← nums_intItems, ← e]
  exact h.numsOf
theorem cr_sumT (hc : X.calm = true) : CallR X (.builtin "sum") (rSumT X.K) := fun pins s σ H vs us Q I r ⟨a, ns, ev, hs, q⟩ => by
  subst ev
  obtain ⟨its, rv, ht, _⟩ := I.tuple hs
  rw [Vals.ref1 r]
  obtain ⟨xs, e1, e2⟩ := ints_items rv.ints
  rw [e1] at ht
  refine PySem.W.ktm_sumG (I.ok.hd hc) ht fun h' tk t' hk => ⟨.int ns.sum, H, I.kept hk, ⟨t', ?_⟩, q⟩
  rw [preSum_eq, List.take_of_length_le (by simp), e2]
theorem cr_maxT (hc : X.calm = true) : CallR X (.builtin "max") (rMaxT X.K) := fun pins s σ H vs us Q I r ⟨a, ns, ev, hs, hne, q⟩ => by
  subst ev
  obtain ⟨its, rv, ht, _⟩ := I.tuple hs
  rw [Vals.ref1 r]
  obtain ⟨xs, e1, e2⟩ := ints_items rv.ints
  rw [e1] at ht
  subst e2
  have size0 : 0 < xs.size := by simpa using hne
  refine PySem.max_tupI (I.ok.hd hc) ht size0 fun v h' tk hv hk => ?_
  obtain ⟨t, rfl⟩ := intItems_at hv
  obtain ⟨b1, b2⟩ := argBest_gt (numAt xs) (xs.size - 1)
  refine ⟨.int _, H, I.kept hk, ⟨t, rfl⟩, q _ ?_ fun y hy => ?_⟩
  · rw [numAt_eq]
    exact PySem.getD_mem (by rw [List.length_map, Array.length_toList]; omega)
  · obtain ⟨j, hj, rfl⟩ := mem_getD hy
    rw [List.length_map, Array.length_toList] at hj
    rw [← numAt_eq]
    exact b2 j (by omega)
theorem cr_minT (hc : X.calm = true) : CallR X (.builtin "min") (rMinT X.K) := fun pins s σ H vs us Q I r ⟨a, ns, ev, hs, hne, q⟩ => by
  subst ev
  obtain ⟨its, rv, ht, _⟩ := I.tuple hs
  rw [Vals.ref1 r]
  obtain ⟨xs, e1, e2⟩ := ints_items rv.ints
  rw [e1] at ht
  subst e2
  have size0 : 0 < xs.size := by simpa using hne
  refine PySem.min_tupI (I.ok.hd hc) ht size0 fun v h' tk hv hk => ?_
  obtain ⟨t, rfl⟩ := intItems_at hv
  obtain ⟨b1, b2⟩ := argBest_lt (numAt xs) (xs.size - 1)
  refine ⟨.int _, H, I.kept hk, ⟨t, rfl⟩, q _ ?_ fun y hy => ?_⟩
  · rw [numAt_eq]
    exact PySem.getD_mem (by rw [List.length_map, Array.length_toList]; omega)
  · obtain ⟨j, hj, rfl⟩ := mem_getD hy
    rw [List.length_map, Array.length_toList] at hj
    rw [← numAt_eq]
    exact b2 j (by omega)
theorem cd_sum (hc : X.calm = true) : CallD X (.builtin "sum") sumD := CallR.imp (CallR.or (cr_sum hc) (cr_sumT hc)) fun xs H Q ⟨F, ds, r, i, rx, hg, q⟩ => by
  unfold sumD at hg
  split at hg
  · obtain ⟨ns, h1, rfl⟩ := Option.map_eq_some_iff.mp hg
    obtain ⟨v, rfl, h⟩ := rx.one
    cases h with
    | lst hs rs =>
      rw [ints_rp rs h1] at hs
      exact .inl ⟨_, ns, rfl, .inl (.inl (i _ _ hs)), q _ F H (.refl i) (.int _)⟩
  · obtain ⟨ns, h1, rfl⟩ := Option.map_eq_some_iff.mp hg
    obtain ⟨v, rfl, h⟩ := rx.one
    cases h with
    | tup hs rs =>
      rw [ints_rp rs h1] at hs
      exact .inr ⟨_, ns, rfl, (hs.sq i), q _ F H (.refl i) (.int _)⟩
  · cases hg
theorem maxZ_is {n m : Int} {ns : List Int} (hm : m ∈ n :: ns) (hall : ∀ y ∈ n :: ns, y ≤ m) : m = maxZ n ns := by
  obtain ⟨a, b, c⟩ := maxZ_ok ns n
  have h1 : m ≤ maxZ n ns := by
    rcases List.mem_cons.mp hm with rfl | hm
    · exact b
    · exact c m hm
  have h2 : maxZ n ns ≤ m := by
    rcases a with a | a
    · rw [a]; exact hall n (List.mem_cons_self ..)
    · exact hall _ (List.mem_cons_of_mem _ a)
  omega
theorem minZ_is {n m : Int} {ns : List Int} (hm : m ∈ n :: ns) (hall : ∀ y ∈ n :: ns, m ≤ y) : m = minZ n ns := by
  obtain ⟨a, b, c⟩ := minZ_ok ns n
  have h1 : minZ n ns ≤ m := by
    rcases List.mem_cons.mp hm with rfl | hm
    · exact b
    · exact c m hm
  have h2 : m ≤ minZ n ns := by
    rcases a with a | a
    · rw [a]; exact hall n (List.mem_cons_self ..)
    · exact hall _ (List.mem_cons_of_mem _ a)
  omega
theorem cd_max (hc : X.calm = true) : CallD X (.builtin "max") maxD := CallR.imp (CallR.or (cr_max hc) (cr_maxT hc)) fun xs H Q ⟨F, ds, r, i, rx, hg, q⟩ => by
  unfold maxD at hg
  split at hg
  · split at hg
    · rename_i n ns h1
      cases hg
      obtain ⟨v, rfl, h⟩ := rx.one
      cases h with
      | lst hs rs =>
        rw [ints_rp rs h1] at hs
        exact .inl ⟨_, n :: ns, rfl, .inl (.inl (i _ _ hs)), Nat.succ_pos _, fun m hm hall => by rw [maxZ_is hm hall]; exact q _ F H (.refl i) (.int _)⟩
    · cases hg
  · split at hg
    · rename_i n ns h1
      cases hg
      obtain ⟨v, rfl, h⟩ := rx.one
      cases h with
      | tup hs rs =>
        rw [ints_rp rs h1] at hs
        exact .inr ⟨_, n :: ns, rfl, (hs.sq i), Nat.succ_pos _, fun m hm hall => by rw [maxZ_is hm hall]; exact q _ F H (.refl i) (.int _)⟩
    · cases hg
  · cases hg
theorem cd_min (hc : X.calm = true) : CallD X (.builtin "min") minD := CallR.imp (CallR.or (cr_min hc) (cr_minT hc)) fun xs H Q ⟨F, ds, r, i, rx, hg, q⟩ => by
  unfold minD at hg
  split at hg
  · split at hg
    · rename_i n ns h1
      cases hg
      obtain ⟨v, rfl, h⟩ := rx.one
      cases h with
      | lst hs rs =>
        rw [ints_rp rs h1] at hs
        exact .inl ⟨_, n :: ns, rfl, .inl (.inl (i _ _ hs)), Nat.succ_pos _, fun m hm hall => by rw [minZ_is hm hall]; exact q _ F H (.refl i) (.int _)⟩
    · cases hg
  · split at hg
    · rename_i n ns h1
      cases hg
      obtain ⟨v, rfl, h⟩ := rx.one
      cases h with
      | tup hs rs =>
        rw [ints_rp rs h1] at hs
        exact .inr ⟨_, n :: ns, rfl, (hs.sq i), Nat.succ_pos _, fun m hm hall => by rw [minZ_is hm hall]; exact q _ F H (.refl i) (.int _)⟩
    · cases hg
  · cases hg
end
end Dl
namespace Dl
open PySem PySem.Spec L2 PyProof.Rows
/-! all, any of lists of truth values -/
def boolsOf : List D → Option (List Bool)
  | [] => some []
  | .bool b :: ds => (boolsOf ds).map (b :: ·)
  | _ :: _ => none
theorem boolsOf_map : ∀ bs : List Bool, boolsOf (bs.map .bool) = some bs
  | [] => rfl
  | b :: bs => by
    show (boolsOf (bs.map .bool)).map (b :: ·) = _
    rw [boolsOf_map bs]
    rfl
theorem bools_rp {K : PySem.W.Frag} {F : Fz} : ∀ {vs : List V} {ds : List D} {bs : List Bool}, RpL K F vs ds → boolsOf ds = some bs → vs = bs.map V.bl
  | _, _, bs, .nil, h => by
    cases h
    rfl
  | _, _, bs, .cons (d := d) r rs, h => by
    cases r with
    | bl b =>
      rename_i vs ds
      have h' : (boolsOf ds).map (b :: ·) = some bs := h
      obtain ⟨ms, h1, rfl⟩ := Option.map_eq_some_iff.mp h'
      rw [bools_rp rs h1]
      rfl
    | _ => cases h
def allD : List D → Option D
  | [.list ds] => (boolsOf ds).map fun bs => .bool (bs.all id)
  | _ => none
def anyD : List D → Option D
  | [.list ds] => (boolsOf ds).map fun bs => .bool (bs.any id)
  | _ => none
section
variable {X : Cx}
theorem cd_all (hc : X.calm = true) : CallD X (.builtin "all") allD := CallR.imp (cr_all hc) fun xs H Q ⟨F, ds, r, i, rx, hg, q⟩ => by
  unfold allD at hg
  split at hg
  · obtain ⟨bs, h1, rfl⟩ := Option.map_eq_some_iff.mp hg
    obtain ⟨v, rfl, h⟩ := rx.one
    cases h with
    | lst hs rs =>
      rw [bools_rp rs h1] at hs
      exact ⟨_, bs, rfl, .inl (.inl (i _ _ hs)), q _ F H (.refl i) (.bl _)⟩
  · cases hg
theorem cd_any (hc : X.calm = true) : CallD X (.builtin "any") anyD := CallR.imp (cr_any hc) fun xs H Q ⟨F, ds, r, i, rx, hg, q⟩ => by
  unfold anyD at hg
  split at hg
  · obtain ⟨bs, h1, rfl⟩ := Option.map_eq_some_iff.mp hg
    obtain ⟨v, rfl, h⟩ := rx.one
    cases h with
    | lst hs rs =>
      rw [bools_rp rs h1] at hs
      exact ⟨_, bs, rfl, .inl (.inl (i _ _ hs)), q _ F H (.refl i) (.bl _)⟩
  · cases hg
end
end Dl

/-! Steps of the later words. -/
namespace Dl
section
variable (s : S) (a : Ex) (x : Ax)
@[simp] theorem ev_sum (ds : List D) : sumD [.list ds] = (intsOf ds).map fun ns => .int ns.sum := Eq.trans rfl rfl
@[simp] theorem ev_maxL (ds : List D) : maxD [.list ds] = (match intsOf ds with
  | some (n :: ns) => some (.int (maxZ n ns))
  | _ => none) := Eq.trans rfl rfl
@[simp] theorem ev_minL (ds : List D) : minD [.list ds] = (match intsOf ds with
  | some (n :: ns) => some (.int (minZ n ns))
  | _ => none) := Eq.trans rfl rfl
@[simp] theorem ev_sumT (ds : List D) : sumD [.tuple ds] = (intsOf ds).map fun ns => .int ns.sum := Eq.trans rfl rfl
@[simp] theorem ev_maxT (ds : List D) : maxD [.tuple ds] = (match intsOf ds with
  | some (n :: ns) => some (.int (maxZ n ns))
  | _ => none) := Eq.trans rfl rfl
@[simp] theorem ev_minT (ds : List D) : minD [.tuple ds] = (match intsOf ds with
  | some (n :: ns) => some (.int (minZ n ns))
  | _ => none) := Eq.trans rfl rfl
@[simp] theorem ev_all (ds : List D) : allD [.list ds] = (boolsOf ds).map fun bs => .bool (bs.all id) := Eq.trans rfl rfl
@[simp] theorem ev_any (ds : List D) : anyD [.list ds] = (boolsOf ds).map fun bs => .bool (bs.any id) := Eq.trans rfl rfl
@[simp] theorem ev_rev (ds : List D) : revD (.list ds) = some (.list ds.reverse) := Eq.trans rfl rfl
@[simp] theorem ev_iEnum : iEnum a s = (match a s with
  | some (.list ds, s1) => some (enD 0 ds, s1)
  | some (.tuple ds, s1) => some (enD 0 ds, s1)
  | _ => none) := Eq.trans rfl rfl
@[simp] theorem ev_oSorted : oSorted a s = (match a s with
  | some (.list ds, s1) => (intsOf ds).map fun ns => ((isort ns).map .int, s1)
  | some (.tuple ds, s1) => (intsOf ds).map fun ns => ((isort ns).map .int, s1)
  | _ => none) := Eq.trans rfl rfl
@[simp] theorem ev_iRange3 : iRange3 x s = (match x s with
  | some ([.int i, .int j, .int c], s1) => if inR i && inR j && decide (c = -1) then some (rgC i (-1) (i - j).toNat, s1) else none
  | _ => none) := Eq.trans rfl rfl
end
end Dl

/-! The data layer, part 17: tuples reversed; counts; texts of numbers; dicts; sorted sets; tuples and lists of ranges. -/
namespace Dl
open PySem PySem.Spec PyProof.Rows L2
/-! ### t[::-1] -/
section
variable {prog : Program} {w : World} {A : Around} {E : Value → Shared → Prop} {s : Shared}
theorem places_down (n : Nat) : Builtin.Slice.slicePlaces ((n : Int) - 1) (-1) (-1) = n := by
  unfold Builtin.Slice.slicePlaces
  rw [if_neg (by decide)]
  split
  · have : (-(-1) : Int) = 1 := by decide
    rw [this, Int.ediv_one]
    omega
  · simp only [Int.toNat_zero]
    omega
theorem sliceApplied_down {sl : Addr} {u : Tok} {n : Nat} {Q : Int × Int × Nat → Shared → Prop} (hs : s.heap.IsSliceOf sl .none .none (.int (-1) u)) (h : Q ((n : Int) - 1, -1, n) s) :
    wpAny (model prog w) A (Builtin.Slice.sliceApplied (.ref sl) (pure (n : Int))) Q E s := by
  obtain ⟨os, hos, hcs, hds⟩ := id hs
  unfold Builtin.Slice.sliceApplied Builtin.Slice.sliceFields
  refine wpAny_bind (wpAny_bind (wpAny_field hos hds (x := .none) rfl (wpAny_bind (wpAny_field hos hds (x := .none) rfl (wpAny_bind (wpAny_field hos hds (x := .int (-1) u) rfl (wpAny_pure ?_)))))))
  refine wpAny_bind (HT.slicePart_ (.int (-1) u) ?_)
  show wpAny _ _ (if ((-1 : Int) == 0) = true then _ else _) _ _ s
  rw [if_neg (by decide)]
  refine wpAny_bind (HT.slicePart_ .none (wpAny_bind (HT.slicePart_ .none (wpAny_bind (wpAny_pure ?_)))))
  show wpAny _ _ (pure (((n : Int) - 1, (-1 : Int), Builtin.Slice.slicePlaces ((n : Int) - 1) (-1) (-1)))) _ _ s
  rw [places_down]
  exact wpAny_pure h
theorem pick_down (xs : Array Value) : ((List.range xs.size).filterMap fun (k : Nat) => xs[((xs.size : Int) - 1 + (k : Int) * -1).toNat]?) = xs.toList.reverse := by
  have cong : ∀ (l : List Nat) (f g : Nat → Option Value), (∀ k ∈ l, f k = g k) → l.filterMap f = l.filterMap g := by
    intro l f g h
    induction l with
    | nil => rfl
    | cons x l ih => rw [List.filterMap_cons, List.filterMap_cons, h x (List.mem_cons_self ..), ih fun k hk => h k (List.mem_cons_of_mem _ hk)]
  have e1 : (List.range xs.size).filterMap (fun (k : Nat) => xs[((xs.size : Int) - 1 + (k : Int) * -1).toNat]?) = (List.range xs.size).filterMap fun k => xs.toList.reverse[k]? := by
    refine cong _ _ _ fun k hk => ?_
    have hk' : k < xs.toList.length := by simpa using hk
    rw [List.getElem?_reverse hk', Array.getElem?_toList]
    have : ((xs.size : Int) - 1 + (k : Int) * -1).toNat = xs.toList.length - 1 - k := by
      simp at hk' ⊢
      omega
    rw [this]
  rw [e1]
  have e2 : ∀ (l : List Value), (List.range l.length).filterMap (fun k => l[k]?) = l := by
    intro l
    induction l with
    | nil => rfl
    | cons x l ih =>
      rw [List.length_cons, List.range_succ_eq_map, List.filterMap_cons]
      simp only [List.getElem?_cons_zero, List.filterMap_map]
      exact congrArg (x :: ·) (by simpa [Function.comp_def] using ih)
  have := e2 xs.toList.reverse
  rwa [List.length_reverse, Array.length_toList] at this
theorem getItem_tuple_down {t sl : Addr} {items : Array Value} {u : Tok} {Q : Value → Shared → Prop} (ht : IsTup s.heap t items) (hs : s.heap.IsSliceOf sl .none .none (.int (-1) u))
    (h : Q (.ref s.heap.objs.size) { s with heap := s.heap.push { cls := .type "tuple", data := .seq items.toList.reverse.toArray } }) (hsz : items.size ≤ sizeLine) : wpAny (model prog w) A (getItem (.ref t) (.ref sl)) Q E s := by
  have hz : sizeOk (.seq items.toList.reverse.toArray) := by
    show items.toList.reverse.toArray.size ≤ sizeLine
    simpa using hsz
  obtain ⟨os, hos, hcs, hds⟩ := id hs
  have hTs : s.TypeIs (.ref sl) "slice" := ⟨os, hos, hcs⟩
  unfold getItem
  try with_reducible refine wpAny_holding ?_
  first | refine wpAny_bind (wpAny_pure ?_) | skip
  refine wpAny_bind (wpAny_sequenceKey ht.typeIs (by decide) ?_)
  refine wpAny_bind (wpAny_callSpecial?_slot (name := Str.ofString "__getitem__") ht.typeIs PyProof.Rows.slot_tuple_getitem (wpAny_call_entry PyProof.Rows.slot_tuple_getitem ht.typeIs entry_tuple_getitem ?_ (args_tuple_getitem _ _)))
  show wpAny _ _ (Builtin.Tuple.tupleItemsOf (.ref t) >>= _) _ _ s
  refine wpAny_bind (tupleItemsOf_ ht ?_)
  refine wpAny_bind (wpAny_typeOf hTs ?_)
  rw [if_pos (by decide)]
  refine wpAny_bind (sliceApplied_down hs ?_)
  have hno : ¬ ((((items.size : Int) - 1) == 0 && (-1 : Int) == 1 && items.size == items.size) = true) := by simp
  show wpAny _ _ (if (((items.size : Int) - 1) == 0 && (-1 : Int) == 1 && items.size == items.size) = true then _ else _) _ _ s
  rw [if_neg hno, pick_down]
  first
    | exact wpAny_bind (m := Builtin.Tuple.tupleExact _) (wpAny_newObj_type (wpAny_pure ⟨_, rfl, wpAny_pure h⟩) hz)
    | exact wpAny_bind (m := Builtin.Tuple.tupleExact _) (wpAny_newObj_type (wpAny_bind (wpAny_pure (wpAny_pure ⟨_, rfl, wpAny_pure h⟩))) hz)
    | exact wpAny_bind (wpAny_bind (m := Builtin.Tuple.tupleExact _) (wpAny_newObj_type (wpAny_pure (wpAny_pure ⟨_, rfl, wpAny_pure h⟩)) hz))
    | exact wpAny_bind (wpAny_bind (m := Builtin.Tuple.tupleExact _) (wpAny_newObj_type (wpAny_pure ⟨_, rfl, wpAny_pure h⟩) hz))
end
section
variable {X : Cx} {C : Ct} {e e2 : Expr} {es : List Expr} {fe fb : Ex} {fr : Ax}
theorem pe_or {t t' : TE} (h : PE X e t) (h' : PE X e t') : PE X e (fun σ H Q => t σ H Q ∨ t' σ H Q) := ⟨fun pins s σ H Q I z => z.elim (h.run pins s σ H Q I) (h'.run pins s σ H Q I)⟩
def wRevT (K : PySem.W.Frag) (te : TE) : TE := fun σ H Q => te σ H fun x H1 => ∃ a xs, x = .ref a ∧ SqT K H1 a xs ∧ NewT H1 xs.reverse Q
theorem pe_revK {te : TE} {k : Nat} {p1 p2 p3 pos : Pos} (he : PE X e te) : PE X (.Subscript e (.Slice none none (some (.UnaryOp .USub (.Constant (.int 1) k p1) p2)) p3) pos) (wRevT X.K te) :=
  ⟨fun pins s σ H Q I h => Subscript_ (thn (he.run pins s σ H _ I h) fun v s1 ⟨x, H1, I1, r1, a, xs, ex, hx, q⟩ => by
    subst ex
    cases r1
    have hst : PO X (some (.UnaryOp .USub (.Constant (.int 1) k p1) p2)) (tPart (tUn (rU fun i => .int (-i)) (tC (.int 1)))) := po_some (pe_un un_neg pe_int)
    refine wpAny_Slice (thn (po_none.run pins s1 σ H1 (fun o H2 => o = none ∧ H2 = H1) I1 ⟨rfl, rfl⟩) fun vl s2 ⟨l, H2, I2, pl, el, e2⟩ => ?_)
    subst el e2
    refine thn (po_none.run pins s2 σ H2 (fun o H3 => o = none ∧ H3 = H2) I2 ⟨rfl, rfl⟩) fun vu s3 ⟨u, H3, I3, pu, eu, e3⟩ => ?_
    subst eu e3
    refine thn (hst.run pins s3 σ H3 (fun o H4 => o = some (-1) ∧ H4 = H3) I3 ⟨1, rfl, -1, rfl, rfl, rfl⟩) fun vs s4 ⟨o, H4, I4, ps, eo, e4⟩ => ?_
    subst eo e4
    obtain rfl : vl = .none := by cases pl; rfl
    obtain rfl : vu = .none := by cases pu; rfl
    obtain ⟨tk, rfl⟩ : ∃ tk, vs = .int (-1) tk := by cases ps; exact ⟨_, rfl⟩
    have I5 : L2.Inv X pins σ H4 { s4 with heap := s4.heap.push { cls := .type "slice", data := .fields #[.none, .none, .int (-1) tk] } } := I4.kept (t' := s4.toks) fun b ob q => Heap.get?_push_of_some _ q
    obtain ⟨its, r, ht, hz⟩ := I5.tuple hx
    have hl := r.length
    show wpAny (model X.prog X.w) X.A (subscriptTail e (.Slice none none (some (.UnaryOp .USub (.Constant (.int 1) k p1) p2)) p3) (.ref a) (.ref s4.heap.objs.size)) (EP X pins σ Q) X.xe { s4 with heap := s4.heap.push { cls := .type "slice", data := .fields #[.none, .none, .int (-1) tk] } }
    refine tail_any (ops := [.ref a, .ref s4.heap.objs.size]) ht.typeIs (PyProof.Rows.slot_tuple_getitem.lookup) ?_ (by with_unfolding_all rfl)
    refine getItem_tuple_down ht (Heap.IsSliceOf.new _ _ _ _) ?_ (by rw [List.size_toArray]; omega)
    exact ep_newT I5 (k := s4.toks) (by rw [List.length_reverse]; exact hz) r.reverse q)⟩
def rev2D : D → Option D
  | .list xs => some (.list xs.reverse)
  | .tuple xs => some (.tuple xs.reverse)
  | _ => none
theorem de_rev2 {k : Nat} {p1 p2 p3 pos : Pos} (he : PE X e (tD X.K C fe)) : PE X (.Subscript e (.Slice none none (some (.UnaryOp .USub (.Constant (.int 1) k p1) p2)) p3) pos) (tD X.K C (dUn rev2D fe)) :=
  pe_imp (pe_or (pe_revL he) (pe_revK he)) fun σ H Q ⟨F, s, d, s', w, ee, q⟩ => by
    unfold dUn at ee
    split at ee
    · cases ee
    rename_i x s1 ea
    split at ee
    · cases ee
    rename_i r er
    cases ee
    unfold rev2D at er
    split at er
    · cases er
      refine .inl (tD_run w ea fun v F1 H1 m1 w1 r1 => ?_)
      cases r1 with
      | @lst a vs ds hx rs => exact ⟨a, vs, rfl, .inl (.inl (w1.into _ _ hx)), fun p hp => q _ _ _ (m1.trans (.grow (grow_new w1.into hp))) (w1.grow (grow_new w1.into hp)) (rp_updL w1.into hp rs.rev)⟩
    · cases er
      refine .inr (tD_run w ea fun v F1 H1 m1 w1 r1 => ?_)
      cases r1 with
      | @tup a vs ds hx rs => exact ⟨a, vs, rfl, (hx.sq w1.into), fun p o hp hc hd => q _ _ _ (m1.trans (.grow (grow_new w1.into hp))) (w1.grow (grow_new w1.into hp)) (rp_upd w1.into hp rs.rev hc hd)⟩
    · cases er

/-! ### t.count(x), xs.count(x) -/
def countD (x : D) (ds : List D) : Option D := match ds with
  | [d] => (match x with
    | .tuple es => if SeqAt.shaped d && SeqAt.shaped (.tuple es) then some (.int ((es.countP fun y => PyData.eqv y d : Nat) : Int)) else none
    | .list es => if SeqAt.shaped d && SeqAt.shaped (.list es) then some (.int ((es.countP fun y => PyData.eqv y d : Nat) : Int)) else none
    | _ => none)
  | _ => none
def rCnt (K : PySem.W.Frag) (k : Bool) : V → List V → Hp → VK → Prop := fun x xs H Q => ∃ F d es vs a, Into F H ∧ x = .ref a ∧ SqK k K H a vs ∧ RpL K F vs es ∧ RpL K F xs [d] ∧ SeqAt.shaped d = true ∧ PyData.canLayAll0 es = true ∧ Q (.int ((es.countP fun y => PyData.eqv y d : Nat) : Int)) H
theorem cnt_ready {pins : List (Addr × Obj)} {s : Shared} {σ : L2.St} {H : Hp} {F : Fz} {vs xs : List V} {us its : List Value} {es : List D} {d : D} (I : Inv X pins σ H s) (i : Into F H) (r1 : RpL X.K F vs es) (rv : Vals vs its) (r2 : RpL X.K F xs [d]) (rx : Vals xs us)
    (h1 : SeqAt.shaped d = true) (h2 : PyData.canLayAll0 es = true) : ∃ u as bs, us = [u] ∧ ReadsAll s.heap its.toArray.toList es as ∧ Reads s.heap u d bs := by
  obtain ⟨y, rfl, ry⟩ := r2.one
  obtain ⟨u, rfl, ru⟩ := vals1 rx
  obtain ⟨bs, q2⟩ := Dp.reads I d y u (dp_sh i ry h1) ru
  obtain ⟨as, q1⟩ := Dp.readsAll I es vs its (dpl_of i es vs r1 h2) rv
  exact ⟨u, as, bs, rfl, by simpa using q1, q2⟩
theorem mt_countT (hu : X.A.units + 65 < cLine) : MtR X "tuple.count" (rCnt X.K false) := by
  intro pins s σ H x xs v us Q I rx rs ⟨F, d, es, vs, a, i, ex, hs, r1, r2, h1, h2, q⟩
  subst ex
  cases rx
  obtain ⟨its, rv, pt, _⟩ := I.tuple hs
  obtain ⟨u, as, bs, rfl, q1, q2⟩ := cnt_ready I i r1 rv r2 rs h1 h2
  exact PySem.SeqAt.count_tuple_data pt q1 q2 (PyData.plainAll_of_canLay0 _ h2) (PyData.plain_of_canLay0 _ (SeqAt.canLay_of_shaped h1)) (room_in h1 hu) ⟨.int _, H, I.tok _, ⟨_, rfl⟩, q⟩
theorem mt_countL (hu : X.A.units + 65 < cLine) : MtR X "list.count" (rCnt X.K true) := by
  intro pins s σ H x xs v us Q I rx rs ⟨F, d, es, vs, a, i, ex, hs, r1, r2, h1, h2, q⟩
  subst ex
  cases rx
  obtain ⟨its, rv, pt, _⟩ := I.list hs
  obtain ⟨u, as, bs, rfl, q1, q2⟩ := cnt_ready I i r1 rv r2 rs h1 h2
  exact PySem.SeqAt.count_list_data pt.isList q1 q2 (PyData.plainAll_of_canLay0 _ h2) (PyData.plain_of_canLay0 _ (SeqAt.canLay_of_shaped h1)) (room_in h1 hu) ⟨.int _, H, I.tok _, ⟨_, rfl⟩, q⟩
theorem de_count {o : Expr} {fo : Ex} {apos cpos : Pos} (hu : X.A.units + 65 < cLine) (ho : PE X o (tD X.K C fo)) (ha : PA X (e :: es) (tA X.K C fr))
    (hbase : attributeBase o "count" X.env (eval o X.env) = eval o X.env := by rfl)
    (hfew : ((backTo cpos (starEach (e :: es) X.env)).all (fun a => !a.1) && (backToKw cpos (keywordEach [] X.env)).all (fun a => a.1.isSome) && decide ((e :: es).length + ([] : List Keyword).length + (if ([] : List Keyword).isEmpty then 0 else 1) < 30)) = true := by rfl)
    (hline : (apos.endLine == cpos.line) = true := by rfl) (hs : starEach (e :: es) X.env = (false, eval e X.env) :: starEach es X.env := by rfl)
    (hplain : (backTo cpos (starEach es X.env)).any (·.1) = false := by rfl) : PE X (.Call (.Attribute o "count" apos) (e :: es) [] cpos) (tD X.K C (dMt countD fo fr)) :=
  pe_imp (pe_or (pe_bmT PySem.F.slot_tuple_count PySem.F.type_tuple_count (mt_countT hu) ho ha hbase hfew hline hs hplain)
    (pe_bm PySem.F.plainAttrs_list PySem.F.slot_list_count PySem.F.type_list_count (mt_countL hu) ho ha hbase hfew hline hs hplain)) fun σ H Q ⟨F, s, d, s', w, ee, q⟩ => by
    unfold dMt at ee
    split at ee
    · cases ee
    rename_i x s1 eo
    split at ee
    · cases ee
    rename_i ds s2 ea
    split at ee
    · cases ee
    rename_i r er
    cases ee
    unfold countD at er
    split at er
    rotate_left
    · cases er
    rename_i d0
    split at er
    · rename_i es0
      split at er
      · rename_i hb
        simp only [Bool.and_eq_true] at hb
        cases er
        refine .inl (tD_run w eo fun v F1 H1 m1 w1 r1 => ?_)
        cases r1 with
        | @tup a vs ds hx rs =>
          refine ⟨⟨a, vs, rfl, hx.kn w1.into⟩, tA_run w1 ea fun xs F2 H2 m2 w2 r2 => ⟨F2, d0, es0, vs, a, w2.into, rfl, (hx.up m2.sub).sq w2.into, rs.up m2.sub, r2, hb.1, ?_, q _ F2 H2 (m1.trans m2) w2 (.int _)⟩⟩
          have := SeqAt.canLay_of_shaped hb.2
          rwa [PyData.canLay0] at this
      · cases er
    · rename_i es0
      split at er
      · rename_i hb
        simp only [Bool.and_eq_true] at hb
        cases er
        refine .inr (tD_run w eo fun v F1 H1 m1 w1 r1 => ?_)
        cases r1 with
        | @lst a vs ds hx rs =>
          refine ⟨.inl ⟨rfl, vs, .inl (.inl (w1.into _ _ hx))⟩, tA_run w1 ea fun xs F2 H2 m2 w2 r2 => ⟨F2, d0, es0, vs, a, w2.into, rfl, .inl (.inl (w2.into _ _ (m2.sub _ _ hx))), rs.up m2.sub, r2, hb.1, ?_, q _ F2 H2 (m1.trans m2) w2 (.int _)⟩⟩
          have := SeqAt.canLay_of_shaped hb.2
          rwa [PyData.canLay0] at this
      · cases er
    · cases er

/-! ### str(n) -/
def strD : List D → Option D
  | [.int i] => if decide (i.natAbs.log2 < 1920) then some (.str (toString i)) else none
  | [.str x] => some (.str x)
  | _ => none
theorem call_strK : CallR X (.type "str") (fun xs H Q => ∃ a, xs = [.str a] ∧ Q (.str a) H) := by
  intro pins s σ H xs us Q I r ⟨a, ex, q⟩
  subst ex
  obtain ⟨u, rfl, t, rfl⟩ := vals1 r
  exact PySem.P.str_of_str ⟨.str a, H, I, ⟨t, rfl⟩, q⟩
theorem cd_str : CallD X (.type "str") strD := CallR.imp (CallR.or call_str_int call_strK) fun xs H Q ⟨F, ds, r, i, rx, hg, q⟩ => by
  unfold strD at hg
  split at hg
  · split at hg
    · rename_i hb
      cases hg
      obtain ⟨v, rfl, rv⟩ := rx.one
      cases rv
      exact .inl ⟨_, rfl, of_decide_eq_true hb, q _ F H (.refl i) (.str _)⟩
    · cases hg
  · cases hg
    obtain ⟨v, rfl, rv⟩ := rx.one
    cases rv
    exact .inr ⟨_, rfl, q _ F H (.refl i) (.str _)⟩
  · cases hg

/-! ### {}, {'a': 0} -/
def dDict0 : Ex := fun s => some (.dict [], s)
def dDict1 (k : PySem.Str) (i : Int) : Ex := fun s => some (.dict [(.str k, .int i)], s)
theorem de_dict0 {pos : Pos} : PE X (.Dict [] [] pos) (tD X.K C dDict0) := pe_imp pe_dnewK fun σ H Q ⟨F, s, d, s', w, ee, q⟩ => by
  cases ee
  intro p hp
  have gr := grow_new (o := .dK []) w.into hp
  exact q _ _ _ (.grow gr) (w.grow gr) (.dct updF_same .nil)
theorem de_dict1 {k : PySem.Str} {i : Int} {j j2 : Nat} {p1 p2 pos : Pos} : PE X (.Dict [some (.Constant (.str k) j p1)] [.Constant (.int i) j2 p2] pos) (tD X.K C (dDict1 k i)) :=
  pe_imp (pe_disp (pps_cons pe_str pe_int pps_nil) rfl rfl (by simp) (by simp)) fun σ H Q ⟨F, s, d, s', w, ee, q⟩ => by
    cases ee
    intro p hp
    have gr := grow_new (o := .dK [(.inr k, .int i)]) w.into hp
    refine ⟨upd_same, [(.inr k, .int i)], rfl, by simp, ?_⟩
    rw [upd_upd]
    exact q _ _ _ (.grow gr) (w.grow gr) (.dct (ds := [(.str k, .int i)]) updF_same (.cons (k := .inr k) (.int i) .nil))

/-! ### sorted(set(t)) -/
def insU (x : Int) : List Int → List Int
  | [] => [x]
  | y :: ys => if x < y then x :: y :: ys else if x = y then y :: ys else y :: insU x ys
def sset : List Int → List Int
  | [] => []
  | x :: xs => insU x (sset xs)
theorem insU_mem (x z : Int) : ∀ ys : List Int, z ∈ insU x ys ↔ z = x ∨ z ∈ ys
  | [] => by simp [insU]
  | y :: ys => by
    unfold insU
    split
    · simp
    · split
      · rename_i h; subst h; simp
      · rw [List.mem_cons, insU_mem x z ys, List.mem_cons]
        constructor
        · rintro (h | h | h)
          · exact .inr (.inl h)
          · exact .inl h
          · exact .inr (.inr h)
        · rintro (h | h | h)
          · exact .inr (.inl h)
          · exact .inl h
          · exact .inr (.inr h)
theorem insU_pw (x : Int) : ∀ ys : List Int, ys.Pairwise (· < ·) → (insU x ys).Pairwise (· < ·)
  | [], _ => by simp [insU]
  | y :: ys, h => by
    have h' := List.pairwise_cons.mp h
    unfold insU
    split
    · rename_i hx
      refine List.pairwise_cons.mpr ⟨fun z hz => ?_, h⟩
      rcases List.mem_cons.mp hz with rfl | hz
      · exact hx
      · have := h'.1 z hz
        omega
    · split
      · exact h
      · rename_i h1 h2
        refine List.pairwise_cons.mpr ⟨fun z hz => ?_, insU_pw x ys h'.2⟩
        rcases (insU_mem x z ys).mp hz with rfl | hz
        · omega
        · exact h'.1 z hz
theorem sset_mem (z : Int) : ∀ xs : List Int, z ∈ sset xs ↔ z ∈ xs
  | [] => by simp [sset]
  | x :: xs => by rw [sset, insU_mem, sset_mem z xs, List.mem_cons]
theorem sset_pw : ∀ xs : List Int, (sset xs).Pairwise (· < ·)
  | [] => .nil
  | x :: xs => insU_pw x _ (sset_pw xs)
theorem asc_one : ∀ {xs ys : List Int}, xs.Pairwise (· < ·) → ys.Pairwise (· < ·) → (∀ z, z ∈ xs ↔ z ∈ ys) → xs = ys
  | [], [], _, _, _ => rfl
  | [], y :: ys, _, _, h => by have := (h y).mpr (List.mem_cons_self ..); cases this
  | x :: xs, [], _, _, h => by have := (h x).mp (List.mem_cons_self ..); cases this
  | x :: xs, y :: ys, h1, h2, h => by
    have a := List.pairwise_cons.mp h1
    have b := List.pairwise_cons.mp h2
    have e : x = y := by
      rcases List.mem_cons.mp ((h x).mp (List.mem_cons_self ..)) with q | q
      · exact q
      rcases List.mem_cons.mp ((h y).mpr (List.mem_cons_self ..)) with q2 | q2
      · exact q2.symm
      have := a.1 y q2
      have := b.1 x q
      omega
    subst e
    rw [asc_one a.2 b.2 fun z => ⟨fun hz => ?_, fun hz => ?_⟩]
    · rcases List.mem_cons.mp ((h z).mp (List.mem_cons_of_mem _ hz)) with q | q
      · have := a.1 z hz; omega
      · exact q
    · rcases List.mem_cons.mp ((h z).mpr (List.mem_cons_of_mem _ hz)) with q | q
      · have := b.1 z hz; omega
      · exact q
theorem sset_len (xs : List Int) : (sset xs).length ≤ xs.length := by
  have hi : ∀ (x : Int) (ys : List Int), (insU x ys).length ≤ ys.length + 1 := by
    intro x ys
    induction ys with
    | nil => simp [insU]
    | cons y ys ih =>
      unfold insU
      split
      · simp
      · split <;> simp <;> omega
  induction xs with
  | nil => simp [sset]
  | cons x xs ih =>
    have := hi x (sset xs)
    rw [sset, List.length_cons]
    omega
def oSortSet (a : Ex) : Ax := fun s => match a s with
  | some (.tuple ds, s1) => (match intsOf ds with
    | some ns => if decide (ns.length < 64) then some ((sset ns).map .int, s1) else none
    | none => none)
  | _ => none
theorem cr_setT (hc : X.calm = true) : CallR X (.type "set") (fun vs H Q => ∃ (a : Addr) (ns : List Int), vs = [V.ref a] ∧ SqT X.K H a (ns.map V.int) ∧ ns.length < 64 ∧ ∀ p c, H p = none → c ≤ ns.length → Q (.ref p) (upd H p (SetO X.w p (fun j => decide (j ∈ ns)) c))) := by
  intro pins s σ H vs us Q I r ⟨a, ns, ev, hs, hl, q⟩
  subst ev
  obtain ⟨u, rfl, ru⟩ := vals1 r
  cases ru
  obtain ⟨its, rv, pt, _⟩ := I.tuple hs
  refine call_set_tupI ns (I.ok.hd hc) pt (by simpa using rv.ints) (by unfold scanBound; omega) fun h' tk c R hcl hk => ?_
  exact ⟨.ref s.heap.objs.size, _, I.laid (t' := tk) hk (Nat.le_refl _) (setO_new R), rfl, q _ c (I.hok.fresh (Nat.le_refl _)) hcl⟩
theorem oe_sortSet {p p2 q2 pos : Pos} (hc : X.calm = true) (hg : Gl X "sorted") (hm : X.mg "sorted" = none) (hg2 : Gl X "set") (hm2 : X.mg "set" = none) (he : PE X e (tD X.K C fe)) (hv : bootBuiltins "sorted" = some (.builtin "sorted") := by decide +kernel) (hv2 : bootBuiltins "set" = some (.type "set") := by decide +kernel)
    (hs : starEach [e] X.env = (false, eval e X.env) :: starEach [] X.env := by rfl) (hpl : (backTo q2 (starEach [] X.env)).any (·.1) = false := by rfl)
    (hs2 : starEach [.Call (.Name "set" p2) [e] [] q2] X.env = (false, eval (.Call (.Name "set" p2) [e] [] q2) X.env) :: starEach [] X.env := by rfl) (hpl2 : (backTo pos (starEach [] X.env)).any (·.1) = false := by rfl) :
    PE X (.Call (.Name "sorted" p) [.Call (.Name "set" p2) [e] [] q2] [] pos) (tO X.K C (oSortSet fe)) :=
  pe_imp (pe_callB (cr_sortedSet hc) hg hm hv (pa_cons (pe_callTy (cr_setT hc) hg2 hm2 hv2 (pa_cons he pa_nil hs) (by decide) (by decide) hs hpl) pa_nil hs2) (by decide) (by decide) hs2 hpl2) fun σ H Q ⟨F, s, ds, s', w, ee, q⟩ => by
    unfold oSortSet at ee
    split at ee
    · rename_i es s1 ea
      split at ee
      · rename_i ns en
        split at ee
        · rename_i hl
          have hl' := of_decide_eq_true hl
          cases ee
          refine tD_run w ea fun v F1 H1 m1 w1 r1 => ?_
          cases r1 with
          | @tup a vs _ hx rs =>
            rw [ints_rp rs en] at hx
            refine ⟨a, ns, rfl, (hx.sq w1.into), hl', fun c n hc hn => ?_⟩
            have gr := grow_own (o := SetO X.w c (fun j => decide (j ∈ ns)) n) w1.into hc
            refine ⟨c, _, n, rfl, upd_same, by omega, fun ns' l pw hm hl2 hp => ?_⟩
            rw [asc_one pw (sset_pw ns) fun z => by rw [hm z, sset_mem]; simp]
            exact new_own (m1.trans (.grow gr)) (w1.grow gr) (rp_ints _) q l hp
        · cases ee
      · cases ee
    · cases ee

/-! ### tuple(range(a, b)), list(range(a, b)) -/
noncomputable def rgOk (a b : Int) : Bool := sealB (decide (-1000000 ≤ a) && decide (a ≤ 1000000) && decide (-1000000 ≤ b) && decide (b ≤ 1000000))
theorem rgOk_ok {a b : Int} (h : rgOk a b = true) : RgOk a b := by
  simp only [rgOk, sealB_eq, Bool.and_eq_true, decide_eq_true_eq] at h
  exact ⟨by omega, by omega, by omega, by omega, by omega⟩
theorem rgV_rp {K : PySem.W.Frag} {F : Fz} (a b : Int) : RpL K F (rgV a b) (rgD a (b - a).toNat) := by
  unfold rgV rgD
  have : ∀ l : List Nat, RpL K F (l.map fun i => V.int (a + (i : Nat))) (l.map fun k => PyData.int (a + (k : Nat))) := by
    intro l
    induction l with
    | nil => exact .nil
    | cons x l ih => exact .cons (.int _) ih
  exact this _
noncomputable def dTupRg (x y : Ex) : Ex := fun s => match x s with
  | some (.int a, s1) => (match y s1 with
    | some (.int b, s2) => if rgOk a b then some (.tuple (rgD a (b - a).toNat), s2) else none
    | _ => none)
  | _ => none
noncomputable def oLstRg (x y : Ex) : Ax := fun s => match x s with
  | some (.int a, s1) => (match y s1 with
    | some (.int b, s2) => if rgOk a b then some (rgD a (b - a).toNat, s2) else none
    | _ => none)
  | _ => none
theorem pe_tupRgK {te : L2.St → Hp → (Int → Int → Hp → Prop) → Prop} {p pos : Pos} (hc : X.calm = true) (hg : Gl X "tuple") (hm : X.mg "tuple" = none) (he : PRg X e te) (na : starEach [e] X.env = (false, eval e X.env) :: starEach [] X.env := by rfl) :
    PE X (.Call (.Name "tuple" p) [e] [] pos) (fun σ H Q => te σ H fun a b H1 => RgOk a b ∧ NewT H1 (rgV a b) Q) :=
  ⟨fun pins s σ H Q I h => Call_ (ld_blt I hg hm boot_tuple (PyProof.Rows.callWith_type1 (args_cons (thn (he pins s σ H _ I h) fun x s1 ⟨r, a, b, t, u, v, H1, ex, hr, I1, ok, q⟩ => args_nil (by
    subst ex
    obtain ⟨b1, b2, b3, b4, b5⟩ := ok
    refine call_tuple_range (n := (b - a).toNat) (I1.ok.hd hc) hr (small_one b1 b2 b3 b4) (rangeSize_nat a b) b5 fun h' tk acc hk hi => ?_
    have hz : (rgV a b).length ≤ sizeLine := by
      rw [rgV_length, sizeLine_eq]
      omega
    have := ep_newT (I1.kept (t' := tk) (h' := h') hk) (k := tk) hz (vals_rg hi) q
    rwa [Array.toArray_toList] at this)) na) na))⟩
theorem de_tupRg {p p2 q2 pos : Pos} (hc : X.calm = true) (hg : Gl X "tuple") (hm : X.mg "tuple" = none) (hg2 : Gl X "range") (hm2 : X.mg "range" = none) (ha : PE X e (tD X.K C fe)) (hb : PE X e2 (tD X.K C fb))
    (na : starEach [.Call (.Name "range" p2) [e, e2] [] q2] X.env = (false, eval (.Call (.Name "range" p2) [e, e2] [] q2) X.env) :: starEach [] X.env := by rfl)
    (nb : starEach [e, e2] X.env = (false, eval e X.env) :: starEach [e2] X.env := by rfl) (nc : starEach [e2] X.env = (false, eval e2 X.env) :: starEach [] X.env := by rfl) (hp : (backTo q2 (starEach [e2] X.env)).any (·.1) = false := by rfl) :
    PE X (.Call (.Name "tuple" p) [.Call (.Name "range" p2) [e, e2] [] q2] [] pos) (tD X.K C (dTupRg fe fb)) :=
  pe_imp (pe_tupRgK hc hg hm (prg_2 hg2 hm2 ha hb nb nc hp) na) fun σ H Q ⟨F, s, d, s', w, ee, q⟩ => by
    unfold dTupRg at ee
    split at ee
    · rename_i a s1 ea
      split at ee
      · rename_i b s2 eb
        split at ee
        · rename_i ok
          cases ee
          refine tD_run w ea fun v F1 H1 m1 w1 r1 => tD_run w1 eb fun u F2 H2 m2 w2 r2 => ?_
          cases r1
          cases r2
          refine ⟨a, b, rfl, rfl, rgOk_ok ok, fun p o hp hc hd => ?_⟩
          have gr := grow_new (o := .frz o (.tup (rgV a b))) w2.into hp
          exact q _ _ _ ((m1.trans m2).trans (.grow gr)) (w2.grow gr) (rp_upd w2.into hp (rgV_rp a b) hc hd)
        · cases ee
      · cases ee
    · cases ee
theorem oe_lstRg {p p2 q2 pos : Pos} (hc : X.calm = true) (hg : Gl X "list") (hm : X.mg "list" = none) (hg2 : Gl X "range") (hm2 : X.mg "range" = none) (ha : PE X e (tD X.K C fe)) (hb : PE X e2 (tD X.K C fb))
    (na : starEach [.Call (.Name "range" p2) [e, e2] [] q2] X.env = (false, eval (.Call (.Name "range" p2) [e, e2] [] q2) X.env) :: starEach [] X.env := by rfl)
    (nb : starEach [e, e2] X.env = (false, eval e X.env) :: starEach [e2] X.env := by rfl) (nc : starEach [e2] X.env = (false, eval e2 X.env) :: starEach [] X.env := by rfl) (hp : (backTo q2 (starEach [e2] X.env)).any (·.1) = false := by rfl) :
    PE X (.Call (.Name "list" p) [.Call (.Name "range" p2) [e, e2] [] q2] [] pos) (tO X.K C (oLstRg fe fb)) :=
  pe_imp (pe_listRg hc hg hm (prg_2 hg2 hm2 ha hb nb nc hp) na) fun σ H Q ⟨F, s, d, s', w, ee, q⟩ => by
    unfold oLstRg at ee
    split at ee
    · rename_i a s1 ea
      split at ee
      · rename_i b s2 eb
        split at ee
        · rename_i ok
          cases ee
          refine tD_run w ea fun v F1 H1 m1 w1 r1 => tD_run w1 eb fun u F2 H2 m2 w2 r2 => ?_
          cases r1
          cases r2
          exact ⟨a, b, rfl, rfl, rgOk_ok ok, new_own (m1.trans m2) w2 (rgV_rp a b) q⟩
        · cases ee
      · cases ee
    · cases ee
end
end Dl

/-! Steps of the words of part 17. -/
namespace Dl
abbrev fz (d : D) : Option Sl := some (.fz d)
section
variable (s : S) (a b : Ex) (x : Ax)
@[simp] theorem ev_rev2L (ds : List D) : rev2D (.list ds) = some (.list ds.reverse) := Eq.trans rfl rfl
@[simp] theorem ev_rev2T (ds : List D) : rev2D (.tuple ds) = some (.tuple ds.reverse) := Eq.trans rfl rfl
@[simp] theorem ev_zip2 (x y : D) : zip2D [x, y] = (match seqD x with
    | none => none
    | some xs => (match seqD y with
      | none => none
      | some ys => some (zipD xs ys))) := Eq.trans rfl rfl
@[simp] theorem ev_seqL (ds : List D) : seqD (.list ds) = some ds := Eq.trans rfl rfl
@[simp] theorem ev_seqT (ds : List D) : seqD (.tuple ds) = some ds := Eq.trans rfl rfl
@[simp] theorem ev_iZip : iZip x s = (match x s with
  | none => none
  | some (ds, s1) => match zip2D ds with
    | none => none
    | some rs => some (rs, s1)) := Eq.trans rfl rfl
@[simp] theorem ev_countT (es : List D) (d : D) : countD (.tuple es) [d] = if PySem.SeqAt.shaped d && PySem.SeqAt.shaped (.tuple es) then some (.int ((es.countP fun y => PySem.PyData.eqv y d : Nat) : Int)) else none := Eq.trans rfl rfl
@[simp] theorem ev_countL (es : List D) (d : D) : countD (.list es) [d] = if PySem.SeqAt.shaped d && PySem.SeqAt.shaped (.list es) then some (.int ((es.countP fun y => PySem.PyData.eqv y d : Nat) : Int)) else none := Eq.trans rfl rfl
@[simp] theorem ev_strI (i : Int) : strD [.int i] = if decide (i.natAbs.log2 < 1920) then some (.str (toString i)) else none := Eq.trans rfl rfl
@[simp] theorem ev_strS (i : PySem.Str) : strD [.str i] = some (.str i) := Eq.trans rfl rfl
@[simp] theorem ev_dict0 : dDict0 s = some (.dict [], s) := Eq.trans rfl rfl
@[simp] theorem ev_dict1 (k : PySem.Str) (i : Int) : dDict1 k i s = some (.dict [(.str k, .int i)], s) := Eq.trans rfl rfl
@[simp] theorem ev_oSortSet : oSortSet a s = (match a s with
  | some (.tuple ds, s1) => (match intsOf ds with
    | some ns => if decide (ns.length < 64) then some ((sset ns).map .int, s1) else none
    | none => none)
  | _ => none) := Eq.trans rfl rfl
@[simp] theorem ev_dTupRg : dTupRg a b s = (match a s with
  | some (.int i, s1) => (match b s1 with
    | some (.int j, s2) => if rgOk i j then some (.tuple (rgD i (j - i).toNat), s2) else none
    | _ => none)
  | _ => none) := Eq.trans rfl rfl
@[simp] theorem ev_oLstRg : oLstRg a b s = (match a s with
  | some (.int i, s1) => (match b s1 with
    | some (.int j, s2) => if rgOk i j then some (rgD i (j - i).toNat, s2) else none
    | _ => none)
  | _ => none) := Eq.trans rfl rfl
theorem rgOk_int {a b : Int} (h1 : -1000000 ≤ a) (h2 : a ≤ 1000000) (h3 : -1000000 ≤ b) (h4 : b ≤ 1000000) : rgOk a b = true := by
  unfold rgOk
  rw [sealB_eq]
  simp [h1, h2, h3, h4]
theorem log2_small {i : Int} (h1 : -999999999999 ≤ i) (h2 : i ≤ 999999999999) : i.natAbs.log2 < 1920 := by
  have := (fine_int h1 h2).a
  rw [PySem.PyData.showable] at this
  exact of_decide_eq_true this
end
end Dl

/-! What must hold ahead of a word, so that something holds behind it: for simp, from the front. -/
namespace Dl
open PySem (PyData)
abbrev QE := D → S → Prop
abbrev QA := List D → S → Prop
abbrev QT := Bool → S → Prop
abbrev QO := Out → Prop
def wE (f : Ex) (s : S) (Q : QE) : Prop := match f s with
  | none => False
  | some (d, s') => Q d s'
def wA (f : Ax) (s : S) (Q : QA) : Prop := match f s with
  | none => False
  | some (d, s') => Q d s'
def wT (f : Tx) (s : S) (Q : QT) : Prop := match f s with
  | none => False
  | some (d, s') => Q d s'
def wB (f : Bd) (s : S) (Q : QO) : Prop := match f s with
  | none => False
  | some o => Q o
def wM (f : Mx) (s : S) (Q : List It1 → S → Prop) : Prop := match f s with
  | none => False
  | some (d, s') => Q d s'
def wPt (f : S → Option (Option Int × S)) (s : S) (Q : Option Int → S → Prop) : Prop := match f s with
  | none => False
  | some (d, s') => Q d s'
def wS (o : Option S) (Q : S → Prop) : Prop := match o with
  | none => False
  | some s => Q s
def wO (o : Option D) (Q : QE) (s : S) : Prop := match o with
  | none => False
  | some d => Q d s
def wL (o : Option (List D)) (Q : QA) (s : S) : Prop := match o with
  | none => False
  | some d => Q d s
def wK (f : List D → List Int → Int → Option (D × List Int × Int)) (ds : List D) (cs : List Int) (n : Int) (R : D → List Int → Int → Prop) : Prop := match f ds cs n with
  | none => False
  | some (r, cs', n') => R r cs' n'
def wF (b : Pt) (g : Bd) (ds : List D) (s : S) (Q : QO) : Prop := match forL b g ds s with
  | none => False
  | some o => Q o
def wC (b : Pt) (t : Tx) (e : Ex) (vs : List Nat) (ds acc : List D) (s : S) (Q : QA) : Prop := match lcL b t e vs ds acc s with
  | none => False
  | some (ys, s') => Q ys s'
@[simp] theorem wO_some (d : D) (Q : QE) (s : S) : wO (some d) Q s = Q d s := Eq.trans rfl rfl
@[simp] theorem wL_some (d : List D) (Q : QA) (s : S) : wL (some d) Q s = Q d s := Eq.trans rfl rfl
@[simp] theorem wS_some (s : S) (Q : S → Prop) : wS (some s) Q = Q s := Eq.trans rfl rfl
section
variable (s : S) (a b c : Ex) (g g' : D → D → Option D) (i j : Nat) (d x y : D) (r r' : Ax) (t u : Tx) (p q : Bd) (Q : QE) (QA' : QA) (QT' : QT) (QO' : QO)
/-! the ways on -/
def k2Bin (g : D → D → Option D) (x : D) (Q : QE) (y : D) (s : S) : Prop := wO (g x y) Q s
def k1Bin (g : D → D → Option D) (b : Ex) (Q : QE) (x : D) (s : S) : Prop := wE b s (k2Bin g x Q)
@[simp] theorem k1Bin_ : k1Bin g b Q x s = wE b s (k2Bin g x Q) := Eq.trans rfl rfl
@[simp] theorem k2Bin_ : k2Bin g x Q y s = wO (g x y) Q s := Eq.trans rfl rfl
def kUn (g : D → Option D) (Q : QE) (x : D) (s : S) : Prop := wO (g x) Q s
@[simp] theorem kUn_ (g : D → Option D) : kUn g Q x s = wO (g x) Q s := Eq.trans rfl rfl
def k2Cons (x : D) (Q : QA) (xs : List D) (s : S) : Prop := Q (x :: xs) s
def k1Cons (r : Ax) (Q : QA) (x : D) (s : S) : Prop := wA r s (k2Cons x Q)
@[simp] theorem k1Cons_ : k1Cons r QA' x s = wA r s (k2Cons x QA') := Eq.trans rfl rfl
@[simp] theorem k2Cons_ (xs : List D) : k2Cons x QA' xs s = QA' (x :: xs) s := Eq.trans rfl rfl
def kApp (g : List D → Option D) (Q : QE) (xs : List D) (s : S) : Prop := wO (g xs) Q s
@[simp] theorem kApp_ (g : List D → Option D) (xs : List D) : kApp g Q xs s = wO (g xs) Q s := Eq.trans rfl rfl
def k2Mt (g : D → List D → Option D) (x : D) (Q : QE) (xs : List D) (s : S) : Prop := wO (g x xs) Q s
def k1Mt (g : D → List D → Option D) (r : Ax) (Q : QE) (x : D) (s : S) : Prop := wA r s (k2Mt g x Q)
@[simp] theorem k1Mt_ (g : D → List D → Option D) : k1Mt g r Q x s = wA r s (k2Mt g x Q) := Eq.trans rfl rfl
@[simp] theorem k2Mt_ (g : D → List D → Option D) (xs : List D) : k2Mt g x Q xs s = wO (g x xs) Q s := Eq.trans rfl rfl
def kTup (Q : QE) (xs : List D) (s : S) : Prop := if fits xs.length then Q (.tuple xs) s else False
@[simp] theorem kTup_ (xs : List D) : kTup Q xs s = if fits xs.length then Q (.tuple xs) s else False := Eq.trans rfl rfl
def kLst (Q : QA) (xs : List D) (s : S) : Prop := if fits xs.length then Q xs s else False
@[simp] theorem kLst_ (xs : List D) : kLst QA' xs s = if fits xs.length then QA' xs s else False := Eq.trans rfl rfl
def kOfO (Q : QE) (xs : List D) (s : S) : Prop := Q (.list xs) s
@[simp] theorem kOfO_ (xs : List D) : kOfO Q xs s = Q (.list xs) s := Eq.trans rfl rfl
def kVar (i : Nat) (Q : QE) (s : S) : Option (Option Sl) → Prop
  | some (some (.fz d)) => Q d s
  | some (some (.ow xs)) => Q (.list xs) { s with env := s.env.set i (some (.fz (.list xs))) }
  | _ => False
@[simp] theorem kVar_fz : kVar i Q s (some (some (.fz d))) = Q d s := Eq.trans rfl rfl
@[simp] theorem kVar_ow (xs : List D) : kVar i Q s (some (some (.ow xs))) = Q (.list xs) { s with env := s.env.set i (some (.fz (.list xs))) } := Eq.trans rfl rfl
/-! expressions -/
@[simp] theorem wE_C : wE (dC d) s Q = Q d s := Eq.trans rfl rfl
@[simp] theorem wE_Var : wE (dVar i) s Q = kVar i Q s s.env[i]? := by
  unfold wE dVar
  cases s.env[i]? with
  | none => rfl
  | some o =>
    cases o with
    | none => rfl
    | some l => cases l <;> rfl
@[simp] theorem wE_Bin : wE (dBin g a b) s Q = wE a s (k1Bin g b Q) := by
  unfold wE dBin
  cases a s with
  | none => rfl
  | some p =>
    obtain ⟨x, s1⟩ := p
    unfold k1Bin wE k2Bin wO
    dsimp only
    cases b s1 with
    | none => rfl
    | some q =>
      obtain ⟨y, s2⟩ := q
      dsimp only
      cases g x y <;> rfl
@[simp] theorem wE_Un (g : D → Option D) : wE (dUn g a) s Q = wE a s (kUn g Q) := by
  unfold wE dUn
  cases a s with
  | none => rfl
  | some p =>
    obtain ⟨x, s1⟩ := p
    unfold kUn wO
    dsimp only
    cases g x <;> rfl
@[simp] theorem wA_Nil : wA aNil s QA' = QA' [] s := Eq.trans rfl rfl
@[simp] theorem wA_Cons : wA (aCons a r) s QA' = wE a s (k1Cons r QA') := by
  unfold wA wE aCons
  cases a s with
  | none => rfl
  | some p =>
    obtain ⟨x, s1⟩ := p
    unfold k1Cons wA k2Cons
    dsimp only
    cases r s1 with
    | none => rfl
    | some q => obtain ⟨y, s2⟩ := q; rfl
@[simp] theorem wE_App (g : List D → Option D) : wE (dApp g r) s Q = wA r s (kApp g Q) := by
  unfold wE wA dApp
  cases r s with
  | none => rfl
  | some p =>
    obtain ⟨x, s1⟩ := p
    unfold kApp wO
    dsimp only
    cases g x <;> rfl
@[simp] theorem wE_Call (g : List D → Option D) : wE (dCall g r) s Q = wA r s (kApp g Q) := wE_App s r Q g
@[simp] theorem wE_Mt (g : D → List D → Option D) : wE (dMt g a r) s Q = wE a s (k1Mt g r Q) := by
  unfold wE dMt
  cases a s with
  | none => rfl
  | some p =>
    obtain ⟨x, s1⟩ := p
    unfold k1Mt wA k2Mt wO
    dsimp only
    cases r s1 with
    | none => rfl
    | some q =>
      obtain ⟨y, s2⟩ := q
      dsimp only
      cases g x y <;> rfl
@[simp] theorem wE_Tup : wE (dTup r) s Q = wA r s (kTup Q) := by
  unfold wE wA dTup
  cases r s with
  | none => rfl
  | some p =>
    obtain ⟨x, s1⟩ := p
    unfold kTup
    dsimp only
    by_cases hc : fits x.length = true
    · rw [if_pos hc, if_pos hc]
    · rw [if_neg hc, if_neg hc]
@[simp] theorem wA_Lst : wA (oLst r) s QA' = wA r s (kLst QA') := by
  unfold wA oLst
  cases r s with
  | none => rfl
  | some p =>
    obtain ⟨x, s1⟩ := p
    unfold kLst
    dsimp only
    by_cases hc : fits x.length = true
    · rw [if_pos hc, if_pos hc]
    · rw [if_neg hc, if_neg hc]
@[simp] theorem wE_OfO : wE (dOfO r) s Q = wA r s (kOfO Q) := by
  unfold wE wA dOfO
  cases r s with
  | none => rfl
  | some p => obtain ⟨x, s1⟩ := p; rfl
@[simp] theorem wE_dict0 : wE dDict0 s Q = Q (.dict []) s := Eq.trans rfl rfl
@[simp] theorem wE_dict1 (k : PySem.Str) (i : Int) : wE (dDict1 k i) s Q = Q (.dict [(.str k, .int i)]) s := Eq.trans rfl rfl
/-! slices -/
def kPart (Q : Option Int → S → Prop) (x : D) (s : S) : Prop := match x with
  | .int i => Q (some i) s
  | _ => False
@[simp] theorem kPart_ (R : Option Int → S → Prop) (i : Int) : kPart R (.int i) s = R (some i) s := Eq.trans rfl rfl
@[simp] theorem wPt_no (R : Option Int → S → Prop) : wPt dNoPart s R = R none s := Eq.trans rfl rfl
@[simp] theorem wPt_part (R : Option Int → S → Prop) : wPt (dPart a) s R = wE a s (kPart R) := by
  unfold wPt wE dPart
  cases a s with
  | none => rfl
  | some p => obtain ⟨x, s1⟩ := p; cases x <;> rfl
def k3Sl (g : D → Option Int → Option Int → Option D) (x : D) (l : Option Int) (Q : QE) (h : Option Int) (s : S) : Prop := wO (g x l h) Q s
def k2Sl (g : D → Option Int → Option Int → Option D) (hi : S → Option (Option Int × S)) (x : D) (Q : QE) (l : Option Int) (s : S) : Prop := wPt hi s (k3Sl g x l Q)
def k1Sl (g : D → Option Int → Option Int → Option D) (lo hi : S → Option (Option Int × S)) (Q : QE) (x : D) (s : S) : Prop := wPt lo s (k2Sl g hi x Q)
@[simp] theorem k1Sl_ (g : D → Option Int → Option Int → Option D) (lo hi : S → Option (Option Int × S)) : k1Sl g lo hi Q x s = wPt lo s (k2Sl g hi x Q) := Eq.trans rfl rfl
@[simp] theorem k2Sl_ (g : D → Option Int → Option Int → Option D) (hi : S → Option (Option Int × S)) (l : Option Int) : k2Sl g hi x Q l s = wPt hi s (k3Sl g x l Q) := Eq.trans rfl rfl
@[simp] theorem k3Sl_ (g : D → Option Int → Option Int → Option D) (l h : Option Int) : k3Sl g x l Q h s = wO (g x l h) Q s := Eq.trans rfl rfl
@[simp] theorem wE_Sl (g : D → Option Int → Option Int → Option D) (lo hi : S → Option (Option Int × S)) : wE (dSl g a lo hi) s Q = wE a s (k1Sl g lo hi Q) := by
  unfold wE dSl
  cases a s with
  | none => rfl
  | some p =>
    obtain ⟨x, s1⟩ := p
    unfold k1Sl wPt k2Sl wPt k3Sl wO
    dsimp only
    cases lo s1 with
    | none => rfl
    | some q =>
      obtain ⟨l, s2⟩ := q
      dsimp only
      cases hi s2 with
      | none => rfl
      | some q =>
        obtain ⟨h, s3⟩ := q
        dsimp only
        cases g x l h <;> rfl
/-! tests -/
def kTOf (Q : QT) (x : D) (s : S) : Prop := match x with
  | .bool b => Q b s
  | _ => False
@[simp] theorem kTOf_ (b : Bool) : kTOf QT' (.bool b) s = QT' b s := Eq.trans rfl rfl
@[simp] theorem wT_Of : wT (tOf a) s QT' = wE a s (kTOf QT') := by
  unfold wT wE tOf
  cases a s with
  | none => rfl
  | some p => obtain ⟨x, s1⟩ := p; cases x <;> rfl
def wTr (o : Option Bool) (Q : QT) (s : S) : Prop := match o with
  | none => False
  | some b => Q b s
@[simp] theorem wTr_ (b : Bool) : wTr (some b) QT' s = QT' b s := Eq.trans rfl rfl
def kTru (Q : QT) (x : D) (s : S) : Prop := wTr (tru x) Q s
@[simp] theorem kTru_ : kTru QT' x s = wTr (tru x) QT' s := Eq.trans rfl rfl
@[simp] theorem wT_Tru : wT (tTru a) s QT' = wE a s (kTru QT') := by
  unfold wT wE tTru
  cases a s with
  | none => rfl
  | some p =>
    obtain ⟨x, s1⟩ := p
    unfold kTru wTr
    dsimp only
    cases tru x <;> rfl
def kNotX (Q : QT) (b : Bool) (s : S) : Prop := Q (!b) s
@[simp] theorem kNotX_ (b : Bool) : kNotX QT' b s = QT' (!b) s := Eq.trans rfl rfl
@[simp] theorem wT_Not : wT (tNotX t) s QT' = wT t s (kNotX QT') := by
  unfold wT tNotX
  cases t s with
  | none => rfl
  | some p => rfl
def kAndX (u : Tx) (Q : QT) (b : Bool) (s : S) : Prop := match b with
  | true => wT u s Q
  | false => Q false s
@[simp] theorem kAndX_t : kAndX u QT' true s = wT u s QT' := Eq.trans rfl rfl
@[simp] theorem kAndX_f : kAndX u QT' false s = QT' false s := Eq.trans rfl rfl
@[simp] theorem wT_And : wT (tAndX t u) s QT' = wT t s (kAndX u QT') := by
  unfold wT tAndX
  cases t s with
  | none => rfl
  | some p => obtain ⟨b, s1⟩ := p; cases b <;> rfl
def kOrX (u : Tx) (Q : QT) (b : Bool) (s : S) : Prop := match b with
  | false => wT u s Q
  | true => Q true s
@[simp] theorem kOrX_f : kOrX u QT' false s = wT u s QT' := Eq.trans rfl rfl
@[simp] theorem kOrX_t : kOrX u QT' true s = QT' true s := Eq.trans rfl rfl
@[simp] theorem wT_Or : wT (tOrX t u) s QT' = wT t s (kOrX u QT') := by
  unfold wT tOrX
  cases t s with
  | none => rfl
  | some p => obtain ⟨b, s1⟩ := p; cases b <;> rfl
@[simp] theorem wT_Yes : wT tYesX s QT' = QT' true s := Eq.trans rfl rfl
def kIfE (a b : Ex) (Q : QE) (k : Bool) (s : S) : Prop := match k with
  | true => wE a s Q
  | false => wE b s Q
@[simp] theorem kIfE_t : kIfE a b Q true s = wE a s Q := Eq.trans rfl rfl
@[simp] theorem kIfE_f : kIfE a b Q false s = wE b s Q := Eq.trans rfl rfl
@[simp] theorem wE_IfE : wE (dIfE t a b) s Q = wT t s (kIfE a b Q) := by
  unfold wE wT dIfE
  cases t s with
  | none => rfl
  | some p => obtain ⟨k, s1⟩ := p; cases k <;> rfl
def kAnd (b : Ex) (Q : QE) (x : D) (s : S) : Prop := match x with
  | .bool true => wE b s Q
  | .bool false => Q (.bool false) s
  | _ => False
@[simp] theorem kAnd_t : kAnd b Q (.bool true) s = wE b s Q := Eq.trans rfl rfl
@[simp] theorem kAnd_f : kAnd b Q (.bool false) s = Q (.bool false) s := Eq.trans rfl rfl
@[simp] theorem wE_And : wE (dAnd a b) s Q = wE a s (kAnd b Q) := by
  unfold wE dAnd
  cases a s with
  | none => rfl
  | some p =>
    obtain ⟨x, s1⟩ := p
    unfold kAnd wE
    cases x with
    | bool k => cases k <;> rfl
    | _ => rfl
def kOr (b : Ex) (Q : QE) (x : D) (s : S) : Prop := match x with
  | .bool false => wE b s Q
  | .bool true => Q (.bool true) s
  | _ => False
@[simp] theorem kOr_f : kOr b Q (.bool false) s = wE b s Q := Eq.trans rfl rfl
@[simp] theorem kOr_t : kOr b Q (.bool true) s = Q (.bool true) s := Eq.trans rfl rfl
@[simp] theorem wE_Or : wE (dOr a b) s Q = wE a s (kOr b Q) := by
  unfold wE dOr
  cases a s with
  | none => rfl
  | some p =>
    obtain ⟨x, s1⟩ := p
    unfold kOr wE
    cases x with
    | bool k => cases k <;> rfl
    | _ => rfl
def kNot (Q : QE) (x : D) (s : S) : Prop := match x with
  | .bool b => Q (.bool !b) s
  | _ => False
@[simp] theorem kNot_ (k : Bool) : kNot Q (.bool k) s = Q (.bool !k) s := Eq.trans rfl rfl
@[simp] theorem wE_Not : wE (dNot a) s Q = wE a s (kNot Q) := by
  unfold wE dNot
  cases a s with
  | none => rfl
  | some p =>
    obtain ⟨x, s1⟩ := p
    unfold kNot
    cases x <;> rfl
def k4Ch (Q : QE) (o : Option D) (s : S) : Prop := match o with
  | some (.bool r) => Q (.bool r) s
  | _ => False
@[simp] theorem k4Ch_ (k : Bool) : k4Ch Q (some (.bool k)) s = Q (.bool k) s := Eq.trans rfl rfl
def k3Ch (g' : D → D → Option D) (y : D) (Q : QE) (z : D) (s : S) : Prop := k4Ch Q (g' y z) s
@[simp] theorem k3Ch_ (z : D) : k3Ch g' y Q z s = k4Ch Q (g' y z) s := Eq.trans rfl rfl
def k5Ch (g' : D → D → Option D) (c : Ex) (y : D) (Q : QE) (o : Option D) (s : S) : Prop := match o with
  | some (.bool true) => wE c s (k3Ch g' y Q)
  | some (.bool false) => Q (.bool false) s
  | _ => False
@[simp] theorem k5Ch_t : k5Ch g' c y Q (some (.bool true)) s = wE c s (k3Ch g' y Q) := Eq.trans rfl rfl
@[simp] theorem k5Ch_f : k5Ch g' c y Q (some (.bool false)) s = Q (.bool false) s := Eq.trans rfl rfl
def k2Ch (g g' : D → D → Option D) (c : Ex) (x : D) (Q : QE) (y : D) (s : S) : Prop := k5Ch g' c y Q (g x y) s
@[simp] theorem k2Ch_ : k2Ch g g' c x Q y s = k5Ch g' c y Q (g x y) s := Eq.trans rfl rfl
def k1Ch (g g' : D → D → Option D) (b c : Ex) (Q : QE) (x : D) (s : S) : Prop := wE b s (k2Ch g g' c x Q)
@[simp] theorem k1Ch_ : k1Ch g g' b c Q x s = wE b s (k2Ch g g' c x Q) := Eq.trans rfl rfl
@[simp] theorem wE_Chain : wE (dChain g g' a b c) s Q = wE a s (k1Ch g g' b c Q) := by
  unfold wE dChain
  cases a s with
  | none => rfl
  | some p =>
    obtain ⟨x, s1⟩ := p
    unfold k1Ch wE k2Ch k5Ch wE k3Ch k4Ch
    dsimp only
    cases b s1 with
    | none => rfl
    | some q =>
      obtain ⟨y, s2⟩ := q
      dsimp only
      cases g x y with
      | none => rfl
      | some r =>
        cases r with
        | bool k =>
          cases k
          · rfl
          · dsimp only
            cases c s2 with
            | none => rfl
            | some q =>
              obtain ⟨z, s3⟩ := q
              dsimp only
              cases g' y z with
              | none => rfl
              | some w => cases w <;> rfl
        | _ => rfl
/-! lists of one's own -/
def kOwn (Q : List D → Prop) : Option (Option Sl) → Prop
  | some (some (.ow xs)) => Q xs
  | _ => False
@[simp] theorem kOwn_ (R : List D → Prop) (xs : List D) : kOwn R (some (some (.ow xs))) = R xs := Eq.trans rfl rfl
theorem own_eq (R : List D → Prop) : (match owAt s i with | none => False | some xs => R xs) = kOwn R s.env[i]? := by
  unfold owAt kOwn
  split <;> rename_i h <;> split at h <;> simp_all
@[simp] theorem wE_LenO : wE (dLenO i) s Q = kOwn (fun xs => Q (.int xs.length) s) s.env[i]? := by
  rw [← own_eq]
  unfold wE dLenO
  cases owAt s i <;> rfl
def k3At (i : Nat) (Q : QE) (k : Int) (s : S) (xs : List D) : Prop := wO (L2.atI xs k) Q s
@[simp] theorem k3At_ (k : Int) (xs : List D) : k3At i Q k s xs = wO (L2.atI xs k) Q s := Eq.trans rfl rfl
def k2At (i : Nat) (Q : QE) (x : D) (s : S) : Prop := match x with
  | .int k => kOwn (k3At i Q k s) s.env[i]?
  | _ => False
@[simp] theorem k2At_ (k : Int) : k2At i Q (.int k) s = kOwn (k3At i Q k s) s.env[i]? := Eq.trans rfl rfl
def k1At (i : Nat) (a : Ex) (Q : QE) (s : S) (xs : List D) : Prop := wE a s (k2At i Q)
@[simp] theorem k1At_ (xs : List D) : k1At i a Q s xs = wE a s (k2At i Q) := Eq.trans rfl rfl
@[simp] theorem wE_At : wE (dAt i a) s Q = kOwn (k1At i a Q s) s.env[i]? := by
  rw [← own_eq]
  unfold wE dAt
  cases owAt s i with
  | none => rfl
  | some zs =>
    dsimp only
    unfold k1At wE
    cases a s with
    | none => rfl
    | some p =>
      obtain ⟨x, s1⟩ := p
      cases x with
      | int k =>
        dsimp only
        unfold k2At
        dsimp only
        rw [← own_eq]
        cases owAt s1 i with
        | none => rfl
        | some xs =>
          dsimp only
          unfold k3At wO
          cases L2.atI xs k <;> rfl
      | _ => rfl
/-! calls that draw -/
def kK (Q : QE) (s : S) (r : D) (cs : List Int) (n : Int) : Prop := Q r { s with cs := cs, n := n }
@[simp] theorem kK_ (cs : List Int) (n : Int) : kK Q s x cs n = Q x { s with cs := cs, n := n } := Eq.trans rfl rfl
def kCallK (f : List D → List Int → Int → Option (D × List Int × Int)) (Q : QE) (ds : List D) (s : S) : Prop := wK f ds s.cs s.n (kK Q s)
@[simp] theorem kCallK_ (f : List D → List Int → Int → Option (D × List Int × Int)) (ds : List D) : kCallK f Q ds s = wK f ds s.cs s.n (kK Q s) := Eq.trans rfl rfl
def kDk (P : Prop) : Option (Option Sl) → Prop
  | some (some .dk) => P
  | _ => False
@[simp] theorem kDk_ (P : Prop) : kDk P (some (some .dk)) = P := Eq.trans rfl rfl
@[simp] theorem wE_CallK (f : List D → List Int → Int → Option (D × List Int × Int)) : wE (dCallK f i r) s Q = kDk (wA r s (kCallK f Q)) s.env[i]? := by
  have e1 : dCallK f i r s = (match s.env[i]? with
    | some (some .dk) => (match r s with
      | none => none
      | some (ds, s1) => match f ds s1.cs s1.n with
        | none => none
        | some (r, cs', m') => some (r, { s1 with cs := cs', n := m' }))
    | _ => none) := ev_dCallK s i r f
  unfold wE
  rw [e1]
  generalize s.env[i]? = o
  cases o with
  | none => rfl
  | some o =>
    cases o with
    | none => rfl
    | some l =>
      cases l with
      | fz d => rfl
      | ow xs => rfl
      | xc x => rfl
      | dk =>
        rw [kDk_]
        unfold wA kCallK wK kK
        dsimp only
        cases r s with
        | none => rfl
        | some p =>
          obtain ⟨ds, s1⟩ := p
          dsimp only
          cases f ds s1.cs s1.n with
          | none => rfl
          | some q => rfl
/-! new lists -/
def kSeq (Q : QA) (x : D) (s : S) : Prop := wL (seqD x) Q s
@[simp] theorem kSeq_ : kSeq QA' x s = wL (seqD x) QA' s := Eq.trans rfl rfl
@[simp] theorem wA_Seq : wA (iSeq a) s QA' = wE a s (kSeq QA') := by
  unfold wA wE iSeq
  cases a s with
  | none => rfl
  | some p => obtain ⟨x, s1⟩ := p; unfold kSeq wL; cases x <;> rfl
@[simp] theorem wA_List : wA (oList a) s QA' = wE a s (kSeq QA') := by
  unfold wA wE oList
  cases a s with
  | none => rfl
  | some p => obtain ⟨x, s1⟩ := p; unfold kSeq wL; cases x <;> rfl
def k2Mul (ds : List D) (Q : QA) (x : D) (s : S) : Prop := match x with
  | .int n => if okK n && fits (ds.length * n.toNat) then Q (List.replicate n.toNat ds).flatten s else False
  | _ => False
@[simp] theorem k2Mul_ (ds : List D) (n : Int) : k2Mul ds QA' (.int n) s = if okK n && fits (ds.length * n.toNat) then QA' (List.replicate n.toNat ds).flatten s else False := Eq.trans rfl rfl
def k1Mul (b : Ex) (Q : QA) (x : D) (s : S) : Prop := match x with
  | .list ds => wE b s (k2Mul ds Q)
  | _ => False
@[simp] theorem k1Mul_ (ds : List D) : k1Mul b QA' (.list ds) s = wE b s (k2Mul ds QA') := Eq.trans rfl rfl
@[simp] theorem wA_Mul : wA (oMul a b) s QA' = wE a s (k1Mul b QA') := by
  unfold wA wE oMul
  cases a s with
  | none => rfl
  | some p =>
    obtain ⟨x, s1⟩ := p
    unfold k1Mul wE
    cases x with
    | list ds =>
      dsimp only
      cases b s1 with
      | none => rfl
      | some q =>
        obtain ⟨y, s2⟩ := q
        unfold k2Mul
        cases y with
        | int n =>
          dsimp only
          by_cases hc : (okK n && fits (ds.length * n.toNat)) = true
          · rw [if_pos hc, if_pos hc]
          · rw [if_neg hc, if_neg hc]
        | _ => rfl
    | _ => rfl
def rg1D : List D → Option (List D)
  | [.int j] => some (rgD 0 j.toNat)
  | _ => none
def kR1 (Q : QA) (ds : List D) (s : S) : Prop := match ds with
  | [.int j] => if inR j then Q (rgD 0 j.toNat) s else False
  | _ => False
@[simp] theorem kR1_ (j : Int) : kR1 QA' [.int j] s = if inR j then QA' (rgD 0 j.toNat) s else False := Eq.trans rfl rfl
@[simp] theorem wA_Range1 : wA (iRange1 r) s QA' = wA r s (kR1 QA') := by
  unfold wA iRange1
  cases r s with
  | none => rfl
  | some p =>
    obtain ⟨ds, s1⟩ := p
    unfold kR1
    rcases ds with _ | ⟨d, _ | ⟨d2, t⟩⟩
    · rfl
    · cases d <;> try rfl
      rename_i j
      dsimp only
      by_cases hc : inR j = true
      · rw [if_pos hc, if_pos hc]
      · rw [if_neg hc, if_neg hc]
    · cases d <;> rfl
def kR2 (Q : QA) (ds : List D) (s : S) : Prop := match ds with
  | [.int i, .int j] => if inR i && inR j then Q (rgD i (j - i).toNat) s else False
  | _ => False
@[simp] theorem kR2_ (i j : Int) : kR2 QA' [.int i, .int j] s = if inR i && inR j then QA' (rgD i (j - i).toNat) s else False := Eq.trans rfl rfl
@[simp] theorem wA_Range2 : wA (iRange2 r) s QA' = wA r s (kR2 QA') := by
  unfold wA iRange2
  cases r s with
  | none => rfl
  | some p =>
    obtain ⟨ds, s1⟩ := p
    unfold kR2
    rcases ds with _ | ⟨d, _ | ⟨d2, _ | ⟨d3, t⟩⟩⟩
    · rfl
    · cases d <;> rfl
    · cases d <;> try rfl
      cases d2 <;> try rfl
      rename_i i j
      dsimp only
      by_cases hc : (inR i && inR j) = true
      · rw [if_pos hc, if_pos hc]
      · rw [if_neg hc, if_neg hc]
    · cases d <;> try rfl
      cases d2 <;> rfl
def kR3 (Q : QA) (ds : List D) (s : S) : Prop := match ds with
  | [.int i, .int j, .int c] => if inR i && inR j && decide (c = -1) then Q (rgC i (-1) (i - j).toNat) s else False
  | _ => False
@[simp] theorem kR3_ (i j c : Int) : kR3 QA' [.int i, .int j, .int c] s = if inR i && inR j && decide (c = -1) then QA' (rgC i (-1) (i - j).toNat) s else False := Eq.trans rfl rfl
@[simp] theorem wA_Range3 : wA (iRange3 r) s QA' = wA r s (kR3 QA') := by
  unfold wA
  rw [ev_iRange3]
  cases r s with
  | none => rfl
  | some p =>
    obtain ⟨ds, s1⟩ := p
    unfold kR3
    rcases ds with _ | ⟨d, _ | ⟨d2, _ | ⟨d3, _ | ⟨d4, t⟩⟩⟩⟩
    · rfl
    · cases d <;> rfl
    · cases d <;> try rfl
      cases d2 <;> rfl
    · cases d <;> try rfl
      cases d2 <;> try rfl
      cases d3 <;> try rfl
      rename_i i j c
      dsimp only
      by_cases hc : (inR i && inR j && decide (c = -1)) = true
      · rw [if_pos hc, if_pos hc]
      · rw [if_neg hc, if_neg hc]
    · cases d <;> try rfl
      cases d2 <;> try rfl
      cases d3 <;> rfl
def kEnum (Q : QA) (x : D) (s : S) : Prop := wL ((seqD x).map (enD 0)) Q s
@[simp] theorem kEnum_ : kEnum QA' x s = wL ((seqD x).map (enD 0)) QA' s := Eq.trans rfl rfl
@[simp] theorem wA_Enum : wA (iEnum a) s QA' = wE a s (kEnum QA') := by
  unfold wA wE iEnum
  cases a s with
  | none => rfl
  | some p => obtain ⟨x, s1⟩ := p; unfold kEnum wL; cases x <;> rfl
def kZip (Q : QA) (ds : List D) (s : S) : Prop := wL (zip2D ds) Q s
@[simp] theorem kZip_ (ds : List D) : kZip QA' ds s = wL (zip2D ds) QA' s := Eq.trans rfl rfl
@[simp] theorem wA_Zip : wA (iZip r) s QA' = wA r s (kZip QA') := by
  unfold wA iZip
  cases r s with
  | none => rfl
  | some p => obtain ⟨ds, s1⟩ := p; unfold kZip wL; dsimp only; cases zip2D ds <;> rfl
def sortD : D → Option (List D)
  | .list ds => (intsOf ds).map fun ns => (isort ns).map .int
  | .tuple ds => (intsOf ds).map fun ns => (isort ns).map .int
  | _ => none
def kSorted (Q : QA) (x : D) (s : S) : Prop := wL (sortD x) Q s
@[simp] theorem kSorted_ (ds : List D) : kSorted QA' (.list ds) s = wL ((intsOf ds).map fun ns => (isort ns).map .int) QA' s := Eq.trans rfl rfl
@[simp] theorem kSorted_T (ds : List D) : kSorted QA' (.tuple ds) s = wL ((intsOf ds).map fun ns => (isort ns).map .int) QA' s := Eq.trans rfl rfl
@[simp] theorem wA_Sorted : wA (oSorted a) s QA' = wE a s (kSorted QA') := by
  unfold wA wE oSorted
  cases a s with
  | none => rfl
  | some p =>
    obtain ⟨x, s1⟩ := p
    unfold kSorted wL sortD
    cases x with
    | list ds => dsimp only; cases intsOf ds <;> rfl
    | tuple ds => dsimp only; cases intsOf ds <;> rfl
    | _ => rfl
def ssetD : D → Option (List D)
  | .tuple ds => (match intsOf ds with
    | some ns => if decide (ns.length < 64) then some ((sset ns).map .int) else none
    | none => none)
  | _ => none
def kSSet (Q : QA) (x : D) (s : S) : Prop := wL (ssetD x) Q s
@[simp] theorem kSSet_ : kSSet QA' x s = wL (ssetD x) QA' s := Eq.trans rfl rfl
@[simp] theorem wA_SSet : wA (oSortSet a) s QA' = wE a s (kSSet QA') := by
  unfold wA wE oSortSet
  cases a s with
  | none => rfl
  | some p =>
    obtain ⟨x, s1⟩ := p
    unfold kSSet wL ssetD
    cases x with
    | tuple ds =>
      dsimp only
      cases intsOf ds with
      | none => rfl
      | some ns =>
        dsimp only
        by_cases h : ns.length < 64
        · simp [h]
        · simp [h]
    | _ => rfl
def k2TR (i : Int) (Q : QE) (x : D) (s : S) : Prop := match x with
  | .int j => if rgOk i j then Q (.tuple (rgD i (j - i).toNat)) s else False
  | _ => False
@[simp] theorem k2TR_ (i j : Int) : k2TR i Q (.int j) s = if rgOk i j then Q (.tuple (rgD i (j - i).toNat)) s else False := Eq.trans rfl rfl
def k1TR (b : Ex) (Q : QE) (x : D) (s : S) : Prop := match x with
  | .int i => wE b s (k2TR i Q)
  | _ => False
@[simp] theorem k1TR_ (i : Int) : k1TR b Q (.int i) s = wE b s (k2TR i Q) := Eq.trans rfl rfl
@[simp] theorem wE_TR : wE (dTupRg a b) s Q = wE a s (k1TR b Q) := by
  unfold wE dTupRg
  cases a s with
  | none => rfl
  | some p =>
    obtain ⟨x, s1⟩ := p
    unfold k1TR wE
    cases x with
    | int i =>
      dsimp only
      cases b s1 with
      | none => rfl
      | some q =>
        obtain ⟨y, s2⟩ := q
        unfold k2TR
        cases y with
        | int j =>
          dsimp only
          by_cases hc : rgOk i j = true
          · rw [if_pos hc, if_pos hc]
          · rw [if_neg hc, if_neg hc]
        | _ => rfl
    | _ => rfl
def k2LR (i : Int) (Q : QA) (x : D) (s : S) : Prop := match x with
  | .int j => if rgOk i j then Q (rgD i (j - i).toNat) s else False
  | _ => False
@[simp] theorem k2LR_ (i j : Int) : k2LR i QA' (.int j) s = if rgOk i j then QA' (rgD i (j - i).toNat) s else False := Eq.trans rfl rfl
def k1LR (b : Ex) (Q : QA) (x : D) (s : S) : Prop := match x with
  | .int i => wE b s (k2LR i Q)
  | _ => False
@[simp] theorem k1LR_ (i : Int) : k1LR b QA' (.int i) s = wE b s (k2LR i QA') := Eq.trans rfl rfl
@[simp] theorem wA_LR : wA (oLstRg a b) s QA' = wE a s (k1LR b QA') := by
  unfold wA wE oLstRg
  cases a s with
  | none => rfl
  | some p =>
    obtain ⟨x, s1⟩ := p
    unfold k1LR wE
    cases x with
    | int i =>
      dsimp only
      cases b s1 with
      | none => rfl
      | some q =>
        obtain ⟨y, s2⟩ := q
        unfold k2LR
        cases y with
        | int j =>
          dsimp only
          by_cases hc : rgOk i j = true
          · rw [if_pos hc, if_pos hc]
          · rw [if_neg hc, if_neg hc]
        | _ => rfl
    | _ => rfl
/-- a comprehension -/
def k2Lc (vs : List Nat) (old : S) (Q : QA) (ys : List D) (s : S) : Prop := Q ys { s with env := backE old.env s.env vs }
@[simp] theorem k2Lc_ (vs : List Nat) (old : S) (ys : List D) : k2Lc vs old QA' ys s = QA' ys { s with env := backE old.env s.env vs } := Eq.trans rfl rfl
def k1Lc (b : Pt) (t : Tx) (e : Ex) (vs : List Nat) (Q : QA) (ds : List D) (s : S) : Prop := wC b t e vs ds [] (wipeS s vs) (k2Lc vs s Q)
@[simp] theorem k1Lc_ (b : Pt) (e : Ex) (vs : List Nat) (ds : List D) : k1Lc b t e vs QA' ds s = wC b t e vs ds [] (wipeS s vs) (k2Lc vs s QA') := Eq.trans rfl rfl
@[simp] theorem wA_Lc (b : Pt) (e : Ex) (vs : List Nat) : wA (oLc r b t e vs) s QA' = wA r s (k1Lc b t e vs QA') := by
  unfold wA oLc
  cases r s with
  | none => rfl
  | some p =>
    obtain ⟨ds, s1⟩ := p
    unfold k1Lc wC k2Lc
    dsimp only
    cases lcL b t e vs ds [] (wipeS s1 vs) with
    | none => rfl
    | some q => rfl
/-! statements -/
def kBSeq (q : Bd) (Q : QO) (o : Out) : Prop := match o with
  | .nx s => wB q s Q
  | o => Q o
@[simp] theorem kBSeq_nx : kBSeq q QO' (.nx s) = wB q s QO' := Eq.trans rfl rfl
@[simp] theorem kBSeq_rt : kBSeq q QO' (.rt d s) = QO' (.rt d s) := Eq.trans rfl rfl
@[simp] theorem kBSeq_bk : kBSeq q QO' (.bk s) = QO' (.bk s) := Eq.trans rfl rfl
@[simp] theorem kBSeq_ct : kBSeq q QO' (.ct s) = QO' (.ct s) := Eq.trans rfl rfl
@[simp] theorem wB_Seq : wB (bSeq p q) s QO' = wB p s (kBSeq q QO') := by
  unfold wB bSeq
  cases p s with
  | none => rfl
  | some o => cases o <;> rfl
@[simp] theorem wB_Nil : wB bNil s QO' = QO' (.nx s) := Eq.trans rfl rfl
def kBIf (p q : Bd) (Q : QO) (k : Bool) (s : S) : Prop := match k with
  | true => wB p s Q
  | false => wB q s Q
@[simp] theorem kBIf_t : kBIf p q QO' true s = wB p s QO' := Eq.trans rfl rfl
@[simp] theorem kBIf_f : kBIf p q QO' false s = wB q s QO' := Eq.trans rfl rfl
@[simp] theorem wB_If : wB (bIf t p q) s QO' = wT t s (kBIf p q QO') := by
  unfold wB wT bIf
  cases t s with
  | none => rfl
  | some z => obtain ⟨k, s1⟩ := z; cases k <;> rfl
def kRet (Q : QO) (d : D) (s : S) : Prop := Q (.rt d s)
@[simp] theorem kRet_ : kRet QO' d s = QO' (.rt d s) := Eq.trans rfl rfl
@[simp] theorem wB_Ret : wB (bRet a) s QO' = wE a s (kRet QO') := by
  unfold wB wE bRet
  cases a s <;> rfl
@[simp] theorem wB_RetN : wB bRetN s QO' = QO' (.rt .none s) := Eq.trans rfl rfl
def kDrop (Q : QO) (d : D) (s : S) : Prop := Q (.nx s)
@[simp] theorem kDrop_ : kDrop QO' d s = QO' (.nx s) := Eq.trans rfl rfl
@[simp] theorem wB_Drop : wB (bDrop a) s QO' = wE a s (kDrop QO') := by
  unfold wB wE bDrop
  cases a s <;> rfl
def kSet (i : Nat) (Q : QO) (d : D) (s : S) : Prop := Q (.nx { s with env := s.env.set i (some (.fz d)) })
@[simp] theorem kSet_ : kSet i QO' d s = QO' (.nx { s with env := s.env.set i (some (.fz d)) }) := Eq.trans rfl rfl
@[simp] theorem wB_Set : wB (bSet i a) s QO' = wE a s (kSet i QO') := by
  unfold wB wE bSet
  cases a s <;> rfl
def kSetO (i : Nat) (Q : QO) (xs : List D) (s : S) : Prop := Q (.nx { s with env := s.env.set i (some (.ow xs)) })
@[simp] theorem kSetO_ (xs : List D) : kSetO i QO' xs s = QO' (.nx { s with env := s.env.set i (some (.ow xs)) }) := Eq.trans rfl rfl
@[simp] theorem wB_SetO : wB (bSetO i r) s QO' = wA r s (kSetO i QO') := by
  unfold wB wA bSetO
  cases r s <;> rfl
@[simp] theorem wB_Brk : wB bBrk s QO' = QO' (.bk s) := Eq.trans rfl rfl
@[simp] theorem wB_Cnt : wB bCnt s QO' = QO' (.ct s) := Eq.trans rfl rfl
def k2BApp (i : Nat) (d : D) (Q : QO) (s : S) (xs : List D) : Prop := if sm xs.length then Q (.nx (setOw s i (xs ++ [d]))) else False
@[simp] theorem k2BApp_ (xs : List D) : k2BApp i d QO' s xs = if sm xs.length then QO' (.nx (setOw s i (xs ++ [d]))) else False := Eq.trans rfl rfl
def k1BApp (i : Nat) (Q : QO) (ds : List D) (s : S) : Prop := match ds with
  | [d] => kOwn (k2BApp i d Q s) s.env[i]?
  | _ => False
@[simp] theorem k1BApp_ : k1BApp i QO' [d] s = kOwn (k2BApp i d QO' s) s.env[i]? := Eq.trans rfl rfl
def k0BApp (i : Nat) (r : Ax) (Q : QO) (s : S) (xs : List D) : Prop := wA r s (k1BApp i Q)
@[simp] theorem k0BApp_ (xs : List D) : k0BApp i r QO' s xs = wA r s (k1BApp i QO') := Eq.trans rfl rfl
@[simp] theorem wB_App : wB (bApp i r) s QO' = kOwn (k0BApp i r QO' s) s.env[i]? := by
  rw [← own_eq]
  unfold wB bApp
  cases owAt s i with
  | none => rfl
  | some zs =>
    unfold k0BApp wA
    dsimp only
    cases r s with
    | none => rfl
    | some z =>
      obtain ⟨ds, s1⟩ := z
      unfold k1BApp
      match ds with
      | [] => rfl
      | [d] =>
        dsimp only
        rw [← own_eq]
        cases owAt s1 i with
        | none => rfl
        | some xs =>
          unfold k2BApp
          dsimp only
          by_cases hc : sm xs.length = true
          · rw [if_pos hc, if_pos hc]
          · rw [if_neg hc, if_neg hc]
      | _ :: _ :: _ => rfl
def k2BExt (i : Nat) (ds : List D) (Q : QO) (s : S) (xs : List D) : Prop := if fits (xs.length + ds.length) then Q (.nx (setOw s i (xs ++ ds))) else False
@[simp] theorem k2BExt_ (xs ds : List D) : k2BExt i ds QO' s xs = if fits (xs.length + ds.length) then QO' (.nx (setOw s i (xs ++ ds))) else False := Eq.trans rfl rfl
def k1BExt (i : Nat) (Q : QO) (ds : List D) (s : S) : Prop := match ds with
  | [.list es] => kOwn (k2BExt i es Q s) s.env[i]?
  | _ => False
@[simp] theorem k1BExt_ (es : List D) : k1BExt i QO' [.list es] s = kOwn (k2BExt i es QO' s) s.env[i]? := Eq.trans rfl rfl
def k0BExt (i : Nat) (r : Ax) (Q : QO) (s : S) (xs : List D) : Prop := wA r s (k1BExt i Q)
@[simp] theorem k0BExt_ (xs : List D) : k0BExt i r QO' s xs = wA r s (k1BExt i QO') := Eq.trans rfl rfl
@[simp] theorem wB_Ext : wB (bExt i r) s QO' = kOwn (k0BExt i r QO' s) s.env[i]? := by
  rw [← own_eq]
  unfold wB bExt
  cases owAt s i with
  | none => rfl
  | some zs =>
    unfold k0BExt wA
    dsimp only
    cases r s with
    | none => rfl
    | some z =>
      obtain ⟨ds, s1⟩ := z
      unfold k1BExt
      match ds with
      | [] => rfl
      | [d] =>
        cases d with
        | list es =>
          dsimp only
          rw [← own_eq]
          cases owAt s1 i with
          | none => rfl
          | some xs =>
            unfold k2BExt
            dsimp only
            by_cases hc : fits (xs.length + es.length) = true
            · rw [if_pos hc, if_pos hc]
            · rw [if_neg hc, if_neg hc]
        | _ => rfl
      | d1 :: d2 :: t => cases d1 <;> rfl
def wPut (o : Option (List D)) (i : Nat) (Q : QO) (s : S) : Prop := match o with
  | none => False
  | some ys => Q (.nx (setOw s i ys))
@[simp] theorem wPut_ (ys : List D) : wPut (some ys) i QO' s = QO' (.nx (setOw s i ys)) := Eq.trans rfl rfl
def k3Put (i : Nat) (d : D) (k : Int) (Q : QO) (s : S) (xs : List D) : Prop := wPut (putAt xs k d) i Q s
@[simp] theorem k3Put_ (k : Int) (xs : List D) : k3Put i d k QO' s xs = wPut (putAt xs k d) i QO' s := Eq.trans rfl rfl
def k2Put (i : Nat) (d : D) (Q : QO) (x : D) (s : S) : Prop := match x with
  | .int k => kOwn (k3Put i d k Q s) s.env[i]?
  | _ => False
@[simp] theorem k2Put_ (k : Int) : k2Put i d QO' (.int k) s = kOwn (k3Put i d k QO' s) s.env[i]? := Eq.trans rfl rfl
def k1Put (i : Nat) (a : Ex) (d : D) (Q : QO) (s : S) (xs : List D) : Prop := wE a s (k2Put i d Q)
@[simp] theorem k1Put_ (xs : List D) : k1Put i a d QO' s xs = wE a s (k2Put i d QO') := Eq.trans rfl rfl
def k0Put (i : Nat) (a : Ex) (Q : QO) (d : D) (s : S) : Prop := kOwn (k1Put i a d Q s) s.env[i]?
@[simp] theorem k0Put_ : k0Put i a QO' d s = kOwn (k1Put i a d QO' s) s.env[i]? := Eq.trans rfl rfl
@[simp] theorem wB_Put : wB (bPut i a b) s QO' = wE b s (k0Put i a QO') := by
  unfold wB wE bPut
  cases b s with
  | none => rfl
  | some z =>
    obtain ⟨d, s1⟩ := z
    unfold k0Put
    dsimp only
    rw [← own_eq]
    cases owAt s1 i with
    | none => rfl
    | some xs =>
      unfold k1Put wE
      dsimp only
      cases a s1 with
      | none => rfl
      | some z =>
        obtain ⟨x, s2⟩ := z
        unfold k2Put
        cases x with
        | int k =>
          dsimp only
          rw [← own_eq]
          cases owAt s2 i with
          | none => rfl
          | some xs =>
            unfold k3Put wPut
            dsimp only
            cases putAt xs k d <;> rfl
        | _ => rfl
def k4Aug (i : Nat) (k : Int) (z : D) (Q : QO) (s : S) (xs : List D) : Prop := wPut (putAt xs k z) i Q s
@[simp] theorem k4Aug_ (k : Int) (xs : List D) : k4Aug i k d QO' s xs = wPut (putAt xs k d) i QO' s := Eq.trans rfl rfl
def k5Aug (i : Nat) (k : Int) (Q : QO) (z : D) (s : S) : Prop := kOwn (k4Aug i k z Q s) s.env[i]?
@[simp] theorem k5Aug_ (k : Int) : k5Aug i k QO' d s = kOwn (k4Aug i k d QO' s) s.env[i]? := Eq.trans rfl rfl
def k3Aug (g : D → D → Option D) (i : Nat) (k : Int) (x : D) (Q : QO) (y : D) (s : S) : Prop := wO (g x y) (k5Aug i k Q) s
@[simp] theorem k3Aug_ (k : Int) : k3Aug g i k x QO' y s = wO (g x y) (k5Aug i k QO') s := Eq.trans rfl rfl
def k2Aug (g : D → D → Option D) (i : Nat) (k : Int) (b : Ex) (Q : QO) (x : D) (s : S) : Prop := wE b s (k3Aug g i k x Q)
@[simp] theorem k2Aug_ (k : Int) : k2Aug g i k b QO' x s = wE b s (k3Aug g i k x QO') := Eq.trans rfl rfl
def k1Aug (g : D → D → Option D) (i : Nat) (k : Int) (b : Ex) (Q : QO) (s : S) (xs : List D) : Prop := wO (L2.atI xs k) (k2Aug g i k b Q) s
@[simp] theorem k1Aug_ (k : Int) (xs : List D) : k1Aug g i k b QO' s xs = wO (L2.atI xs k) (k2Aug g i k b QO') s := Eq.trans rfl rfl
def k0Aug (g : D → D → Option D) (i : Nat) (b : Ex) (Q : QO) (x : D) (s : S) : Prop := match x with
  | .int k => kOwn (k1Aug g i k b Q s) s.env[i]?
  | _ => False
@[simp] theorem k0Aug_ (k : Int) : k0Aug g i b QO' (.int k) s = kOwn (k1Aug g i k b QO' s) s.env[i]? := Eq.trans rfl rfl
def kkAug (g : D → D → Option D) (i : Nat) (a b : Ex) (Q : QO) (s : S) (xs : List D) : Prop := wE a s (k0Aug g i b Q)
@[simp] theorem kkAug_ (xs : List D) : kkAug g i a b QO' s xs = wE a s (k0Aug g i b QO') := Eq.trans rfl rfl
@[simp] theorem wB_AugAt : wB (bAugAt g i a b) s QO' = kOwn (kkAug g i a b QO' s) s.env[i]? := by
  rw [← own_eq]
  unfold wB bAugAt
  cases owAt s i with
  | none => rfl
  | some zs =>
    unfold kkAug wE
    dsimp only
    cases a s with
    | none => rfl
    | some z =>
      obtain ⟨x, s1⟩ := z
      unfold k0Aug
      cases x with
      | int k =>
        dsimp only
        rw [← own_eq]
        cases owAt s1 i with
        | none => rfl
        | some xs =>
          unfold k1Aug wO
          dsimp only
          cases L2.atI xs k with
          | none => rfl
          | some x =>
            unfold k2Aug wE
            dsimp only
            cases b s1 with
            | none => rfl
            | some z =>
              obtain ⟨y, s2⟩ := z
              unfold k3Aug wO
              dsimp only
              cases g x y with
              | none => rfl
              | some z =>
                unfold k5Aug
                dsimp only
                rw [← own_eq]
                cases owAt s2 i with
                | none => rfl
                | some xs2 =>
                  unfold k4Aug wPut
                  dsimp only
                  cases putAt xs2 k z <;> rfl
      | _ => rfl
def kAug (g : D → D → Option D) (i : Nat) (b : Ex) (Q : QO) (s : S) : Option (Option Sl) → Prop
  | some (some (.fz x)) => wE b s (k2Bin g x (kSet i Q))
  | _ => False
@[simp] theorem kAug_ : kAug g i b QO' s (some (some (.fz x))) = wE b s (k2Bin g x (kSet i QO')) := Eq.trans rfl rfl
@[simp] theorem wB_Aug : wB (bAug g i b) s QO' = kAug g i b QO' s s.env[i]? := by
  unfold wB bAug kAug
  cases s.env[i]? with
  | none => rfl
  | some o =>
    cases o with
    | none => rfl
    | some l =>
      cases l with
      | fz x =>
        unfold wE k2Bin wO
        dsimp only
        cases b s with
        | none => rfl
        | some z =>
          obtain ⟨y, s1⟩ := z
          dsimp only
          cases g x y <;> rfl
      | _ => rfl
def kUnp (b : Pt) (Q : QO) (d : D) (s : S) : Prop := wS (b d s) fun s => Q (.nx s)
@[simp] theorem kUnp_ (b : Pt) : kUnp b QO' d s = wS (b d s) fun s => QO' (.nx s) := Eq.trans rfl rfl
@[simp] theorem wB_Unp (b : Pt) : wB (bUnp a b) s QO' = wE a s (kUnp b QO') := by
  unfold wB wE bUnp
  cases a s with
  | none => rfl
  | some z =>
    obtain ⟨d, s1⟩ := z
    unfold kUnp wS
    dsimp only
    cases b d s1 <;> rfl
def k2MD (d : D) (Q : List It1 → S → Prop) (is : List It1) (s : S) : Prop := Q (.da d :: is) s
def k1MD (m : Mx) (Q : List It1 → S → Prop) (d : D) (s : S) : Prop := wM m s (k2MD d Q)
def k2MO (d : List D) (Q : List It1 → S → Prop) (is : List It1) (s : S) : Prop := Q (.ol d :: is) s
def k1MO (m : Mx) (Q : List It1 → S → Prop) (d : List D) (s : S) : Prop := wM m s (k2MO d Q)
@[simp] theorem k1MD_ (m : Mx) (R : List It1 → S → Prop) : k1MD m R d s = wM m s (k2MD d R) := Eq.trans rfl rfl
@[simp] theorem k2MD_ (R : List It1 → S → Prop) (is : List It1) : k2MD d R is s = R (.da d :: is) s := Eq.trans rfl rfl
@[simp] theorem k1MO_ (m : Mx) (R : List It1 → S → Prop) (ds : List D) : k1MO m R ds s = wM m s (k2MO ds R) := Eq.trans rfl rfl
@[simp] theorem k2MO_ (R : List It1 → S → Prop) (is : List It1) (ds : List D) : k2MO ds R is s = R (.ol ds :: is) s := Eq.trans rfl rfl
@[simp] theorem wM_Nil (R : List It1 → S → Prop) : wM mNil s R = R [] s := Eq.trans rfl rfl
@[simp] theorem wM_D (m : Mx) (R : List It1 → S → Prop) : wM (mD a m) s R = wE a s (k1MD m R) := by
  unfold wM wE mD
  cases a s with
  | none => rfl
  | some z =>
    obtain ⟨d, s1⟩ := z
    unfold k1MD wM k2MD
    dsimp only
    cases m s1 with
    | none => rfl
    | some z => rfl
@[simp] theorem wM_O (m : Mx) (R : List It1 → S → Prop) : wM (mO r m) s R = wA r s (k1MO m R) := by
  unfold wM wA mO
  cases r s with
  | none => rfl
  | some z =>
    obtain ⟨d, s1⟩ := z
    unfold k1MO wM k2MO
    dsimp only
    cases m s1 with
    | none => rfl
    | some z => rfl
def kPar (sl : List Nat) (Q : QO) (is : List It1) (s : S) : Prop := if is.length = sl.length then Q (.nx { s with env := stI s.env sl is }) else False
@[simp] theorem kPar_ (sl : List Nat) (is : List It1) : kPar sl QO' is s = if is.length = sl.length then QO' (.nx { s with env := stI s.env sl is }) else False := Eq.trans rfl rfl
@[simp] theorem wB_Par (sl : List Nat) (m : Mx) : wB (bPar sl m) s QO' = wM m s (kPar sl QO') := by
  unfold wB wM bPar
  cases m s with
  | none => rfl
  | some z =>
    obtain ⟨is, s1⟩ := z
    unfold kPar
    dsimp only
    by_cases hc : is.length = sl.length
    · rw [if_pos hc, if_pos hc]
    · rw [if_neg hc, if_neg hc]
def kFor (b : Pt) (g : Bd) (Q : QO) (ds : List D) (s : S) : Prop := wF b g ds s Q
@[simp] theorem kFor_ (b : Pt) (ds : List D) : kFor b p QO' ds s = wF b p ds s QO' := Eq.trans rfl rfl
@[simp] theorem wB_For (b : Pt) : wB (bFor r b p) s QO' = wA r s (kFor b p QO') := by
  unfold wB wA bFor
  cases r s <;> rfl
end
/-! ### loops -/
/-- a turn's end: on with P, or out -/
def onw (P : S → Prop) (Q : QO) : Out → Prop
  | .nx s => P s
  | .ct s => P s
  | .bk s => Q (.nx s)
  | .rt d s => Q (.rt d s)
  | .ex e s => Q (.ex e s)
@[simp] theorem onw_ex (P : S → Prop) (Q : QO) (e : Exc) (s : S) : onw P Q (.ex e s) = Q (.ex e s) := Eq.trans rfl rfl
@[simp] theorem onw_nx (P : S → Prop) (Q : QO) (s : S) : onw P Q (.nx s) = P s := Eq.trans rfl rfl
@[simp] theorem onw_ct (P : S → Prop) (Q : QO) (s : S) : onw P Q (.ct s) = P s := Eq.trans rfl rfl
@[simp] theorem onw_bk (P : S → Prop) (Q : QO) (s : S) : onw P Q (.bk s) = Q (.nx s) := Eq.trans rfl rfl
@[simp] theorem onw_rt (P : S → Prop) (Q : QO) (d : D) (s : S) : onw P Q (.rt d s) = Q (.rt d s) := Eq.trans rfl rfl
def kTurn (g : Bd) (Q : QO) (s : S) : Prop := wB g s Q
@[simp] theorem kTurn_ (g : Bd) (Q : QO) (s : S) : kTurn g Q s = wB g s Q := Eq.trans rfl rfl
theorem wF_nil {b : Pt} {g : Bd} {s : S} {Q : QO} : wF b g [] s Q = Q (.nx s) := Eq.trans rfl rfl
theorem wF_cons {b : Pt} {g : Bd} {x : D} {xs : List D} {s : S} {Q : QO} : wF b g (x :: xs) s Q = wS (b x s) (kTurn g (onw (fun s2 => wF b g xs s2 Q) Q)) := by
  unfold wF wS kTurn wB
  rw [forL]
  cases b x s with
  | none => rfl
  | some s1 =>
    dsimp only
    cases g s1 with
    | none => rfl
    | some o => cases o <;> rfl
theorem wC_nil {b : Pt} {t : Tx} {e : Ex} {vs : List Nat} {acc : List D} {s : S} {Q : QA} : wC b t e vs [] acc s Q = Q acc s := Eq.trans rfl rfl
/-- by an invariant that knows the turn -/
theorem wF_inv (P : Nat → S → Prop) {b : Pt} {g : Bd} {Q : QO} : ∀ {ds : List D} {s : S} (k : Nat), P k s → (∀ j x s, ds[j]? = some x → P (k + j) s → wS (b x s) (kTurn g (onw (P (k + j + 1)) Q))) → (∀ s, P (k + ds.length) s → Q (.nx s)) → wF b g ds s Q
  | [], s, k, h, _, he => he s h
  | x :: ds, s, k, h, hs, he => by
    have h1 := hs 0 x s rfl h
    unfold wF forL
    unfold wS kTurn wB at h1
    cases hb : b x s with
    | none => rw [hb] at h1; exact h1.elim
    | some s1 =>
      rw [hb] at h1
      dsimp only at h1 ⊢
      have next : ∀ s2, P (k + 0 + 1) s2 → wF b g ds s2 Q := fun s2 h2 => by
        refine wF_inv P (k + 1) h2 (fun j y s hy hp => ?_) fun s hp => ?_
        · have e : k + 1 + j = k + (j + 1) := by omega
          rw [e] at hp ⊢
          exact hs (j + 1) y s (by simpa using hy) hp
        · refine he s ?_
          have e : k + (x :: ds).length = k + 1 + ds.length := by simp; omega
          rw [e]
          exact hp
      cases hg : g s1 with
      | none => rw [hg] at h1; exact h1.elim
      | some o =>
        rw [hg] at h1
        cases o with
        | nx s2 => exact next s2 h1
        | ct s2 => exact next s2 h1
        | bk s2 => exact h1
        | rt d s2 => exact h1
        | ex e s2 => exact h1
/-- over data that stands for β's, a fold beside it -/
theorem wF_fold {α β : Type} (R : α → S → Prop) (step : α → β → α) (toD : β → D) {b : Pt} {g : Bd} {Q : QO} : ∀ {items : List β} {a : α} {s : S}, R a s →
    (∀ a x s, x ∈ items → R a s → wS (b (toD x) s) (kTurn g (onw (R (step a x)) Q))) → (∀ s, R (items.foldl step a) s → Q (.nx s)) → wF b g (items.map toD) s Q
  | [], a, s, h, _, he => he s h
  | x :: xs, a, s, h, hs, he => by
    have h1 := hs a x s (List.mem_cons_self ..) h
    rw [List.map_cons]
    unfold wF forL
    unfold wS kTurn wB at h1
    have next : ∀ s2, R (step a x) s2 → wF b g (xs.map toD) s2 Q := fun s2 h2 => wF_fold R step toD h2 (fun a y s hy => hs a y s (List.mem_cons_of_mem _ hy)) he
    cases hb : b (toD x) s with
    | none => rw [hb] at h1; exact h1.elim
    | some s1 =>
      rw [hb] at h1
      dsimp only at h1 ⊢
      cases hg : g s1 with
      | none => rw [hg] at h1; exact h1.elim
      | some o =>
        rw [hg] at h1
        cases o with
        | nx s2 => exact next s2 h1
        | ct s2 => exact next s2 h1
        | bk s2 => exact h1
        | rt d s2 => exact h1
        | ex e s2 => exact h1
/-- a comprehension by an invariant that knows the turn and what is made so far -/
def kLcE (P : List D → S → Prop) (vs : List Nat) (acc : List D) (y : D) (s : S) : Prop := acc.length < 16777216 ∧ P (acc ++ [y]) (wipeS s vs)
@[simp] theorem kLcE_ (P : List D → S → Prop) (vs : List Nat) (acc : List D) (y : D) (s : S) : kLcE P vs acc y s = (acc.length < 16777216 ∧ P (acc ++ [y]) (wipeS s vs)) := Eq.trans rfl rfl
def inLc (P : List D → S → Prop) (vs : List Nat) (acc : List D) (e : Ex) (k : Bool) (s : S) : Prop := match k with
  | false => P acc (wipeS s vs)
  | true => wE e s (kLcE P vs acc)
def kLcT (P : List D → S → Prop) (vs : List Nat) (acc : List D) (t : Tx) (e : Ex) (s : S) : Prop := wT t s (inLc P vs acc e)
@[simp] theorem kLcT_ (P : List D → S → Prop) (vs : List Nat) (acc : List D) (t : Tx) (e : Ex) (s : S) : kLcT P vs acc t e s = wT t s (inLc P vs acc e) := Eq.trans rfl rfl
@[simp] theorem inLc_f (P : List D → S → Prop) (vs : List Nat) (acc : List D) (e : Ex) (s : S) : inLc P vs acc e false s = P acc (wipeS s vs) := Eq.trans rfl rfl
@[simp] theorem inLc_t (P : List D → S → Prop) (vs : List Nat) (acc : List D) (e : Ex) (s : S) : inLc P vs acc e true s = wE e s (kLcE P vs acc) := Eq.trans rfl rfl
theorem wC_inv (P : Nat → List D → S → Prop) {b : Pt} {t : Tx} {e : Ex} {vs : List Nat} {Q : QA} : ∀ {ds acc : List D} {s : S} (k : Nat), P k acc s →
    (∀ j x acc s, ds[j]? = some x → P (k + j) acc s → wS (b x s) (kLcT (P (k + j + 1)) vs acc t e)) → (∀ ys s, P (k + ds.length) ys s → Q ys s) → wC b t e vs ds acc s Q
  | [], acc, s, k, h, _, he => he acc s h
  | x :: ds, acc, s, k, h, hs, he => by
    have h1 := hs 0 x acc s rfl h
    unfold wC lcL
    unfold wS kLcT wT at h1
    have next : ∀ acc' s2, P (k + 0 + 1) acc' s2 → wC b t e vs ds acc' s2 Q := fun acc' s2 h2 => by
      refine wC_inv P (k + 1) h2 (fun j y acc s hy hp => ?_) fun ys s hp => ?_
      · have e : k + 1 + j = k + (j + 1) := by omega
        rw [e] at hp ⊢
        exact hs (j + 1) y acc s (by simpa using hy) hp
      · refine he ys s ?_
        have e : k + (x :: ds).length = k + 1 + ds.length := by simp; omega
        rw [e]
        exact hp
    cases hb : b x s with
    | none => rw [hb] at h1; exact h1.elim
    | some s1 =>
      rw [hb] at h1
      dsimp only at h1 ⊢
      cases ht : t s1 with
      | none => rw [ht] at h1; exact h1.elim
      | some z =>
        obtain ⟨k0, s2⟩ := z
        rw [ht] at h1
        dsimp only at h1 ⊢
        cases k0 with
        | false => exact next _ _ h1
        | true =>
          unfold inLc wE kLcE at h1
          dsimp only at h1 ⊢
          cases hy : e s2 with
          | none => rw [hy] at h1; exact h1.elim
          | some z =>
            obtain ⟨y, s3⟩ := z
            rw [hy] at h1
            dsimp only at h1 ⊢
            rw [if_pos (show sm acc.length = true by simp [sm, h1.1])]
            exact next _ _ h1.2
/-- a comprehension that keeps the state: a map of what stays -/
def kM2 (vs : List Nat) (y0 : D) (s0 : S) (y : D) (s : S) : Prop := y = y0 ∧ wipeS s vs = s0
@[simp] theorem kM2_ (vs : List Nat) (y0 : D) (s0 : S) (y : D) (s : S) : kM2 vs y0 s0 y s = (y = y0 ∧ wipeS s vs = s0) := Eq.trans rfl rfl
def kM1 (e : Ex) (vs : List Nat) (p : Bool) (y0 : D) (s0 : S) (k : Bool) (s : S) : Prop := match k with
  | true => p = true ∧ wE e s (kM2 vs y0 s0)
  | false => p = false ∧ wipeS s vs = s0
@[simp] theorem kM1_t (e : Ex) (vs : List Nat) (p : Bool) (y0 : D) (s0 : S) (s : S) : kM1 e vs p y0 s0 true s = (p = true ∧ wE e s (kM2 vs y0 s0)) := Eq.trans rfl rfl
@[simp] theorem kM1_f (e : Ex) (vs : List Nat) (p : Bool) (y0 : D) (s0 : S) (s : S) : kM1 e vs p y0 s0 false s = (p = false ∧ wipeS s vs = s0) := Eq.trans rfl rfl
def kM0 (t : Tx) (e : Ex) (vs : List Nat) (p : Bool) (y0 : D) (s0 : S) (s : S) : Prop := wT t s (kM1 e vs p y0 s0)
@[simp] theorem kM0_ (t : Tx) (e : Ex) (vs : List Nat) (p : Bool) (y0 : D) (s0 : S) (s : S) : kM0 t e vs p y0 s0 s = wT t s (kM1 e vs p y0 s0) := Eq.trans rfl rfl
theorem wC_fil {β : Type} (p : β → Bool) (f toD : β → D) {b : Pt} {t : Tx} {e : Ex} {vs : List Nat} {Q : QA} {items : List β} {acc : List D} {s : S} (hl : acc.length + items.length < 16777216)
    (h : ∀ x, x ∈ items → wS (b (toD x) s) (kM0 t e vs (p x) (f x) s)) (he : Q (acc ++ (items.filter p).map f) s) : wC b t e vs (items.map toD) acc s Q := by
  refine wC_inv (fun k ys s' => s' = s ∧ ys = acc ++ ((items.take k).filter p).map f) 0 ⟨rfl, by simp⟩ (fun j x ys s' hj hp => ?_) fun ys s' hp => ?_
  · obtain ⟨rfl, rfl⟩ := hp
    rw [List.getElem?_map] at hj
    obtain ⟨z, hz, rfl⟩ := Option.map_eq_some_iff.mp hj
    have h1 := h z (List.mem_of_getElem? hz)
    have jl := (List.getElem?_eq_some_iff.mp hz).1
    have et : items.take (0 + j + 1) = items.take (0 + j) ++ [z] := by rw [Nat.zero_add, List.take_add_one, hz]; rfl
    unfold wS kM0 wT at h1
    unfold wS kLcT wT
    cases hb : b (toD z) s' with
    | none => rw [hb] at h1; exact h1.elim
    | some s1 =>
      rw [hb] at h1
      dsimp only at h1 ⊢
      cases ht : t s1 with
      | none => rw [ht] at h1; exact h1.elim
      | some q =>
        obtain ⟨k0, s2⟩ := q
        rw [ht] at h1
        dsimp only at h1 ⊢
        cases k0 with
        | false =>
          rw [kM1_f] at h1
          rw [inLc_f]
          exact ⟨h1.2, by rw [et]; simp [h1.1]⟩
        | true =>
          rw [kM1_t] at h1
          rw [inLc_t]
          obtain ⟨hpz, h2⟩ := h1
          unfold wE at h2 ⊢
          cases he2 : e s2 with
          | none => rw [he2] at h2; exact h2.elim
          | some q =>
            obtain ⟨y, s3⟩ := q
            rw [he2] at h2
            dsimp only at h2 ⊢
            rw [kM2_] at h2
            rw [kLcE_]
            refine ⟨?_, h2.2, by rw [et, h2.1]; simp [hpz]⟩
            have h3 : ((items.take (0 + j)).filter p).length ≤ (items.take (0 + j)).length := List.length_filter_le _ _
            rw [List.length_append, List.length_map]
            rw [List.length_take] at h3
            omega
  · obtain ⟨rfl, rfl⟩ := hp
    have e1 : items.take (0 + (items.map toD).length) = items := by simp
    rw [e1]
    exact he
theorem wC_map {β : Type} (f toD : β → D) {b : Pt} {t : Tx} {e : Ex} {vs : List Nat} {Q : QA} {items : List β} {acc : List D} {s : S} (hl : acc.length + items.length < 16777216)
    (h : ∀ x, x ∈ items → wS (b (toD x) s) (kM0 t e vs true (f x) s)) (he : Q (acc ++ items.map f) s) : wC b t e vs (items.map toD) acc s Q :=
  wC_fil (fun _ => true) f toD hl h (by rw [List.filter_eq_self.mpr (fun _ _ => rfl)]; exact he)
theorem wC_none {β : Type} (toD : β → D) {b : Pt} {t : Tx} {e : Ex} {vs : List Nat} {Q : QA} {items : List β} {acc : List D} {s : S} (hl : acc.length + items.length < 16777216)
    (h : ∀ x, x ∈ items → wS (b (toD x) s) (kM0 t e vs false .none s)) (he : Q acc s) : wC b t e vs (items.map toD) acc s Q :=
  wC_fil (fun _ => false) (fun _ => .none) toD hl h (by rw [List.filter_eq_nil_iff.mpr (fun _ _ => Bool.false_ne_true)]; simpa using he)
/-! ### defs -/
def retD (r : D) : QO
  | .rt d _ => d = r
  | .nx _ => r = .none
  | _ => False
@[simp] theorem retD_rt (r d : D) (s : S) : retD r (.rt d s) = (d = r) := Eq.trans rfl rfl
@[simp] theorem retD_nx (r : D) (s : S) : retD r (.nx s) = (r = .none) := Eq.trans rfl rfl
theorem fnP_w {n : Nat} {b : Bd} {ds : List D} {r : D} (h : wB b ⟨ds.map (fun d => some (.fz d)) ++ List.replicate (n - ds.length) none, [], 0⟩ (retD r)) : fnP n b ds = some r := by
  unfold fnP
  unfold wB at h
  split at h
  · exact h.elim
  · rename_i o e
    rw [e]
    cases o with
    | rt d s => exact congrArg some h
    | nx s => exact congrArg some (Eq.symm h)
    | _ => exact h.elim
def retK (R : D → List Int → Int → Prop) : QO
  | .rt d s => R d s.cs s.n
  | .nx s => R .none s.cs s.n
  | _ => False
@[simp] theorem retK_rt (R : D → List Int → Int → Prop) (d : D) (s : S) : retK R (.rt d s) = R d s.cs s.n := Eq.trans rfl rfl
@[simp] theorem retK_nx (R : D → List Int → Int → Prop) (s : S) : retK R (.nx s) = R .none s.cs s.n := Eq.trans rfl rfl
theorem fnK_w {m : Nat} {b : Bd} {ds : List D} {cs : List Int} {n : Int} {R : D → List Int → Int → Prop} (h : wB b ⟨some .dk :: ds.map (fun d => some (.fz d)) ++ List.replicate (m - (ds.length + 1)) none, cs, n⟩ (retK R)) : wK (fnK m b) ds cs n R := by
  unfold wK fnK
  unfold wB at h
  split at h
  · exact h.elim
  · rename_i o e
    rw [e]
    cases o with
    | rt d s => exact h
    | nx s => exact h
    | _ => exact h.elim
theorem wK_of {f : List D → List Int → Int → Option (D × List Int × Int)} {ds : List D} {cs cs' : List Int} {n n' : Int} {r : D} {R : D → List Int → Int → Prop} (e : f ds cs n = some (r, cs', n')) (h : R r cs' n') : wK f ds cs n R := by
  unfold wK
  rw [e]
  exact h
theorem wB_law {b : Bd} {s : S} (h : wB b s fun o => ∃ s', o = .rt (.bool true) s') : ∃ s', b s = some (.rt (.bool true) s') := by
  unfold wB at h
  split at h
  · exact h.elim
  · rename_i o e
    obtain ⟨s', rfl⟩ := h
    exact ⟨s', e⟩
/-- .. with what the def must give -/
theorem fnP_some {n : Nat} {b : Bd} {ds : List D} {P : D → Prop} (h : wB b ⟨ds.map (fun d => some (.fz d)) ++ List.replicate (n - ds.length) none, [], 0⟩ (fun o => match o with | .rt d _ => P d | .nx _ => P .none | _ => False)) : ∃ r, fnP n b ds = some r ∧ P r := by
  unfold fnP
  unfold wB at h
  split at h
  · exact h.elim
  · rename_i o e
    rw [e]
    cases o with
    | rt d s => exact ⟨d, rfl, h⟩
    | nx s => exact ⟨_, rfl, h⟩
    | _ => exact h.elim
end Dl

/-! The plan of the rule is carried out. -/
namespace Dl
theorem dueSt_run : ∀ (l : List Nat) {c0 c st : List Nat}, runSt c0 st = some c → runSt c0 (l.foldl dueStep (c, st)).2 = some (l.foldl dueStep (c, st)).1
  | [], c0, c, st, h => h
  | s :: l, c0, c, st, h => by
    rw [List.foldl_cons]
    by_cases hp : 0 < at0 c s
    · have e : dueStep (c, st) s = (carry c s, st ++ [s]) := by simp [dueStep, hp]
      rw [e]
      exact dueSt_run l (by rw [runSt_app, h, Option.bind_some, if_pos hp])
    · have e : dueStep (c, st) s = (c, st) := by simp [dueStep, hp]
      rw [e]
      exact dueSt_run l h
theorem dueSt_own : ∀ (n f : Nat) (c st : List Nat), st.Pairwise (· < ·) → (∀ x ∈ st, x < f) → ((List.range' f n).foldl dueStep (c, st)).2.Pairwise (· < ·)
  | 0, f, c, st, h, _ => h
  | n + 1, f, c, st, h, hb => by
    rw [List.range'_succ, List.foldl_cons]
    by_cases hp : 0 < at0 c f
    · have e : dueStep (c, st) f = (carry c f, st ++ [f]) := by simp [dueStep, hp]
      rw [e]
      refine dueSt_own n (f + 1) _ _ ?_ fun x hx => ?_
      · rw [List.pairwise_append]
        exact ⟨h, by simp, fun a ha b hb2 => by
          have : b = f := by simpa using hb2
          have := hb a ha
          omega⟩
      · rcases List.mem_append.mp hx with q | q
        · have := hb x q
          omega
        · have : x = f := by simpa using q
          omega
    · have e : dueStep (c, st) f = (c, st) := by simp [dueStep, hp]
      rw [e]
      exact dueSt_own n (f + 1) c st h fun x hx => by have := hb x hx; omega
theorem dueWalk_own (c : List Nat) (w : Nat × Nat) : OwnSt w (dueWalk c w).2 := by
  refine ⟨dueSt_own _ _ _ _ List.Pairwise.nil (fun x hx => by cases hx), fun x hx => ?_⟩
  rcases (dueWalk_st (w.2 - w.1) w.1 c []).1 x hx with h | h
  · cases h
  · omega
theorem dueAll_run : ∀ (ws : List (Nat × Nat)) {c0 c : List Nat} {p : List (List Nat)}, runPlan c0 p = some c → runPlan c0 (ws.foldl dueAll (c, p)).2 = some (ws.foldl dueAll (c, p)).1
  | [], c0, c, p, h => h
  | w :: ws, c0, c, p, h => by
    rw [List.foldl_cons]
    refine dueAll_run ws ?_
    rw [runPlan_app, h, Option.bind_some]
    exact dueSt_run _ rfl
theorem dueAll_own : ∀ (ws done : List (Nat × Nat)) {c : List Nat} {p : List (List Nat)}, All2 OwnSt done p → All2 OwnSt (done ++ ws) (ws.foldl dueAll (c, p)).2
  | [], done, c, p, h => by rw [List.append_nil]; exact h
  | w :: ws, done, c, p, h => by
    rw [List.foldl_cons]
    have := dueAll_own ws (done ++ [w]) (c := (dueWalk c w).1) (h.app (dueWalk_own c w))
    rwa [List.append_assoc] at this
def dueEnd (c : List Nat) (ws : List (Nat × Nat)) : List Nat := (ws.foldl dueAll (c, [])).1
theorem due_run (c : List Nat) (ws : List (Nat × Nat)) : runPlan c (duePlan c ws) = some (dueEnd c ws) := dueAll_run ws rfl
theorem due_own (c : List Nat) (ws : List (Nat × Nat)) : All2 OwnSt ws (duePlan c ws) := dueAll_own ws [] trivial
theorem dueEnd_len (c : List Nat) (ws : List (Nat × Nat)) : (dueEnd c ws).length = c.length := runPlan_len _ (due_run c ws)
theorem dueEnd_le {c : List Nat} {ws : List (Nat × Nat)} {h : Nat} (hw : Ways c.length ws) (hc : ∀ x ∈ c, x ≤ h) : ∀ x ∈ dueEnd c ws, x ≤ h + ws.length := fun x hx => by
  have := run_le (due_run c ws) (tidy_of hw (due_own c ws)) hc x hx
  rwa [← (due_own c ws).len] at this
/-! how much is carried over each stage -/
def carStep (a : List Nat × List Nat) (s : Nat) : List Nat × List Nat := if 0 < at0 a.1 s then (carry a.1 s, a.2.set s (at0 a.2 s + 1)) else a
def carWalk (a : List Nat × List Nat) (w : Nat × Nat) : List Nat × List Nat := (List.range' w.1 (w.2 - w.1)).foldl carStep a
def carAll (c : List Nat) (ws : List (Nat × Nat)) : List Nat × List Nat := ws.foldl carWalk (c, List.replicate (c.length - 1) 0)
theorem carStep_len (a : List Nat × List Nat) (s : Nat) : (carStep a s).1.length = a.1.length ∧ (carStep a s).2.length = a.2.length := by
  unfold carStep
  split
  · simp [carry_len]
  · simp
theorem car_due : ∀ (l : List Nat) (c f st : List Nat), (l.foldl carStep (c, f)).1 = (l.foldl dueStep (c, st)).1
  | [], c, f, st => rfl
  | s :: l, c, f, st => by
    rw [List.foldl_cons, List.foldl_cons]
    by_cases hp : 0 < at0 c s
    · have e1 : carStep (c, f) s = (carry c s, f.set s (at0 f s + 1)) := by simp [carStep, hp]
      have e2 : dueStep (c, st) s = (carry c s, st ++ [s]) := by simp [dueStep, hp]
      rw [e1, e2]
      exact car_due l _ _ _
    · have e1 : carStep (c, f) s = (c, f) := by simp [carStep, hp]
      have e2 : dueStep (c, st) s = (c, st) := by simp [dueStep, hp]
      rw [e1, e2]
      exact car_due l _ _ _
theorem carAll_due : ∀ (ws : List (Nat × Nat)) (c f : List Nat) (p : List (List Nat)), (ws.foldl carWalk (c, f)).1 = (ws.foldl dueAll (c, p)).1
  | [], c, f, p => rfl
  | w :: ws, c, f, p => by
    rw [List.foldl_cons, List.foldl_cons]
    have e : (carWalk (c, f) w).1 = (dueWalk c w).1 := car_due _ _ _ _
    have e2 : carWalk (c, f) w = ((dueWalk c w).1, (carWalk (c, f) w).2) := by rw [← e]
    rw [e2]
    exact carAll_due ws _ _ _
theorem car_end (c : List Nat) (ws : List (Nat × Nat)) : (carAll c ws).1 = dueEnd c ws := carAll_due ws c _ []
end Dl

/-! Judging data: numbers, stages, plans, walkers, rows. -/
namespace Dl
open PySem (PyData)
/-- a number from lo to hi -/
def numIn (lo hi : Int) : D → Bool
  | .int i => decide (lo ≤ i) && decide (i ≤ hi)
  | _ => false
@[simp] theorem numIn_int (lo hi i : Int) : numIn lo hi (.int i) = (decide (lo ≤ i) && decide (i ≤ hi)) := Eq.trans rfl rfl
theorem numIn_of {lo hi : Int} {d : D} (h : numIn lo hi d = true) : ∃ i, d = .int i ∧ lo ≤ i ∧ i ≤ hi := by
  cases d <;> simp [numIn] at h
  exact ⟨_, rfl, h⟩
/-- ascending from lo on, below hi -/
def stsOk (hi : Int) : Int → List D → Bool
  | _, [] => true
  | lo, .int i :: ds => decide (lo ≤ i) && decide (i ≤ hi - 1) && stsOk hi (i + 1) ds
  | _, _ :: _ => false
def stOk (lo hi : Int) : D → Bool
  | .tuple ds => stsOk hi lo ds
  | _ => false
def numN : D → Nat
  | .int i => i.toNat
  | _ => 0
def stN : D → List Nat
  | .tuple ds => ds.map numN
  | _ => []
theorem numN_nat (n : Nat) : numN (natD n) = n := rfl
theorem stN_st (st : List Nat) : stN (stD st) = st := by
  show (st.map natD).map numN = st
  rw [List.map_map]
  exact List.map_id'' numN_nat st
theorem stsOk_of {hi : Nat} : ∀ {ds : List D} {lo : Nat}, stsOk hi lo ds = true → ds = (ds.map numN).map natD ∧ (ds.map numN).Pairwise (· < ·) ∧ ∀ x ∈ ds.map numN, lo ≤ x ∧ x < hi
  | [], lo, _ => ⟨rfl, .nil, fun x h => by cases h⟩
  | d :: ds, lo, h => by
    cases d with
    | int i =>
      simp only [stsOk, Bool.and_eq_true, decide_eq_true_eq] at h
      obtain ⟨⟨h1, h2⟩, h3⟩ := h
      obtain ⟨n, rfl⟩ : ∃ n : Nat, i = n := ⟨i.toNat, by omega⟩
      have h3' : stsOk hi ((n + 1 : Nat) : Int) ds = true := h3
      obtain ⟨e, pw, hm⟩ := stsOk_of h3'
      refine ⟨?_, ?_, ?_⟩
      · rw [List.map_cons, List.map_cons, ← e]
        rfl
      · rw [List.map_cons]
        refine List.pairwise_cons.mpr ⟨fun y hy => ?_, pw⟩
        have := (hm y hy).1
        have e1 : numN (.int (n : Int)) = n := rfl
        omega
      · intro x hx
        rw [List.map_cons] at hx
        have e1 : numN (.int (n : Int)) = n := rfl
        rcases List.mem_cons.mp hx with rfl | hx
        · omega
        · have := hm x hx
          omega
    | _ => simp [stsOk] at h
theorem stOk_of {w : Nat × Nat} {d : D} (h : stOk w.1 w.2 d = true) : d = stD (stN d) ∧ OwnSt w (stN d) := by
  cases d with
  | tuple ds =>
    obtain ⟨e, pw, hm⟩ := stsOk_of (ds := ds) h
    exact ⟨congrArg PyData.tuple e, pw, hm⟩
  | _ => simp [stOk] at h
theorem stsOk_own {hi : Nat} : ∀ {st : List Nat} {lo : Nat}, st.Pairwise (· < ·) → (∀ x ∈ st, lo ≤ x ∧ x < hi) → stsOk hi lo (st.map natD) = true
  | [], lo, _, _ => rfl
  | x :: st, lo, pw, hm => by
    have h1 := hm x (List.mem_cons_self ..)
    have p := List.pairwise_cons.mp pw
    have ih := stsOk_own (hi := hi) (st := st) (lo := x + 1) p.2 fun y hy => ⟨p.1 y hy, (hm y (List.mem_cons_of_mem _ hy)).2⟩
    rw [List.map_cons, stsOk, decide_eq_true (show (lo : Int) ≤ x by omega), decide_eq_true (show (x : Int) ≤ (hi : Int) - 1 by omega)]
    exact ih
theorem stOk_own {w : Nat × Nat} {st : List Nat} (h : OwnSt w st) : stOk w.1 w.2 (stD st) = true := stsOk_own h.1 h.2
def stages2 : List (Nat × Nat) → List D → Bool
  | w :: ws, d :: ds => stOk w.1 w.2 d && stages2 ws ds
  | _, _ => true
def planN (v : D) : List (List Nat) := match v with
  | .tuple vs => vs.map stN
  | _ => []
def planOk (row : List Nat) (ws : List (Nat × Nat)) (v : D) : Bool := match v with
  | .tuple vs => decide (vs.length = ws.length) && stages2 ws vs && (runPlan row (vs.map stN)).isSome
  | _ => false
theorem planN_plan (p : List (List Nat)) : planN (planD p) = p := by
  show (p.map stD).map stN = p
  rw [List.map_map]
  exact List.map_id'' stN_st p
theorem stages2_of : ∀ {ws : List (Nat × Nat)} {vs : List D}, vs.length = ws.length → stages2 ws vs = true → vs = (vs.map stN).map stD ∧ All2 OwnSt ws (vs.map stN)
  | [], [], _, _ => ⟨rfl, trivial⟩
  | w :: ws, v :: vs, hl, h => by
    simp only [stages2, Bool.and_eq_true] at h
    obtain ⟨e, o⟩ := stOk_of h.1
    obtain ⟨e2, o2⟩ := stages2_of (ws := ws) (vs := vs) (by simpa using hl) h.2
    refine ⟨?_, o, o2⟩
    rw [List.map_cons, List.map_cons, ← e, ← e2]
theorem stages2_own : ∀ {ws : List (Nat × Nat)} {p : List (List Nat)}, All2 OwnSt ws p → stages2 ws (p.map stD) = true
  | [], [], _ => rfl
  | w :: ws, st :: p, h => by
    rw [List.map_cons, stages2, stOk_own h.1, stages2_own h.2]
    rfl
theorem planOk_of {row : List Nat} {ws : List (Nat × Nat)} {v : D} (h : planOk row ws v = true) : v = planD (planN v) ∧ All2 OwnSt ws (planN v) ∧ (runPlan row (planN v)).isSome = true := by
  cases v with
  | tuple vs =>
    simp only [planOk, Bool.and_eq_true, decide_eq_true_eq] at h
    obtain ⟨e, o⟩ := stages2_of h.1.1 h.1.2
    exact ⟨congrArg PyData.tuple e, o, h.2⟩
  | _ => simp [planOk] at h
theorem planOk_own {row c : List Nat} {ws : List (Nat × Nat)} {p : List (List Nat)} (h : All2 OwnSt ws p) (hr : runPlan row p = some c) : planOk row ws (planD p) = true := by
  have e : (p.map stD).map stN = p := planN_plan p
  have e2 : (p.map stD).length = ws.length := by rw [List.length_map, h.len]
  simp only [planOk, planD, stages2_own h, e, hr, e2, Option.isSome_some, decide_true, Bool.and_self]
/-! walkers, rows -/
def wayOk (st : Int) : D → Bool
  | .tuple [a, .int b] => decide (0 ≤ b) && decide (b ≤ st - 1) && numIn 0 (b - 1) a
  | _ => false
def waysOk (st : Int) : D → Bool
  | .tuple ds => decide (ds.length ≤ 40) && ds.all (wayOk st)
  | _ => false
theorem wayOk_way {st : Nat} {w : Nat × Nat} (h1 : w.1 < w.2) (h2 : w.2 < st) : wayOk st (wayD w) = true := by
  simp only [wayOk, wayD, natD, numIn_int, Bool.and_eq_true, decide_eq_true_eq]
  omega
theorem waysOk_ways {st : Nat} {ws : List (Nat × Nat)} (h : Ways st ws) (hl : ws.length ≤ 40) : waysOk st (walkD ws) = true := by
  simp only [waysOk, walkD, List.length_map, Bool.and_eq_true, decide_eq_true_eq, List.all_map, List.all_eq_true]
  exact ⟨hl, fun w hw => wayOk_way (h w hw).1 (h w hw).2⟩
def firstBad : Nat → List D → Option Nat
  | _, [] => none
  | k, d :: ds => if numIn 0 50 d then firstBad (k + 1) ds else some k
def rowErr : D → D
  | .tuple ds => if decide (2 ≤ ds.length) && decide (ds.length ≤ 10) then (match firstBad 0 ds with
    | none => .none
    | some k => .tuple [natD k, .str "chairs"]) else .tuple [.none, .str "row"]
  | _ => .tuple [.none, .str "row"]
def isRow (v : D) : Bool := match rowErr v with
  | .none => true
  | _ => false
theorem firstBad_none : ∀ {r : List Nat} {k : Nat}, (∀ x ∈ r, x ≤ 50) → firstBad k (r.map natD) = none
  | [], _, _ => rfl
  | x :: r, k, h => by
    have := h x (List.mem_cons_self ..)
    rw [List.map_cons, firstBad, if_pos (by simp; omega)]
    exact firstBad_none fun y hy => h y (List.mem_cons_of_mem _ hy)
theorem firstBad_all : ∀ {r : List Nat} {k : Nat}, firstBad k (r.map natD) = none → ∀ x ∈ r, x ≤ 50
  | [], _, _, _, hx => by cases hx
  | x :: r, k, h, y, hy => by
    rw [List.map_cons, firstBad] at h
    split at h
    · rename_i hb
      rcases List.mem_cons.mp hy with rfl | hy
      · simp at hb
        omega
      · exact firstBad_all h y hy
    · cases h
theorem rowErr_row {r : List Nat} (h2 : 2 ≤ r.length) (h10 : r.length ≤ 10) (h : ∀ x ∈ r, x ≤ 50) : rowErr (rowD r) = .none := by
  unfold rowErr rowD
  dsimp only
  rw [List.length_map, decide_eq_true h2, decide_eq_true h10, firstBad_none h]
  rfl
/-- carrying, or not -/
def afterD (row : List Nat) (p : List (List Nat)) : D := match runPlan row p with
  | some c => rowD c
  | none => .none
end Dl

/-! Needs: the greatest of the sums. -/
namespace Dl
theorem at_last {α : Type} {xs : List α} {v : α} : L2.atI (xs ++ [v]) (-1) = some v := by
  unfold L2.atI
  rw [ixN_last (by simp)]
  simp
theorem at_last' {α : Type} {xs : List α} {v : α} (h : xs ≠ []) (hv : xs.getLast h = v) : L2.atI xs (-1) = some v := by
  have e : xs = xs.dropLast ++ [v] := by rw [← hv, List.dropLast_concat_getLast]
  rw [e]
  exact at_last
/-- the greatest one of 0 and the sums of f from k on, m steps -/
def Mf (f : Nat → Int) : Nat → Nat → Int
  | _, 0 => 0
  | k, m + 1 => if f k + Mf f (k + 1) m > 0 then f k + Mf f (k + 1) m else 0
theorem Mf_nonneg (f : Nat → Int) : ∀ m k, 0 ≤ Mf f k m
  | 0, k => Int.le_refl _
  | m + 1, k => by
    unfold Mf
    split <;> omega
def pre (f : Nat → Int) : Int → Nat → Nat → List Int
  | _, _, 0 => []
  | a, b, m + 1 => (a + f b) :: pre f (a + f b) (b + 1) m
def Ps (f : Nat → Int) (a : Int) (b : Nat) : Nat → Int
  | 0 => a
  | m + 1 => Ps f a b m + f (b + m)
theorem Ps_shift (f : Nat → Int) : ∀ (m : Nat) (a : Int) (b : Nat), Ps f (a + f b) (b + 1) m = Ps f a b (m + 1)
  | 0, a, b => rfl
  | m + 1, a, b => by
    have ih := Ps_shift f m a b
    show Ps f (a + f b) (b + 1) m + f (b + 1 + m) = Ps f a b (m + 1) + f (b + (m + 1))
    rw [ih, show b + 1 + m = b + (m + 1) by omega]
theorem pre_succ (f : Nat → Int) : ∀ (m : Nat) (a : Int) (b : Nat), pre f a b (m + 1) = pre f a b m ++ [Ps f a b (m + 1)]
  | 0, a, b => rfl
  | m + 1, a, b => by
    have ih := pre_succ f m (a + f b) (b + 1)
    rw [pre, ih, Ps_shift]
    rfl
theorem pre_len (f : Nat → Int) : ∀ (m : Nat) (a : Int) (b : Nat), (pre f a b m).length = m
  | 0, _, _ => rfl
  | m + 1, a, b => by rw [pre, List.length_cons, pre_len]
theorem pre_last (f : Nat → Int) (a : Int) (b m : Nat) : L2.atI ((a :: pre f a b m).map PySem.PyData.int) (-1) = some (.int (Ps f a b m)) := by
  cases m with
  | zero => exact at_last (xs := []) (v := PySem.PyData.int a)
  | succ m =>
    rw [pre_succ, ← List.cons_append, List.map_append]
    exact at_last
theorem maxZ_pre (f : Nat → Int) : ∀ (m : Nat) (a x : Int) (b : Nat), a ≤ x → maxZ x (pre f a b m) = if a + Mf f b m > x then a + Mf f b m else x
  | 0, a, x, b, h => by
    show x = _
    rw [Mf, if_neg (by omega)]
  | m + 1, a, x, b, h => by
    have nn := Mf_nonneg f m (b + 1)
    rw [pre, maxZ, maxZ_pre f m (a + f b) _ (b + 1) (by split <;> omega), Mf]
    split <;> split <;> (try split) <;> (try split) <;> omega
theorem max_pre (f : Nat → Int) (b m : Nat) : maxZ 0 (pre f 0 b m) = Mf f b m := by
  have nn := Mf_nonneg f m b
  rw [maxZ_pre f m 0 0 b (Int.le_refl _)]
  split <;> omega
def dif (row wants : List Nat) (s : Nat) : Int := (at0 wants s : Int) - (at0 row s : Int)
theorem at_rowD {row : List Nat} {j : Nat} (h : j < row.length) : ixD (rowD row) (.int (j : Int)) = some (natD (at0 row j)) := by
  unfold rowD
  rw [ev_ixT, nat_at h]
/-- the needs of all stations -/
def needs (row wants : List Nat) : List Int := (List.range row.length).map fun b => Mf (dif row wants) b (row.length - b)
end Dl

/-! Bounds: sums in two orders. -/
namespace Dl
def sumN : Nat → (Nat → Nat) → Nat
  | 0, _ => 0
  | n + 1, f => sumN n f + f n
theorem sumN_zero : ∀ n : Nat, sumN n (fun _ => 0) = 0
  | 0 => rfl
  | n + 1 => by rw [sumN, sumN_zero n]
theorem sumN_add : ∀ (n : Nat) (f g : Nat → Nat), sumN n (fun i => f i + g i) = sumN n f + sumN n g
  | 0, _, _ => rfl
  | n + 1, f, g => by
    rw [sumN, sumN, sumN, sumN_add n f g]
    omega
theorem sumN_comm : ∀ (n m : Nat) (f : Nat → Nat → Nat), sumN n (fun i => sumN m fun j => f i j) = sumN m (fun j => sumN n fun i => f i j)
  | 0, m, f => (sumN_zero m).symm
  | n + 1, m, f => by
    show sumN n (fun i => sumN m fun j => f i j) + sumN m (f n) = sumN m fun j => sumN n (fun i => f i j) + f n j
    rw [sumN_comm n m f, ← sumN_add]
theorem sumN_congr : ∀ (n : Nat) {f g : Nat → Nat}, (∀ i, i < n → f i = g i) → sumN n f = sumN n g
  | 0, _, _, _ => rfl
  | n + 1, f, g, h => by rw [sumN, sumN, sumN_congr n (fun i hi => h i (by omega)), h n (by omega)]
theorem sumN_le : ∀ (n : Nat) {f : Nat → Nat} {B : Nat}, (∀ i, i < n → f i ≤ B) → sumN n f ≤ n * B
  | 0, _, _, _ => by simp [sumN]
  | n + 1, f, B, h => by
    have a := sumN_le n (fun i hi => h i (by omega) : ∀ i, i < n → f i ≤ B)
    have b := h n (by omega)
    rw [sumN, Nat.succ_mul]
    omega
/-- how many from lo on ahead of hi are so -/
theorem cut_count {β : Type} (p : β → Bool) (lo hi : Nat) : ∀ (k : Nat) (ws : List β) (q : Nat → Bool), ws.length = k → (∀ i w, ws[i]? = some w → q i = p w) →
    (((ws.take hi).drop lo).filter p).length = sumN k fun i => if q i = true ∧ lo ≤ i ∧ i < hi then 1 else 0
  | 0, ws, q, h, _ => by
    rw [List.length_eq_zero_iff.mp h]
    simp [sumN]
  | k + 1, ws, q, h, hq => by
    obtain ⟨us, w, rfl⟩ : ∃ us w, ws = us ++ [w] := by
      have hne : ws ≠ [] := fun e => by rw [e] at h; simp at h
      exact ⟨ws.dropLast, ws.getLast hne, (List.dropLast_concat_getLast hne).symm⟩
    have hk : us.length = k := by simpa using h
    have ih := cut_count p lo hi k us q hk fun i v hv => hq i v (by rw [List.getElem?_append_left (List.getElem?_eq_some_iff.mp hv).1]; exact hv)
    have hw : q k = p w := hq k w (by rw [← hk]; simp)
    rw [sumN, ← ih]
    by_cases h1 : k < hi
    · rw [List.take_of_length_le (by simp; omega), List.take_of_length_le (by omega)]
      by_cases h2 : lo ≤ k
      · rw [List.drop_append_of_le_length (by omega), List.filter_append, List.length_append, hw]
        cases hpw : p w <;> simp [hpw, h1, h2]
      · rw [List.drop_eq_nil_of_le (by simp; omega), List.drop_eq_nil_of_le (by omega)]
        simp [h2]
    · rw [List.take_append_of_le_length (by omega)]
      simp [h1]
/-- a walker walks over it -/
def walks (s : Nat) (w : Nat × Nat) : Bool := decide (w.1 ≤ s) && decide (s < w.2)
def walkAt (ws : List (Nat × Nat)) (s i : Nat) : Bool := walks s (ws.getD i (0, 0))
theorem walkAt_eq {ws : List (Nat × Nat)} {s i : Nat} {w : Nat × Nat} (h : ws[i]? = some w) : walkAt ws s i = walks s w := by
  unfold walkAt List.getD
  rw [h]
  rfl
def endsOf (ms : List Nat) (n : Nat) : List Nat := ms.drop 1 ++ [n]
theorem endsOf_len {ms : List Nat} {n : Nat} (h : 0 < ms.length) : (endsOf ms n).length = ms.length := by
  unfold endsOf
  rw [List.length_append, List.length_drop, List.length_singleton]
  omega
/-- a stage's part of the bndOf -/
def chairsPart (row ms : List Nat) (s : Nat) : Nat := if 0 < at0 ms s then at0 row s else 0
def inMom (ws : List (Nat × Nat)) (ms : List Nat) (i s : Nat) : Nat := if walkAt ws s i = true ∧ at0 ms s ≤ i ∧ i < at0 (endsOf ms ws.length) s then 1 else 0
def bndOf (row : List Nat) (ws : List (Nat × Nat)) (ms : List Nat) : Nat := sumN ms.length (fun s => chairsPart row ms s) + sumN ws.length (fun i => sumN ms.length fun s => inMom ws ms i s)
theorem count_inMom (ws : List (Nat × Nat)) (ms : List Nat) (s : Nat) : (((ws.take (at0 (endsOf ms ws.length) s)).drop (at0 ms s)).filter (walks s)).length = sumN ws.length fun i => inMom ws ms i s :=
  cut_count (walks s) _ _ ws.length ws (walkAt ws s) rfl fun i w h => walkAt_eq h
theorem cut_nat {α : Type} (xs : List α) (lo hi : Nat) : cutD xs (some (lo : Int)) (some (hi : Int)) = (xs.take hi).drop lo := by
  unfold cutD
  rw [HT.sIx_nat, HT.sIx_nat, List.drop_take]
  by_cases h1 : lo ≤ xs.length
  · rw [Nat.min_eq_left h1]
    by_cases h2 : hi ≤ xs.length
    · rw [Nat.min_eq_left h2]
    · rw [Nat.min_eq_right (by omega), List.take_of_length_le (by rw [List.length_drop]; exact Nat.le_refl _), List.take_of_length_le (by rw [List.length_drop]; omega)]
  · rw [show min lo xs.length = xs.length by omega, List.drop_eq_nil_of_le (Nat.le_refl _), List.drop_eq_nil_of_le (show xs.length ≤ lo by omega), List.take_nil, List.take_nil]
theorem cut_from {α : Type} (xs : List α) (lo : Nat) : cutD xs (some (lo : Int)) none = xs.drop lo := by
  unfold cutD
  rw [HT.sIx_nat, HT.sIx_none]
  by_cases h1 : lo ≤ xs.length
  · rw [Nat.min_eq_left h1, List.take_of_length_le (by rw [List.length_drop]; exact Nat.le_refl _)]
  · rw [show min lo xs.length = xs.length by omega, List.drop_eq_nil_of_le (Nat.le_refl _), List.drop_eq_nil_of_le (show xs.length ≤ lo by omega), List.take_nil]
theorem enD_map : ∀ (ms : List Nat), enD 0 (ms.map natD) = (List.range ms.length).map fun s => PySem.PyData.tuple [natD s, natD (at0 ms s)] := fun ms => by
  refine List.ext_getElem? fun i => ?_
  by_cases h : i < ms.length
  · rw [enD_get (ms.map natD) 0 i (d := natD (at0 ms i)) (by rw [List.getElem?_map, List.getElem?_eq_getElem h, at0_eq h]; rfl), List.getElem?_map, List.getElem?_range h, Nat.zero_add]
    rfl
  · rw [List.getElem?_eq_none (by rw [enD_len, List.length_map]; omega), List.getElem?_eq_none (by rw [List.length_map, List.length_range]; omega)]
theorem sum_nat : ∀ (ns : List Nat), intsOf (ns.map natD) = some (ns.map fun (n : Nat) => (n : Int)) := fun ns => by
  have := intsOf_map (ns.map fun (n : Nat) => (n : Int))
  rw [List.map_map] at this
  exact this
theorem filter_sum (p : Nat → Bool) (f : Nat → Nat) : ∀ n : Nat, ((((List.range n).filter p).map f).map fun (n : Nat) => (n : Int)).sum = ((sumN n fun s => if p s = true then f s else 0 : Nat) : Int)
  | 0 => rfl
  | n + 1 => by
    rw [List.range_succ, List.filter_append, List.map_append, List.map_append, List.sum_append, filter_sum p f n, sumN]
    cases h : p n
    · rw [List.filter_cons_of_neg (by simp [h])]
      simp
    · rw [List.filter_cons_of_pos h]
      simp
end Dl

/-! Plans in parts, with more chairs, moved; totals; slices of data. -/
namespace Dl
open PySem (PyData)
theorem runPlan_cat : ∀ (p q : List (List Nat)) (c : List Nat), runPlan c (p ++ q) = (runPlan c p).bind fun c1 => runPlan c1 q
  | [], q, c => by simp [runPlan]
  | st :: p, q, c => by
    simp only [List.cons_append, runPlan]
    cases runSt c st with
    | none => rfl
    | some c1 => exact runPlan_cat p q c1
theorem All2.take {α β : Type} {R : α → β → Prop} : ∀ {as : List α} {bs : List β} (k : Nat), All2 R as bs → All2 R (as.take k) (bs.take k)
  | _, _, 0, _ => by simp [All2]
  | [], [], _ + 1, _ => trivial
  | _ :: _, _ :: _, k + 1, h => ⟨h.1, h.2.take k⟩
  | [], _ :: _, _ + 1, h => h.elim
  | _ :: _, [], _ + 1, h => h.elim
theorem All2.drop {α β : Type} {R : α → β → Prop} : ∀ {as : List α} {bs : List β} (k : Nat), All2 R as bs → All2 R (as.drop k) (bs.drop k)
  | _, _, 0, h => h
  | [], [], _ + 1, _ => trivial
  | _ :: _, _ :: _, k + 1, h => h.2.drop k
  | [], _ :: _, _ + 1, h => h.elim
  | _ :: _, [], _ + 1, h => h.elim
theorem All2.map2 {α β γ δ : Type} {R : α → β → Prop} {T : γ → δ → Prop} {f : α → γ} {g : β → δ} (h : ∀ a b, R a b → T (f a) (g b)) : ∀ {as : List α} {bs : List β}, All2 R as bs → All2 T (as.map f) (bs.map g)
  | [], [], _ => trivial
  | _ :: _, _ :: _, q => ⟨h _ _ q.1, q.2.map2 h⟩
  | [], _ :: _, q => q.elim
  | _ :: _, [], q => q.elim
theorem ways_take {n : Nat} {ws : List (Nat × Nat)} (h : Ways n ws) (k : Nat) : Ways n (ws.take k) := fun w hw => h w (List.mem_of_mem_take hw)
theorem ways_drop {n : Nat} {ws : List (Nat × Nat)} (h : Ways n ws) (k : Nat) : Ways n (ws.drop k) := fun w hw => h w (List.mem_of_mem_drop hw)
theorem run_split {row c : List Nat} {p : List (List Nat)} (h : runPlan row p = some c) (k : Nat) : ∃ m, runPlan row (p.take k) = some m ∧ runPlan m (p.drop k) = some c := by
  have e := runPlan_cat (p.take k) (p.drop k) row
  rw [List.take_append_drop, h] at e
  cases h1 : runPlan row (p.take k) with
  | none => rw [h1] at e; cases e
  | some m =>
    rw [h1] at e
    exact ⟨m, rfl, e.symm⟩
theorem own_in {n : Nat} {ws : List (Nat × Nat)} {p : List (List Nat)} (hw : Ways n ws) (h : All2 OwnSt ws p) : ∀ st ∈ p, ∀ x ∈ st, x + 1 < n := fun st hst x hx => (tidy_of hw h st hst).2 x hx
/-! slices -/
theorem cut_upto {α : Type} (xs : List α) (hi : Nat) : cutD xs none (some (hi : Int)) = xs.take hi := by
  unfold cutD
  rw [HT.sIx_none, HT.sIx_nat, List.drop_zero, Nat.sub_zero]
  by_cases h1 : hi ≤ xs.length
  · rw [Nat.min_eq_left h1]
  · rw [Nat.min_eq_right (by omega), List.take_of_length_le (Nat.le_refl _), List.take_of_length_le (by omega)]
theorem sl_walk_to (ws : List (Nat × Nat)) (k : Nat) : slD (walkD ws) none (some (k : Int)) = some (walkD (ws.take k)) := by
  unfold walkD
  rw [ev_slT, cut_upto, List.map_take]
theorem sl_walk_from (ws : List (Nat × Nat)) (k : Nat) : slD (walkD ws) (some (k : Int)) none = some (walkD (ws.drop k)) := by
  unfold walkD
  rw [ev_slT, cut_from, List.map_drop]
theorem sl_plan_to (p : List (List Nat)) (k : Nat) : slD (planD p) none (some (k : Int)) = some (planD (p.take k)) := by
  unfold planD
  rw [ev_slT, cut_upto, List.map_take]
theorem sl_plan_from (p : List (List Nat)) (k : Nat) : slD (planD p) (some (k : Int)) none = some (planD (p.drop k)) := by
  unfold planD
  rw [ev_slT, cut_from, List.map_drop]
theorem sl_row_to (p : List Nat) (k : Nat) : slD (rowD p) none (some (k : Int)) = some (rowD (p.take k)) := by
  unfold rowD
  rw [ev_slT, cut_upto, List.map_take]
theorem sl_row_from (p : List Nat) (k : Nat) : slD (rowD p) (some (k : Int)) none = some (rowD (p.drop k)) := by
  unfold rowD
  rw [ev_slT, cut_from, List.map_drop]
theorem len_row (r : List Nat) : lenD [rowD r] = some (.int r.length) := by simp [rowD]
theorem len_walk (r : List (Nat × Nat)) : lenD [walkD r] = some (.int r.length) := by simp [walkD]
theorem len_plan (r : List (List Nat)) : lenD [planD r] = some (.int r.length) := by simp [planD]
theorem add_row {a b : List Nat} (h : a.length + b.length ≤ 16777216) : addD (rowD a) (rowD b) = some (rowD (a ++ b)) := by simp [rowD, h]
theorem add_walk {a b : List (Nat × Nat)} (h : a.length + b.length ≤ 16777216) : addD (walkD a) (walkD b) = some (walkD (a ++ b)) := by simp [walkD, h]
theorem add_plan {a b : List (List Nat)} (h : a.length + b.length ≤ 16777216) : addD (planD a) (planD b) = some (planD (a ++ b)) := by simp [planD, h]
/-! equal data -/
theorem nat_map_inj : ∀ {a b : List Nat}, a.map natD = b.map natD → a = b
  | [], [], _ => rfl
  | x :: a, y :: b, h => by
    simp only [List.map_cons, List.cons.injEq] at h
    have h1 : (x : Int) = y := by injection h.1
    rw [nat_map_inj h.2, show x = y by omega]
theorem rowD_inj {a b : List Nat} : rowD a = rowD b ↔ a = b := ⟨fun h => nat_map_inj (by injection h), fun h => by rw [h]⟩
/-! totals -/
theorem sum_carry : ∀ {c : List Nat} {s : Nat}, s + 1 < c.length → 0 < at0 c s → (carry c s).sum = c.sum
  | [], _, h, _ => by simp at h
  | [_], s, h, _ => by simp at h
  | x :: y :: c, 0, _, hp => by
    have e : at0 (x :: y :: c) 0 = x := rfl
    rw [e] at hp
    show ((x - 1) :: (y + 1) :: c).sum = _
    simp only [List.sum_cons]
    omega
  | x :: y :: c, s + 1, h, hp => by
    have e : at0 (x :: y :: c) (s + 1) = at0 (y :: c) s := rfl
    rw [e] at hp
    have ih := sum_carry (c := y :: c) (s := s) (by simpa using h) hp
    have e2 : carry (x :: y :: c) (s + 1) = x :: carry (y :: c) s := rfl
    rw [e2, List.sum_cons, ih]
    simp only [List.sum_cons]
theorem runSt_sum : ∀ (st : List Nat) {c c' : List Nat}, runSt c st = some c' → (∀ x ∈ st, x + 1 < c.length) → c'.sum = c.sum
  | [], c, c', h, _ => by cases h; rfl
  | x :: st, c, c', h, hb => by
    unfold runSt at h
    split at h
    · rename_i h0
      rw [runSt_sum st h (fun y hy => by rw [carry_len]; exact hb y (List.mem_cons_of_mem _ hy)), sum_carry (hb x (List.mem_cons_self ..)) h0]
    · cases h
theorem runPlan_sum : ∀ (p : List (List Nat)) {c c' : List Nat}, runPlan c p = some c' → (∀ st ∈ p, ∀ x ∈ st, x + 1 < c.length) → c'.sum = c.sum
  | [], c, c', h, _ => by cases h; rfl
  | st :: p, c, c', h, hb => by
    unfold runPlan at h
    cases h1 : runSt c st with
    | none => rw [h1] at h; cases h
    | some c1 =>
      rw [h1] at h
      rw [runPlan_sum p h (fun q hq => by rw [runSt_len st h1]; exact hb q (List.mem_cons_of_mem _ hq)), runSt_sum st h1 (hb st (List.mem_cons_self ..))]
theorem sumZ_nat : ∀ ns : List Nat, (ns.map fun (n : Nat) => (n : Int)).sum = (ns.sum : Nat)
  | [] => rfl
  | n :: ns => by rw [List.map_cons, List.sum_cons, sumZ_nat ns, List.sum_cons, Int.natCast_add]
theorem sum_row (r : List Nat) : sumD [rowD r] = some (.int (r.sum : Nat)) := by
  unfold rowD
  rw [ev_sumT, sum_nat, Option.map_some, sumZ_nat]
theorem min_row {r : List Nat} (h : 0 < r.length) : ∃ m : Nat, minD [rowD r] = some (.int (m : Int)) := by
  cases r with
  | nil => simp at h
  | cons x r =>
    have hn := sum_nat (x :: r)
    unfold rowD
    rw [ev_minT, hn]
    obtain ⟨h1, _, _⟩ := minZ_ok (r.map fun (n : Nat) => (n : Int)) (x : Int)
    rcases h1 with h1 | h1
    · exact ⟨x, by rw [List.map_cons]; dsimp only; rw [h1]⟩
    · obtain ⟨y, _, hy⟩ := List.mem_map.mp h1
      exact ⟨y, by rw [List.map_cons]; dsimp only; rw [← hy]⟩
theorem max_row {r : List Nat} (h : 0 < r.length) : ∃ m : Nat, maxD [rowD r] = some (.int (m : Int)) ∧ m ∈ r ∧ ∀ y ∈ r, y ≤ m := by
  cases r with
  | nil => simp at h
  | cons x r =>
    have hn := sum_nat (x :: r)
    unfold rowD
    rw [ev_maxT, hn]
    obtain ⟨h1, h2, h3⟩ := maxZ_ok (r.map fun (n : Nat) => (n : Int)) (x : Int)
    rcases h1 with h1 | h1
    · refine ⟨x, by rw [List.map_cons]; dsimp only; rw [h1], List.mem_cons_self .., fun y hy => ?_⟩
      rcases List.mem_cons.mp hy with rfl | hy
      · exact Nat.le_refl _
      · have := h3 (y : Int) (List.mem_map_of_mem hy)
        omega
    · obtain ⟨z, hz, e⟩ := List.mem_map.mp h1
      refine ⟨z, by rw [List.map_cons]; dsimp only; rw [← e], List.mem_cons_of_mem _ hz, fun y hy => ?_⟩
      rcases List.mem_cons.mp hy with rfl | hy
      · omega
      · have := h3 (y : Int) (List.mem_map_of_mem hy)
        omega
/-! with more chairs -/
def addL (a b : List Nat) : List Nat := List.zipWith (· + ·) a b
theorem addL_len {a b : List Nat} (h : b.length = a.length) : (addL a b).length = a.length := by simp [addL, h]
theorem addL_at {a b : List Nat} (h : b.length = a.length) {s : Nat} : at0 (addL a b) s = at0 a s + at0 b s := by
  unfold addL at0 List.getD
  rw [List.getElem?_zipWith]
  by_cases hs : s < a.length
  · rw [List.getElem?_eq_getElem hs, List.getElem?_eq_getElem (by omega)]
    rfl
  · rw [List.getElem?_eq_none (by omega), List.getElem?_eq_none (by omega)]
    rfl
theorem ext_at {a b : List Nat} (h : a.length = b.length) (q : ∀ s, s < a.length → at0 a s = at0 b s) : a = b := by
  refine List.ext_getElem h fun i h1 h2 => ?_
  have := q i h1
  rwa [at0_eq h1, at0_eq h2] at this
theorem carry_at {c : List Nat} {x s : Nat} (hx : x + 1 < c.length) (hs : s < c.length) : at0 (carry c x) s = if s = x then at0 c x - 1 else if s = x + 1 then at0 c (x + 1) + 1 else at0 c s := by
  unfold carry
  by_cases h1 : s = x + 1
  · subst h1
    rw [at0_set (by simpa using hs), if_pos rfl, if_neg (by omega), if_pos rfl]
  · rw [at0_set_ne (fun e => h1 e.symm)]
    by_cases h2 : s = x
    · subst h2
      rw [at0_set hs, if_pos rfl, if_pos rfl]
    · rw [at0_set_ne (fun e => h2 e.symm), if_neg h2, if_neg h1]
theorem addL_carry {a b : List Nat} (h : b.length = a.length) {x : Nat} (hx : x + 1 < a.length) (hp : 0 < at0 a x) : carry (addL a b) x = addL (carry a x) b := by
  have hl : b.length = (carry a x).length := by rw [carry_len, h]
  refine ext_at (by rw [carry_len, addL_len h, addL_len hl, carry_len]) fun s hs => ?_
  rw [carry_len, addL_len h] at hs
  rw [addL_at hl, carry_at (by rw [addL_len h]; exact hx) (by rw [addL_len h]; exact hs), carry_at hx hs, addL_at h, addL_at h, addL_at h]
  split
  · rename_i e; subst e; omega
  · split
    · rename_i e; subst e; omega
    · rfl
theorem addL_st : ∀ (st : List Nat) {a b c : List Nat}, b.length = a.length → runSt a st = some c → (∀ x ∈ st, x + 1 < a.length) → runSt (addL a b) st = some (addL c b)
  | [], a, b, c, _, h, _ => by cases h; rfl
  | x :: st, a, b, c, hl, h, hb => by
    unfold runSt at h ⊢
    split at h
    · rename_i h0
      have hx := hb x (List.mem_cons_self ..)
      rw [if_pos (by rw [addL_at hl]; omega), addL_carry hl hx h0]
      exact addL_st st (by rw [carry_len, hl]) h fun y hy => by rw [carry_len]; exact hb y (List.mem_cons_of_mem _ hy)
    · cases h
theorem addL_plan : ∀ (p : List (List Nat)) {a b c : List Nat}, b.length = a.length → runPlan a p = some c → (∀ st ∈ p, ∀ x ∈ st, x + 1 < a.length) → runPlan (addL a b) p = some (addL c b)
  | [], a, b, c, _, h, _ => by cases h; rfl
  | st :: p, a, b, c, hl, h, hb => by
    unfold runPlan at h ⊢
    cases h1 : runSt a st with
    | none => rw [h1] at h; cases h
    | some a1 =>
      rw [h1] at h
      have l1 := runSt_len st h1
      rw [addL_st st hl h1 (hb st (List.mem_cons_self ..)), Option.bind_some]
      exact addL_plan p (by rw [l1, hl]) h fun q hq => by rw [l1]; exact hb q (List.mem_cons_of_mem _ hq)
/-! moved by a station -/
def longer (a : Nat) (c : List Nat) (b : Nat) : List Nat := [a] ++ c ++ [b]
theorem longer_len (a b : Nat) (c : List Nat) : (longer a c b).length = c.length + 2 := by simp [longer]
theorem longer_at {a b s : Nat} {c : List Nat} (h : s < c.length) : at0 (longer a c b) (s + 1) = at0 c s := by
  unfold at0 List.getD longer
  rw [List.append_assoc, List.getElem?_append_right (by simp), List.getElem?_append_left (by simpa using h)]
  rfl
theorem longer_carry {a b x : Nat} {c : List Nat} (h : x + 1 < c.length) : carry (longer a c b) (x + 1) = longer a (carry c x) b := by
  have e1 : longer a c b = a :: (c ++ [b]) := by simp [longer]
  unfold carry
  rw [longer_at (show x < c.length by omega), longer_at h, e1]
  show a :: (((c ++ [b]).set x (at0 c x - 1)).set (x + 1) (at0 c (x + 1) + 1)) = _
  rw [List.set_append_left x _ (by omega), List.set_append_left (x + 1) _ (by rw [List.length_set]; exact h)]
  simp [longer]
theorem longer_st {a b : Nat} : ∀ (st : List Nat) {c c' : List Nat}, runSt c st = some c' → (∀ x ∈ st, x + 1 < c.length) → runSt (longer a c b) (st.map (· + 1)) = some (longer a c' b)
  | [], c, c', h, _ => by cases h; rfl
  | x :: st, c, c', h, hb => by
    rw [List.map_cons]
    unfold runSt at h ⊢
    have hx := hb x (List.mem_cons_self ..)
    rw [longer_at (show x < c.length by omega), longer_carry hx]
    split at h
    · rename_i h0
      rw [if_pos h0]
      exact longer_st st h fun y hy => by rw [carry_len]; exact hb y (List.mem_cons_of_mem _ hy)
    · cases h
theorem longer_plan {a b : Nat} : ∀ (p : List (List Nat)) {c c' : List Nat}, runPlan c p = some c' → (∀ st ∈ p, ∀ x ∈ st, x + 1 < c.length) → runPlan (longer a c b) (p.map fun st => st.map (· + 1)) = some (longer a c' b)
  | [], c, c', h, _ => by cases h; rfl
  | st :: p, c, c', h, hb => by
    rw [List.map_cons]
    unfold runPlan at h ⊢
    cases h1 : runSt c st with
    | none => rw [h1] at h; cases h
    | some c1 =>
      rw [h1] at h
      rw [longer_st st h1 (hb st (List.mem_cons_self ..)), Option.bind_some]
      exact longer_plan p h fun q hq => by rw [runSt_len st h1]; exact hb q (List.mem_cons_of_mem _ hq)
def later (ws : List (Nat × Nat)) : List (Nat × Nat) := ws.map fun w => (w.1 + 1, w.2 + 1)
def moved (p : List (List Nat)) : List (List Nat) := p.map fun st => st.map (· + 1)
theorem later_ways {n : Nat} {ws : List (Nat × Nat)} (h : Ways n ws) : Ways (n + 2) (later ws) := fun w hw => by
  obtain ⟨v, hv, rfl⟩ := List.mem_map.mp hw
  have := h v hv
  dsimp only
  omega
theorem own_moved {w : Nat × Nat} {st : List Nat} (h : OwnSt w st) : OwnSt (w.1 + 1, w.2 + 1) (st.map (· + 1)) := by
  refine ⟨List.pairwise_map.mpr (h.1.imp fun q => Nat.add_lt_add_right q 1), fun x hx => ?_⟩
  obtain ⟨y, hy, rfl⟩ := List.mem_map.mp hx
  have := h.2 y hy
  dsimp only
  omega
theorem plan_moved {ws : List (Nat × Nat)} {p : List (List Nat)} (h : All2 OwnSt ws p) : All2 OwnSt (later ws) (moved p) := h.map2 (f := fun w => (w.1 + 1, w.2 + 1)) fun a b q => own_moved (w := a) (st := b) q
theorem empty_run (c : List Nat) : ∀ k : Nat, runPlan c (List.replicate k []) = some c
  | 0 => rfl
  | k + 1 => by rw [List.replicate_succ, runPlan, runSt, Option.bind_some, empty_run c k]
theorem run_le2 {row c : List Nat} {ws : List (Nat × Nat)} {p : List (List Nat)} {h : Nat} (hw : Ways row.length ws) (ho : All2 OwnSt ws p) (hr : runPlan row p = some c) (hc : ∀ x ∈ row, x ≤ h) : ∀ x ∈ c, x ≤ h + ws.length := by
  rw [ho.len]
  exact run_le hr (tidy_of hw ho) hc
theorem row_eq {a : List Nat} (h : ∀ x ∈ a, x ≤ 999999999999) (hl : a.length ≤ 1000) : eqD (rowD a) (rowD a) = some (.bool true) := eqD_same (shaped_of (fine_row h hl) (by decide))
theorem row_ne {a : List Nat} (h : ∀ x ∈ a, x ≤ 999999999999) (hl : a.length ≤ 1000) : neD (rowD a) (rowD a) = some (.bool false) := neD_same (shaped_of (fine_row h hl) (by decide))
end Dl
namespace Dl
open PySem (PyData)
theorem zip_nat : ∀ (a b : List Nat), zipD (a.map natD) (b.map natD) = (List.zip a b).map wayD
  | [], b => by simp [zipD]
  | x :: a, [] => by simp [zipD]
  | x :: a, y :: b => by
    have ih := zip_nat a b
    unfold zipD at ih ⊢
    simp only [List.map_cons, List.zipWith_cons_cons, List.zip_cons_cons, ih]
    rfl
theorem zip_add : ∀ (a b : List Nat), ((List.zip a b).map fun q => natD (q.1 + q.2)) = (addL a b).map natD
  | [], b => by simp [addL]
  | x :: a, [] => by simp [addL]
  | x :: a, y :: b => by
    have ih := zip_add a b
    unfold addL at ih ⊢
    simp only [List.zip_cons_cons, List.map_cons, List.zipWith_cons_cons, ih]
theorem nat_first {c : List Nat} (h : 0 < c.length) : L2.atI (c.map natD) 0 = some (natD (at0 c 0)) := nat_at (s := 0) h
theorem nat_last {c : List Nat} (h : 0 < c.length) : L2.atI (c.map natD) (-1) = some (natD (at0 c (c.length - 1))) := by
  unfold L2.atI
  rw [List.length_map, ixN_last h]
  show (c.map natD)[c.length - 1]? = _
  rw [List.getElem?_map, List.getElem?_eq_getElem (by omega), at0_eq (by omega)]
  rfl
theorem row_tup (c : List Nat) : rowD c = .tuple (c.map natD) := rfl
theorem seq_row (c : List Nat) : seqD (rowD c) = some (c.map natD) := rfl
theorem seq_walk (c : List (Nat × Nat)) : seqD (walkD c) = some (c.map wayD) := rfl
theorem seq_plan (c : List (List Nat)) : seqD (planD c) = some (c.map stD) := rfl
theorem seq_st (c : List Nat) : seqD (stD c) = some (c.map natD) := rfl
end Dl

/-! How many chairs are carried over each stage: under the rule the most. -/
namespace Dl
open PySem (PyData)
theorem has_mem {s : Nat} {st : List Nat} : has (s : Int) st = true ↔ s ∈ st := by
  unfold has
  rw [List.any_eq_true]
  constructor
  · rintro ⟨x, hx, e⟩
    have e : (x : Int) = s := by simpa using e
    have : x = s := by omega
    exact this ▸ hx
  · intro h
    exact ⟨s, h, by simp⟩
theorem has_neg (st : List Nat) : has (-1) st = false := has_none fun x _ => by omega
theorem cnt_neg (p : List (List Nat)) : cnt (-1) p = 0 := by
  unfold cnt
  have : has (-1) = fun _ => false := funext has_neg
  rw [this]
  simp
theorem cnt_nil (s : Int) : cnt s [] = 0 := rfl
theorem cnt_add (s : Int) (p : List (List Nat)) (st : List Nat) : (cnt s (p ++ [st]) : Int) = cnt s p + one (has s st) := by
  unfold cnt one
  rw [List.filter_append, List.length_append]
  cases h : has s st
  · rw [List.filter_cons_of_neg (by simp [h])]; simp
  · rw [List.filter_cons_of_pos h]; simp
/-- all but that the state goes on -/
theorem dueSt_sub : ∀ (l : List Nat) (c st : List Nat), ∀ x ∈ st, x ∈ (l.foldl dueStep (c, st)).2
  | [], c, st, x, h => h
  | s :: l, c, st, x, h => by
    rw [List.foldl_cons]
    by_cases hp : 0 < at0 c s
    · have e : dueStep (c, st) s = (carry c s, st ++ [s]) := by simp [dueStep, hp]
      rw [e]
      exact dueSt_sub l _ _ x (List.mem_append_left _ h)
    · have e : dueStep (c, st) s = (c, st) := by simp [dueStep, hp]
      rw [e]
      exact dueSt_sub l _ _ x h
theorem dueSt_has : ∀ (n f : Nat) (c st : List Nat), (∀ x ∈ st, x < f) → f + n < c.length → ∀ s, f ≤ s → s < f + n →
    (s ∈ ((List.range' f n).foldl dueStep (c, st)).2 ↔ (0 < at0 c s ∨ (f < s ∧ s - 1 ∈ ((List.range' f n).foldl dueStep (c, st)).2)))
  | 0, f, c, st, _, _, s, h1, h2 => by omega
  | n + 1, f, c, st, hb, hl, s, h1, h2 => by
    rw [List.range'_succ, List.foldl_cons]
    by_cases hp : 0 < at0 c f
    · have e : dueStep (c, st) f = (carry c f, st ++ [f]) := by simp [dueStep, hp]
      rw [e]
      have hf : f ∈ ((List.range' (f + 1) n).foldl dueStep (carry c f, st ++ [f])).2 := dueSt_sub _ _ _ f (by simp)
      by_cases hs : s = f
      · subst hs
        exact ⟨fun _ => .inl hp, fun _ => hf⟩
      · have ih := dueSt_has n (f + 1) (carry c f) (st ++ [f]) (fun x hx => by
          rcases List.mem_append.mp hx with q | q
          · have := hb x q; omega
          · have : x = f := by simpa using q
            omega) (by rw [carry_len]; omega) s (by omega) (by omega)
        rw [ih, carry_at (by omega) (by omega), if_neg hs]
        by_cases hs1 : s = f + 1
        · subst hs1
          rw [if_pos rfl]
          refine ⟨fun _ => .inr ⟨by omega, hf⟩, fun _ => .inl (by omega)⟩
        · rw [if_neg hs1]
          constructor
          · rintro (q | ⟨q, q2⟩)
            · exact .inl q
            · exact .inr ⟨by omega, q2⟩
          · rintro (q | ⟨q, q2⟩)
            · exact .inl q
            · exact .inr ⟨by omega, q2⟩
    · have e : dueStep (c, st) f = (c, st) := by simp [dueStep, hp]
      rw [e]
      have hf : f ∉ ((List.range' (f + 1) n).foldl dueStep (c, st)).2 := fun q => by
        rcases (dueWalk_st n (f + 1) c st).1 f q with h | h
        · have := hb f h; omega
        · omega
      by_cases hs : s = f
      · subst hs
        exact ⟨fun q => absurd q hf, fun q => q.elim (fun q => absurd q hp) fun q => by omega⟩
      · have ih := dueSt_has n (f + 1) c st (fun x hx => by have := hb x hx; omega) (by omega) s (by omega) (by omega)
        rw [ih]
        constructor
        · rintro (q | ⟨q, q2⟩)
          · exact .inl q
          · exact .inr ⟨by omega, q2⟩
        · rintro (q | ⟨q, q2⟩)
          · exact .inl q
          · by_cases hs1 : s = f + 1
            · subst hs1
              exact absurd q2 hf
            · exact .inr ⟨by omega, q2⟩
theorem dueAll_out : ∀ (ws : List (Nat × Nat)) (c : List Nat) (p : List (List Nat)), (ws.foldl dueAll (c, p)).2 = p ++ (ws.foldl dueAll (c, [])).2 ∧ (ws.foldl dueAll (c, p)).1 = (ws.foldl dueAll (c, [])).1
  | [], c, p => by simp
  | w :: ws, c, p => by
    rw [List.foldl_cons, List.foldl_cons]
    obtain ⟨a, b⟩ := dueAll_out ws (dueWalk c w).1 (p ++ [(dueWalk c w).2])
    obtain ⟨a2, b2⟩ := dueAll_out ws (dueWalk c w).1 ([] ++ [(dueWalk c w).2])
    have e1 : dueAll (c, p) w = ((dueWalk c w).1, p ++ [(dueWalk c w).2]) := rfl
    have e2 : dueAll (c, []) w = ((dueWalk c w).1, [] ++ [(dueWalk c w).2]) := rfl
    rw [e1, e2, a, a2, b, b2]
    simp
theorem due_cat (c : List Nat) (a b : List (Nat × Nat)) : duePlan c (a ++ b) = duePlan c a ++ duePlan (dueEnd c a) b := by
  unfold duePlan dueEnd
  rw [List.foldl_append]
  have := (dueAll_out b (a.foldl dueAll (c, [])).1 (a.foldl dueAll (c, [])).2).1
  exact this
theorem due_len (c : List Nat) (ws : List (Nat × Nat)) : (duePlan c ws).length = ws.length := (due_own c ws).len.symm
theorem due_take (c : List Nat) (ws : List (Nat × Nat)) (t : Nat) : (duePlan c ws).take t = duePlan c (ws.take t) := by
  by_cases ht : t ≤ ws.length
  · have e : ws = ws.take t ++ ws.drop t := (List.take_append_drop t ws).symm
    have l : (duePlan c (ws.take t)).length = t := by rw [due_len, List.length_take]; omega
    calc (duePlan c ws).take t = (duePlan c (ws.take t) ++ duePlan (dueEnd c (ws.take t)) (ws.drop t)).take t := by rw [← due_cat, ← e]
      _ = duePlan c (ws.take t) := by
        rw [List.take_append_of_le_length (by omega), List.take_of_length_le (by omega)]
  · rw [List.take_of_length_le (by rw [due_len]; omega), List.take_of_length_le (by omega)]
theorem due_one (c : List Nat) (w : Nat × Nat) : duePlan c [w] = [(dueWalk c w).2] := rfl
/-- walker t walks over s -/
def wk (ws : List (Nat × Nat)) (s t : Nat) : Int := match ws[t]? with
  | some w => one (walks s w)
  | none => 0
/-- any possible plan: from walker to walker, and by the chairs at the station -/
theorem car_step {ws : List (Nat × Nat)} {p : List (List Nat)} (h : All2 OwnSt ws p) (s t : Nat) : (cnt s (p.take (t + 1)) : Int) ≤ cnt s (p.take t) + wk ws s t := by
  by_cases ht : t < p.length
  · have hw : t < ws.length := by rw [h.len]; exact ht
    rw [take_step (List.getElem?_eq_getElem ht), cnt_add]
    unfold wk
    rw [List.getElem?_eq_getElem hw]
    have ho : OwnSt ws[t] p[t] := by
      have : ∀ {as : List (Nat × Nat)} {bs : List (List Nat)}, All2 OwnSt as bs → ∀ (i : Nat) (h1 : i < as.length) (h2 : i < bs.length), OwnSt as[i] bs[i] := by
        intro as
        induction as with
        | nil => intro bs _ i h1; simp at h1
        | cons a as ih =>
          intro bs q i h1 h2
          cases bs with
          | nil => simp at h2
          | cons b bs =>
            cases i with
            | zero => exact q.1
            | succ i => exact ih q.2 i (by simpa using h1) (by simpa using h2)
      exact this h t hw ht
    dsimp only
    cases hh : has s p[t] with
    | false =>
      have : (0 : Int) ≤ one (walks s ws[t]) := by unfold one; split <;> omega
      simp only [one, if_neg Bool.false_ne_true]
      unfold one at this
      omega
    | true =>
      have hm := ho.2 s (has_mem.mp hh)
      have : walks s ws[t] = true := by unfold walks; simp; omega
      rw [this]
      omega
  · rw [List.take_of_length_le (by omega), List.take_of_length_le (by omega)]
    unfold wk one
    split
    · split <;> omega
    · omega
theorem car_flow {row c : List Nat} {ws : List (Nat × Nat)} {p : List (List Nat)} (hw : Ways row.length ws) (ho : All2 OwnSt ws p) (hr : runPlan row p = some c) (s t : Nat) (hs : s < row.length) :
    (cnt s (p.take t) : Int) ≤ at0 row s + cnt ((s : Int) - 1) (p.take t) := by
  obtain ⟨m, h1, _⟩ := run_split hr t
  have f := flowPlan (p.take t) h1 (tidy_of (ways_take hw t) (ho.take t)) s hs
  omega
/-- the plan of the rule: the smaller one of two numbers -/
theorem due_rec {row : List Nat} {ws : List (Nat × Nat)} (hw : Ways row.length ws) {s t : Nat} (hs : s < row.length) (ht : t < ws.length) :
    (cnt s ((duePlan row ws).take (t + 1)) : Int) = min ((cnt s ((duePlan row ws).take t) : Int) + wk ws s t) (at0 row s + cnt ((s : Int) - 1) ((duePlan row ws).take (t + 1))) := by
  have hwt := List.getElem?_eq_getElem ht
  have ek : wk ws s t = one (walks s ws[t]) := by unfold wk; rw [hwt]
  have hwm := hw ws[t] (List.getElem_mem ht)
  rw [due_take, due_take, take_step hwt, due_cat, due_one, cnt_add, cnt_add, ek]
  generalize hW : ws[t] = w at *
  have hc := dueEnd_len row (ws.take t)
  have fl := flowPlan (duePlan row (ws.take t)) (due_run row (ws.take t)) (tidy_of (ways_take hw t) (due_own row (ws.take t))) s hs
  have own := dueWalk_own (dueEnd row (ws.take t)) w
  have hmem := fun h1 h2 => dueSt_has (w.2 - w.1) w.1 (dueEnd row (ws.take t)) [] (fun x hx => by cases hx) (by rw [hc]; omega) s h1 h2
  have e2 : (List.range' w.1 (w.2 - w.1)).foldl dueStep (dueEnd row (ws.take t), []) = dueWalk (dueEnd row (ws.take t)) w := rfl
  rw [e2] at hmem
  generalize (dueWalk (dueEnd row (ws.take t)) w).2 = st at *
  generalize dueEnd row (ws.take t) = c at *
  generalize duePlan row (ws.take t) = q at *
  cases hwk : walks s w with
  | false =>
    have hn : has s st = false := by
      cases hh : has s st with
      | false => rfl
      | true =>
        have := own.2 s (has_mem.mp hh)
        have : walks s w = true := by unfold walks; simp; omega
        rw [hwk] at this
        cases this
    rw [hn]
    have : (0 : Int) ≤ one (has ((s : Int) - 1) st) := by unfold one; split <;> omega
    simp only [one, if_neg Bool.false_ne_true] at this ⊢
    omega
  | true =>
    have hb : w.1 ≤ s ∧ s < w.2 := by unfold walks at hwk; simpa using hwk
    have hm := hmem hb.1 (by omega)
    have prev : has ((s : Int) - 1) st = true ↔ (w.1 < s ∧ s - 1 ∈ st) := by
      by_cases h0 : s = 0
      · subst h0
        have := has_neg st
        simp only [Int.natCast_zero, Int.zero_sub]
        rw [this]
        simp
      · have e : (s : Int) - 1 = ((s - 1 : Nat) : Int) := by omega
        rw [e, has_mem]
        constructor
        · intro h
          have := own.2 _ h
          exact ⟨by omega, h⟩
        · exact fun h => h.2
    rw [← prev] at hm
    have key : has s st = true ↔ (0 < at0 c s ∨ has ((s : Int) - 1) st = true) := by rw [has_mem, hm]
    generalize has ((s : Int) - 1) st = b1 at *
    generalize has s st = b2 at *
    cases b1 <;> cases b2 <;> simp [one] at key ⊢ <;> omega
theorem due_most {row c : List Nat} {ws : List (Nat × Nat)} {p : List (List Nat)} (hw : Ways row.length ws) (ho : All2 OwnSt ws p) (hr : runPlan row p = some c) :
    ∀ t, t ≤ ws.length → ∀ s, s < row.length → cnt s (p.take t) ≤ cnt s ((duePlan row ws).take t)
  | 0, _, s, _ => by simp [cnt_nil]
  | t + 1, ht, s, hs => by
    have a := car_step ho s t
    have b := car_flow hw ho hr s (t + 1) hs
    have d := due_rec hw hs (show t < ws.length by omega)
    have i1 := due_most hw ho hr t (by omega) s hs
    have i2 : (cnt ((s : Int) - 1) (p.take (t + 1)) : Int) ≤ cnt ((s : Int) - 1) ((duePlan row ws).take (t + 1)) := by
      cases s with
      | zero =>
        have e : ((0 : Nat) : Int) - 1 = -1 := rfl
        rw [e, cnt_neg, cnt_neg]
        exact Int.le_refl _
      | succ s =>
        have e : ((s + 1 : Nat) : Int) - 1 = (s : Int) := by omega
        rw [e]
        have := due_most hw ho hr (t + 1) ht s (by omega)
        omega
    omega
/-! as lists, as data -/
def countsN (s : Nat) (p : List (List Nat)) : List Nat := (List.range (p.length + 1)).map fun t => cnt s (p.take t)
def countsD (n : Nat) (p : List (List Nat)) : D := .tuple ((List.range (n - 1)).map fun s => rowD (countsN s p))
theorem countsN_len (s : Nat) (p : List (List Nat)) : (countsN s p).length = p.length + 1 := by simp [countsN]
theorem countsN_at {s t : Nat} {p : List (List Nat)} (h : t ≤ p.length) : at0 (countsN s p) t = cnt s (p.take t) := by
  rw [at0_eq (by rw [countsN_len]; omega)]
  simp [countsN]
theorem countsN_le {s : Nat} {p : List (List Nat)} : ∀ x ∈ countsN s p, x ≤ p.length := fun x hx => by
  obtain ⟨t, _, rfl⟩ := List.mem_map.mp hx
  have := cnt_le s (p.take t)
  rw [List.length_take] at this
  omega
theorem count_st {s : Nat} : ∀ {st : List Nat}, st.Pairwise (· < ·) → ((st.map natD).countP fun y => PyData.eqv y (.int (s : Int)) : Nat) = if has s st then 1 else 0
  | [], _ => rfl
  | x :: st, h => by
    have p := List.pairwise_cons.mp h
    have ih := count_st (s := s) p.2
    rw [List.map_cons, List.countP_cons, ih, has_cons]
    have e : PyData.eqv (natD x) (.int (s : Int)) = ((x : Int) == (s : Int)) := eqv_int x s
    rw [e]
    cases hx : ((x : Int) == (s : Int)) with
    | false => simp
    | true =>
      have hx : (x : Int) = s := by simpa using hx
      have : has s st = false := has_none fun y hy => by
        have := p.1 y hy
        omega
      rw [this]
      simp
theorem count_stD {s n : Nat} {st : List Nat} (h : st.Pairwise (· < ·)) (hm : ∀ x ∈ st, x ≤ n) (hn : n ≤ 1000) : countD (stD st) [.int (s : Int)] = some (.int (one (has s st))) := by
  have hl := pair_len (a := 0) (b := n + 1) h fun x hx => by have := hm x hx; omega
  have f : Fine (stD st) 1 2000 := fine_st (fun x hx => by have := hm x hx; omega) (by omega)
  have s1 := shaped_of f (by decide)
  have s2 := shapedI (s : Int)
  unfold stD at s1 ⊢
  rw [ev_countT, s1, s2, count_st h]
  unfold one
  cases has s st <;> rfl
theorem countsN_fine {s : Nat} {p : List (List Nat)} {m : Nat} (h : p.length ≤ m) (hm : m ≤ 1000) : Fine (rowD (countsN s p)) 1 (m + 1) := fine_row (fun x hx => by have := countsN_le x hx; omega) (by rw [countsN_len]; omega)
theorem countsD_fine {n : Nat} {p : List (List Nat)} {m : Nat} (h : p.length ≤ m) (hm : m ≤ 1000) : Fine (countsD n p) 2 (n * (m + 2)) := by
  have := fine_tup (xs := (List.range (n - 1)).map fun s => rowD (countsN s p)) (k := 1) (w := m + 1) (n := n) (fun x hx => by
    obtain ⟨s, _, rfl⟩ := List.mem_map.mp hx
    exact countsN_fine h hm) (by simp)
  exact this
theorem countsN_pre {s k : Nat} {p : List (List Nat)} (h : k ≤ p.length) : (countsN s p).take (k + 1) = countsN s (p.take k) := by
  unfold countsN
  rw [← List.map_take, List.take_range, List.length_take, Nat.min_eq_left (by omega), Nat.min_eq_left h]
  refine List.map_congr_left fun t ht => ?_
  have := List.mem_range.mp ht
  rw [List.take_take, Nat.min_eq_left (by omega)]
theorem countsN_succ {s k : Nat} {p : List (List Nat)} (h : k < p.length) : countsN s (p.take (k + 1)) = countsN s (p.take k) ++ [cnt s (p.take (k + 1))] := by
  rw [← countsN_pre (show k + 1 ≤ p.length by omega), ← countsN_pre (show k ≤ p.length by omega), List.take_succ, List.getElem?_eq_getElem (by rw [countsN_len]; omega)]
  have := countsN_at (s := s) (t := k + 1) (p := p) (by omega)
  rw [at0_eq (by rw [countsN_len]; omega)] at this
  rw [this]
  rfl
theorem countsN_last {s : Nat} {p : List (List Nat)} : L2.atI ((countsN s p).map natD) (-1) = some (natD (cnt s p)) := by
  rw [nat_last (by rw [countsN_len]; omega), countsN_len, Nat.add_sub_cancel, countsN_at (Nat.le_refl _), List.take_length]
theorem tidy_take {n : Nat} {p : List (List Nat)} (h : Tidy n p) (k : Nat) : Tidy n (p.take k) := fun st hst => h st (List.mem_of_mem_take hst)
theorem cnt_nat {s k : Nat} {p : List (List Nat)} (h : k < p.length) : (cnt s (p.take (k + 1)) : Int) = cnt s (p.take k) + one (has s p[k]) := by
  rw [take_step (List.getElem?_eq_getElem h), cnt_add]
end Dl
namespace Dl
open PySem (PyData)
/-- an item of a list of numbers -/
theorem pick {xs : List Nat} {i : Int} (h0 : 0 ≤ i) (h1 : i < xs.length) : ∃ v, v ∈ xs ∧ L2.atI (xs.map natD) i = some (natD v) := by
  obtain ⟨k, rfl⟩ : ∃ k : Nat, i = k := ⟨i.toNat, by omega⟩
  have hk : k < xs.length := by omega
  exact ⟨xs[k], List.getElem_mem hk, by rw [at_mapN hk]⟩
theorem range_at {n j : Nat} {x : D} (h : ((List.range n).map natD)[j]? = some x) : j < n ∧ x = natD j := by
  have hj : j < n := by
    have := (List.getElem?_eq_some_iff.mp h).1
    simpa using this
  rw [List.getElem?_map, List.getElem?_range hj] at h
  exact ⟨hj, (Option.some.inj h).symm⟩
theorem fine3 {a b c : D} {k w : Nat} (h1 : Fine a k w) (h2 : Fine b k w) (h3 : Fine c k w) : Fine (.list [a, b, c]) (k + 1) (3 * (w + 1)) :=
  fine_list (fun x hx => by
    simp only [List.mem_cons, List.not_mem_nil, or_false] at hx
    rcases hx with rfl | rfl | rfl
    · exact h1
    · exact h2
    · exact h3) (by simp)
end Dl
namespace Dl
open PySem (PyData)
theorem cnt_cat (s : Int) (a b : List (List Nat)) : cnt s (a ++ b) = cnt s a + cnt s b := by
  unfold cnt
  rw [List.filter_append, List.length_append]
theorem cnt_empty (s : Int) : cnt s [[]] = 0 := by
  unfold cnt
  rw [List.filter_cons_of_neg (by simp [has])]
  rfl
theorem at0_rep (n t : Nat) : at0 (List.replicate n 0) t = 0 := by
  unfold at0 List.getD
  rw [List.getElem?_replicate]
  split <;> rfl
/-- a chair more -/
theorem set_cut {r : List Nat} {s v : Nat} (h : s < r.length) : r.take s ++ [v] ++ r.drop (s + 1) = r.set s v := by
  rw [List.append_assoc, List.set_eq_take_append_cons_drop, if_pos h]
  rfl
theorem wide_run {row c : List Nat} {p : List (List Nat)} {s : Nat} (hs : s < row.length) (hr : runPlan row p = some c) (hb : ∀ st ∈ p, ∀ x ∈ st, x + 1 < row.length) : ∃ c', runPlan (row.set s (at0 row s + 1)) p = some c' := by
  have hl : ((List.replicate row.length 0).set s 1).length = row.length := by simp
  have e : addL row ((List.replicate row.length 0).set s 1) = row.set s (at0 row s + 1) := by
    refine ext_at (by rw [addL_len hl, List.length_set]) fun t ht => ?_
    rw [addL_len hl] at ht
    rw [addL_at hl, at0_set ht, at0_set (by simpa using ht)]
    by_cases q : s = t
    · subst q
      rw [if_pos rfl, if_pos rfl]
    · rw [if_neg q, if_neg q, at0_rep, Nat.add_zero]
  have := addL_plan p hl hr hb
  rw [e] at this
  exact ⟨_, this⟩
theorem wide_more {row : List Nat} {ws : List (Nat × Nat)} {s : Nat} (hw : Ways row.length ws) (hs : s < row.length) {t x : Nat} (ht : t ≤ ws.length) (hx : x < row.length) :
    cnt x ((duePlan row ws).take t) ≤ cnt x ((duePlan (row.set s (at0 row s + 1)) ws).take t) := by
  obtain ⟨c', h⟩ := wide_run hs (due_run row ws) (own_in hw (due_own row ws))
  exact due_most (by rw [List.length_set]; exact hw) (due_own row ws) h t ht x (by rw [List.length_set]; exact hx)
/-- a walker more -/
def morew (ws : List (Nat × Nat)) (k : Nat) (w : Nat × Nat) : List (Nat × Nat) := ws.take k ++ [w] ++ ws.drop k
theorem morew_len {ws : List (Nat × Nat)} {k : Nat} {w : Nat × Nat} : (morew ws k w).length = ws.length + 1 := by
  simp [morew]
  omega
theorem morew_ways {n : Nat} {ws : List (Nat × Nat)} {k : Nat} {w : Nat × Nat} (h : Ways n ws) (h1 : w.1 < w.2) (h2 : w.2 < n) : Ways n (morew ws k w) := fun v hv => by
  simp only [morew, List.mem_append, List.mem_cons, List.not_mem_nil, or_false] at hv
  rcases hv with (hv | hv) | hv
  · exact ways_take h k v hv
  · subst hv; exact ⟨h1, h2⟩
  · exact ways_drop h k v hv
theorem All2.cat {α β : Type} {R : α → β → Prop} : ∀ {as cs : List α} {bs ds : List β}, All2 R as bs → All2 R cs ds → All2 R (as ++ cs) (bs ++ ds)
  | [], _, [], _, _, h => h
  | _ :: _, _, _ :: _, _, h1, h => ⟨h1.1, h1.2.cat h⟩
  | [], _, _ :: _, _, h1, _ => h1.elim
  | _ :: _, _, [], _, h1, _ => h1.elim
theorem morew_most {row : List Nat} {ws : List (Nat × Nat)} {k : Nat} {w : Nat × Nat} (hw : Ways row.length ws) (h1 : w.1 < w.2) (h2 : w.2 < row.length) {x : Nat} (hx : x < row.length) : cnt x (duePlan row ws) ≤ cnt x (duePlan row (morew ws k w)) := by
  have hd := due_own row ws
  have ho : All2 OwnSt (morew ws k w) ((duePlan row ws).take k ++ [[]] ++ (duePlan row ws).drop k) := ((hd.take k).cat (show All2 OwnSt [w] [[]] from ⟨⟨.nil, fun x hx => (by cases hx)⟩, trivial⟩)).cat (hd.drop k)
  obtain ⟨m, r1, r2⟩ := run_split (due_run row ws) k
  have hr : runPlan row ((duePlan row ws).take k ++ [[]] ++ (duePlan row ws).drop k) = some (dueEnd row ws) := by
    rw [runPlan_cat, runPlan_cat, r1, Option.bind_some]
    exact r2
  have := due_most (morew_ways hw h1 h2) ho hr (morew ws k w).length (Nat.le_refl _) x hx
  have e1 : ((duePlan row ws).take k ++ [[]] ++ (duePlan row ws).drop k).take (morew ws k w).length = (duePlan row ws).take k ++ [[]] ++ (duePlan row ws).drop k := List.take_of_length_le (by rw [ho.len]; exact Nat.le_refl _)
  have e2 : (duePlan row (morew ws k w)).take (morew ws k w).length = duePlan row (morew ws k w) := List.take_of_length_le (by rw [due_len]; exact Nat.le_refl _)
  rw [e1, e2, cnt_cat, cnt_cat, cnt_empty] at this
  have e : cnt x ((duePlan row ws).take k) + cnt x ((duePlan row ws).drop k) = cnt x (duePlan row ws) := by rw [← cnt_cat, List.take_append_drop]
  omega
theorem seq_counts (n : Nat) (p : List (List Nat)) : seqD (countsD n p) = some (((List.range (n - 1)).map fun s => countsN s p).map rowD) := by
  unfold countsD
  rw [List.map_map]
  rfl
theorem zip_rows : ∀ (a b : List (List Nat)), zipD (a.map rowD) (b.map rowD) = (List.zip a b).map fun q => .tuple [rowD q.1, rowD q.2]
  | [], b => by simp [zipD]
  | x :: a, [] => by simp [zipD]
  | x :: a, y :: b => by
    have ih := zip_rows a b
    unfold zipD at ih ⊢
    simp only [List.map_cons, List.zipWith_cons_cons, List.zip_cons_cons, ih]
theorem nil_eq : eqD (.list []) (.list []) = some (.bool true) := eqD_same (by decide +kernel)
theorem nil_ne : neD (.list []) (.list []) = some (.bool false) := neD_same (by decide +kernel)
end Dl

/-! The plan of the rule under limits. -/
namespace Dl
open PySem
structure LimR (n f : Nat) (c l st : List Nat) (r : List Nat × List Nat × List Nat) : Prop where
  sub : ∀ x ∈ st, x ∈ r.2.2
  new : ∀ x ∈ r.2.2, x ∈ st ∨ (f ≤ x ∧ x < f + n)
  asc : st.Pairwise (· < ·) → r.2.2.Pairwise (· < ·)
  run : ∀ c0, runSt c0 st = some c → runSt c0 r.2.2 = some r.1
  hs : ∀ s, f ≤ s → s < f + n → (s ∈ r.2.2 ↔ ((0 < at0 c s ∨ (f < s ∧ s - 1 ∈ r.2.2)) ∧ 0 < at0 l s))
  lf : ∀ s, (f ≤ s ∧ s < f + n → (at0 r.2.1 s : Int) = at0 l s - one (has s r.2.2)) ∧ (¬ (f ≤ s ∧ s < f + n) → at0 r.2.1 s = at0 l s)
  ln : r.1.length = c.length ∧ r.2.1.length = l.length
theorem lim_st : ∀ (n f : Nat) (c l st : List Nat), (∀ x ∈ st, x < f) → f + n < c.length → f + n ≤ l.length → LimR n f c l st ((List.range' f n).foldl limStep (c, l, st))
  | 0, f, c, l, st, hb, _, _ => ⟨fun x h => h, fun x h => .inl h, fun h => h, fun c0 h => h, fun s h1 h2 => by omega, fun s => ⟨fun h => by omega, fun _ => rfl⟩, ⟨rfl, rfl⟩⟩
  | n + 1, f, c, l, st, hb, hl, hl2 => by
    rw [List.range'_succ, List.foldl_cons]
    by_cases hp : 0 < at0 c f ∧ 0 < at0 l f
    · have e : limStep (c, l, st) f = (carry c f, l.set f (at0 l f - 1), st ++ [f]) := by simp [limStep, hp]
      rw [e]
      have ih := lim_st n (f + 1) (carry c f) (l.set f (at0 l f - 1)) (st ++ [f]) (fun x hx => by
        rcases List.mem_append.mp hx with q | q
        · have := hb x q; omega
        · have : x = f := by simpa using q
          omega) (by rw [carry_len]; omega) (by rw [List.length_set]; omega)
      generalize (List.range' (f + 1) n).foldl limStep (carry c f, l.set f (at0 l f - 1), st ++ [f]) = r at ih
      have hf : f ∈ r.2.2 := ih.sub f (by simp)
      have nd : ∀ s, s < f → (s ∈ r.2.2 ↔ s ∈ st) := fun s hs => ⟨fun h => by
        rcases ih.new s h with q | q
        · rcases List.mem_append.mp q with q | q
          · exact q
          · have : s = f := by simpa using q
            omega
        · omega, fun h => ih.sub s (List.mem_append_left _ h)⟩
      refine ⟨fun x hx => ih.sub x (List.mem_append_left _ hx), fun x hx => ?_, fun h => ih.asc ?_, fun c0 h => ih.run c0 (by rw [runSt_app, h, Option.bind_some, if_pos hp.1]), fun s h1 h2 => ?_, fun s => ?_, ?_⟩
      · rcases ih.new x hx with q | q
        · rcases List.mem_append.mp q with q | q
          · exact .inl q
          · have : x = f := by simpa using q
            exact .inr (by omega)
        · exact .inr (by omega)
      · rw [List.pairwise_append]
        exact ⟨h, by simp, fun a ha b hb2 => by
          have : b = f := by simpa using hb2
          have := hb a ha
          omega⟩
      · by_cases hs : s = f
        · subst hs
          exact ⟨fun _ => ⟨.inl hp.1, hp.2⟩, fun _ => hf⟩
        · have i := ih.hs s (by omega) (by omega)
          rw [i, carry_at (by omega) (by omega), if_neg hs, at0_set_ne (show f ≠ s by omega)]
          by_cases hs1 : s = f + 1
          · subst hs1
            rw [if_pos rfl]
            refine ⟨fun q => ⟨.inr ⟨by omega, hf⟩, q.2⟩, fun q => ⟨.inl (by omega), q.2⟩⟩
          · rw [if_neg hs1]
            constructor
            · rintro ⟨q | ⟨q, q2⟩, q3⟩
              · exact ⟨.inl q, q3⟩
              · exact ⟨.inr ⟨by omega, q2⟩, q3⟩
            · rintro ⟨q | ⟨q, q2⟩, q3⟩
              · exact ⟨.inl q, q3⟩
              · exact ⟨.inr ⟨by omega, q2⟩, q3⟩
      · obtain ⟨a, b⟩ := ih.lf s
        by_cases hs : s = f
        · subst hs
          have h1 := b (by omega)
          rw [at0_set (by omega), if_pos rfl] at h1
          refine ⟨fun _ => ?_, fun h => by omega⟩
          rw [h1, has_mem.mpr hf]
          simp only [one, if_true]
          omega
        · rw [at0_set_ne (show f ≠ s by omega)] at a b
          exact ⟨fun h => a (by omega), fun h => b (by omega)⟩
      · have := ih.ln
        rw [carry_len, List.length_set] at this
        exact this
    · have e : limStep (c, l, st) f = (c, l, st) := by simp [limStep, hp]
      rw [e]
      have ih := lim_st n (f + 1) c l st (fun x hx => by have := hb x hx; omega) (by omega) (by omega)
      generalize (List.range' (f + 1) n).foldl limStep (c, l, st) = r at ih
      have hf : f ∉ r.2.2 := fun q => by
        rcases ih.new f q with h | h
        · have := hb f h; omega
        · omega
      refine ⟨ih.sub, fun x hx => ?_, ih.asc, ih.run, fun s h1 h2 => ?_, fun s => ?_, ih.ln⟩
      · rcases ih.new x hx with q | q
        · exact .inl q
        · exact .inr (by omega)
      · by_cases hs : s = f
        · subst hs
          exact ⟨fun q => absurd q hf, fun q => absurd ⟨q.1.elim id fun q => by omega, q.2⟩ hp⟩
        · rw [ih.hs s (by omega) (by omega)]
          constructor
          · rintro ⟨q | ⟨q, q2⟩, q3⟩
            · exact ⟨.inl q, q3⟩
            · exact ⟨.inr ⟨by omega, q2⟩, q3⟩
          · rintro ⟨q | ⟨q, q2⟩, q3⟩
            · exact ⟨.inl q, q3⟩
            · by_cases hs1 : s = f + 1
              · subst hs1
                exact absurd q2 hf
              · exact ⟨.inr ⟨by omega, q2⟩, q3⟩
      · obtain ⟨a, b⟩ := ih.lf s
        by_cases hs : s = f
        · subst hs
          have h1 := b (by omega)
          refine ⟨fun _ => ?_, fun h => by omega⟩
          have h2 : has (s : Int) r.2.2 = false := by
            cases hh : has (s : Int) r.2.2 with
            | false => rfl
            | true => exact absurd (has_mem.mp hh) hf
          rw [h1, h2]
          simp [one]
        · exact ⟨fun h => a (by omega), fun h => b (by omega)⟩
/-- what is known of the plan so far -/
structure LimI (row l0 : List Nat) (ws : List (Nat × Nat)) (a : List Nat × List Nat × List (List Nat)) : Prop where
  run : runPlan row a.2.2 = some a.1
  own : All2 OwnSt ws a.2.2
  lf : ∀ s, (at0 a.2.1 s : Int) = at0 l0 s - cnt s a.2.2
  ln : a.2.1.length = l0.length
  mn : ∀ s, s + 1 < row.length → cnt s a.2.2 = min (cnt s (duePlan row ws)) (at0 l0 s)
theorem lim_inv {row l0 : List Nat} {ws : List (Nat × Nat)} (hw : Ways row.length ws) (hl : l0.length + 1 = row.length) (hq : ∀ s, s + 2 < row.length → at0 l0 (s + 1) ≤ at0 row (s + 1) + at0 l0 s) :
    ∀ k, k ≤ ws.length → LimI row l0 (ws.take k) ((ws.take k).foldl limAll (row, l0, []))
  | 0, _ => ⟨rfl, trivial, fun s => by simp [cnt], rfl, fun s _ => by simp [cnt, duePlan]⟩
  | k + 1, hk => by
    have ih := lim_inv hw hl hq k (by omega)
    have hwt := List.getElem?_eq_getElem (show k < ws.length by omega)
    have hwm := hw ws[k] (List.getElem_mem (by omega))
    rw [take_step hwt, List.foldl_append, List.foldl_cons, List.foldl_nil]
    have hwk := ways_take hw k
    generalize ws[k] = w at *
    generalize ws.take k = us at *
    generalize (us.foldl limAll (row, l0, [])) = a at *
    obtain ⟨c, l, p⟩ := a
    have hrun : runPlan row p = some c := ih.run
    have hown : All2 OwnSt us p := ih.own
    have hlf : ∀ s, (at0 l s : Int) = at0 l0 s - cnt s p := ih.lf
    have hln : l.length = l0.length := ih.ln
    have hmn : ∀ s, s + 1 < row.length → cnt s p = min (cnt s (duePlan row us)) (at0 l0 s) := ih.mn
    have hcl := runPlan_len p hrun
    have st := lim_st (w.2 - w.1) w.1 c l [] (fun x h => by cases h) (by omega) (by omega)
    have e : limAll (c, l, p) w = ((limWalk c l w).1, (limWalk c l w).2.1, p ++ [(limWalk c l w).2.2]) := rfl
    rw [e]
    have e2 : (List.range' w.1 (w.2 - w.1)).foldl limStep (c, l, []) = limWalk c l w := rfl
    rw [e2] at st
    generalize limWalk c l w = r at *
    obtain ⟨c2, l2, q⟩ := r
    have hin : ∀ x ∈ q, w.1 ≤ x ∧ x < w.2 := fun x hx => by
      rcases st.new x hx with h | h
      · cases h
      · omega
    have hno : ∀ s : Nat, ¬ (w.1 ≤ s ∧ s < w.2) → has s q = false := fun s hs => by
      cases hh : has s q with
      | false => rfl
      | true => exact absurd (hin s (has_mem.mp hh)) hs
    have slf : ∀ s, (w.1 ≤ s ∧ s < w.1 + (w.2 - w.1) → (at0 l2 s : Int) = at0 l s - one (has s q)) ∧ (¬ (w.1 ≤ s ∧ s < w.1 + (w.2 - w.1)) → at0 l2 s = at0 l s) := st.lf
    have shs : ∀ s, w.1 ≤ s → s < w.1 + (w.2 - w.1) → (s ∈ q ↔ ((0 < at0 c s ∨ (w.1 < s ∧ s - 1 ∈ q)) ∧ 0 < at0 l s)) := st.hs
    have ownq : OwnSt w q := ⟨st.asc List.Pairwise.nil, hin⟩
    refine ⟨?_, hown.app ownq, fun s => ?_, st.ln.2.trans hln, ?_⟩
    · show runPlan row (p ++ [q]) = some c2
      rw [runPlan_app, hrun, Option.bind_some]
      exact st.run c rfl
    · show (at0 l2 s : Int) = at0 l0 s - cnt s (p ++ [q])
      rw [cnt_add]
      have h1 := hlf s
      obtain ⟨a, b⟩ := slf s
      by_cases hs : w.1 ≤ s ∧ s < w.2
      · have := a (by omega)
        omega
      · have h2 := b (by omega)
        rw [hno s hs]
        simp only [one, Bool.false_eq_true, if_false]
        omega
    · -- the numbers over the stages
      show ∀ s, s + 1 < row.length → cnt s (p ++ [q]) = min (cnt s (duePlan row (us ++ [w]))) (at0 l0 s)
      rw [due_cat, due_one]
      have hce := dueEnd_len row us
      have ownu := dueWalk_own (dueEnd row us) w
      have hmem := fun s h1 h2 => dueSt_has (w.2 - w.1) w.1 (dueEnd row us) [] (fun x hx => by cases hx) (by rw [hce]; omega) s h1 h2
      have e3 : (List.range' w.1 (w.2 - w.1)).foldl dueStep (dueEnd row us, []) = dueWalk (dueEnd row us) w := rfl
      rw [e3] at hmem
      have fl1 := flowPlan p hrun (tidy_of hwk hown)
      have fl2 := flowPlan (duePlan row us) (due_run row us) (tidy_of hwk (due_own row us))
      have hnou : ∀ s : Nat, ¬ (w.1 ≤ s ∧ s < w.2) → has s (dueWalk (dueEnd row us) w).2 = false := fun s hs => by
        cases hh : has s (dueWalk (dueEnd row us) w).2 with
        | false => rfl
        | true => exact absurd (ownu.2 s (has_mem.mp hh)) hs
      generalize (dueWalk (dueEnd row us) w).2 = u at *
      generalize dueEnd row us = cu at *
      generalize duePlan row us = pu at *
      intro s
      induction s with
      | zero =>
        intro hs
        have m0 := hmn 0 hs
        have a1 := cnt_add ((0 : Nat) : Int) p q
        have a2 := cnt_add ((0 : Nat) : Int) pu u
        have f1 := fl1 0 (by omega)
        have f2 := fl2 0 (by omega)
        have l0' := hlf 0
        have n1 := hno 0
        have n2 := hnou 0
        have en : ((0 : Nat) : Int) - 1 = -1 := rfl
        rw [en, cnt_neg] at f1 f2
        have k1 := shs 0
        have k2 := hmem 0
        rw [← has_mem] at k1 k2
        generalize ((0 : Nat) : Int) = z0 at *
        by_cases h0 : w.1 ≤ 0 ∧ 0 < w.2
        · have k1 := k1 h0.1 (by omega)
          have k2 := k2 h0.1 (by omega)
          have q1 : has z0 q = true ↔ (0 < at0 c 0 ∧ 0 < at0 l 0) := k1.trans ⟨fun h => ⟨h.1.elim id fun h => by omega, h.2⟩, fun h => ⟨.inl h.1, h.2⟩⟩
          have q2 : has z0 u = true ↔ 0 < at0 cu 0 := k2.trans ⟨fun h => h.elim id fun h => by omega, fun h => .inl h⟩
          generalize has z0 q = b1 at *
          generalize has z0 u = b2 at *
          cases b1 <;> cases b2 <;> simp [one] at q1 q2 a1 a2 <;> omega
        · have n1 := n1 h0
          have n2 := n2 h0
          rw [n1] at a1
          rw [n2] at a2
          simp [one] at a1 a2
          omega
      | succ s ihs =>
        intro hs
        have mp := ihs (by omega)
        have m0 := hmn (s + 1) hs
        have m1 := hmn s (by omega)
        have a1 := cnt_add (s + 1 : Nat) p q
        have a2 := cnt_add (s + 1 : Nat) pu u
        have b1 := cnt_add s p q
        have b2 := cnt_add s pu u
        have f1 := fl1 (s + 1) (by omega)
        have f2 := fl2 (s + 1) (by omega)
        have l1 := hlf (s + 1 : Nat)
        have hqs := hq s (by omega)
        have en : ((s + 1 : Nat) : Int) - 1 = (s : Int) := by omega
        rw [en] at f1 f2
        by_cases h0 : w.1 ≤ s + 1 ∧ s + 1 < w.2
        · have k1 := shs (s + 1) h0.1 (by omega)
          have k2 := hmem (s + 1) h0.1 (by omega)
          have e5 : s + 1 - 1 = s := rfl
          rw [e5, ← has_mem, ← has_mem] at k1 k2
          have p1 : (w.1 < s + 1 ∧ has (s : Int) q = true) ↔ has (s : Int) q = true := ⟨fun h => h.2, fun h => ⟨by have := hin s (has_mem.mp h); omega, h⟩⟩
          have p2 : (w.1 < s + 1 ∧ has (s : Int) u = true) ↔ has (s : Int) u = true := ⟨fun h => h.2, fun h => ⟨by have := ownu.2 s (has_mem.mp h); omega, h⟩⟩
          rw [p1] at k1
          rw [p2] at k2
          generalize ((s + 1 : Nat) : Int) = z1 at *
          generalize has z1 q = c1 at *
          generalize has z1 u = c2 at *
          generalize has (s : Int) q = d1 at *
          generalize has (s : Int) u = d2 at *
          cases c1 <;> cases c2 <;> cases d1 <;> cases d2 <;> simp [one] at k1 k2 a1 a2 b1 b2 <;> omega
        · have n1 := hno (s + 1) h0
          have n2 := hnou (s + 1) h0
          rw [n1] at a1
          rw [n2] at a2
          generalize ((s + 1 : Nat) : Int) = z1 at *
          simp [one] at a1 a2
          omega
end Dl

/-! Values of any kind: what repr writes of them stays short. -/
namespace Dl
open PySem
abbrev El (d : D) : Prop := Shw d 4 200
abbrev Em (d : D) : Prop := Shw d 6 10000
abbrev Vl (d : D) : Prop := Shw d 8 2000000
theorem El.em {d : D} (h : El d) : Em d := h.up (by decide) (by decide)
theorem Em.vl {d : D} (h : Em d) : Vl d := h.up (by decide) (by decide)
theorem El.vl {d : D} (h : El d) : Vl d := h.em.vl
theorem el_none : El .none := shw_none.up (by decide) (by decide)
theorem el_bool (b : Bool) : El (.bool b) := (shw_bool b).up (by decide) (by decide)
theorem el_int {i : Int} (h1 : -999999999999 ≤ i) (h2 : i ≤ 999999999999) : El (.int i) := (shw_int h1 h2).up (by decide) (by decide)
theorem el_nat {n : Nat} (h : n ≤ 999999999999) : El (natD n) := el_int (by omega) (by omega)
theorem em_tup {xs : List D} (h : ∀ x ∈ xs, El x) (hl : xs.length ≤ 40) : Em (.tuple xs) := (shw_tup h hl).up (by decide) (by decide)
theorem em_list {xs : List D} (h : ∀ x ∈ xs, El x) (hl : xs.length ≤ 40) : Em (.list xs) := (shw_list h hl).up (by decide) (by decide)
theorem vl_tup {xs : List D} (h : ∀ x ∈ xs, Em x) (hl : xs.length ≤ 100) : Vl (.tuple xs) := (shw_tup h hl).up (by decide) (by decide)
theorem vl_list {xs : List D} (h : ∀ x ∈ xs, Em x) (hl : xs.length ≤ 100) : Vl (.list xs) := (shw_list h hl).up (by decide) (by decide)
theorem vl_repr {d : D} (h : Vl d) : reprD [d] = some (.str d.shown) := reprD_shw h (by decide) (by decide)
/-- small numbers in a short tuple -/
theorem el_tup1 {i : Int} (h1 : -999999999999 ≤ i) (h2 : i ≤ 999999999999) : El (.tuple [.int i]) := (shw_tup (n := 1) (fun x hx => by rw [List.mem_singleton.mp hx]; exact shw_int h1 h2) (by simp)).up (by decide) (by decide)
theorem el_nats {r : List Nat} (h : ∀ x ∈ r, x ≤ 999999999999) (hl : r.length ≤ 12) : El (rowD r) := (shw_tup (n := 12) (fun x hx => by
  obtain ⟨y, hy, rfl⟩ := List.mem_map.mp hx
  have := h y hy
  exact shw_int (by omega) (by omega)) (by rw [List.length_map]; exact hl)).up (by decide) (by decide)
theorem all_app {α : Type} {p : α → Prop} {xs ys : List α} (h1 : ∀ x ∈ xs, p x) (h2 : ∀ x ∈ ys, p x) : ∀ x ∈ xs ++ ys, p x := fun x hx => (List.mem_append.mp hx).elim (h1 x) (h2 x)
theorem all_nil {α : Type} {p : α → Prop} : ∀ x ∈ ([] : List α), p x := fun x hx => by cases hx
theorem all_cons {α : Type} {p : α → Prop} {x : α} {xs : List α} (h1 : p x) (h2 : ∀ x ∈ xs, p x) : ∀ y ∈ x :: xs, p y := fun y hy => by
  rcases List.mem_cons.mp hy with rfl | hy
  · exact h1
  · exact h2 y hy
theorem all_one {α : Type} {p : α → Prop} {x : α} (h : p x) : ∀ y ∈ [x], p y := all_cons h all_nil
theorem all_take {α : Type} {p : α → Prop} {xs : List α} (h : ∀ x ∈ xs, p x) (k : Nat) : ∀ x ∈ xs.take k, p x := fun x hx => h x (List.mem_of_mem_take hx)
theorem all_drop {α : Type} {p : α → Prop} {xs : List α} (h : ∀ x ∈ xs, p x) (k : Nat) : ∀ x ∈ xs.drop k, p x := fun x hx => h x (List.mem_of_mem_drop hx)
theorem all_rev {α : Type} {p : α → Prop} {xs : List α} (h : ∀ x ∈ xs, p x) : ∀ x ∈ xs.reverse, p x := fun x hx => h x (List.mem_reverse.mp hx)
theorem all_rep {α : Type} {p : α → Prop} {xs : List α} (h : ∀ x ∈ xs, p x) (k : Nat) : ∀ x ∈ (List.replicate k xs).flatten, p x := fun x hx => by
  obtain ⟨ys, hy, hx⟩ := List.mem_flatten.mp hx
  rw [(List.mem_replicate.mp hy).2] at hx
  exact h x hx
/-- what an index takes -/
theorem pick_any {xs : List D} {a : Nat} {p : D → Prop} (h : ∀ x ∈ xs, p x) (ha : a < xs.length) : ∃ v, p v ∧ L2.atI xs (a : Int) = some v := ⟨xs[a], h _ (List.getElem_mem _), at_nat (List.getElem?_eq_getElem ha)⟩
theorem pick_w {xs : List D} {a : Nat} {p : D → Prop} {Q : QE} {s : S} (h : ∀ x ∈ xs, p x) (ha : a < xs.length) (q : ∀ v, p v → Q v s) : wO (L2.atI xs (a : Int)) Q s := by
  obtain ⟨v, hv, e⟩ := pick_any h ha
  rw [e]
  exact q v hv
theorem cut_lit {α : Type} (xs : List α) (n : Nat) [NatCast Int] : cutD xs none (some (no_index (@OfNat.ofNat Int n _))) = xs.take n := cut_upto xs n
theorem cut_lit1 {α : Type} (xs : List α) (n : Nat) [NatCast Int] : cutD xs (some (no_index (@OfNat.ofNat Int n _))) none = xs.drop n := cut_from xs n
/-- against the empty list -/
@[simp] theorem ev_eqE (xs : List D) : eqD (.list xs) (.list []) = some (.bool xs.isEmpty) := by
  have h : eqOk (.list xs) (.list []) = true := rfl
  unfold eqD
  rw [if_pos (eqOk_or h), eqv_empty]
@[simp] theorem ev_neE (xs : List D) : neD (.list xs) (.list []) = some (.bool !xs.isEmpty) := by
  have h : eqOk (.list xs) (.list []) = true := rfl
  unfold neD
  rw [if_pos h, eqv_empty]
theorem shaped_nats {r : List Nat} {n : Nat} (h : ∀ x ∈ r, x ≤ 999999999999) (hn : r.length ≤ n) : SeqAt.shaped (.list (r.map natD)) = true :=
  shaped_of (k := 1) (w := n) ((fine_list (k := 0) (w := 0) (n := n) (fun x hx => by
    obtain ⟨y, hy, rfl⟩ := List.mem_map.mp hx
    exact fine_nat (h y hy)) (by rw [List.length_map]; exact hn)).up (Nat.le_refl _) (by omega)) (by decide)
/-- over a list of any data of one kind -/
theorem wF_all (p : D → Prop) (R : S → Prop) {b : Pt} {g : Bd} {Q : QO} : ∀ {ds : List D} {s : S}, (∀ x ∈ ds, p x) → R s → (∀ x s, p x → R s → wS (b x s) (kTurn g (onw R Q))) → (∀ s, R s → Q (.nx s)) → wF b g ds s Q := fun {ds} {s} hd h hs he =>
  wF_inv (fun _ => R) 0 h (fun j x s hj hp => hs x s (hd x (List.mem_of_getElem? hj)) hp) fun s hp => he s hp
theorem eqvAll_ints : ∀ a b : List Int, PyData.eqvAll (a.map .int) (b.map .int) = decide (a = b)
  | [], [] => by simp [PyData.eqvAll]
  | [], y :: ys => by simp [PyData.eqvAll]
  | x :: xs, [] => by simp [PyData.eqvAll]
  | x :: xs, y :: ys => by
    rw [List.map_cons, List.map_cons, PyData.eqvAll, eqvAll_ints xs ys, PyData.eqv]
    by_cases h : x = y <;> by_cases h2 : xs = ys <;> simp [h, h2]
theorem shaped_ints {a : List Int} (h : ∀ x ∈ a, -999999999999 ≤ x ∧ x ≤ 999999999999) : SeqAt.shaped (.list (a.map .int)) = true :=
  shaped_of (k := 1) (w := a.length) ((fine_list (k := 0) (w := 0) (n := a.length) (fun x hx => by
    obtain ⟨y, hy, rfl⟩ := List.mem_map.mp hx
    exact fine_int (h y hy).1 (h y hy).2) (by rw [List.length_map]; exact Nat.le_refl _)).up (Nat.le_refl _) (by omega)) (by decide)
theorem eqD_ints {a b : List Int} (h1 : ∀ x ∈ a, -999999999999 ≤ x ∧ x ≤ 999999999999) (h2 : ∀ x ∈ b, -999999999999 ≤ x ∧ x ≤ 999999999999) : eqD (.list (a.map .int)) (.list (b.map .int)) = some (.bool (decide (a = b))) := by
  unfold eqD
  rw [if_pos (eqOk_or (eqOk_sh (shaped_ints h1) (shaped_ints h2))), PyData.eqv, eqvAll_ints]
theorem ssetD_ints {ns : List Int} (h : ns.length < 64) : ssetD (.tuple (ns.map .int)) = some ((sset ns).map .int) := by
  unfold ssetD
  dsimp only
  rw [intsOf_map]
  dsimp only
  rw [if_pos (decide_eq_true h)]
theorem sset_self {ns : List Int} : (ns = sset ns) ↔ ns.Pairwise (· < ·) :=
  ⟨fun h => by rw [h]; exact sset_pw ns, fun h => asc_one h (sset_pw ns) fun z => (sset_mem z ns).symm⟩
theorem zip_ways : ∀ (ws : List (Nat × Nat)) (vs : List D), zipD (ws.map wayD) vs = (List.zip ws vs).map fun q => .tuple [wayD q.1, q.2]
  | [], vs => by simp [zipD]
  | w :: ws, [] => by simp [zipD]
  | w :: ws, v :: vs => by
    have ih := zip_ways ws vs
    unfold zipD at *
    simpa using ih
/-- short enough to be judged -/
def Sht (v : D) : Prop := ∀ es, v = .tuple es → es.length < 1000 ∧ ∀ fs, .tuple fs ∈ es → fs.length < 64
theorem cut_mem {α : Type} {xs : List α} {l h : Option Int} : ∀ x ∈ cutD xs l h, x ∈ xs := fun x hx => List.mem_of_mem_drop (List.mem_of_mem_take hx)
theorem cut_len {α : Type} {xs : List α} {l h : Option Int} : (cutD xs l h).length ≤ xs.length := by
  unfold cutD
  rw [List.length_take, List.length_drop]
  omega
theorem rgD_mem {lo : Int} {n : Nat} : ∀ x ∈ rgD lo n, ∃ k : Nat, k < n ∧ x = .int (lo + (k : Nat)) := fun x hx => by
  unfold rgD at hx
  obtain ⟨k, hk, rfl⟩ := List.mem_map.mp hx
  exact ⟨k, List.mem_range.mp hk, rfl⟩
@[simp] theorem ev_eqTE (xs : List D) : eqD (.tuple xs) (.tuple []) = some (.bool xs.isEmpty) := by
  have h : eqOk (.tuple xs) (.tuple []) = true := rfl
  unfold eqD
  rw [if_pos (eqOk_or h), eqv_emptyT]
@[simp] theorem ev_neTE (xs : List D) : neD (.tuple xs) (.tuple []) = some (.bool !xs.isEmpty) := by
  have h : eqOk (.tuple xs) (.tuple []) = true := rfl
  unfold neD
  rw [if_pos h, eqv_emptyT]
/-- no tuple against the empty tuple -/
theorem nt_of {xs : List D} (_ : SeqAt.shaped (.tuple xs) = true) : eqD (.tuple xs) (.tuple []) = some (.bool xs.isEmpty) := ev_eqTE xs
end Dl

/-! while -/
namespace Dl
def kWh (n : Nat) (c : Tx) (g : Bd) (Q : QO) (k : Bool) (s : S) : Prop := match k with
  | true => wB g s (onw (fun s2 => wB (bWhile n c g) s2 Q) Q)
  | false => Q (.nx s)
@[simp] theorem kWh_t (n : Nat) (c : Tx) (g : Bd) (Q : QO) (s : S) : kWh n c g Q true s = wB g s (onw (fun s2 => wB (bWhile n c g) s2 Q) Q) := Eq.trans rfl rfl
@[simp] theorem kWh_f (n : Nat) (c : Tx) (g : Bd) (Q : QO) (s : S) : kWh n c g Q false s = Q (.nx s) := Eq.trans rfl rfl
theorem wB_While (n : Nat) (c : Tx) (g : Bd) (Q : QO) (s : S) : wB (bWhile (n + 1) c g) s Q = wT c s (kWh n c g Q) := by
  unfold wB wT bWhile
  rw [whN]
  cases c s with
  | none => rfl
  | some p =>
    obtain ⟨k, s1⟩ := p
    cases k with
    | false => rfl
    | true =>
      unfold kWh wB
      dsimp only
      cases g s1 with
      | none => rfl
      | some o => cases o <;> rfl
end Dl

/-! Needs that are met, moments that are tight. -/
namespace Dl
open PySem
def needN (row wants : List Nat) (s : Nat) : Nat := (Mf (dif row wants) s (row.length - s)).toNat
theorem needN_eq (row wants : List Nat) (s : Nat) : (needN row wants s : Int) = Mf (dif row wants) s (row.length - s) := Int.toNat_of_nonneg (Mf_nonneg _ _ _)
theorem needN_step {row wants : List Nat} {s : Nat} (h : s < row.length) : (needN row wants s : Int) = max 0 (dif row wants s + needN row wants (s + 1)) := by
  rw [needN_eq, needN_eq, show row.length - s = (row.length - (s + 1)) + 1 by omega, Mf]
  split <;> omega
theorem needN_end {row wants : List Nat} {s : Nat} (h : row.length ≤ s) : needN row wants s = 0 := by
  unfold needN
  rw [show row.length - s = 0 by omega]
  rfl
def limits (row wants : List Nat) : List Nat := (List.range (row.length - 1)).map fun s => needN row wants (s + 1)
theorem limits_len (row wants : List Nat) : (limits row wants).length = row.length - 1 := by simp [limits]
theorem limits_at {row wants : List Nat} {s : Nat} (h : s + 1 < row.length) : at0 (limits row wants) s = needN row wants (s + 1) := by
  unfold limits
  rw [at0_eq (by simp; omega)]
  simp
theorem drop_needs (row wants : List Nat) : ((needs row wants).map .int).drop 1 = (limits row wants).map natD := by
  unfold needs limits
  apply List.ext_getElem?
  intro i
  rw [List.getElem?_drop, List.map_map, List.map_map, List.getElem?_map, List.getElem?_map]
  by_cases h : 1 + i < row.length
  · rw [List.getElem?_range h, List.getElem?_range (show i < row.length - 1 by omega)]
    simp only [Option.map_some, Function.comp]
    rw [show 1 + i = i + 1 by omega, ← needN_eq]
  · rw [List.getElem?_eq_none (by simp; omega), List.getElem?_eq_none (by simp; omega)]
    rfl
/-- where no need is greater than what is carried, the limited plan meets the wants -/
theorem lim_meets {row wants : List Nat} {ws : List (Nat × Nat)} (hw : Ways row.length ws) (h1 : 1 ≤ row.length) (hz : needN row wants 0 = 0) (hc : ∀ s, s + 1 < row.length → needN row wants (s + 1) ≤ cnt s (duePlan row ws)) :
    ∃ c, runPlan row (limPlan row (limits row wants) ws) = some c ∧ All2 OwnSt ws (limPlan row (limits row wants) ws) ∧ (∀ s, s < row.length → at0 wants s ≤ at0 c s) ∧ ∀ s, s + 1 < row.length → cnt s (limPlan row (limits row wants) ws) = needN row wants (s + 1) := by
  have I := lim_inv (l0 := limits row wants) hw (by rw [limits_len]; omega) (fun s hs => by
    rw [limits_at (by omega), limits_at (by omega)]
    have := needN_step (wants := wants) (show s + 1 < row.length by omega)
    unfold dif at this
    omega) ws.length (Nat.le_refl _)
  rw [List.take_length] at I
  have hcnt : ∀ s, s + 1 < row.length → cnt s (limPlan row (limits row wants) ws) = needN row wants (s + 1) := fun s hs => by
    have := I.mn s hs
    rw [limits_at hs] at this
    have := hc s hs
    unfold limPlan
    omega
  refine ⟨_, I.run, I.own, fun s hs => ?_, hcnt⟩
  have fl := flowPlan _ I.run (tidy_of hw I.own) s hs
  have st := needN_step (wants := wants) hs
  have e : limPlan row (limits row wants) ws = (ws.foldl limAll (row, limits row wants, [])).2.2 := rfl
  rw [← e] at fl
  have e1 : (cnt s (limPlan row (limits row wants) ws) : Int) = needN row wants (s + 1) := by
    by_cases hs2 : s + 1 < row.length
    · rw [hcnt s hs2]
    · rw [needN_end (by omega)]
      have : cnt s (limPlan row (limits row wants) ws) = 0 := by
        unfold cnt
        rw [List.length_eq_zero_iff, List.filter_eq_nil_iff]
        intro st hst hh
        have := (tidy_of hw I.own st (e ▸ hst)).2 s (has_mem.mp hh)
        omega
      rw [this]
  have e2 : (cnt ((s : Int) - 1) (limPlan row (limits row wants) ws) : Int) = needN row wants s := by
    cases s with
    | zero =>
      rw [show ((0 : Nat) : Int) - 1 = -1 from rfl, cnt_neg, hz]
    | succ s =>
      rw [show ((s + 1 : Nat) : Int) - 1 = (s : Int) by omega, hcnt s (by omega)]
  rw [e1, e2] at fl
  unfold dif at st
  omega
/-! moments -/
def leftAt (row : List Nat) (P : List (List Nat)) (s t : Nat) : Int := (at0 row s : Int) + cnt ((s : Int) - 1) (P.take t) - cnt s (P.take t)
/-- the last moment up to m with no chair at the station, or 0 -/
def dnM (row : List Nat) (P : List (List Nat)) (s : Nat) : Nat → Nat
  | 0 => 0
  | m + 1 => if 0 < leftAt row P s (m + 1) then dnM row P s m else m + 1
theorem dnM_le (row : List Nat) (P : List (List Nat)) (s : Nat) : ∀ m, dnM row P s m ≤ m
  | 0 => Nat.le_refl _
  | m + 1 => by
    have := dnM_le row P s m
    unfold dnM
    split <;> omega
def momL (row : List Nat) (P : List (List Nat)) : Nat → Nat → List Nat
  | 0, _ => []
  | k + 1, m => momL row P k (dnM row P k m) ++ [dnM row P k m]
theorem momL_len (row : List Nat) (P : List (List Nat)) : ∀ k m, (momL row P k m).length = k
  | 0, _ => rfl
  | k + 1, m => by rw [momL, List.length_append, momL_len]; rfl
theorem momL_le (row : List Nat) (P : List (List Nat)) : ∀ k m, ∀ x ∈ momL row P k m, x ≤ m
  | 0, _, x, h => by cases h
  | k + 1, m, x, h => by
    have d := dnM_le row P k m
    rw [momL] at h
    rcases List.mem_append.mp h with h | h
    · have := momL_le row P k (dnM row P k m) x h
      omega
    · rw [List.mem_singleton.mp h]
      exact d
theorem momL_asc (row : List Nat) (P : List (List Nat)) : ∀ k m, (momL row P k m).Pairwise (· ≤ ·)
  | 0, _ => List.Pairwise.nil
  | k + 1, m => by
    rw [momL, List.pairwise_append]
    exact ⟨momL_asc row P k _, by simp, fun a ha b hb => by
      rw [List.mem_singleton.mp hb]
      exact momL_le row P k _ a ha⟩
/-- the walkers from lo on ahead of hi who walk over s -/
def wkN (ws : List (Nat × Nat)) (s lo hi : Nat) : Nat := (((ws.take hi).drop lo).filter (walks s)).length
theorem wkN_self (ws : List (Nat × Nat)) (s m : Nat) : wkN ws s m m = 0 := by
  unfold wkN
  rw [List.drop_eq_nil_of_le (by rw [List.length_take]; omega)]
  rfl
theorem wkN_succ {ws : List (Nat × Nat)} {s lo hi : Nat} (h : lo ≤ hi) (hh : hi < ws.length) : (wkN ws s lo (hi + 1) : Int) = wkN ws s lo hi + wk ws s hi := by
  unfold wkN wk
  rw [List.getElem?_eq_getElem hh, take_step (List.getElem?_eq_getElem hh), List.drop_append_of_le_length (by rw [List.length_take]; omega), List.filter_append, List.length_append]
  dsimp only
  cases hw : walks s ws[hi] with
  | true => rw [List.filter_cons_of_pos hw]; simp [one]
  | false => rw [List.filter_cons_of_neg (by rw [hw]; decide)]; simp [one]
theorem tight_one {row : List Nat} {ws : List (Nat × Nat)} (hw : Ways row.length ws) {s : Nat} (hs : s < row.length) : ∀ m, m ≤ ws.length →
    (cnt s ((duePlan row ws).take m) : Int) = (if 0 < dnM row (duePlan row ws) s m then at0 row s else 0 : Nat) + cnt ((s : Int) - 1) ((duePlan row ws).take (dnM row (duePlan row ws) s m)) + wkN ws s (dnM row (duePlan row ws) s m) m
  | 0, _ => by
    unfold dnM
    rw [wkN_self]
    simp [cnt]
  | m + 1, hm => by
    have ih := tight_one hw hs m (by omega)
    have r := due_rec hw hs (show m < ws.length by omega)
    have f := car_flow hw (due_own row ws) (due_run row ws) s (m + 1) hs
    have dl := dnM_le row (duePlan row ws) s m
    unfold dnM
    by_cases hl : 0 < leftAt row (duePlan row ws) s (m + 1)
    · rw [if_pos hl]
      rw [wkN_succ dl (by omega)]
      unfold leftAt at hl
      omega
    · rw [if_neg hl, if_pos (by omega), wkN_self]
      unfold leftAt at hl
      omega
def endAt (ms : List Nat) (m s : Nat) : Nat := if s + 1 < ms.length then at0 ms (s + 1) else m
theorem endAt_eq {ms : List Nat} {n s : Nat} (h : s < ms.length) : at0 (endsOf ms n) s = endAt ms n s := by
  unfold endsOf endAt at0 List.getD
  by_cases h1 : s + 1 < ms.length
  · rw [if_pos h1, List.getElem?_append_left (by rw [List.length_drop]; omega), List.getElem?_drop, Nat.add_comm 1 s]
  · rw [if_neg h1, List.getElem?_append_right (by rw [List.length_drop]; omega), List.length_drop, show s - (ms.length - 1) = 0 by omega]
    rfl
def bndE (row : List Nat) (ws : List (Nat × Nat)) (ms : List Nat) (m : Nat) : Nat := sumN ms.length fun s => chairsPart row ms s + wkN ws s (at0 ms s) (endAt ms m s)
theorem bnd_E (row : List Nat) (ws : List (Nat × Nat)) (ms : List Nat) : bndOf row ws ms = bndE row ws ms ws.length := by
  unfold bndOf bndE
  rw [sumN_comm ws.length ms.length, ← sumN_add]
  refine sumN_congr _ fun s hs => ?_
  rw [← count_inMom, endAt_eq hs]
  rfl
theorem at0_app {xs : List Nat} {x s : Nat} (h : s < xs.length) : at0 (xs ++ [x]) s = at0 xs s := by
  unfold at0 List.getD
  rw [List.getElem?_append_left h]
theorem at0_app_last (xs : List Nat) (x : Nat) : at0 (xs ++ [x]) xs.length = x := by
  unfold at0 List.getD
  rw [List.getElem?_append_right (Nat.le_refl _), Nat.sub_self]
  rfl
theorem bndE_app (row : List Nat) (ws : List (Nat × Nat)) (xs : List Nat) (x m : Nat) : bndE row ws (xs ++ [x]) m = bndE row ws xs x + ((if 0 < x then at0 row xs.length else 0) + wkN ws xs.length x m) := by
  unfold bndE
  rw [List.length_append, List.length_singleton, sumN]
  congr 1
  · refine sumN_congr _ fun s hs => ?_
    unfold chairsPart endAt
    rw [at0_app hs, List.length_append, List.length_singleton]
    by_cases h1 : s + 1 < xs.length
    · rw [if_pos (show s + 1 < xs.length + 1 by omega), if_pos h1, at0_app h1]
    · rw [if_pos (show s + 1 < xs.length + 1 by omega), if_neg h1, show s + 1 = xs.length by omega, at0_app_last]
  · unfold chairsPart endAt
    rw [at0_app_last, List.length_append, List.length_singleton, if_neg (show ¬ xs.length + 1 < xs.length + 1 by omega)]
theorem tight_all {row : List Nat} {ws : List (Nat × Nat)} (hw : Ways row.length ws) : ∀ k, k ≤ row.length → ∀ m, m ≤ ws.length → (bndE row ws (momL row (duePlan row ws) k m) m : Int) = cnt ((k : Int) - 1) ((duePlan row ws).take m)
  | 0, _, m, _ => by
    rw [show ((0 : Nat) : Int) - 1 = -1 from rfl, cnt_neg]
    rfl
  | k + 1, hk, m, hm => by
    have d := dnM_le row (duePlan row ws) k m
    have ih := tight_all hw k (by omega) (dnM row (duePlan row ws) k m) (by omega)
    have t := tight_one hw (show k < row.length by omega) m hm
    rw [momL, bndE_app, momL_len, show ((k + 1 : Nat) : Int) - 1 = (k : Int) by omega]
    omega
/-- the bound of tight moments is what is carried over the stage -/
theorem tight_bound {row : List Nat} {ws : List (Nat × Nat)} (hw : Ways row.length ws) {k : Nat} (hk : k ≤ row.length) : (bndOf row ws (momL row (duePlan row ws) k ws.length) : Int) = cnt ((k : Int) - 1) (duePlan row ws) := by
  rw [bnd_E, tight_all hw k hk _ (Nat.le_refl _), List.take_of_length_le (by rw [due_len]; exact Nat.le_refl _)]
/-! what is missing -/
def missN (row wants : List Nat) (b s : Nat) : Int := Ps (dif row wants) 0 b (s + 1 - b)
theorem Mf_some (f : Nat → Int) : ∀ (m : Nat) (a b : Int) (k : Nat), a + Mf f k m > b ↔ (a > b ∨ ∃ i, i < m ∧ Ps f a k (i + 1) > b)
  | 0, a, b, k => by
    simp [Mf]
  | m + 1, a, b, k => by
    have ih := Mf_some f m (a + f k) b (k + 1)
    have nn := Mf_nonneg f m (k + 1)
    have e : a + Mf f k (m + 1) > b ↔ (a > b ∨ (a + f k) + Mf f (k + 1) m > b) := by
      rw [Mf]
      split <;> omega
    rw [e, ih]
    constructor
    · rintro (h | h | ⟨i, hi, h⟩)
      · exact .inl h
      · exact .inr ⟨0, by omega, h⟩
      · rw [Ps_shift] at h
        exact .inr ⟨i + 1, by omega, h⟩
    · rintro (h | ⟨i, hi, h⟩)
      · exact .inl h
      · cases i with
        | zero => exact .inr (.inl h)
        | succ i =>
          rw [← Ps_shift] at h
          exact .inr (.inr ⟨i, by omega, h⟩)
theorem need_some {row wants : List Nat} {b : Nat} {B : Nat} : B < needN row wants b ↔ ∃ s, b ≤ s ∧ s < row.length ∧ (B : Int) < missN row wants b s := by
  have h := Mf_some (dif row wants) (row.length - b) 0 B b
  rw [← needN_eq] at h
  constructor
  · intro q
    rcases h.mp (by omega) with q | ⟨i, hi, q⟩
    · omega
    · exact ⟨b + i, by omega, by omega, by unfold missN; rw [show b + i + 1 - b = i + 1 by omega]; exact q⟩
  · rintro ⟨s, h1, h2, q⟩
    have := h.mpr (.inr ⟨s - b, by omega, by unfold missN at q; rw [show s + 1 - b = s - b + 1 by omega] at q; exact q⟩)
    omega
/-! how much is carried over each stage, counted on the way -/
theorem car_cnt : ∀ (l c f st : List Nat) (s : Nat), (∀ x ∈ l, x < f.length) → at0 (l.foldl carStep (c, f)).2 s + st.count s = at0 f s + ((l.foldl dueStep (c, st)).2).count s
  | [], c, f, st, s, _ => rfl
  | x :: l, c, f, st, s, hb => by
    rw [List.foldl_cons, List.foldl_cons]
    by_cases hp : 0 < at0 c x
    · have e1 : carStep (c, f) x = (carry c x, f.set x (at0 f x + 1)) := by simp [carStep, hp]
      have e2 : dueStep (c, st) x = (carry c x, st ++ [x]) := by simp [dueStep, hp]
      have ih := car_cnt l (carry c x) (f.set x (at0 f x + 1)) (st ++ [x]) s (fun y hy => by rw [List.length_set]; exact hb y (List.mem_cons_of_mem _ hy))
      have hx := hb x (List.mem_cons_self ..)
      rw [e1, e2]
      rw [List.count_append] at ih
      by_cases hs : x = s
      · subst hs
        rw [at0_set hx, if_pos rfl] at ih
        simp at ih
        omega
      · rw [at0_set_ne hs] at ih
        have : ([x] : List Nat).count s = 0 := by
          rw [List.count_eq_zero]
          simp
          omega
        omega
    · have e1 : carStep (c, f) x = (c, f) := by simp [carStep, hp]
      have e2 : dueStep (c, st) x = (c, st) := by simp [dueStep, hp]
      rw [e1, e2]
      exact car_cnt l c f st s fun y hy => hb y (List.mem_cons_of_mem _ hy)
theorem count_has {st : List Nat} (h : st.Pairwise (· < ·)) (s : Nat) : (st.count s : Int) = one (has s st) := by
  by_cases hm : s ∈ st
  · rw [has_mem.mpr hm]
    have : st.count s = 1 := by
      have nd : st.Nodup := h.imp fun q => by omega
      have h1 := List.nodup_iff_count.mp nd s
      have h2 := List.count_pos_iff.mpr hm
      omega
    rw [this]
    rfl
  · have : has (s : Int) st = false := by
      cases hh : has (s : Int) st with
      | false => rfl
      | true => exact absurd (has_mem.mp hh) hm
    rw [this, List.count_eq_zero_of_not_mem hm]
    rfl
theorem carAll_cnt : ∀ (ws : List (Nat × Nat)) (c f : List Nat) (n s : Nat), Ways n ws → n ≤ f.length + 1 → (at0 (ws.foldl carWalk (c, f)).2 s : Int) = at0 f s + cnt s (duePlan c ws)
  | [], c, f, n, s, _, _ => by simp [cnt, duePlan]
  | w :: ws, c, f, n, s, hw, hf => by
    have hwm := hw w (List.mem_cons_self ..)
    rw [List.foldl_cons]
    have e : (carWalk (c, f) w).1 = (dueWalk c w).1 := car_due _ _ _ _
    have k := car_cnt (List.range' w.1 (w.2 - w.1)) c f [] s (fun x hx => by have := List.mem_range'_1.mp hx; omega)
    have e2 : (List.range' w.1 (w.2 - w.1)).foldl dueStep (c, []) = dueWalk c w := rfl
    have e3 : (List.range' w.1 (w.2 - w.1)).foldl carStep (c, f) = carWalk (c, f) w := rfl
    rw [e2, e3] at k
    have ln : (carWalk (c, f) w).2.length = f.length := by
      unfold carWalk
      have : ∀ (l : List Nat) (a : List Nat × List Nat), (l.foldl carStep a).2.length = a.2.length := by
        intro l
        induction l with
        | nil => intro a; rfl
        | cons x l ih => intro a; rw [List.foldl_cons, ih, (carStep_len a x).2]
      exact this _ _
    have ih := carAll_cnt ws (carWalk (c, f) w).1 (carWalk (c, f) w).2 n s (fun v hv => hw v (List.mem_cons_of_mem _ hv)) (by omega)
    rw [show carWalk (c, f) w = ((carWalk (c, f) w).1, (carWalk (c, f) w).2) from rfl, ih, e]
    have dc := due_cat c [w] ws
    rw [show [w] ++ ws = w :: ws from rfl, due_one, show dueEnd c [w] = (dueWalk c w).1 from rfl] at dc
    rw [dc, show ([(dueWalk c w).2] ++ duePlan (dueWalk c w).1 ws) = (dueWalk c w).2 :: duePlan (dueWalk c w).1 ws from rfl, cnt_cons, ← count_has (dueWalk_own c w).1 s]
    simp at k
    omega
theorem car_over {row : List Nat} {ws : List (Nat × Nat)} (hw : Ways row.length ws) (h1 : 1 ≤ row.length) : (carAll row ws).2 = (List.range (row.length - 1)).map fun (s : Nat) => cnt s (duePlan row ws) := by
  have ln : (carAll row ws).2.length = row.length - 1 := by
    unfold carAll
    have h2 : ∀ (l : List Nat) (a : List Nat × List Nat), (l.foldl carStep a).2.length = a.2.length := by
      intro l
      induction l with
      | nil => intro a; rfl
      | cons x l ih => intro a; rw [List.foldl_cons, ih, (carStep_len a x).2]
    have : ∀ (vs : List (Nat × Nat)) (a : List Nat × List Nat), (vs.foldl carWalk a).2.length = a.2.length := by
      intro vs
      induction vs with
      | nil => intro a; rfl
      | cons x l ih => intro a; rw [List.foldl_cons, ih]; exact h2 _ _
    rw [this]
    simp
  refine ext_at (by rw [ln]; simp) fun s hs => ?_
  have k := carAll_cnt ws row (List.replicate (row.length - 1) 0) row.length s hw (by simp; omega)
  rw [at0_rep] at k
  rw [ln] at hs
  unfold carAll
  rw [at0_eq (c := (List.range (row.length - 1)).map _) (by simpa using hs)]
  simp
  omega
end Dl

/-! Certificates. -/
namespace Dl
open PySem
/-- the first station up to which more is missing -/
def shortN (row wants : List Nat) (b B : Nat) : Nat → Nat → Option Nat
  | _, 0 => none
  | s, m + 1 => if (B : Int) < missN row wants b s then some s else shortN row wants b B (s + 1) m
theorem shortN_some {row wants : List Nat} {b B : Nat} : ∀ {m s t : Nat}, shortN row wants b B s m = some t → s ≤ t ∧ t < s + m ∧ (B : Int) < missN row wants b t
  | 0, s, t, h => by cases h
  | m + 1, s, t, h => by
    rw [shortN] at h
    split at h
    · cases h
      exact ⟨by omega, by omega, by assumption⟩
    · have := shortN_some h
      exact ⟨by omega, by omega, this.2.2⟩
theorem shortN_none {row wants : List Nat} {b B : Nat} : ∀ {m s : Nat}, shortN row wants b B s m = none → ∀ t, s ≤ t → t < s + m → ¬ (B : Int) < missN row wants b t
  | 0, s, _, t, h1, h2 => by omega
  | m + 1, s, h, t, h1, h2 => by
    rw [shortN] at h
    split at h
    · cases h
    · rename_i hn
      by_cases ht : t = s
      · rw [ht]; exact hn
      · exact shortN_none h t (by omega) (by omega)
def optD : Option Nat → D
  | some s => natD s
  | none => .none
def moms (row : List Nat) (ws : List (Nat × Nat)) (k : Nat) : List Nat := momL row (duePlan row ws) k ws.length
theorem moms_len (row : List Nat) (ws : List (Nat × Nat)) (k : Nat) : (moms row ws k).length = k := momL_len _ _ _ _
def barAt (row : List Nat) (ws : List (Nat × Nat)) (wants : List Nat) (k : Nat) : Option Nat := shortN row wants k (bndOf row ws (moms row ws k)) k (row.length - k)
def certN (row : List Nat) (ws : List (Nat × Nat)) (wants : List Nat) : Nat → Nat → Option (Nat × Nat)
  | _, 0 => none
  | k, m + 1 => match barAt row ws wants k with
    | some t => some (k, t)
    | none => certN row ws wants (k + 1) m
def barD (t : Nat) (ms : List Nat) : D := .tuple [.str "bar", natD t, rowD ms]
def certD (row : List Nat) (ws : List (Nat × Nat)) (wants : List Nat) : D := match certN row ws wants 0 row.length with
  | some (k, t) => barD t (moms row ws k)
  | none => .tuple [.str "plan", planD (limPlan row (limits row wants) ws)]
theorem certN_some {row : List Nat} {ws : List (Nat × Nat)} {wants : List Nat} : ∀ {m k : Nat} {q : Nat × Nat}, certN row ws wants k m = some q → k ≤ q.1 ∧ q.1 < k + m ∧ barAt row ws wants q.1 = some q.2
  | 0, k, q, h => by cases h
  | m + 1, k, q, h => by
    rw [certN] at h
    split at h
    · cases h
      exact ⟨by omega, by omega, by assumption⟩
    · have := certN_some h
      exact ⟨by omega, by omega, this.2.2⟩
theorem certN_none {row : List Nat} {ws : List (Nat × Nat)} {wants : List Nat} : ∀ {m k : Nat}, certN row ws wants k m = none → ∀ j, k ≤ j → j < k + m → barAt row ws wants j = none
  | 0, k, h, j, h1, h2 => by omega
  | m + 1, k, h, j, h1, h2 => by
    rw [certN] at h
    split at h
    · cases h
    · rename_i hn
      by_cases ht : j = k
      · rw [ht]; exact hn
      · exact certN_none h j (by omega) (by omega)
/-- a plan, or a bar -/
inductive Cert (row : List Nat) (ws : List (Nat × Nat)) (wants : List Nat) : Prop
  | plan (c : List Nat) (e : certD row ws wants = .tuple [.str "plan", planD (limPlan row (limits row wants) ws)]) (run : runPlan row (limPlan row (limits row wants) ws) = some c) (own : All2 OwnSt ws (limPlan row (limits row wants) ws))
      (met : ∀ s, s < row.length → at0 wants s ≤ at0 c s) (need : ∀ k, k < row.length → (needN row wants k : Int) ≤ cnt ((k : Int) - 1) (duePlan row ws))
  | bar (k t : Nat) (e : certD row ws wants = barD t (moms row ws k)) (h1 : k ≤ t) (h2 : t < row.length) (bnd : (bndOf row ws (moms row ws k) : Int) = cnt ((k : Int) - 1) (duePlan row ws)) (more : (bndOf row ws (moms row ws k) : Int) < missN row wants k t)
theorem cert_is {row wants : List Nat} {ws : List (Nat × Nat)} (h2 : 2 ≤ row.length) (hws : Ways row.length ws) : Cert row ws wants := by
  have hb : ∀ k, k ≤ row.length → (bndOf row ws (moms row ws k) : Int) = cnt ((k : Int) - 1) (duePlan row ws) := fun k hk => tight_bound hws hk
  cases hc : certN row ws wants 0 row.length with
  | some q =>
    obtain ⟨k, t⟩ := q
    obtain ⟨_, a, b⟩ := certN_some hc
    obtain ⟨c1, c2, c3⟩ := shortN_some b
    dsimp only at a b c1 c2 c3
    exact .bar k t (by unfold certD; rw [hc]) c1 (by omega) (hb k (by omega)) c3
  | none =>
    have hn : ∀ k, k < row.length → (needN row wants k : Int) ≤ cnt ((k : Int) - 1) (duePlan row ws) := fun k hk => by
      have a := certN_none hc k (by omega) (by omega)
      have b := shortN_none a
      have e := hb k (by omega)
      have q := need_some (row := row) (wants := wants) (b := k) (B := bndOf row ws (moms row ws k))
      by_cases h : bndOf row ws (moms row ws k) < needN row wants k
      · obtain ⟨s, s1, s2, s3⟩ := q.mp h
        exact absurd s3 (b s s1 (by omega))
      · omega
    have h0 := hn 0 (by omega)
    rw [show ((0 : Nat) : Int) - 1 = -1 from rfl, cnt_neg] at h0
    obtain ⟨c, c1, c2, c3, _⟩ := lim_meets (wants := wants) hws (by omega) (by omega) (fun s hs => by
      have := hn (s + 1) hs
      rw [show ((s + 1 : Nat) : Int) - 1 = (s : Int) by omega] at this
      omega)
    exact .plan c (by unfold certD; rw [hc]) c1 c2 c3 hn
def ascOk (hi : Int) : Int → List D → Bool
  | _, [] => true
  | lo, .int i :: ds => decide (lo ≤ i) && decide (i ≤ hi) && ascOk hi i ds
  | _, _ :: _ => false
def momsOk (st hi : Int) : D → Bool
  | .tuple ds => decide ((ds.length : Int) ≤ st) && ascOk hi 0 ds
  | _ => false
theorem ascOk_of {hi : Nat} : ∀ {ds : List D} {lo : Nat}, ascOk hi lo ds = true → ds = (ds.map numN).map natD ∧ (ds.map numN).Pairwise (· ≤ ·) ∧ ∀ x ∈ ds.map numN, lo ≤ x ∧ x ≤ hi
  | [], lo, _ => ⟨rfl, .nil, fun x h => by cases h⟩
  | d :: ds, lo, h => by
    cases d with
    | int i =>
      simp only [ascOk, Bool.and_eq_true, decide_eq_true_eq] at h
      obtain ⟨⟨h1, h2⟩, h3⟩ := h
      obtain ⟨n, rfl⟩ : ∃ n : Nat, i = n := ⟨i.toNat, by omega⟩
      obtain ⟨e, pw, hm⟩ := ascOk_of h3
      refine ⟨?_, ?_, ?_⟩
      · rw [List.map_cons, List.map_cons, ← e]
        rfl
      · rw [List.map_cons]
        refine List.pairwise_cons.mpr ⟨fun y hy => ?_, pw⟩
        have := (hm y hy).1
        have e1 : numN (.int (n : Int)) = n := rfl
        omega
      · intro x hx
        rw [List.map_cons] at hx
        have e1 : numN (.int (n : Int)) = n := rfl
        rcases List.mem_cons.mp hx with rfl | hx
        · omega
        · have := hm x hx
          omega
    | _ => simp [ascOk] at h
theorem ascOk_own {hi : Nat} : ∀ {ms : List Nat} {lo : Nat}, ms.Pairwise (· ≤ ·) → (∀ x ∈ ms, lo ≤ x ∧ x ≤ hi) → ascOk hi lo (ms.map natD) = true
  | [], lo, _, _ => rfl
  | x :: ms, lo, pw, hm => by
    have h1 := hm x (List.mem_cons_self ..)
    have p := List.pairwise_cons.mp pw
    have ih := ascOk_own (hi := hi) (ms := ms) (lo := x) p.2 fun y hy => ⟨p.1 y hy, (hm y (List.mem_cons_of_mem _ hy)).2⟩
    rw [List.map_cons, ascOk, decide_eq_true (show (lo : Int) ≤ x by omega), decide_eq_true (show (x : Int) ≤ (hi : Int) by omega)]
    exact ih
theorem momsOk_of {st hi : Nat} {v : D} (h : momsOk st hi v = true) : ∃ ms : List Nat, v = rowD ms ∧ ms.length ≤ st ∧ ms.Pairwise (· ≤ ·) ∧ ∀ x ∈ ms, x ≤ hi := by
  cases v with
  | tuple ds =>
    simp only [momsOk, Bool.and_eq_true, decide_eq_true_eq] at h
    obtain ⟨e, pw, hm⟩ := ascOk_of (lo := 0) h.2
    exact ⟨ds.map numN, congrArg PySem.PyData.tuple e, by rw [List.length_map]; omega, pw, fun x hx => (hm x hx).2⟩
  | _ => simp [momsOk] at h
theorem momsOk_own {st hi : Nat} {ms : List Nat} (hl : ms.length ≤ st) (pw : ms.Pairwise (· ≤ ·)) (hm : ∀ x ∈ ms, x ≤ hi) : momsOk st hi (rowD ms) = true := by
  unfold rowD
  simp only [momsOk, Bool.and_eq_true, decide_eq_true_eq]
  exact ⟨by rw [List.length_map]; omega, ascOk_own (lo := 0) pw fun x hx => ⟨by omega, hm x hx⟩⟩
def barOk (row : List Nat) (ws : List (Nat × Nat)) (wants : List Nat) (s m : D) : Bool := match s with
  | .int i => decide (0 ≤ i) && decide (i ≤ (row.length : Int) - 1) && momsOk i ws.length m && (match m with
    | .tuple ds => decide ((bndOf row ws (ds.map numN) : Int) < missN row wants ds.length i.toNat)
    | _ => false)
  | _ => false
theorem barOk_bar {row wants ms : List Nat} {ws : List (Nat × Nat)} {t : Nat} (ht : t < row.length) (hl : ms.length ≤ t) (pw : ms.Pairwise (· ≤ ·)) (hm : ∀ x ∈ ms, x ≤ ws.length) :
    barOk row ws wants (natD t) (rowD ms) = decide ((bndOf row ws ms : Int) < missN row wants ms.length t) := by
  have h := momsOk_own (st := t) (hi := ws.length) hl pw hm
  have e : (ms.map natD).map numN = ms := by rw [List.map_map]; exact List.map_id'' numN_nat ms
  unfold rowD at h ⊢
  unfold barOk natD
  dsimp only
  rw [h, e, List.length_map, decide_eq_true (show (0 : Int) ≤ (t : Int) by omega), decide_eq_true (show (t : Int) ≤ (row.length : Int) - 1 by omega), Int.toNat_natCast]
  rfl
theorem barOk_of {row wants : List Nat} {ws : List (Nat × Nat)} {s m : D} (h : barOk row ws wants s m = true) : ∃ (t : Nat) (ms : List Nat), s = natD t ∧ m = rowD ms ∧ t < row.length ∧ ms.length ≤ t ∧ ms.Pairwise (· ≤ ·) ∧ (∀ x ∈ ms, x ≤ ws.length) ∧ (bndOf row ws ms : Int) < missN row wants ms.length t := by
  cases s with
  | int i =>
    unfold barOk at h
    simp only [Bool.and_eq_true, decide_eq_true_eq] at h
    obtain ⟨⟨⟨h1, h2⟩, h3⟩, h4⟩ := h
    obtain ⟨t, rfl⟩ : ∃ n : Nat, i = n := ⟨i.toNat, by omega⟩
    obtain ⟨ms, rfl, q1, q2, q3⟩ := momsOk_of h3
    have e : (ms.map natD).map numN = ms := by rw [List.map_map]; exact List.map_id'' numN_nat ms
    unfold rowD at h4
    dsimp only at h4
    rw [decide_eq_true_iff, e, List.length_map, Int.toNat_natCast] at h4
    exact ⟨t, ms, rfl, rfl, by omega, q1, q2, q3, h4⟩
  | _ => simp [barOk] at h
def meetsB (c wants : List Nat) : Bool := (List.zip c wants).all fun q => decide (q.2 ≤ q.1)
theorem meetsB_iff {c wants : List Nat} (h : wants.length = c.length) : meetsB c wants = true ↔ ∀ s, s < c.length → at0 wants s ≤ at0 c s := by
  unfold meetsB
  rw [List.all_eq_true]
  constructor
  · intro q s hs
    have := q (c[s], wants[s]) (by
      rw [List.mem_iff_getElem]
      exact ⟨s, by simp; omega, by simp⟩)
    rw [at0_eq hs, at0_eq (show s < wants.length by omega)]
    exact of_decide_eq_true this
  · intro q x hx
    obtain ⟨s, hs, rfl⟩ := List.mem_iff_getElem.mp hx
    simp at hs
    have := q s (by omega)
    rw [at0_eq (show s < c.length by omega), at0_eq (show s < wants.length by omega)] at this
    simpa using this
def planMeets (row : List Nat) (ws : List (Nat × Nat)) (wants : List Nat) (v : D) : Bool := planOk row ws v && (match runPlan row (planN v) with
  | some c => meetsB c wants
  | none => false)
def certOk (row : List Nat) (ws : List (Nat × Nat)) (wants : List Nat) : D → Bool
  | .tuple [.str t, p] => (t == "plan") && planMeets row ws wants p
  | .tuple [.str t, s, m] => (t == "bar") && barOk row ws wants s m
  | _ => false
theorem sum_cut : ∀ (m : Nat) (xs : List Nat) (b : Nat), b + m ≤ xs.length → (((xs.take (b + m)).drop b).sum : Int) = sumN m fun i => at0 xs (b + i)
  | 0, xs, b, _ => by
    rw [Nat.add_zero, List.drop_eq_nil_of_le (by rw [List.length_take]; omega)]
    rfl
  | m + 1, xs, b, h => by
    have ih := sum_cut m xs b (by omega)
    rw [show b + (m + 1) = (b + m) + 1 by omega, take_step (List.getElem?_eq_getElem (show b + m < xs.length by omega)), List.drop_append_of_le_length (by rw [List.length_take]; omega), List.sum_append, sumN, Int.natCast_add, Int.natCast_add, ih, at0_eq (show b + m < xs.length by omega)]
    simp
theorem Ps_sum (row wants : List Nat) (b : Nat) : ∀ m, Ps (dif row wants) 0 b m = ((sumN m fun i => at0 wants (b + i) : Nat) : Int) - ((sumN m fun i => at0 row (b + i) : Nat) : Int)
  | 0 => rfl
  | m + 1 => by
    have ih := Ps_sum row wants b m
    rw [Ps, ih, sumN, sumN]
    unfold dif
    omega
theorem miss_sum {row wants : List Nat} {b s : Nat} (hw : wants.length = row.length) (hs : s < row.length) (hb : b ≤ s + 1) :
    missN row wants b s = (((wants.take (s + 1)).drop b).sum : Int) - (((row.take (s + 1)).drop b).sum : Int) := by
  have e : s + 1 = b + (s + 1 - b) := by omega
  have h1 := sum_cut (s + 1 - b) wants b (by omega)
  have h2 := sum_cut (s + 1 - b) row b (by omega)
  rw [← e] at h1 h2
  unfold missN
  rw [Ps_sum, h1, h2]
def metB (row : List Nat) (ws : List (Nat × Nat)) (wants : List Nat) : Bool := decide (needN row wants 0 = 0) && (List.range (row.length - 1)).all fun s => decide (needN row wants (s + 1) ≤ cnt s (duePlan row ws))
theorem moms_le (row : List Nat) (ws : List (Nat × Nat)) (k : Nat) : ∀ x ∈ moms row ws k, x ≤ ws.length := momL_le _ _ _ _
theorem moms_asc (row : List Nat) (ws : List (Nat × Nat)) (k : Nat) : (moms row ws k).Pairwise (· ≤ ·) := momL_asc _ _ _ _
theorem metB_iff {row wants : List Nat} {ws : List (Nat × Nat)} (h1 : 1 ≤ row.length) : metB row ws wants = true ↔ ∀ k, k < row.length → (needN row wants k : Int) ≤ cnt ((k : Int) - 1) (duePlan row ws) := by
  unfold metB
  rw [Bool.and_eq_true, decide_eq_true_iff, List.all_eq_true]
  constructor
  · rintro ⟨h0, h⟩ k hk
    cases k with
    | zero =>
      rw [show ((0 : Nat) : Int) - 1 = -1 from rfl, cnt_neg, h0]
      exact Int.le_refl _
    | succ k =>
      have := of_decide_eq_true (h k (List.mem_range.mpr (by omega)))
      rw [show ((k + 1 : Nat) : Int) - 1 = (k : Int) by omega]
      omega
  · intro h
    refine ⟨?_, fun k hk => ?_⟩
    · have := h 0 (by omega)
      rw [show ((0 : Nat) : Int) - 1 = -1 from rfl, cnt_neg] at this
      omega
    · have hk2 := List.mem_range.mp hk
      have := h (k + 1) (by omega)
      rw [show ((k + 1 : Nat) : Int) - 1 = (k : Int) by omega] at this
      simp
      omega
theorem cert_true {row wants : List Nat} {ws : List (Nat × Nat)} (h2 : 2 ≤ row.length) (hws : Ways row.length ws) (hwl : wants.length = row.length) : certOk row ws wants (certD row ws wants) = true := by
  cases cert_is (wants := wants) h2 hws with
  | plan c e run own met need =>
    rw [e]
    show ((("plan" : Str) == "plan") && planMeets row ws wants (planD (limPlan row (limits row wants) ws))) = true
    unfold planMeets
    rw [planOk_own own run, planN_plan, run]
    rw [beq_self_eq_true, Bool.true_and, Bool.true_and]
    exact (meetsB_iff (by rw [hwl, runPlan_len _ run])).mpr fun s hs => met s (by rw [runPlan_len _ run] at hs; exact hs)
  | bar k t e h1 h3 bnd more =>
    rw [e]
    show ((("bar" : Str) == "bar") && barOk row ws wants (natD t) (rowD (moms row ws k))) = true
    rw [barOk_bar h3 (by rw [moms_len]; exact h1) (moms_asc row ws k) (moms_le row ws k), moms_len, decide_eq_true more]
    rw [beq_self_eq_true]
    rfl
theorem cert_word {row wants : List Nat} {ws : List (Nat × Nat)} (h2 : 2 ≤ row.length) (hws : Ways row.length ws) : ∃ rest, certD row ws wants = .tuple (.str (if metB row ws wants then "plan" else "bar") :: rest) := by
  cases cert_is (wants := wants) h2 hws with
  | plan c e run own met need =>
    rw [(metB_iff (by omega)).mpr need]
    exact ⟨_, e⟩
  | bar k t e h1 h3 bnd more =>
    have : metB row ws wants = false := by
      rw [← Bool.not_eq_true]
      intro h
      have := (metB_iff (by omega)).mp h k (by omega)
      have := need_some.mpr ⟨t, h1, h3, more⟩
      omega
    rw [this]
    exact ⟨_, e⟩
theorem shw_str3 : Shw (.str "bar") 0 13 ∧ Shw (.str "plan") 0 13 := ⟨shw_dec (by decide +kernel), shw_dec (by decide +kernel)⟩
theorem asc_len : ∀ {st : List Nat} {lo hi : Nat}, st.Pairwise (· < ·) → (∀ x ∈ st, lo ≤ x ∧ x < hi) → st.length ≤ hi - lo
  | [], lo, hi, _, _ => by simp
  | x :: st, lo, hi, pw, h => by
    have p := List.pairwise_cons.mp pw
    have h1 := h x (List.mem_cons_self ..)
    have ih := asc_len (lo := x + 1) (hi := hi) p.2 fun y hy => ⟨p.1 y hy, (h y (List.mem_cons_of_mem _ hy)).2⟩
    simp
    omega
theorem plan_short {p : List (List Nat)} {ws : List (Nat × Nat)} {n : Nat} (hw : Ways n ws) (ho : All2 OwnSt ws p) : ∀ st ∈ p, st.length ≤ n ∧ ∀ x ∈ st, x < n := fun st hst => by
  have h := tidy_of hw ho st hst
  have := asc_len (lo := 0) (hi := n) h.1 fun x hx => ⟨by omega, by have := h.2 x hx; omega⟩
  exact ⟨by omega, fun x hx => by have := h.2 x hx; omega⟩
theorem shw_plan {p : List (List Nat)} {ws : List (Nat × Nat)} {n : Nat} (hn : n ≤ 20) (hwl : ws.length ≤ 40) (hw : Ways n ws) (ho : All2 OwnSt ws p) : Shw (planD p) 2 14000 := by
  have h := plan_short hw ho
  refine (shw_tup (k := 1) (w := 303) (n := 40) (fun x hx => ?_) (by rw [List.length_map, ← ho.len]; exact hwl)).up (by decide) (by decide)
  obtain ⟨st, hst, rfl⟩ := List.mem_map.mp hx
  exact shw_tup (k := 0) (w := 13) (n := 20) (fun y hy => by
    obtain ⟨z, hz, rfl⟩ := List.mem_map.mp hy
    have := (h st hst).2 z hz
    exact shw_int (by omega) (by omega)) (by rw [List.length_map]; have := (h st hst).1; omega)
theorem cert_shw {row wants : List Nat} {ws : List (Nat × Nat)} (h2 : 2 ≤ row.length) (hr : row.length ≤ 12) (hws : Ways row.length ws) (hwl : ws.length ≤ 40) : Shw (certD row ws wants) 3 30000 := by
  cases cert_is (wants := wants) h2 hws with
  | plan c e run own met need =>
    rw [e]
    exact (shw_tup (k := 2) (w := 14000) (n := 2) (all_cons (shw_str3.2.up (by decide) (by decide)) (all_one (shw_plan (by omega) hwl hws own))) (by simp)).up (by decide) (by decide)
  | bar k t e h1 h3 bnd more =>
    rw [e]
    exact (shw_tup (k := 2) (w := 200) (n := 3) (all_cons (shw_str3.1.up (by decide) (by decide)) (all_cons ((shw_int (by omega) (by omega)).up (by decide) (by decide)) (all_one ((shw_tup (k := 0) (w := 13) (n := 12) (fun x hx => by
      obtain ⟨y, hy, rfl⟩ := List.mem_map.mp hx
      have := moms_le row ws k y hy
      exact shw_int (by omega) (by omega)) (by rw [List.length_map, moms_len]; omega)).up (by decide) (by decide))))) (by simp)).up (by decide) (by decide)
end Dl

/-! Values made of a certificate by a change. -/
namespace Dl
open PySem
theorem wC_each (f : D → D) {b : Pt} {t : Tx} {e : Ex} {vs : List Nat} {Q : QA} {items : List D} {s : S} (hl : items.length < 16777216)
    (h : ∀ x, x ∈ items → wS (b x s) (kM0 t e vs true (f x) s)) (he : Q (items.map f) s) : wC b t e vs items [] s Q := by
  have := wC_map (acc := []) (Q := Q) (b := b) (t := t) (e := e) (vs := vs) f id (items := items) (s := s) (by simpa using hl) h (by simpa using he)
  rwa [List.map_id] at this
theorem wC_sift (p : D → Bool) (f : D → D) {b : Pt} {t : Tx} {e : Ex} {vs : List Nat} {Q : QA} {items : List D} {s : S} (hl : items.length < 16777216)
    (h : ∀ x, x ∈ items → wS (b x s) (kM0 t e vs (p x) (f x) s)) (he : Q ((items.filter p).map f) s) : wC b t e vs items [] s Q := by
  have := wC_fil (acc := []) (Q := Q) (b := b) (t := t) (e := e) (vs := vs) p f id (items := items) (s := s) (by simpa using hl) h (by simpa using he)
  rwa [List.map_id] at this
/-- it can be compared with the words of certificates -/
def Cs (d : D) : Prop := ∀ t : Str, (t = "plan" ∨ t = "bar") → (eqOk d (.str t) || dS d (.str t)) = true
theorem cs_sh {d : D} (h : SeqAt.shaped d = true) : Cs d := fun t ht => by
  have h2 : SeqAt.shaped (.str t) = true := by rcases ht with rfl | rfl <;> decide +kernel
  rw [eqOk_sh h h2]
  rfl
theorem cs_str (x : Str) : Cs (.str x) := fun t _ => rfl
structure Lf (v : D) : Prop where
  el : El v
  cs : Cs v
  hd : ∀ d ds, v = .tuple (d :: ds) → Cs d
  ln : ∀ es, v = .tuple es → es.length ≤ 2 ∧ ∀ fs, .tuple fs ∈ es → fs.length ≤ 2
  st : ∀ (t : Str) p, v = .tuple [.str t, p] → Sht p
theorem lf_int {i : Int} (h1 : -999999999999 ≤ i) (h2 : i ≤ 999999999999) : Lf (.int i) := ⟨el_int h1 h2, cs_sh (shapedI i), fun _ _ e => by (cases e), fun _ e => by (cases e), fun _ _ e => by (cases e)⟩
theorem lf_nat {i : Nat} (h : i ≤ 999999999999) : Lf (natD i) := lf_int (by omega) (by omega)
theorem lf_bool (b : Bool) : Lf (.bool b) := ⟨el_bool b, cs_sh (by cases b <;> decide +kernel), fun _ _ e => by (cases e), fun _ e => by (cases e), fun _ _ e => by (cases e)⟩
theorem lf_str {x : Str} (h : El (.str x)) : Lf (.str x) := ⟨h, cs_str x, fun _ _ e => by (cases e), fun _ e => by (cases e), fun _ _ e => by (cases e)⟩
theorem lf_none : Lf .none := ⟨el_none, cs_sh (by decide +kernel), fun _ _ e => by (cases e), fun _ e => by (cases e), fun _ _ e => by (cases e)⟩
def lim : Nat → Nat
  | 0 => 20
  | 1 => 40
  | _ => 3
/-- parts of a certificate as it was made -/
inductive Og : Nat → D → Prop
  | nat {k i : Nat} (h : i ≤ 500) : Og k (natD i)
  | str {k : Nat} {x : Str} (h : x = "plan" ∨ x = "bar") : Og k (.str x)
  | tup {k : Nat} {xs : List D} (hl : xs.length ≤ lim k) (h : ∀ x ∈ xs, Og k x) : Og (k + 1) (.tuple xs)
/-- .. and as it may be changed -/
inductive Rg : Nat → D → Prop
  | leaf {k : Nat} {d : D} (h : Lf d) : Rg k d
  | tup {k : Nat} {xs : List D} (hl : xs.length ≤ lim k + 1) (h : ∀ x ∈ xs, Rg k x) : Rg (k + 1) (.tuple xs)
  | lst {k : Nat} {xs : List D} (hl : xs.length ≤ lim k + 1) (h : ∀ x ∈ xs, Rg k x) : Rg (k + 1) (.list xs)
theorem lf_word {x : Str} (h : x = "plan" ∨ x = "bar") : Lf (.str x) := lf_str (by
  rcases h with rfl | rfl
  · exact shw_str3.2.up (by decide) (by decide)
  · exact shw_str3.1.up (by decide) (by decide))
theorem Og.rg {k : Nat} {d : D} (h : Og k d) : Rg k d := by
  induction h with
  | nat h => exact .leaf (lf_nat (by omega))
  | str h => exact .leaf (lf_word h)
  | tup hl h ih => exact .tup (by omega) ih
theorem lay_all : ∀ {xs : List D} {k : Nat}, (∀ x ∈ xs, x.canLay0 = true ∧ x.depth ≤ k) → PyData.canLayAll0 xs = true ∧ PyData.depthAll xs ≤ k
  | [], k, _ => ⟨by rw [PyData.canLayAll0], by rw [PyData.depthAll]; exact Nat.zero_le _⟩
  | x :: xs, k, h => by
    obtain ⟨a, b⟩ := lay_all (fun y hy => h y (List.mem_cons_of_mem _ hy))
    have q := h x (List.mem_cons_self ..)
    exact ⟨by rw [PyData.canLayAll0, q.1, a]; rfl, by rw [PyData.depthAll]; exact Nat.max_le.mpr ⟨q.2, b⟩⟩
theorem Og.lay {k : Nat} {d : D} (h : Og k d) : d.canLay0 = true ∧ d.depth ≤ k := by
  induction h with
  | nat h => exact ⟨by rw [PyData.canLay0], by rw [PyData.depth]; exact Nat.zero_le _⟩
  | str h => exact ⟨by rcases h with rfl | rfl <;> decide +kernel, by rw [PyData.depth]; exact Nat.zero_le _⟩
  | tup hl h ih =>
    obtain ⟨a, b⟩ := lay_all ih
    exact ⟨by rw [PyData.canLay0, a], by rw [PyData.depth]; omega⟩
theorem Og.cs {k : Nat} {d : D} (h : Og k d) (hk : k ≤ 64) : Cs d := cs_sh (by
  obtain ⟨a, b⟩ := h.lay
  unfold SeqAt.shaped
  rw [a, decide_eq_true (show d.depth ≤ 64 by omega)]
  rfl)
theorem Rg.shw0 {d : D} (h : Rg 0 d) : Shw d 4 200 := by cases h with | leaf h => exact h.el
theorem Rg.shw1 {d : D} (h : Rg 1 d) : Shw d 5 4245 := by
  cases h with
  | leaf h => exact h.el.up (by decide) (by decide)
  | tup hl h => exact (shw_tup (fun x hx => (h x hx).shw0) hl).up (by decide) (by decide)
  | lst hl h => exact (shw_list (fun x hx => (h x hx).shw0) hl).up (by decide) (by decide)
theorem Rg.shw2 {d : D} (h : Rg 2 d) : Shw d 6 174130 := by
  cases h with
  | leaf h => exact h.el.up (by decide) (by decide)
  | tup hl h => exact (shw_tup (fun x hx => (h x hx).shw1) hl).up (by decide) (by decide)
  | lst hl h => exact (shw_list (fun x hx => (h x hx).shw1) hl).up (by decide) (by decide)
theorem Rg.shw3 {d : D} (h : Rg 3 d) : Shw d 7 696531 := by
  cases h with
  | leaf h => exact h.el.up (by decide) (by decide)
  | tup hl h => exact (shw_tup (fun x hx => (h x hx).shw2) hl).up (by decide) (by decide)
  | lst hl h => exact (shw_list (fun x hx => (h x hx).shw2) hl).up (by decide) (by decide)
theorem Rg.len1 {fs : List D} (h : Rg 1 (.tuple fs)) : fs.length < 64 := by
  cases h with
  | leaf h => have := (h.ln _ rfl).1; omega
  | tup hl h => have : fs.length ≤ 20 + 1 := hl; omega
theorem Rg.sht {d : D} (h : Rg 2 d) : Sht d := fun es e => by
  subst e
  cases h with
  | leaf h =>
    have := h.ln _ rfl
    exact ⟨by omega, fun fs hf => by have := this.2 fs hf; omega⟩
  | tup hl h => exact ⟨by have : es.length ≤ 40 + 1 := hl; omega, fun fs hf => (h _ hf).len1⟩
/-- a value that may be judged as a certificate -/
structure Gv (v : D) : Prop where
  sh : Shw v 9 4100000
  hd : ∀ d ds, v = .tuple (d :: ds) → Cs d
  st : ∀ (t : Str) p, v = .tuple [.str t, p] → Sht p
  ln : ∀ ds, v = .tuple ds → ds.length < 16777216
theorem gv_lf {v : D} (h : Lf v) : Gv v := ⟨h.el.up (by decide) (by decide), h.hd, h.st, fun ds e => by have := (h.ln _ e).1; omega⟩
theorem gv_rg {v : D} (h : Rg 3 v) (hd : ∀ d ds, v = .tuple (d :: ds) → Cs d) : Gv v := by
  cases h with
  | leaf h => exact gv_lf h
  | tup hl h =>
    have hl : _ ≤ 3 + 1 := hl
    refine ⟨(Rg.tup hl h).shw3.up (by decide) (by decide), hd, fun t p e => ?_, fun ds e => by injection e with e; rw [← e]; omega⟩
    injection e with e
    rw [e] at h
    exact (h p (by simp)).sht
  | lst hl h => exact ⟨(Rg.lst hl h).shw3.up (by decide) (by decide), hd, fun t p e => by (cases e), fun ds e => by (cases e)⟩
/-- a word and something behind it -/
theorem gv_two {t : Str} {p : D} (ht : El (.str t)) (h : Shw p 7 2000000) (hs : Sht p) : Gv (.tuple [.str t, p]) := ⟨(shw_tup (n := 2) (k := 7) (w := 2000000) (all_cons (ht.up (by decide) (by decide)) (all_one h)) (by simp)).up (by decide) (by decide),
  fun d ds e => by injection e with e; injection e with e; rw [← e]; exact cs_str t, fun _ q e => by injection e with e; injection e with _ e; injection e with e; rw [← e]; exact hs, fun ds e => by injection e with e; rw [← e]; simp⟩
theorem gv_three {t : Str} {a b : D} (ht : El (.str t)) (h1 : Shw a 6 1000000) (h2 : Shw b 6 1000000) : Gv (.tuple [.str t, a, b]) := ⟨(shw_tup (n := 3) (k := 6) (w := 1000000) (all_cons (ht.up (by decide) (by decide)) (all_cons h1 (all_one h2))) (by simp)).up (by decide) (by decide),
  fun d ds e => by injection e with e; injection e with e; rw [← e]; exact cs_str t, fun _ q e => by (injection e with e; injection e with _ e; injection e with _ e; cases e), fun ds e => by injection e with e; rw [← e]; simp⟩
/-! what may stand in the place of a plan -/
def Ev (v : D) : Prop := Em v ∧ ∀ fs, v = .tuple fs → fs.length < 64
theorem ev_tup {xs : List D} (h : ∀ x ∈ xs, El x) (hl : xs.length ≤ 40) : Ev (.tuple xs) := ⟨em_tup h hl, fun ds hd => by injection hd with hd; rw [← hd]; omega⟩
theorem ev_oth {v : D} (h : Em v) (hn : ∀ fs, v ≠ .tuple fs) : Ev v := ⟨h, fun fs e => absurd e (hn fs)⟩
def Pv (v : D) : Prop := Shw v 7 2000000 ∧ Sht v
theorem pv_tup {xs : List D} (h : ∀ x ∈ xs, Ev x) (hl : xs.length ≤ 100) : Pv (.tuple xs) :=
  ⟨(shw_tup (fun x hx => (h x hx).1) hl).up (by decide) (by decide), fun es he => by injection he with he; rw [← he]; exact ⟨by omega, fun fs hf => (h _ hf).2 fs rfl⟩⟩
theorem pv_list {xs : List D} (h : ∀ x ∈ xs, Ev x) (hl : xs.length ≤ 100) : Pv (.list xs) :=
  ⟨(shw_list (fun x hx => (h x hx).1) hl).up (by decide) (by decide), fun es he => by cases he⟩
theorem pv_none : Pv .none := ⟨el_none.up (by decide) (by decide), fun es he => by cases he⟩
theorem ev_st {st : List Nat} (h : st.length ≤ 20) (hx : ∀ x ∈ st, x ≤ 500) : Ev (stD st) := ev_tup (fun z hz => by
  obtain ⟨u, hu, rfl⟩ := List.mem_map.mp hz
  have := hx u hu
  exact el_nat (by omega)) (by rw [List.length_map]; omega)
theorem plan_short2 {p : List (List Nat)} {ws : List (Nat × Nat)} {n : Nat} (hn : n ≤ 20) (hw : Ways n ws) (ho : All2 OwnSt ws p) : ∀ st ∈ p, st.length ≤ 20 ∧ ∀ x ∈ st, x ≤ 20 := fun st hst => by
  have h := plan_short hw ho st hst
  exact ⟨by omega, fun x hx => by have := h.2 x hx; omega⟩
/-- a plan is part of a certificate -/
theorem og_nats {st : List Nat} {k : Nat} (h : st.length ≤ lim k) (hx : ∀ x ∈ st, x ≤ 500) : Og (k + 1) (.tuple (st.map natD)) := .tup (by rw [List.length_map]; exact h) fun x hx2 => by
  obtain ⟨y, hy, rfl⟩ := List.mem_map.mp hx2
  exact .nat (hx y hy)
theorem og_plan {p : List (List Nat)} (hl : p.length ≤ 40) (h : ∀ st ∈ p, st.length ≤ 20 ∧ ∀ x ∈ st, x ≤ 20) : Og 2 (planD p) := .tup (by rw [List.length_map]; exact hl) fun x hx => by
  obtain ⟨st, hst, rfl⟩ := List.mem_map.mp hx
  exact og_nats (k := 0) (h st hst).1 fun x hx => by have := (h st hst).2 x hx; omega
end Dl

/-! No bar is less than what a plan carries; what more chairs, walkers, wants do. -/
namespace Dl
open PySem
section
variable {row c wants : List Nat} {ws : List (Nat × Nat)} {p : List (List Nat)}
theorem weak_one (h : All2 OwnSt ws p) {s : Nat} : ∀ (d lo : Nat), lo + d ≤ ws.length → (cnt s (p.take (lo + d)) : Int) ≤ cnt s (p.take lo) + wkN ws s lo (lo + d)
  | 0, lo, _ => by rw [Nat.add_zero, wkN_self]; omega
  | d + 1, lo, hd => by
    have ih := weak_one h (s := s) d lo (by omega)
    have a := car_step h s (lo + d)
    have b := wkN_succ (ws := ws) (s := s) (lo := lo) (hi := lo + d) (by omega) (by omega)
    rw [← Nat.add_assoc]
    omega
theorem weak_all (hw : Ways row.length ws) (ho : All2 OwnSt ws p) (hr : runPlan row p = some c) : ∀ (k : Nat) (ms : List Nat) (m : Nat), ms.length = k → ms.Pairwise (· ≤ ·) → (∀ x ∈ ms, x ≤ m) → m ≤ ws.length → k ≤ row.length →
    (cnt ((k : Int) - 1) (p.take m) : Int) ≤ bndE row ws ms m
  | 0, ms, m, hl, pw, hx, hm, hk => by
    rw [show ((0 : Nat) : Int) - 1 = -1 from rfl, cnt_neg]
    exact Int.natCast_nonneg _
  | k + 1, ms, m, hl, pw, hx, hm, hk => by
    have ne : ms ≠ [] := by rintro rfl; cases hl
    obtain ⟨xs, x, rfl⟩ : ∃ xs x, ms = xs ++ [x] := ⟨ms.dropLast, ms.getLast ne, (List.dropLast_concat_getLast ne).symm⟩
    have hxl : xs.length = k := by simpa using hl
    have hxm : x ≤ m := hx x (by simp)
    rw [List.pairwise_append] at pw
    have ih := weak_all hw ho hr k xs x hxl pw.1 (fun y hy => pw.2.2 y hy x (by simp)) (by omega) (by omega)
    have a := weak_one ho (s := k) (m - x) x (by omega)
    rw [show x + (m - x) = m by omega] at a
    rw [bndE_app, hxl, show ((k + 1 : Nat) : Int) - 1 = (k : Int) by omega]
    by_cases h0 : 0 < x
    · have f := car_flow hw ho hr k x (by omega)
      rw [if_pos h0]
      omega
    · have : x = 0 := by omega
      subst this
      rw [List.take_zero, cnt_nil] at a
      omega
theorem weak_bound (hw : Ways row.length ws) (ho : All2 OwnSt ws p) (hr : runPlan row p = some c) {ms : List Nat} (pw : ms.Pairwise (· ≤ ·)) (hx : ∀ x ∈ ms, x ≤ ws.length) (hl : ms.length ≤ row.length) :
    (cnt ((ms.length : Int) - 1) p : Int) ≤ bndOf row ws ms := by
  have := weak_all hw ho hr ms.length ms ws.length rfl pw hx (Nat.le_refl _) hl
  rw [bnd_E]
  rwa [show p.take ws.length = p by rw [ho.len, List.take_length]] at this
theorem miss_pre (hw : Ways row.length ws) (ho : All2 OwnSt ws p) (hr : runPlan row p = some c) (met : ∀ s, s < row.length → at0 wants s ≤ at0 c s) (b : Nat) : ∀ m, b + m ≤ row.length →
    Ps (dif row wants) 0 b m ≤ (cnt ((b : Int) - 1) p : Int) - cnt (((b + m : Nat) : Int) - 1) p
  | 0, _ => by
    rw [Nat.add_zero]
    unfold Ps
    omega
  | m + 1, hm => by
    have ih := miss_pre hw ho hr met b m (by omega)
    have f := flowPlan p hr (tidy_of hw ho) (b + m) (by omega)
    have q := met (b + m) (by omega)
    rw [Ps, show ((b + (m + 1) : Nat) : Int) - 1 = ((b + m : Nat) : Int) by omega]
    unfold dif at *
    omega
theorem miss_le (hw : Ways row.length ws) (ho : All2 OwnSt ws p) (hr : runPlan row p = some c) (met : ∀ s, s < row.length → at0 wants s ≤ at0 c s) {b t : Nat} (hb : b ≤ t) (ht : t < row.length) : missN row wants b t ≤ cnt ((b : Int) - 1) p := by
  have := miss_pre hw ho hr met b (t + 1 - b) (by omega)
  unfold missN
  omega
/-- behind a plan that meets the wants no bar holds -/
theorem no_bar (hw : Ways row.length ws) (ho : All2 OwnSt ws p) (hr : runPlan row p = some c) (met : ∀ s, s < row.length → at0 wants s ≤ at0 c s) {ms : List Nat} {t : Nat} (pw : ms.Pairwise (· ≤ ·)) (hx : ∀ x ∈ ms, x ≤ ws.length) (hl : ms.length ≤ t) (ht : t < row.length) :
    ¬ (bndOf row ws ms : Int) < missN row wants ms.length t := by
  have a := weak_bound hw ho hr pw hx (by omega)
  have b := miss_le hw ho hr met hl ht
  omega
end
/-! needs -/
theorem Mf_congr {f g : Nat → Int} : ∀ (m k : Nat), (∀ i, k ≤ i → f i = g i) → Mf f k m = Mf g k m
  | 0, k, _ => rfl
  | m + 1, k, h => by
    rw [Mf, Mf, h k (Nat.le_refl _), Mf_congr m (k + 1) fun i hi => h i (by omega)]
theorem Mf_mono {f g : Nat → Int} (h : ∀ i, f i ≤ g i) : ∀ (m k : Nat), Mf f k m ≤ Mf g k m
  | 0, k => Int.le_refl _
  | m + 1, k => by
    have := Mf_mono h m (k + 1)
    have := h k
    rw [Mf, Mf]
    split <;> split <;> omega
theorem Mf_one {f g : Nat → Int} {s : Nat} (h : ∀ i, i ≠ s → f i = g i) (hs : g s ≤ f s + 1) : ∀ (m k : Nat), Mf g k m ≤ Mf f k m + 1
  | 0, k => by rw [Mf, Mf]; omega
  | m + 1, k => by
    by_cases hk : k = s
    · subst hk
      have e := Mf_congr (f := f) (g := g) m (k + 1) fun i hi => h i (by omega)
      rw [Mf, Mf, e]
      split <;> split <;> omega
    · have := Mf_one h hs m (k + 1)
      have e := h k hk
      rw [Mf, Mf]
      split <;> split <;> omega
theorem dif_want {row wants : List Nat} {s v : Nat} (i : Nat) (h : i ≠ s) : dif row (wants.set s v) i = dif row wants i := by
  unfold dif
  rw [at0_set_ne (Ne.symm h)]
theorem dif_row {row wants : List Nat} {s v : Nat} (i : Nat) (h : i ≠ s) : dif (row.set s v) wants i = dif row wants i := by
  unfold dif
  rw [at0_set_ne (Ne.symm h)]
theorem dif_want_s {row wants : List Nat} {s v : Nat} (h : s < wants.length) : dif row (wants.set s v) s = (v : Int) - at0 row s := by
  unfold dif
  rw [at0_set h, if_pos rfl]
theorem dif_row_s {row wants : List Nat} {s v : Nat} (h : s < row.length) : dif (row.set s v) wants s = (at0 wants s : Int) - v := by
  unfold dif
  rw [at0_set h, if_pos rfl]
theorem needN_mono {row row' wants wants' : List Nat} (hl : row'.length = row.length) (h : ∀ i, dif row wants i ≤ dif row' wants' i) (k : Nat) : needN row wants k ≤ needN row' wants' k := by
  have a := needN_eq row wants k
  have b := needN_eq row' wants' k
  have := Mf_mono h (row.length - k) k
  rw [hl] at b
  omega
theorem Ps_mono {f g : Nat → Int} (h : ∀ i, f i ≤ g i) (a : Int) (b : Nat) : ∀ m, Ps f a b m ≤ Ps g a b m
  | 0 => Int.le_refl _
  | m + 1 => by
    have := Ps_mono h a b m
    have := h (b + m)
    rw [Ps, Ps]
    omega
/-! met or not -/
theorem met_walker {row wants : List Nat} {ws : List (Nat × Nat)} {k : Nat} {w : Nat × Nat} (h1 : 1 ≤ row.length) (hw : Ways row.length ws) (hw1 : w.1 < w.2) (hw2 : w.2 < row.length) (h : metB row ws wants = true) : metB row (morew ws k w) wants = true := by
  rw [metB_iff h1] at h ⊢
  intro j hj
  have a := h j hj
  cases j with
  | zero =>
    rw [show ((0 : Nat) : Int) - 1 = -1 from rfl, cnt_neg] at a ⊢
    exact a
  | succ j =>
    rw [show ((j + 1 : Nat) : Int) - 1 = (j : Int) by omega] at a ⊢
    have := morew_most (k := k) hw hw1 hw2 (x := j) (by omega)
    omega
theorem met_chair {row wants : List Nat} {ws : List (Nat × Nat)} {s : Nat} (h1 : 1 ≤ row.length) (hw : Ways row.length ws) (hs : s < row.length) (h : metB row ws wants = true) : metB (row.set s (at0 row s + 1)) ws wants = true := by
  have hl : (row.set s (at0 row s + 1)).length = row.length := List.length_set
  rw [metB_iff h1] at h
  rw [metB_iff (by omega)]
  intro j hj
  rw [hl] at hj
  have a := h j hj
  have n := needN_mono (row := row.set s (at0 row s + 1)) (row' := row) (wants := wants) (wants' := wants) hl.symm (fun i => by
    by_cases hi : i = s
    · subst hi
      rw [dif_row_s hs]
      unfold dif
      omega
    · rw [dif_row i hi]
      omega) j
  cases j with
  | zero =>
    rw [show ((0 : Nat) : Int) - 1 = -1 from rfl, cnt_neg] at a ⊢
    omega
  | succ j =>
    rw [show ((j + 1 : Nat) : Int) - 1 = (j : Int) by omega] at a ⊢
    have := wide_more hw hs (t := ws.length) (x := j) (Nat.le_refl _) (by omega)
    rw [show (duePlan row ws).take ws.length = duePlan row ws by rw [← due_len row ws, List.take_length]] at this
    rw [show (duePlan (row.set s (at0 row s + 1)) ws).take ws.length = duePlan (row.set s (at0 row s + 1)) ws by rw [← due_len (row.set s (at0 row s + 1)) ws, List.take_length]] at this
    omega
theorem met_not {row wants : List Nat} {ws : List (Nat × Nat)} {k t : Nat} (h1 : 1 ≤ row.length) (hk : k ≤ t) (ht : t < row.length) (bnd : (bndOf row ws (moms row ws k) : Int) = cnt ((k : Int) - 1) (duePlan row ws)) (more : (bndOf row ws (moms row ws k) : Int) < missN row wants k t) : metB row ws wants = false := by
  cases hm : metB row ws wants with
  | false => rfl
  | true =>
    rw [metB_iff h1] at hm
    have := hm k (by omega)
    have := need_some.mpr ⟨t, hk, ht, more⟩
    omega
/-! the words of certificates -/
theorem cert_plan_true {row c wants : List Nat} {ws : List (Nat × Nat)} {p : List (List Nat)} (hw : Ways row.length ws) (ho : All2 OwnSt ws p) (hr : runPlan row p = some c) (hwt : wants.length = row.length) (met : ∀ s, s < row.length → at0 wants s ≤ at0 c s) :
    certOk row ws wants (.tuple [.str "plan", planD p]) = true := by
  have hc := runPlan_len p hr
  have e : planMeets row ws wants (planD p) = true := by
    unfold planMeets
    rw [planOk_own ho hr, planN_plan, hr, Bool.true_and]
    exact (meetsB_iff (by omega)).mpr fun s hs => met s (by omega)
  show ((("plan" : Str)) == ("plan" : Str) && planMeets row ws wants (planD p)) = true
  rw [e]
  decide
theorem cert_plan_val {row c wants : List Nat} {ws : List (Nat × Nat)} {p : List (List Nat)} (ho : All2 OwnSt ws p) (hr : runPlan row p = some c) :
    certOk row ws wants (.tuple [.str "plan", planD p]) = meetsB c wants := by
  show ((("plan" : Str)) == ("plan" : Str) && planMeets row ws wants (planD p)) = _
  unfold planMeets
  rw [planOk_own ho hr, planN_plan, hr, Bool.true_and, show ((("plan" : Str)) == ("plan" : Str)) = true by decide, Bool.true_and]
theorem cert_bar_val {row wants ms : List Nat} {ws : List (Nat × Nat)} {t : Nat} (ht : t < row.length) (hl : ms.length ≤ t) (pw : ms.Pairwise (· ≤ ·)) (hm : ∀ x ∈ ms, x ≤ ws.length) :
    certOk row ws wants (.tuple [.str "bar", natD t, rowD ms]) = decide ((bndOf row ws ms : Int) < missN row wants ms.length t) := by
  show ((("bar" : Str)) == ("bar" : Str) && barOk row ws wants (natD t) (rowD ms)) = _
  rw [barOk_bar ht hl pw hm, show ((("bar" : Str)) == ("bar" : Str)) = true by decide, Bool.true_and]
theorem shaped_tints (a : List Int) : SeqAt.shaped (.tuple (a.map .int)) = true := by
  have := lay_all (xs := a.map .int) (k := 0) fun x hx => by
    obtain ⟨y, _, rfl⟩ := List.mem_map.mp hx
    exact ⟨by rw [PyData.canLay0], by rw [PyData.depth]; exact Nat.le_refl _⟩
  unfold SeqAt.shaped
  rw [PyData.canLay0, this.1, PyData.depth, decide_eq_true (by omega)]
  rfl
theorem needs_drop {row wants : List Nat} {s v : Nat} : (needs row (wants.set s v)).drop (s + 1) = (needs row wants).drop (s + 1) := by
  unfold needs
  refine List.ext_getElem (by simp) fun i h1 h2 => ?_
  simp only [List.getElem_drop, List.getElem_map, List.getElem_range]
  exact Mf_congr _ _ fun j hj => dif_want j (by omega)
theorem needs_len (row wants : List Nat) : (needs row wants).length = row.length := by simp [needs]
theorem wide_end {row c : List Nat} {p : List (List Nat)} {s : Nat} (hs : s < row.length) (hr : runPlan row p = some c) (hb : ∀ st ∈ p, ∀ x ∈ st, x + 1 < row.length) : ∃ c', runPlan (row.set s (at0 row s + 1)) p = some c' ∧ ∀ x, at0 c x ≤ at0 c' x := by
  have hl : ((List.replicate row.length 0).set s 1).length = row.length := by simp
  have e : addL row ((List.replicate row.length 0).set s 1) = row.set s (at0 row s + 1) := by
    refine ext_at (by rw [addL_len hl]; simp) fun t ht => ?_
    rw [addL_len hl] at ht
    rw [addL_at hl, at0_set (by simpa using ht), at0_set ht]
    by_cases h : s = t
    · subst h; rw [if_pos rfl, if_pos rfl]
    · rw [if_neg h, if_neg h, at0_rep]; omega
  have q := addL_plan p hl hr hb
  rw [e] at q
  refine ⟨_, q, fun x => ?_⟩
  rw [addL_at (by rw [hl, runPlan_len p hr])]
  omega
theorem morew_own {ws : List (Nat × Nat)} {p : List (List Nat)} {k : Nat} {w : Nat × Nat} (ho : All2 OwnSt ws p) : All2 OwnSt (morew ws k w) (p.take k ++ [[]] ++ p.drop k) :=
  ((ho.take k).cat (show All2 OwnSt [w] [[]] from ⟨⟨.nil, fun x hx => (by cases hx)⟩, trivial⟩)).cat (ho.drop k)
theorem morew_run {row c : List Nat} {p : List (List Nat)} {k : Nat} (hr : runPlan row p = some c) : runPlan row (p.take k ++ [[]] ++ p.drop k) = some c := by
  obtain ⟨m, r1, r2⟩ := run_split hr k
  rw [runPlan_cat, runPlan_cat, r1]
  exact r2
theorem cert_first {row wants : List Nat} {ws : List (Nat × Nat)} (h2 : 2 ≤ row.length) (hws : Ways row.length ws) : ixD (certD row ws wants) (.int 0) = some (.str (if metB row ws wants then "plan" else "bar")) := by
  obtain ⟨rest, e⟩ := cert_word (row := row) (wants := wants) h2 hws
  rw [e]
  exact at_nat (j := 0) rfl
theorem set_back {r : List Nat} {s : Nat} (hs : s < r.length) (h : 0 < at0 r s) : (r.set s (at0 r s - 1)).set s (at0 (r.set s (at0 r s - 1)) s + 1) = r := by
  refine ext_at (by simp) fun t ht => ?_
  have ht : t < r.length := by simpa using ht
  rw [at0_set (by simpa using ht), at0_set hs, if_pos rfl]
  by_cases h2 : s = t
  · subst h2; rw [if_pos rfl]; omega
  · rw [if_neg h2, at0_set_ne h2]
theorem met_less {row wants : List Nat} {ws : List (Nat × Nat)} {s : Nat} (h1 : 1 ≤ row.length) (hw : Ways row.length ws) (hs : s < row.length) (hp : 0 < at0 row s) (h : metB row ws wants = false) : metB (row.set s (at0 row s - 1)) ws wants = false := by
  cases hm : metB (row.set s (at0 row s - 1)) ws wants with
  | false => rfl
  | true =>
    have := met_chair (s := s) (by rw [List.length_set]; exact h1) (by rw [List.length_set]; exact hw) (by rw [List.length_set]; exact hs) hm
    rw [set_back hs hp, h] at this
    cases this
theorem morew_back {ws : List (Nat × Nat)} {a : Nat} (h : a < ws.length) : morew (ws.take a ++ ws.drop (a + 1)) a ws[a] = ws := by
  unfold morew
  have hl : (ws.take a).length = a := by simp; omega
  rw [List.take_append_of_le_length (by omega), List.take_of_length_le (by omega), List.drop_append_of_le_length (by omega), List.drop_of_length_le (by omega), List.nil_append, List.append_assoc, List.singleton_append, List.getElem_cons_drop, List.take_append_drop]
theorem met_fewer {row wants : List Nat} {ws : List (Nat × Nat)} {a : Nat} (h1 : 1 ≤ row.length) (hw : Ways row.length ws) (ha : a < ws.length) (h : metB row ws wants = false) : metB row (ws.take a ++ ws.drop (a + 1)) wants = false := by
  cases hm : metB row (ws.take a ++ ws.drop (a + 1)) wants with
  | false => rfl
  | true =>
    have hv := hw _ (List.getElem_mem ha)
    have hw2 : Ways row.length (ws.take a ++ ws.drop (a + 1)) := fun w hw3 => by
      rcases List.mem_append.mp hw3 with q | q
      · exact hw w (List.mem_of_mem_take q)
      · exact hw w (List.mem_of_mem_drop q)
    have := met_walker (k := a) (w := ws[a]) h1 hw2 hv.1 hv.2 hm
    rw [morew_back ha, h] at this
    cases this
theorem isort_nat (xs : List Nat) : ∃ ms : List Nat, isort (xs.map fun (n : Nat) => (n : Int)) = ms.map (fun (n : Nat) => (n : Int)) ∧ ms.Pairwise (· ≤ ·) ∧ ms.length = xs.length ∧ ∀ x ∈ ms, x ∈ xs := by
  have hp := isort_perm (xs.map fun (n : Nat) => (n : Int))
  have hw := isort_pw (xs.map fun (n : Nat) => (n : Int))
  have hn : ∀ y ∈ isort (xs.map fun (n : Nat) => (n : Int)), ∃ x ∈ xs, (x : Int) = y := fun y hy => List.mem_map.mp (hp.mem_iff.mp hy)
  have hl := hp.length_eq
  rw [List.length_map] at hl
  generalize isort (xs.map fun (n : Nat) => (n : Int)) = L at *
  refine ⟨L.map Int.toNat, ?_, ?_, by rw [List.length_map]; exact hl, fun x hx => ?_⟩
  · rw [List.map_map]
    refine (List.map_congr_left (fun y hy => ?_)).trans (List.map_id L) |>.symm
    obtain ⟨x, _, rfl⟩ := hn y hy
    simp
  · rw [List.pairwise_map]
    exact hw.imp fun h => Int.toNat_le_toNat h
  · obtain ⟨y, hy, rfl⟩ := List.mem_map.mp hx
    obtain ⟨z, hz, rfl⟩ := hn y hy
    simpa using hz
theorem str_first {t : Str} {r : List D} : ∀ d ds, PySem.PyData.tuple (.str t :: r) = .tuple (d :: ds) → Cs d := fun d ds e => by
  injection e with e
  injection e with e
  rw [← e]
  exact cs_str t
end Dl

/-! Ranges upward by steps. -/
namespace Dl
open PySem PySem.Spec L2
def upN (i j c : Int) : Nat := (if i < j then (j - i - 1) / c + 1 else 0).toNat
/-- within a million -/
def inM (i : Int) : Bool := decide (-1000000 ≤ i) && decide (i ≤ 1000000)
theorem RgC.pos {i j c : Int} (h1 : -1000000 ≤ i) (h2 : i ≤ 1000000) (h3 : -1000000 ≤ j) (h4 : j ≤ 1000000) (c0 : 0 < c) (c1 : c ≤ 1000000) : RgC i j c (upN i j c) := by
  have hd : 0 ≤ (if i < j then (j - i - 1) / c + 1 else 0) ∧ (if i < j then (j - i - 1) / c + 1 else 0) ≤ 3000000 := by
    split
    · have a : 0 ≤ (j - i - 1) / c := Int.ediv_nonneg (by omega) (by omega)
      have b : (j - i - 1) / c ≤ j - i - 1 := Int.ediv_le_self _ (by omega)
      omega
    · omega
  have e : Builtin.Range.rangeSize i j c = (upN i j c : Int) := by
    unfold Builtin.Range.rangeSize upN
    rw [if_pos (show c > 0 from c0), Int.toNat_of_nonneg hd.1]
  refine ⟨by omega, by omega, ?_, e⟩
  unfold Builtin.Range.small
  unfold upN at e
  rw [Int.toNat_of_nonneg hd.1] at e
  rw [e]
  generalize (if i < j then (j - i - 1) / c + 1 else 0) = n at *
  simp only [Builtin.Range.rangeFitsLong, Bool.and_eq_true, Bool.or_eq_true, decide_eq_true_eq, beq_iff_eq, if_pos (show c > 0 from c0)]
  omega
noncomputable def iRangeP (a : Ax) : Ax := fun s => match a s with
  | some ([.int i, .int j, .int c], s1) => if inM i && inM j && (decide (0 < c) && inM c) then some (rgC i c (upN i j c), s1) else none
  | _ => none
section
variable {X : Cx} {C : Ct} {tg : Expr} {fr : Ax}
theorem di_rangeP {a b c : Expr} {p pos : Pos} (hg : Gl X "range") (hm : X.mg "range" = none) (ha : PA X [a, b, c] (tA X.K C fr))
    (hs : starEach [a, b, c] X.env = (false, eval a X.env) :: starEach [b, c] X.env := by rfl) (hpl : (backTo pos (starEach [b, c] X.env)).any (·.1) = false := by rfl) :
    PI X tg (.Call (.Name "range" p) [a, b, c] [] pos) (tI X.K C (iRangeP fr)) := pi_imp (pi_range3 hg hm ha hs hpl) fun σ H R ⟨F, s, d, s', w, e, q⟩ => by
  unfold iRangeP at e
  split at e
  · rename_i i j k s1 ea
    split at e
    · rename_i hj
      cases e
      unfold inM at hj
      simp only [Bool.and_eq_true, decide_eq_true_eq] at hj
      obtain ⟨⟨⟨h1, h2⟩, h3, h4⟩, h5, h6, h7⟩ := hj
      refine tA_run w ea fun vs F1 H1 m1 w1 r1 => ?_
      cases r1 with
      | cons r0 rn =>
        cases rn with
        | cons r2 rn =>
          cases rn with
          | cons r3 rn =>
            cases rn
            cases r0
            cases r2
            cases r3
            exact ⟨i, j, k, upN i j k, rfl, RgC.pos h1 h2 h3 h4 h5 h7, q _ F1 H1 m1 w1 walkD_rangeC⟩
    · cases e
  · cases e
end
section
variable {X : Cx}
theorem od_notIn (hu : X.A.units + 65 < cLine) : OpD X (compareOp .NotIn) notInD := by
  intro pins s σ H x y v u Q I rx ry ⟨F, d, e, r, i, hx, hy, hg, q⟩
  unfold notInD at hg
  split at hg
  · split at hg
    · rename_i hb
      simp only [Bool.and_eq_true] at hb
      cases hg
      obtain ⟨as, r1⟩ := Dp.reads I d x v (dp_sh i hx hb.1) rx
      obtain ⟨bs, r2⟩ := Dp.reads I _ y u (dp_sh i hy hb.2) ry
      have c2 := SeqAt.canLay_of_shaped hb.2
      exact SeqAt.notIn_list_reads r2 r1 (by simpa [PyData.canLay0] using c2) (SeqAt.canLay_of_shaped hb.1) (room_in hb.1 hu) ⟨.bl _, H, I, rfl, q _ F H (.refl i) (.bl _)⟩
    · cases hg
  · split at hg
    · rename_i hb
      simp only [Bool.and_eq_true] at hb
      cases hg
      obtain ⟨as, r1⟩ := Dp.reads I d x v (dp_sh i hx hb.1) rx
      obtain ⟨bs, r2⟩ := Dp.reads I _ y u (dp_sh i hy hb.2) ry
      have c2 := SeqAt.canLay_of_shaped hb.2
      exact SeqAt.notIn_tuple_reads r2 r1 (by simpa [PyData.canLay0] using c2) (SeqAt.canLay_of_shaped hb.1) (room_in hb.1 hu) ⟨.bl _, H, I, rfl, q _ F H (.refl i) (.bl _)⟩
    · cases hg
  · cases hg
end
/-- names from the items of a list -/
def pLst (n : Nat) (b : List D → S → Option S) : Pt := fun d s => match d with
  | .list ds => if ds.length = n then b ds s else none
  | _ => none
section
variable {X : Cx} {C : Ct} {es : List Expr} {r : List D → S → Option S} {sl : List Nat} {pos : Pos}
theorem dg_lst {k n : Nat} (hc : X.calm = true) (h : PGs X es (gDs X.K C r sl)) (hn : (assignEach es X.env).length = n := by rfl) (hst : (assignEach es X.env).findIdx? (·.1) = none := by rfl) : PG X (.Tuple es k pos) (gD X.K C (pLst n r) sl) :=
  pg_imp (pg_lst hc h hn hst) fun v σ H Q ⟨F, s, d, s', w, rv, eb, q⟩ => by
    cases rv with
    | @lst a xs ds hs rs =>
      have eb' : (if ds.length = n then r ds s else none) = some s' := eb
      split at eb'
      · rename_i hl
        exact ⟨a, xs, rfl, .inl (.inl (w.into _ _ hs)), by rw [rs.len]; exact hl, F, s, ds, s', w, rs, eb', q⟩
      · cases eb'
    | _ => cases eb
end
@[simp] theorem ev_pLst (n : Nat) (k : List D → S → Option S) (ds : List D) (s : S) : pLst n k (.list ds) s = if ds.length = n then k ds s else none := Eq.trans rfl rfl
def kRP (Q : QA) (ds : List D) (s : S) : Prop := match ds with
  | [.int i, .int j, .int c] => if inM i && inM j && (decide (0 < c) && inM c) then Q (rgC i c (upN i j c)) s else False
  | _ => False
@[simp] theorem kRP_ (Q : QA) (s : S) (i j c : Int) : kRP Q [.int i, .int j, .int c] s = if inM i && inM j && (decide (0 < c) && inM c) then Q (rgC i c (upN i j c)) s else False := Eq.trans rfl rfl
@[simp] theorem wA_RangeP (r : Ax) (s : S) (Q : QA) : wA (iRangeP r) s Q = wA r s (kRP Q) := by
  unfold wA iRangeP
  cases r s with
  | none => rfl
  | some p =>
    obtain ⟨ds, s1⟩ := p
    unfold kRP
    rcases ds with _ | ⟨d, _ | ⟨d2, _ | ⟨d3, _ | ⟨d4, t⟩⟩⟩⟩
    · rfl
    · cases d <;> rfl
    · cases d <;> try rfl
      cases d2 <;> rfl
    · cases d <;> try rfl
      cases d2 <;> try rfl
      cases d3 <;> try rfl
      rename_i i j c
      dsimp only
      by_cases hc : (inM i && inM j && (decide (0 < c) && inM c)) = true
      · rw [if_pos hc, if_pos hc]
      · rw [if_neg hc, if_neg hc]
    · cases d <;> try rfl
      cases d2 <;> try rfl
      cases d3 <;> rfl
theorem inM_nat {i : Nat} (h : i ≤ 1000000) : inM (i : Int) = true := by
  unfold inM
  rw [decide_eq_true (by omega), decide_eq_true (by omega)]
  rfl
/-- what a range by steps gives lies within it -/
theorem rgC_mem {n : Nat} {c : Int} {x : D} (hc : 0 < c) (hx : x ∈ rgC 0 c (upN 0 (n : Int) c)) : ∃ k : Nat, k < n ∧ x = natD k := by
  unfold rgC at hx
  obtain ⟨k, hk, rfl⟩ := List.mem_map.mp hx
  have hk := List.mem_range.mp hk
  unfold upN at hk
  by_cases h0 : (0 : Int) < (n : Int)
  · rw [if_pos h0] at hk
    have a : 0 ≤ ((n : Int) - 0 - 1) / c := Int.ediv_nonneg (by omega) (by omega)
    have b : (k : Int) ≤ ((n : Int) - 0 - 1) / c := by omega
    have d : (k : Int) * c ≤ ((n : Int) - 0 - 1) / c * c := Int.mul_le_mul_of_nonneg_right b (by omega)
    have e := Int.ediv_mul_le ((n : Int) - 0 - 1) (show c ≠ 0 by omega)
    have f : 0 ≤ (k : Int) * c := Int.mul_nonneg (by omega) (by omega)
    refine ⟨((k : Int) * c).toNat, by omega, ?_⟩
    show PyData.int _ = PyData.int _
    rw [Int.toNat_of_nonneg f, Int.zero_add]
  · rw [if_neg h0] at hk
    exact absurd hk (by simp)
end Dl

namespace Df
open Dl
noncomputable def g_limited_plan_b7b8_2 : Bd := (bIf (tAndX (tOf (dBin gtD (dAt 3 (dVar 9)) (dC (.int 0)))) (tOf (dBin gtD (dAt 4 (dVar 9)) (dC (.int 0))))) (bSeq (bAugAt subD 3 (dVar 9) (dC (.int 1)))
      (bSeq (bAugAt iaddD 3 (dBin addD (dVar 9) (dC (.int 1))) (dC (.int 1)))
      (bSeq (bAugAt subD 4 (dVar 9) (dC (.int 1)))
      (bApp 8 (aCons (dVar 9) aNil))))) bNil)
noncomputable def g_limited_plan_b7b8_1 : Bd := (bSeq (bSetO 8 (oLst aNil))
      (bSeq (bFor (iRange2 (aCons (dVar 6) (aCons (dVar 7) aNil))) (pName 9) g_limited_plan_b7b8_2)
      (bApp 5 (aCons (dApp tupleD (aCons (dVar 8) aNil)) aNil))))
noncomputable def b_limited_plan_b7b8 : Bd := (bSeq (bSetO 3 (oList (dVar 0)))
      (bSeq (bSetO 4 (oList (dVar 2)))
      (bSeq (bSetO 5 (oLst aNil))
      (bSeq (bFor (iSeq (dVar 1)) (pTup 2 (pCons (pName 6) (pCons (pName 7) pNil))) g_limited_plan_b7b8_1)
      (bRet (dApp tupleD (aCons (dVar 5) aNil)))))))
noncomputable def f_limited_plan_b7b8 : List D → Option D := fnP 10 b_limited_plan_b7b8
/-- limited_plan is the limited plan -/
theorem limited_ok {row l : List Nat} {ws : List (Nat × Nat)} {ld : D} (hd : ld = .list (l.map natD) ∨ ld = .tuple (l.map natD)) (hl : l.length + 1 = row.length) (hr : row.length ≤ 1000) (hw : Ways row.length ws) (hn : ws.length ≤ 1000) :
    f_limited_plan_b7b8 [rowD row, walkD ws, ld] = some (planD (limPlan row l ws)) := by
  unfold f_limited_plan_b7b8 fnP b_limited_plan_b7b8
  obtain ⟨s', k1, v6, v7, v8, v9, rfl, h1, h2, h3⟩ := forL_relN (b := pTup 2 (pCons (pName 6) (pCons (pName 7) pNil))) (g := g_limited_plan_b7b8_1)
    (fun k (a : List Nat × List Nat × List (List Nat)) s => ∃ v6 v7 v8 v9 : Option Sl, s = ⟨[some (.fz (rowD row)), some (.fz (walkD ws)), some (.fz ld), some (.ow (a.1.map natD)), some (.ow (a.2.1.map natD)), some (.ow (a.2.2.map stD)), v6, v7, v8, v9], [], 0⟩ ∧
      a.1.length = row.length ∧ a.2.1.length + 1 = row.length ∧ a.2.2.length = k)
    limAll wayD ws 0 (row, l, []) ⟨[some (.fz (rowD row)), some (.fz (walkD ws)), some (.fz ld), some (.ow (row.map natD)), some (.ow (l.map natD)), some (.ow []), none, none, none, none], [], 0⟩
    ⟨_, _, _, _, rfl, rfl, hl, rfl⟩ (by
    rintro j ⟨f, t⟩ ⟨c, left, plan⟩ s hj ⟨v6, v7, v8, v9, rfl, h1, h2, h3⟩
    obtain ⟨hft, htn⟩ := hw (f, t) (List.mem_of_getElem? hj)
    have hjn := (List.getElem?_eq_some_iff.mp hj).1
    dsimp only at h1 h2 h3 hft htn
    obtain ⟨s', k1, v9', rfl, q1, q2, q3⟩ := forL_relN (b := pName 9) (g := g_limited_plan_b7b8_2)
      (fun k (a : List Nat × List Nat × List Nat) s => ∃ v9 : Option Sl, s = ⟨[some (.fz (rowD row)), some (.fz (walkD ws)), some (.fz ld), some (.ow (a.1.map natD)), some (.ow (a.2.1.map natD)), some (.ow (plan.map stD)), some (.fz (natD f)), some (.fz (natD t)), some (.ow (a.2.2.map natD)), v9], [], 0⟩ ∧
        a.1.length = row.length ∧ a.2.1.length + 1 = row.length ∧ a.2.2.length ≤ k)
      limStep natD (List.range' f (t - f)) 0 (c, left, []) ⟨[some (.fz (rowD row)), some (.fz (walkD ws)), some (.fz ld), some (.ow (c.map natD)), some (.ow (left.map natD)), some (.ow (plan.map stD)), some (.fz (natD f)), some (.fz (natD t)), some (.ow []), v9], [], 0⟩
      ⟨_, rfl, h1, h2, Nat.le_refl _⟩ (by
      rintro i x ⟨c, left, st⟩ s hi ⟨v9, rfl, h1, h2, h3⟩
      dsimp only at h1 h2 h3
      have hit : i < t - f := by
        have := (List.getElem?_eq_some_iff.mp hi).1
        simpa using this
      have hx : x = f + i := by
        have e := List.getElem?_range' (s := f) (step := 1) hit
        rw [e] at hi
        have := Option.some.inj hi
        omega
      have hx1 : x < c.length := by omega
      have hx2 : x + 1 < c.length := by omega
      have hx3 : x < left.length := by omega
      have hx4 : x + 1 < (c.set x (at0 c x - 1)).length := by simpa using hx2
      have a1 := nat_at hx1
      have a2 := nat_at hx3
      have a3 := nat_at1 hx4
      rw [at0_set_ne (show x ≠ x + 1 by omega)] at a3
      have ll := limStep_len (c, left, st) x
      dsimp only at ll
      by_cases hp : 0 < at0 c x ∧ 0 < at0 left x
      · have d1 := nat_dec hx1 hp.1
        have d2 := nat_inc1 hx4
        rw [at0_set_ne (show x ≠ x + 1 by omega)] at d2
        have d3 := nat_dec hx3 hp.2
        have hz : st.length < 16777216 := by omega
        have g1 : (0 : Int) < (at0 c x : Int) := by omega
        have g2 : (0 : Int) < (at0 left x : Int) := by omega
        refine ⟨_, ⟨[some (.fz (rowD row)), some (.fz (walkD ws)), some (.fz ld), some (.ow ((carry c x).map natD)), some (.ow ((left.set x (at0 left x - 1)).map natD)), some (.ow (plan.map stD)), some (.fz (natD f)), some (.fz (natD t)), some (.ow ((st ++ [x]).map natD)), some (.fz (natD x))], [], 0⟩, rfl, .inl ?_, some (.fz (natD x)), ?_, by omega, by omega, by omega⟩
        · unfold g_limited_plan_b7b8_2
          simp [-List.map_set, a1, a2, a3, d1, d2, d3, hz, g1, g2, hp.1, hp.2, carry]
        · simp [limStep, hp]
      · refine ⟨_, ⟨[some (.fz (rowD row)), some (.fz (walkD ws)), some (.fz ld), some (.ow (c.map natD)), some (.ow (left.map natD)), some (.ow (plan.map stD)), some (.fz (natD f)), some (.fz (natD t)), some (.ow (st.map natD)), some (.fz (natD x))], [], 0⟩, rfl, .inl ?_, some (.fz (natD x)), ?_, by omega, by omega, by omega⟩
        · unfold g_limited_plan_b7b8_2
          by_cases g1 : 0 < at0 c x
          · have g2 : ¬ 0 < at0 left x := fun h => hp ⟨g1, h⟩
            simp [a1, a2, g1, g2]
          · simp [a1, g1]
        · simp [limStep, hp])
    have hz : plan.length < 16777216 := by omega
    have r1 := inR_nat (i := f) (by omega)
    have r2 := inR_nat (i := t) (by omega)
    have e3 : ((t : Int) - (f : Int)).toNat = t - f := by omega
    refine ⟨⟨[some (.fz (rowD row)), some (.fz (walkD ws)), some (.fz ld), some (.ow (c.map natD)), some (.ow (left.map natD)), some (.ow (plan.map stD)), some (.fz (natD f)), some (.fz (natD t)), v8, v9], [], 0⟩, ⟨[some (.fz (rowD row)), some (.fz (walkD ws)), some (.fz ld), some (.ow ((limWalk c left (f, t)).1.map natD)), some (.ow ((limWalk c left (f, t)).2.1.map natD)), some (.ow ((plan ++ [(limWalk c left (f, t)).2.2]).map stD)), some (.fz (natD f)), some (.fz (natD t)), some (.fz (.list ((limWalk c left (f, t)).2.2.map natD))), v9'], [], 0⟩, by simp [wayD], .inl ?_, some (.fz (natD f)), some (.fz (natD t)), some (.fz (.list ((limWalk c left (f, t)).2.2.map natD))), v9', rfl, q1, q2, by simp [limAll, h3]⟩
    unfold g_limited_plan_b7b8_1
    simp [rgD_nat, r1, r2, e3, k1, hz]
    simp [limWalk, stD])
  unfold rowD walkD at k1
  rcases hd with rfl | rfl
  · simp [k1, rowD, walkD, planD, limPlan]
  · simp [k1, rowD, walkD, planD, limPlan]

end Df

namespace Df
open Dl
noncomputable def g_running_counts_a84c_1 : Bd := (bApp 2 (aCons (dBin addD (dAt 2 (dUn negD (dC (.int 1)))) (dMt countD (dVar 3) (aCons (dVar 1) aNil))) aNil))
noncomputable def b_running_counts_a84c : Bd := (bSeq (bSetO 2 (oLst (aCons (dC (.int 0)) aNil)))
      (bSeq (bFor (iSeq (dVar 0)) (pName 3) g_running_counts_a84c_1)
      (bRet (dApp tupleD (aCons (dVar 2) aNil)))))
noncomputable def f_running_counts_a84c : List D → Option D := fnP 4 b_running_counts_a84c
-- needs Fd8
theorem running_ok {p : List (List Nat)} {s n : Nat} (ht : Tidy n p) (hn : n ≤ 1000) (hl : p.length ≤ 1000) : f_running_counts_a84c [planD p, .int (s : Int)] = some (rowD (countsN s p)) := by
  unfold f_running_counts_a84c
  apply fnP_w
  unfold b_running_counts_a84c
  have sp := seq_plan p
  generalize hpd : planD p = pd at sp
  simp [sp]
  obtain ⟨P, hP⟩ : ∃ P : Nat → S → Prop, P = (fun (k : Nat) (st : S) => ∃ v3, st = ⟨[fz pd, fz (.int (s : Int)), some (.ow ((countsN s (p.take k)).map natD)), v3], [], 0⟩) := ⟨_, rfl⟩
  refine wF_inv P 0 (by rw [hP]; exact ⟨none, rfl⟩) (fun j x st hj hp => ?_) fun st hp => ?_
  · rw [hP] at hp
    obtain ⟨v3, rfl⟩ := hp
    rw [List.getElem?_map] at hj
    obtain ⟨q, hq, rfl⟩ := Option.map_eq_some_iff.mp hj
    obtain ⟨hjl, hqe⟩ := List.getElem?_eq_some_iff.mp hq
    rw [Nat.zero_add] at *
    have hst := ht q (List.mem_of_getElem? hq)
    have c1 := count_stD (s := s) (n := n) hst.1 (fun x hx => by have := hst.2 x hx; omega) hn
    have l1 := countsN_last (s := s) (p := p.take j)
    have sz : (countsN s (p.take j)).length < 16777216 := by rw [countsN_len, List.length_take]; omega
    have cn := cnt_nat (s := s) hjl
    rw [hqe] at cn
    unfold g_running_counts_a84c_1
    generalize stD q = qd at *
    simp [l1, c1, sz]
    rw [hP]
    refine ⟨fz qd, ?_⟩
    rw [countsN_succ hjl, ← cn]
    simp
  · rw [hP] at hp
    obtain ⟨v3, rfl⟩ := hp
    rw [List.length_map, Nat.zero_add, List.take_length]
    simp [rowD]

end Df

/-! The further questions: how many walkers are enough, who is idle, how many chairs are missing, what can be where. -/
namespace Dl
open PySem PySem.Spec L2

/-- the walkers without one -/
def dropW (ws : List (Nat × Nat)) (a : Nat) : List (Nat × Nat) := ws.take a ++ ws.drop (a + 1)
/-- the least number of first walkers who are enough -/
def leastT (row : List Nat) (ws : List (Nat × Nat)) (wants : List Nat) : Option Nat := (List.range (ws.length + 1)).find? fun t => metB row (ws.take t) wants
/-- the idle walkers -/
def idleL (row : List Nat) (ws : List (Nat × Nat)) (wants : List Nat) : List Nat := (List.range ws.length).filter fun a => metB row (dropW ws a) wants
/-- the most at a station -/
def mostN (row : List Nat) (ws : List (Nat × Nat)) (s : Nat) : Nat := at0 row s + cnt ((s : Int) - 1) (duePlan row ws)
theorem dropW_len {ws : List (Nat × Nat)} {a : Nat} (h : a < ws.length) : (dropW ws a).length + 1 = ws.length := by
  unfold dropW
  simp
  omega
theorem ways_dropW {n : Nat} {ws : List (Nat × Nat)} (h : Ways n ws) (a : Nat) : Ways n (dropW ws a) := fun w hw => by
  rcases List.mem_append.mp hw with q | q
  · exact h w (List.mem_of_mem_take q)
  · exact h w (List.mem_of_mem_drop q)
theorem range_find {n : Nat} {p : Nat → Bool} {t : Nat} : (List.range n).find? p = some t ↔ t < n ∧ p t = true ∧ ∀ j, j < t → p j = false := by
  rw [List.find?_range_eq_some]
  simp only [List.mem_range, Bool.not_eq_true']
  constructor
  · rintro ⟨a, b, c⟩
    exact ⟨b, a, fun j hj => by simpa using c j hj⟩
  · rintro ⟨a, b, c⟩
    exact ⟨b, a, fun j hj => by simpa using c j hj⟩
theorem met_next {row wants : List Nat} {ws : List (Nat × Nat)} {t : Nat} (h1 : 1 ≤ row.length) (hw : Ways row.length ws) (h : metB row (ws.take t) wants = true) : metB row (ws.take (t + 1)) wants = true := by
  by_cases ht : t < ws.length
  · have hv := hw _ (List.getElem_mem ht)
    have := met_walker (k := t) (w := ws[t]) h1 (ways_take hw t) hv.1 hv.2 h
    have e : morew (ws.take t) t ws[t] = ws.take (t + 1) := by
      unfold morew
      rw [List.take_of_length_le (by simp; omega), List.drop_of_length_le (by simp; omega), List.append_nil]
      simp
    rwa [e] at this
  · rw [List.take_of_length_le (by omega)] at h ⊢
    exact h
theorem met_up {row wants : List Nat} {ws : List (Nat × Nat)} (h1 : 1 ≤ row.length) (hw : Ways row.length ws) {t u : Nat} (htu : t ≤ u) (h : metB row (ws.take t) wants = true) : metB row (ws.take u) wants = true := by
  induction u with
  | zero => rwa [show t = 0 by omega] at h
  | succ u ih =>
    by_cases e : t = u + 1
    · rwa [e] at h
    · exact met_next h1 hw (ih (by omega))
theorem met_all {row wants : List Nat} {ws : List (Nat × Nat)} (h1 : 1 ≤ row.length) (hw : Ways row.length ws) {t : Nat} (h : metB row (ws.take t) wants = true) : metB row ws wants = true := by
  have := met_up h1 hw (Nat.le_add_right t ws.length) h
  rwa [List.take_of_length_le (by omega)] at this
theorem least_some {row wants : List Nat} {ws : List (Nat × Nat)} {t : Nat} : leastT row ws wants = some t ↔ t ≤ ws.length ∧ metB row (ws.take t) wants = true ∧ ∀ j, j < t → metB row (ws.take j) wants = false := by
  unfold leastT
  rw [range_find]
  constructor <;> rintro ⟨a, b, c⟩ <;> exact ⟨by omega, b, c⟩
theorem least_none {row wants : List Nat} {ws : List (Nat × Nat)} (h1 : 1 ≤ row.length) (hw : Ways row.length ws) : leastT row ws wants = none ↔ metB row ws wants = false := by
  unfold leastT
  rw [List.find?_eq_none]
  constructor
  · intro h
    have := h ws.length (by simp)
    rw [List.take_of_length_le (Nat.le_refl _)] at this
    simpa using this
  · intro h t ht hm
    have := met_all h1 hw hm
    rw [h] at this
    cases this
theorem least_is {row wants : List Nat} {ws : List (Nat × Nat)} (h1 : 1 ≤ row.length) (hw : Ways row.length ws) : (leastT row ws wants).isSome = metB row ws wants := by
  cases h : metB row ws wants with
  | false => rw [(least_none h1 hw).mpr h]; rfl
  | true =>
    cases hl : leastT row ws wants with
    | some t => rfl
    | none =>
      rw [(least_none h1 hw).mp hl] at h
      cases h
theorem idle_mem {row wants : List Nat} {ws : List (Nat × Nat)} {a : Nat} : a ∈ idleL row ws wants ↔ a < ws.length ∧ metB row (dropW ws a) wants = true := by
  unfold idleL
  simp
theorem idle_met {row wants : List Nat} {ws : List (Nat × Nat)} {a : Nat} (h1 : 1 ≤ row.length) (hw : Ways row.length ws) (h : a ∈ idleL row ws wants) : metB row ws wants = true := by
  obtain ⟨ha, hm⟩ := idle_mem.mp h
  cases hx : metB row ws wants with
  | true => rfl
  | false =>
    have := met_fewer h1 hw ha hx
    unfold dropW at hm
    rw [this] at hm
    cases hm
theorem idle_none {row wants : List Nat} {ws : List (Nat × Nat)} (h1 : 1 ≤ row.length) (hw : Ways row.length ws) (h : metB row ws wants = false) : idleL row ws wants = [] := by
  rw [List.eq_nil_iff_forall_not_mem]
  intro a ha
  rw [idle_met h1 hw ha] at h
  cases h
theorem dropW_last {ws : List (Nat × Nat)} : dropW ws (ws.length - 1) = ws.take (ws.length - 1) := by
  unfold dropW
  rw [List.drop_of_length_le (by omega), List.append_nil]
/-- the last walker is idle if fewer are enough -/
theorem idle_last {row wants : List Nat} {ws : List (Nat × Nat)} {t : Nat} (h1 : 1 ≤ row.length) (hw : Ways row.length ws) (h : leastT row ws wants = some t) : (ws.length - 1 ∈ idleL row ws wants ∧ 0 < ws.length) ↔ t < ws.length := by
  obtain ⟨a, b, c⟩ := least_some.mp h
  rw [idle_mem, dropW_last]
  constructor
  · rintro ⟨⟨q, m⟩, z⟩
    by_cases ht : t < ws.length
    · exact ht
    · have := c (ws.length - 1) (by omega)
      rw [m] at this
      cases this
  · intro ht
    exact ⟨⟨by omega, met_up h1 hw (by omega) b⟩, by omega⟩
theorem met_wants {row wants less : List Nat} {ws : List (Nat × Nat)} (h1 : 1 ≤ row.length) (hl : ∀ s, at0 less s ≤ at0 wants s) (h : metB row ws wants = true) : metB row ws less = true := by
  rw [metB_iff h1] at h ⊢
  intro k hk
  have a := h k hk
  have b := needN_mono (row := row) (row' := row) (wants := less) (wants' := wants) rfl (fun i => by unfold dif; have := hl i; omega) k
  omega
/-- what a possible plan leads to can be wanted -/
theorem met_reached {row c wants : List Nat} {ws : List (Nat × Nat)} {p : List (List Nat)} (h2 : 2 ≤ row.length) (hw : Ways row.length ws) (ho : All2 OwnSt ws p) (hr : runPlan row p = some c) (met : ∀ s, s < row.length → at0 wants s ≤ at0 c s) : metB row ws wants = true := by
  cases cert_is (wants := wants) h2 hw with
  | plan c e run own met need => exact (metB_iff (by omega)).mpr need
  | bar k t e h3 h4 bnd more =>
    exfalso
    have hl := moms_len row ws k
    refine no_bar hw ho hr met (moms_asc row ws k) (moms_le row ws k) (t := t) (by omega) h4 ?_
    rw [hl]
    exact more
end Dl

/-! What one chair more and one walker more change, and what can be wanted at a station alone. -/
namespace Dl
open PySem PySem.Spec L2

theorem cnt_lt0 (p : List (List Nat)) : cnt (((0 : Nat) : Int) - 1) p = 0 := by
  rw [show ((0 : Nat) : Int) - 1 = -1 from rfl, cnt_neg]
theorem succ_pred (s : Nat) : ((s + 1 : Nat) : Int) - 1 = (s : Int) := by omega
theorem chair_le {row : List Nat} {ws : List (Nat × Nat)} {o : Nat} (hw : Ways row.length ws) (ho : o < row.length) : ∀ s, s < row.length → ∀ t, t ≤ ws.length →
    (cnt s ((duePlan (row.set o (at0 row o + 1)) ws).take t) : Int) ≤ cnt s ((duePlan row ws).take t) + (if o ≤ s then 1 else 0) := by
  intro s
  induction s with
  | zero =>
    intro hs t
    induction t with
    | zero => intro _; simp [cnt_nil]; split <;> omega
    | succ t ih =>
      intro ht
      have a := ih (by omega)
      rw [due_rec (row := row.set o (at0 row o + 1)) (by rw [List.length_set]; exact hw) (by rw [List.length_set]; exact hs) (by omega), due_rec hw hs (by omega), cnt_lt0, cnt_lt0, at0_set hs]
      by_cases h0 : o = 0
      · subst h0
        simp at a ⊢
        omega
      · rw [if_neg h0]
        rw [if_neg (by omega)] at a ⊢
        omega
  | succ s ihs =>
    intro hs t
    induction t with
    | zero => intro _; simp [cnt_nil]; split <;> omega
    | succ t ih =>
      intro ht
      have a := ih (by omega)
      have b := ihs (by omega) (t + 1) ht
      rw [due_rec (row := row.set o (at0 row o + 1)) (by rw [List.length_set]; exact hw) (by rw [List.length_set]; exact hs) (by omega), due_rec hw hs (by omega), succ_pred, at0_set hs]
      by_cases h0 : o = s + 1
      · rw [if_pos h0]
        rw [if_pos (by omega)] at a ⊢
        rw [if_neg (by omega)] at b
        subst h0
        omega
      · rw [if_neg h0]
        by_cases h1 : o ≤ s
        · rw [if_pos (by omega)] at a ⊢
          rw [if_pos h1] at b
          omega
        · rw [if_neg (by omega)] at a ⊢
          rw [if_neg h1] at b
          omega
/-- one chair more at o: the most at s -/
theorem most_chair {row : List Nat} {ws : List (Nat × Nat)} {o s : Nat} (hw : Ways row.length ws) (ho : o < row.length) (hs : s < row.length) :
    mostN row ws s ≤ mostN (row.set o (at0 row o + 1)) ws s ∧ mostN (row.set o (at0 row o + 1)) ws s ≤ mostN row ws s + (if o ≤ s then 1 else 0) := by
  unfold mostN
  rw [at0_set hs]
  cases s with
  | zero =>
    rw [cnt_lt0, cnt_lt0]
    by_cases h : o = 0
    · subst h; simp
    · rw [if_neg h, if_neg (by omega)]; omega
  | succ s =>
    have a := chair_le hw ho s (by omega) ws.length (Nat.le_refl _)
    have b := wide_more hw ho (Nat.le_refl ws.length) (x := s) (by omega)
    rw [List.take_of_length_le (by rw [due_len]; omega), List.take_of_length_le (by rw [due_len]; omega)] at a b
    rw [succ_pred]
    by_cases h : o = s + 1
    · rw [if_pos h, if_pos (by omega)]
      rw [if_neg (by omega)] at a
      subst h
      omega
    · rw [if_neg h]
      by_cases h1 : o ≤ s
      · rw [if_pos (by omega)]
        rw [if_pos h1] at a
        omega
      · rw [if_neg (by omega)]
        rw [if_neg h1] at a
        omega
theorem morew_take {ws : List (Nat × Nat)} {k : Nat} {w : Nat × Nat} (h : k ≤ ws.length) : (morew ws k w).take k = ws.take k := by
  unfold morew
  rw [List.append_assoc, List.take_append_of_le_length (by simp; omega), List.take_of_length_le (by simp; omega)]
theorem morew_at {ws : List (Nat × Nat)} {k t : Nat} {w : Nat × Nat} (h : k ≤ t) (hk : k ≤ ws.length) : (morew ws k w)[t + 1]? = ws[t]? := by
  unfold morew
  have l : (ws.take k ++ [w]).length = k + 1 := by simp; omega
  rw [List.getElem?_append_right (by omega), l, List.getElem?_drop]
  congr 1
  omega
theorem wk_le (ws : List (Nat × Nat)) (s t : Nat) : wk ws s t ≤ 1 := by
  unfold wk
  split
  · unfold one; split <;> omega
  · omega
theorem walker_le {row : List Nat} {ws : List (Nat × Nat)} {k : Nat} {w : Nat × Nat} (hw : Ways row.length ws) (h1 : w.1 < w.2) (h2 : w.2 < row.length) (hk : k ≤ ws.length) : ∀ s, s < row.length → ∀ d, k + d ≤ ws.length →
    (cnt s ((duePlan row (morew ws k w)).take (k + d + 1)) : Int) ≤ cnt s ((duePlan row ws).take (k + d)) + 1 := by
  have hm := morew_ways (k := k) hw h1 h2
  have hl := morew_len (ws := ws) (k := k) (w := w)
  intro s
  induction s with
  | zero =>
    intro hs d
    induction d with
    | zero =>
      intro _
      have a := due_rec hm hs (t := k) (by omega)
      rw [due_take _ _ k, morew_take hk, ← due_take] at a
      have := wk_le (morew ws k w) 0 k
      simp only [Nat.add_zero]
      omega
    | succ d ih =>
      intro ht
      have a := ih (by omega)
      have b := due_rec hm hs (t := k + d + 1) (by omega)
      have c := due_rec hw hs (t := k + d) (by omega)
      have e : wk (morew ws k w) 0 (k + d + 1) = wk ws 0 (k + d) := by unfold wk; rw [morew_at (by omega) hk]
      rw [cnt_lt0] at b c
      rw [← Nat.add_assoc]
      omega
  | succ s ihs =>
    intro hs d
    induction d with
    | zero =>
      intro _
      have a := due_rec hm hs (t := k) (by omega)
      rw [due_take _ _ k, morew_take hk, ← due_take] at a
      have := wk_le (morew ws k w) (s + 1) k
      simp only [Nat.add_zero]
      omega
    | succ d ih =>
      intro ht
      have a := ih (by omega)
      have q := ihs (by omega) (d + 1) ht
      have b := due_rec hm hs (t := k + d + 1) (by omega)
      have c := due_rec hw hs (t := k + d) (by omega)
      have e : wk (morew ws k w) (s + 1) (k + d + 1) = wk ws (s + 1) (k + d) := by unfold wk; rw [morew_at (by omega) hk]
      rw [succ_pred] at b c
      rw [← Nat.add_assoc] at q ⊢
      omega
/-- one walker more: the most at s -/
theorem most_walker {row : List Nat} {ws : List (Nat × Nat)} {k s : Nat} {w : Nat × Nat} (hw : Ways row.length ws) (h1 : w.1 < w.2) (h2 : w.2 < row.length) (hk : k ≤ ws.length) (hs : s < row.length) :
    mostN row ws s ≤ mostN row (morew ws k w) s ∧ mostN row (morew ws k w) s ≤ mostN row ws s + 1 := by
  unfold mostN
  cases s with
  | zero => rw [cnt_lt0, cnt_lt0]; omega
  | succ s =>
    have hl := morew_len (ws := ws) (k := k) (w := w)
    have a := walker_le hw h1 h2 hk s (by omega) (ws.length - k) (by omega)
    have b := morew_most (k := k) hw h1 h2 (x := s) (by omega)
    rw [show k + (ws.length - k) = ws.length by omega, List.take_of_length_le (by rw [due_len]; omega), List.take_of_length_le (by rw [due_len]; omega)] at a
    rw [succ_pred]
    omega
/-- wants at one station alone -/
def alone (n s m : Nat) : List Nat := (List.replicate n 0).set s m
theorem alone_at {n s m k : Nat} (hk : k < n) : at0 (alone n s m) k = if s = k then m else 0 := by
  unfold alone
  rw [at0_set (by simpa using hk), at0_rep]
theorem alone_need {row : List Nat} {ws : List (Nat × Nat)} {s : Nat} (hw : Ways row.length ws) (hs : s < row.length) : ∀ j k, k + j = row.length →
    (needN row (alone row.length s (mostN row ws s)) k : Int) ≤ cnt ((k : Int) - 1) (duePlan row ws) ∧ (s < k → needN row (alone row.length s (mostN row ws s)) k = 0)
  | 0, k, h => by
    rw [needN_end (by omega)]
    exact ⟨by omega, fun _ => rfl⟩
  | j + 1, k, h => by
    obtain ⟨a, b⟩ := alone_need (s := s) hw hs j (k + 1) (by omega)
    rw [succ_pred] at a
    have e := needN_step (row := row) (wants := alone row.length s (mostN row ws s)) (s := k) (by omega)
    have fl := car_flow hw (due_own row ws) (due_run row ws) k ws.length (by omega)
    rw [List.take_of_length_le (by rw [due_len]; omega)] at fl
    have d : dif row (alone row.length s (mostN row ws s)) k = (if s = k then (mostN row ws s : Int) else 0) - at0 row k := by
      unfold dif
      rw [alone_at (by omega)]
      split <;> rfl
    rw [d] at e
    by_cases q : s = k
    · subst q
      rw [if_pos rfl, b (by omega)] at e
      have m : (mostN row ws s : Int) = at0 row s + cnt ((s : Int) - 1) (duePlan row ws) := by unfold mostN; omega
      exact ⟨by omega, fun z => by omega⟩
    · rw [if_neg q] at e
      refine ⟨by omega, fun z => ?_⟩
      have := b (by omega)
      omega
theorem alone_met {row : List Nat} {ws : List (Nat × Nat)} {s : Nat} (hw : Ways row.length ws) (hs : s < row.length) : metB row ws (alone row.length s (mostN row ws s)) = true := by
  rw [metB_iff (by omega)]
  exact fun k hk => (alone_need hw hs (row.length - k) k (by omega)).1
theorem alone_not {row : List Nat} {ws : List (Nat × Nat)} {s m : Nat} (hw : Ways row.length ws) (hs : s < row.length) (hm : mostN row ws s < m) : metB row ws (alone row.length s m) = false := by
  cases h : metB row ws (alone row.length s m) with
  | false => rfl
  | true =>
    rw [metB_iff (by omega)] at h
    have a := h s hs
    have e := needN_step (row := row) (wants := alone row.length s m) (s := s) hs
    have d : dif row (alone row.length s m) s = (m : Int) - at0 row s := by
      unfold dif
      rw [alone_at hs, if_pos rfl]
    have q : (mostN row ws s : Int) = at0 row s + cnt ((s : Int) - 1) (duePlan row ws) := by unfold mostN; omega
    omega
end Dl

/-! The fewest further chairs; the rows that are reached. -/
namespace Dl
open PySem PySem.Spec L2

/-- more chairs at a station -/
def withN (row : List Nat) (s m : Nat) : List Nat := row.set s (at0 row s + m)
theorem withN_len (row : List Nat) (s m : Nat) : (withN row s m).length = row.length := List.length_set
theorem withN_zero {row : List Nat} {s : Nat} (hs : s < row.length) : withN row s 0 = row := by
  unfold withN
  rw [Nat.add_zero, at0_eq hs]
  exact List.set_getElem_self hs
theorem withN_one {row : List Nat} {s m : Nat} (hs : s < row.length) : withN (withN row s m) s 1 = withN row s (m + 1) := by
  unfold withN
  rw [at0_set hs, if_pos rfl, List.set_set]
  rfl
theorem withN_two {row : List Nat} {s o m : Nat} (hs : s < row.length) (ho : o < row.length) : withN (withN row o 1) s m = withN (withN row s m) o 1 := by
  by_cases h : s = o
  · subst h
    unfold withN
    rw [at0_set hs, at0_set hs, if_pos rfl, if_pos rfl, List.set_set, List.set_set]
    congr 1
    omega
  · unfold withN
    rw [at0_set hs, at0_set ho, if_neg (fun z => h z.symm), if_neg h, List.set_comm _ _ h]
theorem met_with {row wants : List Nat} {ws : List (Nat × Nat)} {s : Nat} (hw : Ways row.length ws) (hs : s < row.length) (h : metB row ws wants = true) : metB (withN row s 1) ws wants = true := met_chair (by omega) hw hs h
theorem met_with_up {row wants : List Nat} {ws : List (Nat × Nat)} {s m : Nat} (hw : Ways row.length ws) (hs : s < row.length) (h : metB (withN row s m) ws wants = true) : ∀ d, metB (withN row s (m + d)) ws wants = true
  | 0 => h
  | d + 1 => by
    have := met_with (s := s) (by rw [withN_len]; exact hw) (by rw [withN_len]; exact hs) (met_with_up hw hs h d)
    rw [withN_one hs] at this
    exact this
theorem least_ex {P : Nat → Prop} : (∃ m, P m) → ∃ m, P m ∧ ∀ j, j < m → ¬ P j := by
  rintro ⟨m, hm⟩
  induction m using Nat.strongRecOn with
  | _ m ih =>
    by_cases h : ∃ j, j < m ∧ P j
    · obtain ⟨j, hj, hp⟩ := h
      exact ih j hj hp
    · exact ⟨m, hm, fun j hj hp => h ⟨j, hj, hp⟩⟩
open Classical in
/-- the least number of further chairs, or none -/
noncomputable def fewN (row : List Nat) (ws : List (Nat × Nat)) (wants : List Nat) (s : Nat) : Option Nat :=
  if h : ∃ m, metB (withN row s m) ws wants = true then some (Classical.choose (least_ex h)) else none
theorem few_some {row wants : List Nat} {ws : List (Nat × Nat)} {s m : Nat} : fewN row ws wants s = some m ↔ metB (withN row s m) ws wants = true ∧ ∀ j, j < m → metB (withN row s j) ws wants = false := by
  unfold fewN
  constructor
  · intro h
    split at h
    · rename_i hx
      cases h
      obtain ⟨a, b⟩ := Classical.choose_spec (least_ex hx)
      exact ⟨a, fun j hj => by simpa using b j hj⟩
    · cases h
  · rintro ⟨a, b⟩
    have hx : ∃ m, metB (withN row s m) ws wants = true := ⟨m, a⟩
    rw [dif_pos hx]
    obtain ⟨c, d⟩ := Classical.choose_spec (least_ex hx)
    generalize Classical.choose (least_ex hx) = k at *
    congr 1
    by_cases h1 : k < m
    · rw [b k h1] at c; cases c
    · by_cases h2 : m < k
      · exact absurd a (d m h2)
      · omega
theorem few_none {row wants : List Nat} {ws : List (Nat × Nat)} {s : Nat} : fewN row ws wants s = none ↔ ∀ m, metB (withN row s m) ws wants = false := by
  unfold fewN
  constructor
  · intro h
    split at h
    · cases h
    · rename_i hx
      intro m
      cases e : metB (withN row s m) ws wants with
      | false => rfl
      | true => exact absurd ⟨m, e⟩ hx
  · intro h
    rw [dif_neg]
    rintro ⟨m, hm⟩
    rw [h m] at hm
    cases hm
/-- none further are missing exactly if the wants can be met -/
theorem few_zero {row wants : List Nat} {ws : List (Nat × Nat)} {s : Nat} (hs : s < row.length) : fewN row ws wants s = some 0 ↔ metB row ws wants = true := by
  rw [few_some, withN_zero hs]
  exact ⟨fun h => h.1, fun h => ⟨h, fun j hj => by omega⟩⟩
/-- a number at most another one, none being the greatest -/
def fewer : Option Nat → Option Nat → Bool
  | _, none => true
  | none, some _ => false
  | some a, some b => decide (a ≤ b)
theorem few_le {row row' wants : List Nat} {ws ws' : List (Nat × Nat)} {s : Nat} (h : ∀ m, metB (withN row s m) ws wants = true → metB (withN row' s m) ws' wants = true) : fewer (fewN row' ws' wants s) (fewN row ws wants s) = true := by
  cases h1 : fewN row ws wants s with
  | none => cases fewN row' ws' wants s <;> rfl
  | some b =>
    have a := h b (few_some.mp h1).1
    cases h2 : fewN row' ws' wants s with
    | none =>
      rw [few_none.mp h2 b] at a
      cases a
    | some c =>
      have d := (few_some.mp h2).2
      show decide (c ≤ b) = true
      by_cases q : c ≤ b
      · exact decide_eq_true q
      · rw [d b (by omega)] at a
        cases a
theorem few_chair {row wants : List Nat} {ws : List (Nat × Nat)} {s o : Nat} (hw : Ways row.length ws) (hs : s < row.length) (ho : o < row.length) : fewer (fewN (withN row o 1) ws wants s) (fewN row ws wants s) = true :=
  few_le fun m h => by
    rw [withN_two hs ho]
    exact met_with (by rw [withN_len]; exact hw) (by rw [withN_len]; exact ho) h
theorem few_walker {row wants : List Nat} {ws : List (Nat × Nat)} {s k : Nat} {w : Nat × Nat} (hw : Ways row.length ws) (h1 : w.1 < w.2) (h2 : w.2 < row.length) : fewer (fewN row (morew ws k w) wants s) (fewN row ws wants s) = true :=
  few_le fun m h => met_walker (by rw [withN_len]; omega) (by rw [withN_len]; exact hw) h1 (by rw [withN_len]; exact h2) h

/-- a row that is reached: as many chairs, and it can be wanted -/
def reachB (row : List Nat) (ws : List (Nat × Nat)) (v : List Nat) : Bool := decide (v.length = row.length) && decide (v.sum = row.sum) && metB row ws v
theorem sum_le_of : ∀ {a b : List Nat}, a.length = b.length → (∀ s, s < a.length → at0 a s ≤ at0 b s) → a.sum ≤ b.sum ∧ (a.sum = b.sum → a = b)
  | [], [], _, _ => ⟨Nat.le_refl _, fun _ => rfl⟩
  | [], _ :: _, h, _ => by cases h
  | _ :: _, [], h, _ => by cases h
  | x :: a, y :: b, h, q => by
    have h0 := q 0 (by simp)
    obtain ⟨i, j⟩ := sum_le_of (a := a) (b := b) (by simpa using h) fun s hs => by
      have := q (s + 1) (by simpa using hs)
      simpa [at0] using this
    have h0 : x ≤ y := by simpa [at0] using h0
    rw [List.sum_cons, List.sum_cons]
    refine ⟨by omega, fun e => ?_⟩
    rw [j (by omega), show x = y by omega]
theorem reach_iff {row v : List Nat} {ws : List (Nat × Nat)} (h2 : 2 ≤ row.length) (hw : Ways row.length ws) : reachB row ws v = true ↔ ∃ p, All2 OwnSt ws p ∧ runPlan row p = some v := by
  unfold reachB
  rw [Bool.and_eq_true, Bool.and_eq_true, decide_eq_true_iff, decide_eq_true_iff]
  constructor
  · rintro ⟨⟨hl, hs⟩, hm⟩
    rw [metB_iff (by omega)] at hm
    have hz : needN row v 0 = 0 := by
      have := hm 0 (by omega)
      rw [cnt_lt0] at this
      omega
    obtain ⟨c, r, o, m, _⟩ := lim_meets (wants := v) hw (by omega) hz (fun s hs => by
      have := hm (s + 1) hs
      rw [succ_pred] at this
      omega)
    have cl := runPlan_len _ r
    have cs := runPlan_sum _ r (own_in hw o)
    have := (sum_le_of (a := v) (b := c) (by omega) fun s hs => m s (by omega)).2 (by omega)
    subst this
    exact ⟨_, o, r⟩
  · rintro ⟨p, o, r⟩
    exact ⟨⟨runPlan_len p r, runPlan_sum p r (own_in hw o)⟩, met_reached h2 hw o r fun s _ => Nat.le_refl _⟩
end Dl

namespace Df
open Dl
noncomputable def b_with_number_21dd : Bd := (bRet (dBin addD (dBin addD (dSl slD (dVar 0) dNoPart (dPart (dVar 1))) (dTup (aCons (dVar 2) aNil))) (dSl slD (dVar 0) (dPart (dBin addD (dVar 1) (dC (.int 1)))) dNoPart)))
noncomputable def f_with_number_21dd : List D → Option D := fnP 3 b_with_number_21dd
-- needs Fi3
theorem withnum_ok {row : List Nat} {s v : Nat} (hs : s < row.length) (hr : row.length ≤ 1000) : f_with_number_21dd [rowD row, natD s, natD v] = some (rowD (row.set s v)) := by
  unfold f_with_number_21dd
  apply fnP_w
  unfold b_with_number_21dd
  have s1 : slD (rowD row) none (some (s : Int)) = some (rowD (row.take s)) := sl_row_to row s
  have s2 : slD (rowD row) (some ((s : Int) + 1)) none = some (rowD (row.drop (s + 1))) := by
    have := sl_row_from row (s + 1)
    rwa [Int.natCast_add, Int.natCast_one] at this
  have d1 : addD (rowD (row.take s)) (.tuple [.int (v : Int)]) = some (rowD (row.take s ++ [v])) := by
    unfold rowD
    rw [ev_addT, if_pos (by simp; omega), List.map_append]
    rfl
  have d2 : addD (rowD (row.take s ++ [v])) (rowD (row.drop (s + 1))) = some (rowD (row.set s v)) := by
    unfold rowD
    rw [ev_addT, if_pos (by simp; omega), ← List.map_append, set_cut hs]
  generalize rowD row = rd at *
  generalize rowD (row.take s) = r1 at *
  generalize rowD (row.drop (s + 1)) = r2 at *
  generalize rowD (row.take s ++ [v]) = r3 at *
  generalize rowD (row.set s v) = r4 at *
  simp [s1, s2, d1, d2]

end Df

namespace Df
open Dl
noncomputable def g_needs_of_08a9_1 : Bd := (bSeq (bSet 3 (dApp max2D (aCons (dC (.int 0)) (aCons (dBin subD (dBin addD (dVar 3) (dBin ixD (dVar 1) (dVar 4))) (dBin ixD (dVar 0) (dVar 4))) aNil))))
      (bApp 2 (aCons (dVar 3) aNil)))
noncomputable def b_needs_of_08a9 : Bd := (bSeq (bSetO 2 (oLst aNil))
      (bSeq (bSet 3 (dC (.int 0)))
      (bSeq (bFor (iRange3 (aCons (dBin subD (dApp lenD (aCons (dVar 0) aNil)) (dC (.int 1))) (aCons (dUn negD (dC (.int 1))) (aCons (dUn negD (dC (.int 1))) aNil)))) (pName 4) g_needs_of_08a9_1)
      (bRet (dApp tupleD (aCons (dUn rev2D (dVar 2)) aNil))))))
noncomputable def f_needs_of_08a9 : List D → Option D := fnP 5 b_needs_of_08a9
-- needs Fd4
theorem needs_ok {row wants : List Nat} (hr : row.length ≤ 1000) (h1r : 1 ≤ row.length) (hw : wants.length = row.length) :
    f_needs_of_08a9 [rowD row, rowD wants] = some (.tuple ((needs row wants).map .int)) := by
  unfold f_needs_of_08a9 fnP b_needs_of_08a9
  obtain ⟨s', k1, v4, rfl⟩ := forL_inv (b := pName 4) (g := g_needs_of_08a9_1)
    (fun k s => ∃ v4 : Option Sl, s = ⟨[some (.fz (rowD row)), some (.fz (rowD wants)), some (.ow ((List.range k).map fun j => .int (Mf (dif row wants) (row.length - 1 - j) (j + 1)))), some (.fz (.int (Mf (dif row wants) (row.length - k) k))), v4], [], 0⟩)
    (rgC ((row.length - 1 : Nat) : Int) (-1) row.length) 0 ⟨[some (.fz (rowD row)), some (.fz (rowD wants)), some (.ow []), some (.fz (.int 0)), none], [], 0⟩
    ⟨none, rfl⟩ (by
    rintro j x s hj ⟨v4, rfl⟩
    have hjr : j < row.length := by
      have := (List.getElem?_eq_some_iff.mp hj).1
      rwa [rgC_len] at this
    have hx : x = natD (row.length - 1 - j) := by
      unfold rgC at hj
      rw [List.getElem?_map, List.getElem?_range hjr] at hj
      have := Option.some.inj hj
      rw [← this]
      show PySem.PyData.int _ = PySem.PyData.int _
      rw [show ((row.length - 1 : Nat) : Int) + (j : Nat) * (-1) = ((row.length - 1 - j : Nat) : Int) by omega]
    subst hx
    rw [Nat.zero_add]
    have a1 := at_rowD (row := row) (j := row.length - 1 - j) (by omega)
    have a2 := at_rowD (row := wants) (j := row.length - 1 - j) (by omega)
    have hz : ((List.range j).map fun j => PySem.PyData.int (Mf (dif row wants) (row.length - 1 - j) (j + 1))).length < 16777216 := by
      rw [List.length_map, List.length_range]
      omega
    have hM : (if Mf (dif row wants) (row.length - j) j + (at0 wants (row.length - 1 - j) : Int) - (at0 row (row.length - 1 - j) : Int) > 0 then Mf (dif row wants) (row.length - j) j + (at0 wants (row.length - 1 - j) : Int) - (at0 row (row.length - 1 - j) : Int) else 0) = Mf (dif row wants) (row.length - 1 - j) (j + 1) := by
      rw [Mf, show row.length - 1 - j + 1 = row.length - j by omega]
      unfold dif
      split <;> split <;> omega
    have hl : (List.range (j + 1)).map (fun j => PySem.PyData.int (Mf (dif row wants) (row.length - 1 - j) (j + 1))) = (List.range j).map (fun j => PySem.PyData.int (Mf (dif row wants) (row.length - 1 - j) (j + 1))) ++ [.int (Mf (dif row wants) (row.length - 1 - j) (j + 1))] := by
      rw [List.range_succ, List.map_append]
      rfl
    refine ⟨_, ⟨[some (.fz (rowD row)), some (.fz (rowD wants)), some (.ow ((List.range (j + 1)).map fun j => .int (Mf (dif row wants) (row.length - 1 - j) (j + 1)))), some (.fz (.int (Mf (dif row wants) (row.length - (j + 1)) (j + 1)))), some (.fz (natD (row.length - 1 - j)))], [], 0⟩, rfl, .inl ?_, _, rfl⟩
    unfold g_needs_of_08a9_1
    rw [hl, show row.length - (j + 1) = row.length - 1 - j by omega]
    have mx : max2D [.int 0, .int (Mf (dif row wants) (row.length - j) j + (at0 wants (row.length - 1 - j) : Int) - (at0 row (row.length - 1 - j) : Int))] = some (.int (Mf (dif row wants) (row.length - 1 - j) (j + 1))) := by
      rw [ev_max2, hM]
    generalize (List.range j).map (fun j => PySem.PyData.int (Mf (dif row wants) (row.length - 1 - j) (j + 1))) = L at *
    generalize rowD row = rd at *
    generalize rowD wants = wd at *
    generalize row.length - 1 - j = t at *
    simp [a1, a2, -ev_max2, mx, hz])
  rw [rgC_len, Nat.zero_add] at k1
  have lr : lenD [rowD row] = some (.int row.length) := by simp [rowD]
  have r1 := inR_nat (i := row.length - 1) (by omega)
  have e1 : (row.length : Int) - 1 = ((row.length - 1 : Nat) : Int) := by omega
  have e2 : (((row.length - 1 : Nat) : Int) - (-1)).toNat = row.length := by omega
  have r2 : inR (-1) = true := inR_int (by decide) (by decide)
  have rv : ((List.range row.length).map (fun j => PySem.PyData.int (Mf (dif row wants) (row.length - 1 - j) (j + 1)))).reverse = (needs row wants).map .int := by
    unfold needs
    rw [List.map_map]
    refine List.ext_getElem (by simp) fun i h1 h2 => ?_
    have hi : i < row.length := by simpa using h2
    rw [List.getElem_reverse]
    simp only [List.getElem_map, List.getElem_range, List.length_map, List.length_range, Function.comp]
    rw [show row.length - 1 - (row.length - 1 - i) = i by omega, show row.length - 1 - i + 1 = row.length - i by omega]
  generalize (needs row wants).map PySem.PyData.int = N at *
  generalize (List.range row.length).map (fun j => PySem.PyData.int (Mf (dif row wants) (row.length - 1 - j) (j + 1))) = L at *
  generalize rowD row = rd at *
  generalize rowD wants = wd at *
  simp [lr, e1, r1, r2]
  rw [show row.length - 1 + 1 = row.length by omega]
  simp [k1, rv]

end Df

/-! The data layer: what a draw from the deck of three is worth. -/
namespace Dl
open PySem PySem.Spec L2

def mix3a (cell n : Int) : Int := (cell % 2147483647 + 69621 * n + 30269) ^ 3 % 2147483629
def mix3 (cell n k : Int) : Int := ((mix3a cell n + 6007 * n * n + 17) ^ 3 % 2147483587 * 2147483423 + mix3a cell n) % 4611686018427387847 % k
def mix4a (cell n : Int) : Int := (cell % 2147483629 + 40037 * n + 9203) ^ 3 % 2147483587
def mix4 (cell n k : Int) : Int := (mix4a cell n + 5039 * n * n + 43) ^ 3 % 2147483563 * 65537 % 2305843009213693951 / 8 % k
/-- the number drawn, and the deck's numbers then; cs: the cells, then the rests -/
def nextAt (mix : Int → Int → Int → Int) (cs : List Int) (n k : Int) : Int × List Int :=
  match cs[cs.length / 2 + (n % ((cs.length / 2 : Nat) : Int)).toNat]?, cs[(n % ((cs.length / 2 : Nat) : Int)).toNat]? with
  | some rest, some cell => if 0 < rest then (rest % k, cs.set (cs.length / 2 + (n % ((cs.length / 2 : Nat) : Int)).toNat) (rest / k)) else (mix cell n k, cs)
  | _, _ => (0, cs)
def nextF (mix : Int → Int → Int → Int) : List D → List Int → Int → Option (D × List Int × Int)
  | [.int k], cs, n => if decide (0 < k) && decide (k < 1000002) && decide (0 ≤ n) && decide (n < 50000000) && decide (2 ≤ cs.length) then some (.int (nextAt mix cs n k).1, (nextAt mix cs n k).2, n + 1) else none
  | _, _, _ => none
theorem mix3_ok (c n k : Int) (hk : 0 < k) : 0 ≤ mix3 c n k ∧ mix3 c n k < k := ⟨Int.emod_nonneg _ (by omega), Int.emod_lt_of_pos _ hk⟩
theorem mix4_ok (c n k : Int) (hk : 0 < k) : 0 ≤ mix4 c n k ∧ mix4 c n k < k := ⟨Int.emod_nonneg _ (by omega), Int.emod_lt_of_pos _ hk⟩
theorem next_range {mix : Int → Int → Int → Int} (hm : ∀ c m k, 0 < k → 0 ≤ mix c m k ∧ mix c m k < k) {cs : List Int} {m k : Int} (hk : 0 < k) : 0 ≤ (nextAt mix cs m k).1 ∧ (nextAt mix cs m k).1 < k ∧ (nextAt mix cs m k).2.length = cs.length := by
  unfold nextAt
  split
  · split
    · exact ⟨Int.emod_nonneg _ (by omega), Int.emod_lt_of_pos _ hk, by simp⟩
    · exact ⟨(hm _ _ _ hk).1, (hm _ _ _ hk).2, rfl⟩
  · exact ⟨Int.le_refl _, hk, rfl⟩
/-- what is known of a draw: a number from 0 on below k, one more drawn -/
theorem next_some {mix : Int → Int → Int → Int} (hm : ∀ c m k, 0 < k → 0 ≤ mix c m k ∧ mix c m k < k) {cs : List Int} {n k : Int} (hk : 0 < k) (hk2 : k < 1000002) (h0 : 0 ≤ n) (h1 : n < 50000000) (hc : 2 ≤ cs.length) :
    ∃ r cs', nextF mix [.int k] cs n = some (.int r, cs', n + 1) ∧ 0 ≤ r ∧ r < k ∧ cs'.length = cs.length := by
  obtain ⟨a, b, c⟩ := next_range hm (cs := cs) (m := n) hk
  refine ⟨(nextAt mix cs n k).1, (nextAt mix cs n k).2, ?_, a, b, c⟩
  show (if (decide (0 < k) && decide (k < 1000002) && decide (0 ≤ n) && decide (n < 50000000) && decide (2 ≤ cs.length)) = true then _ else none) = _
  rw [if_pos (by simp [hk, hk2, h0, h1, hc])]
theorem next_split {mix : Int → Int → Int → Int} {cells rests : List Int} {n k : Int} {j : Nat} (hl : cells.length = rests.length) (hj : n % (cells.length : Int) = (j : Int)) (h : j < cells.length) (h2 : j < rests.length) :
    nextAt mix (cells ++ rests) n k = if 0 < rests[j] then (rests[j] % k, cells ++ rests.set j (rests[j] / k)) else (mix cells[j] n k, cells ++ rests) := by
  unfold nextAt
  have e : (cells ++ rests).length / 2 = cells.length := by rw [List.length_append]; omega
  have e1 : (cells ++ rests)[cells.length + j]? = some rests[j] := by
    rw [List.getElem?_append_right (by omega), Nat.add_sub_cancel_left, List.getElem?_eq_getElem h2]
  have e2 : (cells ++ rests)[j]? = some cells[j] := by
    rw [List.getElem?_append_left h, List.getElem?_eq_getElem h]
  simp only [e, hj, Int.toNat_natCast, e1, e2]
  split
  · rw [List.set_append_right _ _ (by omega), Nat.add_sub_cancel_left]
  · rfl
theorem sql_up {K : PySem.W.Frag} {H : Hp} {a p : Addr} {xs : List V} {o : HO} (h : SqL K H a xs) (np : H p = none) : SqL K (upd H p o) a xs := by
  rcases h with (h | ⟨u, h⟩) | h
  · exact .inl (.inl (by rw [upd_ne (ne_of_none h np)]; exact h))
  · exact .inl (.inr ⟨u, by rw [upd_ne (ne_of_none h np)]; exact h⟩)
  · exact .inr h
theorem upd_upd (H : Hp) (D : Addr) (o u : HO) : upd (upd H D o) D u = upd H D u := by
  funext b
  by_cases h : b = D
  · subst h; rw [upd_same, upd_same]
  · rw [upd_ne h, upd_ne h, upd_ne h]
/-- a list that stays while what lies at D changes -/
def SqO (K : PySem.W.Frag) (H : Hp) (a D : Addr) (xs : List V) : Prop := SqL K H a xs ∧ ∀ o, SqL K (upd H D o) a xs
theorem SqO.new {K : PySem.W.Frag} {H : Hp} {a D : Addr} {xs : List V} (h : SqL K H a xs) (n : H D = none) (o : HO) : SqO K (upd H D o) a D xs := ⟨sql_up h n, fun u => by rw [upd_upd]; exact sql_up h n⟩
theorem SqO.put {K : PySem.W.Frag} {H : Hp} {a D : Addr} {xs : List V} (h : SqO K H a D xs) (o : HO) : SqO K (upd H D o) a D xs := ⟨h.2 o, fun u => by rw [upd_upd]; exact h.2 u⟩
end Dl

/-! What must hold of what is drawn from the deck of three. -/
namespace Dl
theorem next_w {mix : Int → Int → Int → Int} (hm : ∀ c m k, 0 < k → 0 ≤ mix c m k ∧ mix c m k < k) {k n : Int} {cs : List Int} {R : D → List Int → Int → Prop} (hk : 0 < k) (hk2 : k < 1000002) (h0 : 0 ≤ n) (h1 : n < 50000000) (hc : 2 ≤ cs.length) (h : ∀ (a : Nat) (cs2 : List Int), (a : Int) < k → 2 ≤ cs2.length → R (natD a) cs2 (n + 1)) : wK (nextF mix) [.int k] cs n R := by
  obtain ⟨r, cs', e, a, b, c⟩ := next_some hm (cs := cs) hk hk2 h0 h1 hc
  have q := h r.toNat cs' (by omega) (by omega)
  rw [natD, Int.toNat_of_nonneg a] at q
  exact wK_of e q
end Dl

namespace Df
open Dl
noncomputable def f_Lnext_9d8d : List D → List Int → Int → Option (D × List Int × Int) := nextF mix3
theorem next_ok {k n : Int} {cs : List Int} {R : D → List Int → Int → Prop} (hk : 0 < k) (hk2 : k < 1000002) (h0 : 0 ≤ n) (h1 : n < 50000000) (hc : 2 ≤ cs.length) (h : ∀ (a : Nat) (cs2 : List Int), (a : Int) < k → 2 ≤ cs2.length → R (natD a) cs2 (n + 1)) : wK f_Lnext_9d8d [.int k] cs n R := next_w mix3_ok hk hk2 h0 h1 hc h
/-- .. as an equation -/
theorem nextN {k : Nat} {n : Int} {cs : List Int} (hk : 0 < k) (hk2 : k < 1000002) (h0 : 0 ≤ n) (h1 : n < 50000000) (hc : 2 ≤ cs.length) : ∃ (r : Nat) (cs2 : List Int), f_Lnext_9d8d [.int (k : Int)] cs n = some (.int (r : Int), cs2, n + 1) ∧ r < k ∧ 2 ≤ cs2.length := by
  obtain ⟨r, cs2, e, a, b, c⟩ := next_some mix3_ok (cs := cs) (n := n) (show (0 : Int) < (k : Int) by omega) (by omega) h0 h1 hc
  refine ⟨r.toNat, cs2, ?_, by omega, by omega⟩
  rw [Int.toNat_of_nonneg a]
  exact e
end Df

/-! Dicts whose keys are tuples of numbers: made, filled while nobody else sees them, walked, as data when they no longer change. -/
namespace Dl
open PySem PySem.Spec L2

section
variable {X : Cx} {pins : List (Addr × Obj)} {σ : L2.St} {H : Hp} {s : Shared} {a : Addr} {P' : Program} {w' : World} {xs : List (List L2.Key × Addr × Value)} {ep : Nat}
theorem dct_get (I : Inv X pins σ H s) (h : H a = some (dctHO P' w' a xs ep)) : (a == sysModules) = false ∧ xs.length ≤ sizeLine ∧ (xs.map (·.1)).Nodup ∧
    ∃ o es, s.heap.get? a = some o ∧ o.ExactDict ∧ o.data = .dict es ep ∧ es.toList = xs.map (entryOfKey (tupleKind (mixKind P' w'))) := (I.hok a _ h).1
theorem dct_ok {P : Program} {w : World} {h : Heap} {H : Hp} (h1 : (a == sysModules) = false) (h2 : xs.length ≤ sizeLine) (h3 : (xs.map (·.1)).Nodup) {o : Obj} {es : Array DictEntry} (h4 : h.get? a = some o) (h5 : o.ExactDict) (h6 : o.data = .dict es ep)
    (h7 : es.toList = xs.map (entryOfKey (tupleKind (mixKind P' w')))) : ObjOk P w H h a (dctHO P' w' a xs ep) :=
  ⟨⟨h1, h2, h3, o, es, h4, h5, h6, h7⟩, ⟨o, h4⟩, fun g g' ⟨k1, k2, k3, o', es', k4, k5⟩ e => ⟨k1, k2, k3, o', es', e _ k4, k5⟩⟩
/-- a tuple of numbers and texts that is known is a key -/
theorem key_kn {q : Addr} {k : List L2.Key} (I : Inv X pins σ H s) (h : KnT H q (k.map kV)) : (tupleKind (mixKind X.prog X.w)).is s.heap k q := by
  obtain ⟨ob, hq, _, _⟩ := h
  obtain ⟨_, _, its, r, o, h1, h2, n, h3⟩ := (show ObjOk X.prog X.w H s.heap q (.frz ob (.tup (k.map kV))) from I.hok q _ hq)
  exact ⟨o, its.toArray, n, h1, h2, h3, by simpa using items_are r⟩
theorem dct_of (I : Inv X pins σ H s) (h : H a = some (dctHO X.prog X.w a xs ep)) (hk : ∀ x ∈ xs, KnT H x.2.1 (x.1.map kV)) : s.heap.DictOfH (tupleKind (mixKind X.prog X.w)) a xs := by
  obtain ⟨_, _, h3, o, es, h4, h5, h6, h7⟩ := dct_get I h
  exact ⟨o, es, ep, h4, h5, h6, h7, fun x hx => key_kn I (hk x hx), h3⟩
end

/-! ### walks -/
def Itx (P' : Program) (w' : World) (d : Addr) (xs : List (List L2.Key × Addr × Value)) (ep : Nat) : It :=
  ⟨fun i H => H d = some (dctHO P' w' d xs ep) ∧ i < xs.length, fun i H x H' => H' = H ∧ ∃ y, xs[i]? = some y ∧ x = .ref y.2.1, fun i H => H d = some (dctHO P' w' d xs ep) ∧ xs.length ≤ i⟩
section
variable {P : Program} {w : World} {K : PySem.W.Frag} {tg : Expr} {d : Addr} {P' : Program} {w' : World} {xs : List (List L2.Key × Addr × Value)} {ep : Nat}
theorem turn_dct (it : Addr) : Turn P w K tg (Itx P' w' d xs ep) [it] it (fun i h => h.IsKeyIter it d i xs.length ep) where
  mem := by simp
  obj := fun i h st b hb => by
    have e : b = it := by simpa using hb
    subst e
    obtain ⟨oi, e, c, dd⟩ := st
    exact ⟨oi, e, fun v z => by rw [dd] at z; cases z⟩
  keep := fun i h h' st k => st.at fun oi e => k it (by simp) oi e
  item := by
    intro X hP hw hK hc i pins s σ H E I hf st hg
    subst hP hw hK
    obtain ⟨hd, hi⟩ := hg
    obtain ⟨f0, f1, f2, f3, f4, f5⟩ := hf it (by simp)
    obtain ⟨_, _, _, o, es, hgd, hx, hdt, he⟩ := dct_get I hd
    obtain ⟨y, hy⟩ : ∃ p, xs[i]? = some p := ⟨xs[i], List.getElem?_eq_getElem hi⟩
    have hen := entry_at he i
    rw [hy] at hen
    refine next_key_item st hgd hdt (size_of_entries he) hen fun h' st' sb => ?_
    have I1 : Inv X pins σ H { s with heap := h' } := I.turned (t' := s.toks) (fun b ob hb e => (sb.2 b hb).trans e) f0 f1 f3 f4 f5
    obtain ⟨oi, e, c, dd⟩ := id st'
    exact ⟨_, rfl, go_of (s := { s with heap := h' }) e c dd (by decide) ⟨.ref y.2.1, H, I1, rfl, ⟨rfl, y, hy, rfl⟩, st', fun b hb => (hf b hb).1⟩⟩
  done := by
    intro X hP hw hK hc i pins s σ H E I hf st hg
    subst hP hw hK
    obtain ⟨hd, hi⟩ := hg
    obtain ⟨f0, f1, f2, f3, f4, f5⟩ := hf it (by simp)
    obtain ⟨_, _, _, o, es, hgd, hx, hdt, he⟩ := dct_get I hd
    exact next_key_end (I.ok.hd hc) st hgd hdt (size_of_entries he) hi fun h' eb => ⟨rfl, I.turned (t' := s.toks) (fun b ob hb e => eb b ob hb e) f0 f1 f3 f4 f5⟩
  self := fun A i s Q E st h => by
    refine wpAny_pyIter_slot st.typeIs F.slot_dict_keyiterator_iter (wpAny_call_entry F.slot_dict_keyiterator_iter st.typeIs F.entry_dict_keyiterator_iter ?_ (F.args_dict_keyiterator_iter_1 _))
    show wpAny _ _ (ret (.ref it)) _ _ s
    exact wpAny_pure ⟨_, rfl, "dict_keyiterator", _, st.typeIs, F.slot_dict_keyiterator_next.lookup, h⟩
end
section
variable {X : Cx} {C : Ct} {tg e : Expr} {fe : Ex}
theorem pi_dct {td : TE} (he : PE X e td) : PI X tg e (fun σ H R => td σ H fun x H1 => ∃ d P' w' xs ep, x = .ref d ∧ H1 d = some (dctHO P' w' d xs ep) ∧ R (Itx P' w' d xs ep) H1) := by
  refine ⟨fun pins s σ H R I h => ?_⟩
  refine thn (he.run pins s σ H _ I h) fun u s1 ⟨x, H1, I1, rx, d, P', w', xs, ep, ex, hd, q⟩ => ?_
  subst ex
  obtain rfl : u = Value.ref d := rx
  obtain ⟨hs, _, _, o, es, hgd, hx, hdt, he⟩ := dct_get I1 hd
  refine iter_keys hs hgd hx hdt (pi_one (tk := s1.toks) I1 _ (turn_dct _) ⟨_, Heap.get?_push_size _ rfl, rfl, ?_⟩ q)
  rw [size_of_entries he] <;> rfl
theorem walkD_dct {K : PySem.W.Frag} {F : Fz} {a : Addr} {P' : Program} {w' : World} {xs : List (List L2.Key × Addr × Value)} {ep : Nat} (h : F a = some (.obj (dctHO P' w' a xs ep))) (hk : ∀ x ∈ xs, KnF F x.2.1 (x.1.map kV))
    (rk : ∀ F' : Fz, ∀ k : List L2.Key, RpL K F' (k.map kV) (k.map keyD)) : WalkD K (Itx P' w' a xs ep) (xs.map fun x => .tuple (x.1.map keyD)) F where
  goes := fun i H F' hi s1 s2 => ⟨s2 _ _ (s1 _ _ h), by simpa using hi⟩
  stops := fun H F' s1 s2 => ⟨s2 _ _ (s1 _ _ h), by simp⟩
  yields := fun i H x H' F' hi s1 s2 y => by
    obtain ⟨rfl, y, hy, rfl⟩ := y
    refine ⟨F', .tuple (y.1.map keyD), by rw [List.getElem?_map, hy]; rfl, .refl s2, ?_⟩
    exact .tup ((hk y (List.mem_of_getElem? hy)).up s1) (rk _ _)
theorem rp_keys {K : PySem.W.Frag} (F : Fz) : ∀ k : List L2.Key, RpL K F (k.map kV) (k.map keyD)
  | [] => .nil
  | .inl i :: r => .cons (.int i) (rp_keys F r)
  | .inr x :: r => .cons (.str x) (rp_keys F r)
/-- the keys of a dict whose keys are tuples -/
def keysD : D → Option (List D)
  | .dict ((.none, .none) :: kvs) => some (kvs.map (·.1))
  | _ => none
def iKeysD (a : Ex) : Ax := fun s => match a s with
  | none => none
  | some (d, s1) => match keysD d with
    | none => none
    | some ds => some (ds, s1)
theorem dkt_inv {K : PySem.W.Frag} {F : Fz} {v : V} {kvs : List (D × D)} (r : Rp K F v (.dict ((.none, .none) :: kvs))) : ∃ a P' w' xs ep, v = .ref a ∧ F a = some (.obj (dctHO P' w' a xs ep)) ∧ (∀ x ∈ xs, KnF F x.2.1 (x.1.map kV)) ∧
    kvs = xs.map fun x => (.tuple (x.1.map keyD), .none) := by
  cases r with
  | dct h1 h2 => exact absurd h2.noref (by intro q; cases q)
  | dkt h1 h2 => exact ⟨_, _, _, _, _, rfl, h1, h2, rfl⟩
theorem di_keysT (h : PE X e (tD X.K C fe)) : PI X tg e (tI X.K C (iKeysD fe)) := pi_imp (pi_dct h) fun σ H R ⟨F, s, d, s', w, ee, q⟩ => by
  unfold iKeysD at ee
  split at ee
  · cases ee
  rename_i y s1 ea
  split at ee
  · cases ee
  rename_i ds' ek
  cases ee
  unfold keysD at ek
  split at ek
  · rename_i kvs
    cases ek
    refine tD_run w ea fun v F1 H1 m1 w1 r1 => ?_
    obtain ⟨a, P', w', xs, ep, rfl, h1, h2, rfl⟩ := dkt_inv r1
    refine ⟨a, P', w', xs, ep, rfl, w1.into _ _ h1, q _ F1 H1 m1 w1 ?_⟩
    rw [List.map_map]
    exact walkD_dct (K := X.K) h1 h2 fun F' k => rp_keys F' k
  · cases ek
end
end Dl

/-! Dicts whose keys are tuples of numbers: made, filled while nobody else sees them. -/
namespace Dl
open PySem PySem.Spec L2

theorem vv1 {x y : V} {ws : List (Value × Value)} (h : VV [(x, y)] ws) : ∃ p : Value × Value, ws = [p] ∧ RelV x p.1 ∧ RelV y p.2 := by
  cases h with
  | cons a b => cases b; exact ⟨_, rfl, a.1, a.2⟩
theorem d_writeX {X : Cx} {pins : List (Addr × Obj)} {σ : L2.St} {H : Hp} {s : Shared} {a : Addr} {h' : Heap} {t' : Nat} {ob : HO} (I : Inv X pins σ H s) (mu : Mut (H a)) (hs : Heap.SameBut a s.heap h') (he : ∃ q, h'.get? a = some q) (new : ObjOk X.prog X.w (upd H a ob) h' a ob) :
    Inv X pins σ (upd H a ob) { s with heap := h', toks := t' } :=
  I.write (x := a) (e := a) mu (.inl rfl) (fun b q hb z => (hs.2 b hb).trans z) he new
section
variable {X : Cx}
/-- {k: True} -/
def qDct1 (X : Cx) (Q : VK) (p : Addr) (ps : List (V × V)) (H1 : Hp) : Prop := H1 p = some (dctHO X.prog X.w p [] 0) ∧
  ∃ q k, ps = [(V.ref q, V.bl true)] ∧ KnT H1 q (k.map kV) ∧ ∀ ep, Q (.ref p) (upd H1 p (dctHO X.prog X.w p [(k, q, .bool true)] ep))
def tDct1 (X : Cx) (tk : TE) : TE := fun σ H Q => ∀ p, H p = none → tk σ (upd H p (dctHO X.prog X.w p [] 0)) fun y H1 => qDct1 X Q p [(y, V.bl true)] H1
/-- {} -/
def tDct0 (X : Cx) : TE := fun σ H Q => ∀ p, H p = none → Q (.ref p) (upd H p (dctHO X.prog X.w p [] 0))
theorem dct_empty {P P' : Program} {w w' : World} {H : Hp} (h : Heap) (hb : sysModules < h.objs.size) : ObjOk P w H (h.push { cls := .type "dict", data := .dict #[] }) h.objs.size (dctHO P' w' h.objs.size [] 0) :=
  dct_ok (beq_eq_false_iff_ne.mpr (Ne.symm (Nat.ne_of_lt hb))) (Nat.zero_le _) List.nodup_nil (Heap.get?_push_size _ rfl) ⟨rfl, rfl, rfl⟩ rfl rfl
theorem pe_dct0 {pos : Pos} : PE X (.Dict [] [] pos) (tDct0 X) := ⟨fun pins s σ H Q I h =>
  wpAny_Dict_empty ⟨.ref s.heap.objs.size, _, I.laid (a := s.heap.objs.size) (o := dctHO X.prog X.w s.heap.objs.size [] 0) (t' := s.toks) (fun _ _ q => Heap.get?_push_of_some _ q) (Nat.le_refl _) (dct_empty s.heap I.big), rfl, h _ (I.hok.fresh (Nat.le_refl _))⟩⟩
theorem pe_dct1 {pos : Pos} {k : Expr} {tk : TE} {n : Nat} {p2 : Pos} (hu : X.A.units + 1 < cLine) (hk : PE X k tk) : PE X (.Dict [some k] [.Constant (.bool true) n p2] pos) (tDct1 X tk) := by
  refine ⟨fun pins s σ H Q I q => ?_⟩
  have hn := I.hok.fresh (Nat.le_refl s.heap.objs.size)
  have I1 := I.laid (a := s.heap.objs.size) (o := dctHO X.prog X.w s.heap.objs.size [] 0) (h' := s.heap.push { cls := .type "dict", data := .dict #[] }) (t' := s.toks) (fun _ _ q => Heap.get?_push_of_some _ q) (Nat.le_refl _) (dct_empty s.heap I.big)
  have hz := zip_pairTrees [some k] [.Constant (.bool true) n p2] X.env pos (by rfl) (by rfl)
  have hl := pairTrees_length [some k] [.Constant (.bool true) n p2] X.env pos (by rfl) (by rfl)
  have h0 : pairTrees [some k] [.Constant (.bool true) n p2] X.env pos ≠ [] := fun e => by rw [e] at hl; cases hl
  rw [arm_eval_Dict, hz, dictDisplay_pairs _ h0 (by rw [hl]; exact Nat.le_of_ble_eq_true rfl)]
  refine wpAny_bind (wpAny_standAt (wpAny_bind (wpAny_subDictH (knd := tupleKind (mixKind X.prog X.w)) (Q := fun d s' => wpAny (model X.prog X.w) X.A (pure (Value.ref d)) (EP X pins σ Q) X.xe s') (show X.A.units < cLine by omega) (by rw [hl]; exact Nat.le_of_ble_eq_true rfl) ?_)))
  refine thn ((pps_cons hk (pe_bl (b := true)) pps_nil).run pins _ σ _ (qDct1 X Q s.heap.objs.size) I1 (q _ hn)) fun ws s2 ⟨ps, H2, I2, rel, e, q', k', eps, kn, q2⟩ => ?_
  subst eps
  obtain ⟨⟨u1, u2⟩, rfl, r1, r2⟩ := vv1 rel
  cases (show u1 = Value.ref q' from r1)
  cases (show u2 = Value.bool true from r2)
  obtain ⟨e1, _, _, _⟩ := dct_get I2 e
  refine ⟨[(k', q', .bool true)], ⟨rfl, rfl, key_kn I2 kn, True.intro⟩, dct_of I2 e (by simp), fun h' tk dd' hs => ?_⟩
  obtain ⟨o, es, ep, hq, h2, h3, h4, _, h5⟩ := dd'
  exact wpAny_pure ⟨.ref s.heap.objs.size, _, d_writeX I2 (by rw [e]; exact True.intro) hs ⟨o, hq⟩ (dct_ok (xs := [(k', q', .bool true)]) (P' := X.prog) (w' := X.w) e1 (Nat.le_of_ble_eq_true rfl) (List.nodup_cons.mpr ⟨List.not_mem_nil, List.nodup_nil⟩) hq h2 h3 h4), rfl, q2 ep⟩
/-- d[k] = True -/
def rSetT (X : Cx) : TSet := fun o i v H Q => ∃ a xs ep k q, o = .ref a ∧ i = .ref q ∧ v = .bl true ∧ H a = some (dctHO X.prog X.w a xs ep) ∧ KnT H q (k.map kV) ∧ (∀ x ∈ xs, KnT H x.2.1 (x.1.map kV)) ∧ xs.length < sizeLine ∧
  ∀ ep', Q (upd H a (dctHO X.prog X.w a (storedH xs k q (.bool true)) ep'))
theorem set_dct (hu : X.A.units + 1 < cLine) : PSet X (rSetT X) := by
  intro pins s σ H o i v ov iv u Q I ro ri rv ⟨a, xs, ep, k, q, eo, ei, ev, h, kn, hk, hl, hQ⟩
  subst eo ei ev
  cases (show ov = Value.ref a from ro)
  cases (show iv = Value.ref q from ri)
  cases (show u = Value.bool true from rv)
  obtain ⟨e1, _, _, _⟩ := dct_get I h
  refine wpAny_setItem_heap (hsz := Nat.le_of_lt hl) (tupleKind_room_in1 hu) (key_kn I kn) (dct_of I h hk) fun h' dd' hs => ?_
  have hl2 : (storedH xs k q (.bool true)).length ≤ sizeLine := by have := storedH_length xs k q (.bool true); omega
  obtain ⟨o, es, ep', hq, h2, h3, h4, _, h5⟩ := dd'
  exact ⟨_, d_writeX I (by rw [h]; exact True.intro) hs ⟨o, hq⟩ (dct_ok e1 hl2 h5 hq h2 h3 h4), hQ ep'⟩
theorem storedH_in {xs : List (List L2.Key × Addr × Value)} {k : List L2.Key} {q : Addr} {v : Value} (h : k ∈ xs.map (·.1)) : (storedH xs k q v).map (·.1) = xs.map (·.1) := by
  have : (atKey xs k).isSome = true := by
    obtain ⟨x, hx, rfl⟩ := List.mem_map.mp h
    unfold atKey
    rw [Option.isSome_map, List.find?_isSome]
    exact ⟨x, hx, decide_eq_true rfl⟩
  unfold storedH
  rw [if_pos this, List.map_map]
  refine List.map_congr_left fun x _ => ?_
  show (PySem.putAt k v x).1 = x.1
  unfold PySem.putAt
  split <;> rfl
theorem storedH_out {xs : List (List L2.Key × Addr × Value)} {k : List L2.Key} {q : Addr} {v : Value} (h : k ∉ xs.map (·.1)) : (storedH xs k q v).map (·.1) = xs.map (·.1) ++ [k] := by
  have : ¬ (atKey xs k).isSome = true := fun z => by
    unfold atKey at z
    rw [Option.isSome_map, List.find?_isSome] at z
    obtain ⟨x, hx, e⟩ := z
    exact h (List.mem_map.mpr ⟨x, hx, of_decide_eq_true e⟩)
  unfold storedH
  rw [if_neg this, List.map_append]
  rfl
theorem storedH_mem {xs : List (List L2.Key × Addr × Value)} {k : List L2.Key} {q : Addr} {v : Value} {P : List L2.Key → Addr → Prop} (h : ∀ x ∈ xs, P x.1 x.2.1) (hk : P k q) : ∀ x ∈ storedH xs k q v, P x.1 x.2.1 := by
  intro x hx
  unfold storedH at hx
  split at hx
  · obtain ⟨y, hy, rfl⟩ := List.mem_map.mp hx
    unfold PySem.putAt
    split
    · exact h y hy
    · exact h y hy
  · rcases List.mem_append.mp hx with hx | hx
    · exact h x hx
    · rw [List.mem_singleton] at hx
      subst hx
      exact hk
end

/-! ### data -/
def keyZ : D → Option (List Int)
  | .tuple ds => intsOf ds
  | _ => none
def dctD (acc : List (List Int)) : D := .dict ((.none, .none) :: acc.map fun k => (.tuple (k.map .int), .none))
def putZ (acc : List (List Int)) (k : List Int) : List (List Int) := if k ∈ acc then acc else acc ++ [k]
def dDct1 (a : Ex) : Ex := fun s => match a s with
  | none => none
  | some (d, s1) => match keyZ d with
    | none => none
    | some k => some (dctD [k], s1)
/-- the keys of one dict into a new one: k1 of each, k2 of those with t -/
def rowsL (b : Pt) (k1 : Ex) (t : Tx) (k2 : Ex) : List D → List (List Int) → S → Option (List (List Int) × S)
  | [], acc, s => some (acc, s)
  | d :: ds, acc, s => match b d s with
    | none => none
    | some s1 => match k1 s1 with
      | none => none
      | some (y1, s2) => match keyZ y1 with
        | none => none
        | some z1 => if sm acc.length then (match t s2 with
          | none => none
          | some (false, s3) => rowsL b k1 t k2 ds (putZ acc z1) s3
          | some (true, s3) => match k2 s3 with
            | none => none
            | some (y2, s4) => match keyZ y2 with
              | none => none
              | some z2 => if sm (putZ acc z1).length then rowsL b k1 t k2 ds (putZ (putZ acc z1) z2) s4 else none) else none
def bRows (iF iL : Nat) (b : Pt) (k1 : Ex) (t : Tx) (k2 : Ex) : Bd := fun s => if iL < s.env.length then (match iKeysD (dVar iF) { s with env := s.env.set iL none } with
  | none => none
  | some (ds, s1) => match rowsL b k1 t k2 ds [] s1 with
    | none => none
    | some (acc, s2) => some (.nx { s2 with env := s2.env.set iF (some (.fz (dctD acc))) })) else none
end Dl

/-! later = {}; for one in found: later[k1] = True; if t: later[k2] = True; found = later. -/
namespace Dl
open PySem PySem.Spec L2
theorem lt_oneT {u : Nat} (h : u + 64 < cLine) : u + 1 < cLine := Nat.lt_of_le_of_lt (Nat.add_le_add_left (by decide) _) h

section
variable {X : Cx} {C : Ct} {F F' : Fz} {H H' : Hp} {σ σ' : L2.St} {s s' : S}
/-- an object beside the state is changed -/
theorem W.besideT {K : PySem.W.Frag} (w : W K C F H σ s) {a : Addr} {o : HO} (f : F a = none) (hc : C.H0 a = none) (n : ¬ Own σ s a) : W K C F (upd H a o) σ s where
  gr := ⟨w.gr.sub, w.gr.into.beside f, w.gr.new, w.gr.num, fun p u q e nb => (by
    rw [upd_ne]
    · exact w.gr.keep p u q e nb
    · rintro rfl
      rw [hc] at q
      cases q), fun p h => by
    by_cases hp : p = a
    · subst hp; rw [upd_same] at h; cases h
    · rw [upd_ne hp] at h; exact w.gr.live p h⟩
  len := w.len
  slot := fun i l e => by
    obtain ⟨v, e1, q⟩ := w.slot i l e
    refine ⟨v, e1, ?_⟩
    cases l with
    | fz d => exact q
    | dk => exact q
    | xc x => exact q
    | ow xs =>
      obtain ⟨p, vs, e2, e3, r, f2, c⟩ := q
      refine ⟨p, vs, e2, ?_, r, f2, c⟩
      rw [upd_ne]
      · exact e3
      · rintro rfl
        exact n ⟨i, xs, e, by rw [e1, e2]⟩
  sep := w.sep
  deck := fun dp dc e => by
    obtain ⟨dk, c1, c2⟩ := w.deck dp dc e
    obtain ⟨ne, _, _, f1, f2⟩ := dk.no
    refine ⟨dk.up (Sub.refl _) (fun u h => ?_) (fun u h => ?_) f1 f2, c1, c2⟩
    · rw [upd_ne]
      · exact h
      · rintro rfl; exact c1 hc
    · rw [upd_ne]
      · exact h
      · rintro rfl; exact c2 hc
  st := fun l e => ⟨(w.st l e).1, (w.st l e).2.beside f⟩
  pl := w.pl
theorem W.noex {K : PySem.W.Frag} (w : W K C F H σ s) {a : Addr} (hc : C.H0 a = none) : a ∉ exOf C := fun hx => by
  unfold exOf at hx
  split at hx
  · cases hx
  · rename_i dp dc hdk
    obtain ⟨_, c1, c2⟩ := w.deck _ _ hdk
    have : a = dp ∨ a = dc := by simpa using hx
    rcases this with z | z
    · rw [← z] at c1; exact c1 hc
    · rw [← z] at c2; exact c2 hc
/-- a slot of which the data knows nothing -/
theorem W.raw {K : PySem.W.Frag} (w : W K C F H σ s) (i : Nat) (v : V) : W K C F H (σ.set i (some v)) { s with env := s.env.set i none } := by
  have w1 := w.drop i
  have ne : ∀ {j : Nat} {l : Sl}, (s.env.set i none)[j]? = some (some l) → i ≠ j := fun {j l} h z => by
    subst z
    by_cases hl : i < s.env.length
    · rw [List.getElem?_set_self hl] at h; cases h
    · rw [List.getElem?_eq_none (by simpa using hl)] at h; cases h
  refine ⟨w1.gr, by simp [w.len], fun j l q => ?_, fun a b p ys zs ha hb ea eb => ?_, w1.deck, w1.st, w1.pl⟩
  · rw [List.getElem?_set_ne (ne q)]
    exact w1.slot j l q
  · rw [List.getElem?_set_ne (ne ha)] at ea
    rw [List.getElem?_set_ne (ne hb)] at eb
    exact w1.sep a b p ys zs ha hb ea eb
def kZ (k : List Int) : List L2.Key := k.map .inl
theorem kZ_inj {a b : List Int} (h : kZ a = kZ b) : a = b := by
  unfold kZ at h
  exact List.map_inj_right (fun x y e => Sum.inl.inj e) |>.mp h
theorem kZ_kV (k : List Int) : (kZ k).map kV = k.map V.int := by
  unfold kZ
  rw [List.map_map]
  rfl
/-- the dict that is filled: nobody else sees it -/
structure Lt (X : Cx) (C : Ct) (iL : Nat) (acc : List (List Int)) (F : Fz) (H : Hp) (σ : L2.St) : Prop where
  ex : ∃ a xs ep, σ[iL]? = some (some (.ref a)) ∧ H a = some (dctHO X.prog X.w a xs ep) ∧ F a = none ∧ C.H0 a = none ∧ (∀ x ∈ xs, KnF F x.2.1 (x.1.map kV)) ∧ xs.map (·.1) = acc.map kZ
theorem ext_own {K : PySem.W.Frag} (w : W K C F H σ s) {a : Addr} {P' : Program} {w' : World} {xs : List (List L2.Key × Addr × Value)} {ep : Nat} (h : H a = some (dctHO P' w' a xs ep)) : ¬ Own σ s a := by
  rintro ⟨i, ys, e1, e2⟩
  obtain ⟨v, e3, p, vs, e4, e5, _⟩ := w.slot i _ e1
  rw [e2] at e3
  cases e3
  cases e4
  rw [h] at e5
  have := Option.some.inj e5
  unfold dctHO at this
  cases this
theorem Lt.mv {iL : Nat} {acc : List (List Int)} (l : Lt X C iL acc F H σ) (w : W X.K C F H σ s) (m : Mv C σ F H s F' H' s') : Lt X C iL acc F' H' σ := by
  obtain ⟨a, xs, ep, h1, h2, h3, h4, h5, h6⟩ := l
  obtain ⟨g1, g2⟩ := m.oth a _ h2 h3 (w.noex h4) (ext_own w h2)
  exact ⟨a, xs, ep, h1, g1, g2, h4, fun x hx => (h5 x hx).up m.sub, h6⟩
theorem Lt.chg {iL : Nat} {acc : List (List Int)} (l : Lt X C iL acc F H σ) (h : σ'[iL]? = σ[iL]?) : Lt X C iL acc F H σ' := by
  obtain ⟨a, xs, ep, h1, h2⟩ := l
  exact ⟨a, xs, ep, by rw [h]; exact h1, h2⟩
theorem keyZ_rp {K : PySem.W.Frag} {v : V} {y : D} {z : List Int} (r : Rp K F v y) (h : keyZ y = some z) : ∃ q, v = .ref q ∧ KnF F q ((kZ z).map kV) := by
  unfold keyZ at h
  split at h
  · cases r with
    | tup h1 h2 =>
      rw [ints_rp h2 h] at h1
      exact ⟨_, rfl, by rw [kZ_kV]; exact h1⟩
  · cases h
theorem put_runT {iL : Nat} {acc : List (List Int)} {k1 : Ex} {y1 : D} {z1 : List Int} {E : Ends} (l : Lt X C iL acc F H σ) (w : W X.K C F H σ s) (e1 : k1 s = some (y1, s')) (e2 : keyZ y1 = some z1) (e3 : sm acc.length = true)
    (q : ∀ F' H', Sub F F' → W X.K C F' H' σ s' → Lt X C iL (putZ acc z1) F' H' σ → E.nx σ H') : tAsg (tC (.bl true)) (gSub (tVar iL) (tD X.K C k1) (rSetT X)) E σ H := by
  obtain ⟨a, xs, ep, h1, _⟩ := id l
  refine ⟨.ref a, h1, tD_run w e1 fun v F1 H1 m1 w1 r1 => ?_⟩
  obtain ⟨qk, rfl, kn⟩ := keyZ_rp r1 e2
  obtain ⟨a', xs, ep, h1', h2, h3, h4, h5, h6⟩ := l.mv w m1
  rw [h1] at h1'
  cases h1'
  have hlen : xs.length = acc.length := by
    have := congrArg List.length h6
    simpa using this
  refine ⟨a, xs, ep, kZ z1, qk, rfl, rfl, rfl, h2, kn.kn w1.into, fun x hx => (h5 x hx).kn w1.into, by rw [hlen]; exact sm_lt e3, fun ep' => ?_⟩
  refine q F1 _ m1.sub (w1.besideT h3 h4 (ext_own w1 h2)) ⟨a, _, ep', h1, upd_same, h3, h4, storedH_mem (P := fun k q => KnF F1 q (k.map kV)) h5 kn, ?_⟩
  unfold putZ
  by_cases hz : z1 ∈ acc
  · rw [if_pos hz, storedH_in, h6]
    rw [h6]
    exact List.mem_map.mpr ⟨z1, hz, rfl⟩
  · rw [if_neg hz, storedH_out, h6, List.map_append]
    · rfl
    rw [h6]
    intro hm
    obtain ⟨y, hy, e⟩ := List.mem_map.mp hm
    exact hz (kZ_inj e ▸ hy)
/-- the loop, from the keys that are left on -/
theorem rows_run {iL : Nat} {tg it te : Expr} {b : Pt} {sl : List Nat} {k1 k2 : Ex} {t : Tx} {sa sb : Stmt} {p1 p2 : Pos} {ia : Ax} (hp : PassesOwn (model X.prog X.w) X.A X.env X.xe) (hc : X.calm = true) (hi : PI X tg it (tI X.K C ia)) (hg : PG X tg (gD X.K C b sl)) (hL : iL ∉ sl)
    (ha : PS X sa (tAsg (tC (.bl true)) (gSub (tVar iL) (tD X.K C k1) (rSetT X)))) (ht : PT X te (tT X.K C t)) (hb : PS X sb (tAsg (tC (.bl true)) (gSub (tVar iL) (tD X.K C k2) (rSetT X))))
    (hs : ∀ x, foldedSetIterable it X.env x = pure x := by intro _; rfl) :
    PS X (.For tg it [sa, .If te [sb] [] p1] [] p2) (fun E σ H => ∃ F s ds s1 acc s2, W X.K C F H σ s ∧ ia s = some (ds, s1) ∧ Lt X C iL [] F H σ ∧ rowsL b k1 t k2 ds [] s1 = some (acc, s2) ∧
      ∀ σ' F' H', Sub F F' → W X.K C F' H' σ' s2 → Lt X C iL acc F' H' σ' → E.nx σ' H') :=
  ps_imp (ps_for hp hc hi hg (pss_cons ha (pss_one (ps_if ht (pss_one hb) pss_nil))) hs) fun E σ H ⟨F, s, ds, s1, acc, s2, w, ea, l0, er, q⟩ => by
  refine ⟨F, s, ds, s1, w, ea, fun J F1 H1 m1 w1 wk => ?_⟩
  have l1 := l0.mv w m1
  refine ⟨fun i m σ' H' => m = ds.length - i ∧ i ≤ ds.length ∧ ∃ F' s' a', W X.K C F' H' σ' s' ∧ Sub F1 F' ∧ Lt X C iL a' F' H' σ' ∧ rowsL b k1 t k2 (ds.drop i) a' s' = some (acc, s2), ⟨ds.length, by simp, Nat.zero_le _, F1, s1, [], w1, .refl _, l1, by simpa using er⟩, ?_⟩
  rintro i m σ' H' ⟨rfl, hi, F', s', a', w', sub, l', ef⟩
  by_cases hlt : i < ds.length
  · refine .inr ⟨wk.goes i H' F' hlt sub w'.into, fun σ2 H2 => i + 1 ≤ ds.length ∧ ∃ F2 s3 a2, W X.K C F2 H2 σ2 s3 ∧ Sub F1 F2 ∧ Lt X C iL a2 F2 H2 σ2 ∧ rowsL b k1 t k2 (ds.drop (i + 1)) a2 s3 = some (acc, s2), fun σ2 H2 ⟨hi2, F2, s3, a2, w2, sub2, l2, e2⟩ => ⟨ds.length - (i + 1), by omega, rfl, hi2, F2, s3, a2, w2, sub2, l2, e2⟩, fun x H2 y => ?_⟩
    obtain ⟨F2, d, hd, gr, rx⟩ := wk.yields i H' x H2 F' hlt sub w'.into y
    have ed : ds.drop i = d :: ds.drop (i + 1) := by
      rw [List.drop_eq_getElem_cons hlt]
      congr 1
      rw [List.getElem?_eq_getElem hlt] at hd
      exact Option.some.inj hd
    rw [ed] at ef
    unfold rowsL at ef
    have l2 := l'.mv w' (.grow gr)
    split at ef
    · cases ef
    rename_i t1 eb
    split at ef
    · cases ef
    rename_i y1 t2 e1
    split at ef
    · cases ef
    rename_i z1 ez1
    split at ef
    rotate_left
    · cases ef
    rename_i g1
    refine ⟨F2, s', d, t1, w'.grow gr, rx, eb, fun σ3 w3 c3 _ => ?_⟩
    refine put_runT (l2.chg (c3.2 iL hL)) w3 e1 ez1 g1 fun F4 H4 sub4 w4 l4 => ?_
    split at ef
    · cases ef
    · rename_i t3 et
      refine tT_run w4 et fun F5 H5 m5 w5 => iteF ?_
      exact ⟨hlt, F5, t3, _, w5, sub.trans (gr.sub.trans (sub4.trans m5.sub)), l4.mv w4 m5, ef⟩
    · rename_i t3 et
      split at ef
      · cases ef
      rename_i y2 t4 e2
      split at ef
      · cases ef
      rename_i z2 ez2
      split at ef
      rotate_left
      · cases ef
      rename_i g2
      refine tT_run w4 et fun F5 H5 m5 w5 => iteT ?_
      refine put_runT (l4.mv w4 m5) w5 e2 ez2 g2 fun F6 H6 sub6 w6 l6 => ?_
      exact ⟨hlt, F6, t4, _, w6, sub.trans (gr.sub.trans (sub4.trans (m5.sub.trans sub6))), l6, ef⟩
  · have e1 : i = ds.length := by omega
    subst e1
    refine .inl ⟨wk.stops H' F' sub w'.into, ?_⟩
    rw [List.drop_length] at ef
    cases ef
    exact q σ' F' H' (m1.sub.trans sub) w' l'
/-- the dict as data, when it no longer changes -/
theorem Lt.fz {iL : Nat} {acc : List (List Int)} (l : Lt X C iL acc F H σ) (w : W X.K C F H σ s) : ∃ a F', σ[iL]? = some (some (.ref a)) ∧ Sub F F' ∧ W X.K C F' H σ s ∧ Rp X.K F' (.ref a) (dctD acc) := by
  obtain ⟨a, xs, ep, h1, h2, h3, h4, h5, h6⟩ := l
  have w2 := w.freeze h2 h3 h4 (ext_own w h2)
  refine ⟨a, _, h1, sub_upd h3, w2, ?_⟩
  have := Rp.dkt (K := X.K) (updF_same (F := F) (a := a) (o := dctHO X.prog X.w a xs ep)) (fun x hx => (h5 x hx).up (sub_upd h3))
  have e : (xs.map fun x : List L2.Key × Addr × Value => ((PyData.tuple (x.1.map keyD), PyData.none) : D × D)) = acc.map fun k => (.tuple (k.map .int), .none) := by
    have : (xs.map fun x : List L2.Key × Addr × Value => ((PyData.tuple (x.1.map keyD), PyData.none) : D × D)) = (xs.map (·.1)).map fun k => (.tuple (k.map keyD), .none) := by rw [List.map_map]; rfl
    rw [this, h6, List.map_map]
    refine List.map_congr_left fun k _ => ?_
    show (PyData.tuple ((kZ k).map keyD), PyData.none) = (PyData.tuple (k.map .int), PyData.none)
    unfold kZ
    rw [List.map_map]
    rfl
  unfold dctD
  rw [← e]
  exact this
theorem ds_rows {Z : WX} {iF iL : Nat} {tg it te : Expr} {b : Pt} {sl : List Nat} {k1 k2 : Ex} {t : Tx} {st1 sa sb st3 : Stmt} {p1 p2 : Pos} (hp : PassesOwn (model X.prog X.w) X.A X.env X.xe) (hc : X.calm = true)
    (h1 : PS X st1 (tAsg (tDct0 X) (gName iL))) (hi : PI X tg it (tI X.K C (iKeysD (dVar iF)))) (hg : PG X tg (gD X.K C b sl)) (hL : iL ∉ sl)
    (ha : PS X sa (tAsg (tC (.bl true)) (gSub (tVar iL) (tD X.K C k1) (rSetT X)))) (ht : PT X te (tT X.K C t)) (hb : PS X sb (tAsg (tC (.bl true)) (gSub (tVar iL) (tD X.K C k2) (rSetT X))))
    (h3 : PS X st3 (tAsg (tVar iL) (gName iF))) (hs : ∀ x, foldedSetIterable it X.env x = pure x := by intro _; rfl) :
    PSs X [st1, .For tg it [sa, .If te [sb] [] p1] [] p2, st3] (tS X.K C Z (bRows iF iL b k1 t k2)) :=
  pss_imp (pss_cons h1 (pss_cons (rows_run hp hc hi hg hL ha ht hb hs) (pss_one h3))) fun E σ H ⟨F, s, o, w, e, q⟩ => by
  unfold bRows at e
  split at e
  rotate_left
  · cases e
  rename_i hN
  split at e
  · cases e
  rename_i ds s1 ek
  split at e
  · cases e
  rename_i acc s2 er
  cases e
  refine fun p hn => ?_
  have w1 := (w.grow (grow_own (o := dctHO X.prog X.w p [] 0) w.into hn)).raw iL (.ref p)
  refine ⟨F, _, ds, s1, acc, s2, w1, ek, ⟨p, [], 0, ?_, upd_same, w.into.free hn, w.gr.live _ hn, by simp, rfl⟩, er, fun σ' F' H' sub w' l' => ?_⟩
  · rw [List.getElem?_set_self (by rw [← w.len]; exact hN)]
  · obtain ⟨a, F2, e1, sub2, w2, r2⟩ := l'.fz w'
    exact ⟨.ref a, e1, q _ F2 H' (sub.trans sub2) (w2.store r2 iF)⟩
theorem de_dct1 {k : Expr} {fk : Ex} {n : Nat} {p2 pos : Pos} (hu : X.A.units + 1 < cLine) (hk : PE X k (tD X.K C fk)) : PE X (.Dict [some k] [.Constant (.bool true) n p2] pos) (tD X.K C (dDct1 fk)) :=
  pe_imp (pe_dct1 hu hk) fun σ H Q ⟨F, s, d, s', w, e, q⟩ => by
  unfold dDct1 at e
  split at e
  · cases e
  rename_i y s1 ek
  split at e
  · cases e
  rename_i z ez
  cases e
  intro p hn
  have g0 := grow_own (o := dctHO X.prog X.w p [] 0) w.into hn
  have w0 := w.grow g0
  refine tD_run w0 ek fun v F1 H1 m1 w1 r1 => ?_
  obtain ⟨qk, rfl, kn⟩ := keyZ_rp r1 ez
  have fp : F p = none := w.into.free hn
  have cp : C.H0 p = none := w.gr.live _ hn
  have l0 : p ∉ exOf C := w.noex cp
  obtain ⟨e1, f1⟩ := m1.oth p _ upd_same fp l0 (ext_own w0 upd_same)
  refine ⟨e1, qk, kZ z, rfl, kn.kn w1.into, fun ep => ?_⟩
  have w2 := w1.besideT (o := dctHO X.prog X.w p [(kZ z, qk, .bool true)] ep) f1 cp (ext_own w1 e1)
  have w3 := w2.freeze upd_same f1 cp (ext_own w2 upd_same)
  refine q _ _ _ ?_ w3 ?_
  · refine ⟨m1.sub.trans (sub_upd f1), fun b u hb fb eb nb => ?_, m1.own, fun b hb => ?_⟩
    · have nbp : b ≠ p := fun z => by
        subst z
        rw [hn] at hb; cases hb
      obtain ⟨g1, g2⟩ := m1.oth b u (by rw [upd_ne nbp]; exact hb) fb eb nb
      exact ⟨by rw [upd_ne nbp]; exact g1, by rw [updF_ne nbp]; exact g2⟩
    · by_cases z : b = p
      · subst z; exact hn
      · rw [upd_ne z] at hb
        have := m1.live b hb
        rwa [upd_ne z] at this
  · have := Rp.dkt (K := X.K) (updF_same (F := F1) (a := p) (o := dctHO X.prog X.w p [(kZ z, qk, .bool true)] ep)) (fun x hx => by
      rw [List.mem_singleton] at hx
      subst hx
      exact kn.up (sub_upd f1))
    have e2 : dctD [z] = .dict ((.none, .none) :: [(kZ z, qk, (.bool true : Value))].map fun x => (.tuple (x.1.map keyD), .none)) := by
      unfold dctD kZ
      simp only [List.map_cons, List.map_nil, List.map_map]
      rfl
    rw [e2]
    exact this
end
end Dl

/-! whether a tuple of numbers is one of the keys -/
namespace Dl
open PySem PySem.Spec L2
theorem hash_kZ {P P' : Program} {w w' : World} (z : List Int) : (tupleKind (mixKind P w)).hash (kZ z) = (tupleKind (mixKind P' w')).hash (kZ z) := by
  show reduceHash (Builtin.Tuple.tupleHashOf ((kZ z).map (keyH w))) = reduceHash (Builtin.Tuple.tupleHashOf ((kZ z).map (keyH w')))
  congr 2
  unfold kZ
  rw [List.map_map, List.map_map]
  rfl
theorem entry_kZ {P P' : Program} {w w' : World} {xs : List (List L2.Key × Addr × Value)} (h : ∀ x ∈ xs, ∃ z, x.1 = kZ z) : xs.map (entryOfKey (tupleKind (mixKind P w))) = xs.map (entryOfKey (tupleKind (mixKind P' w'))) := by
  refine List.map_congr_left fun x hx => ?_
  obtain ⟨z, e⟩ := h x hx
  unfold entryOfKey
  rw [e, hash_kZ (P := P) (P' := P') (w := w) (w' := w')]
theorem dct_any {P P' : Program} {w w' : World} {a : Addr} {xs : List (List L2.Key × Addr × Value)} {ep : Nat} (h : ∀ x ∈ xs, ∃ z, x.1 = kZ z) : dctHO P w a xs ep = dctHO P' w' a xs ep := by
  unfold dctHO
  rw [entry_kZ (P := P) (P' := P') (w := w) (w' := w') h]
def keysZ : List D → Option (List (List Int))
  | [] => some []
  | d :: ds => match keyZ d, keysZ ds with
    | some k, some ks => some (k :: ks)
    | _, _ => none
def inKD (y x : D) : Option D := match keyZ y with
  | none => none
  | some k => match keysD x with
    | none => none
    | some ds => match keysZ ds with
      | none => none
      | some ks => some (.bool (decide (k ∈ ks)))
theorem intsOf_eq : ∀ {ds : List D} {ns : List Int}, intsOf ds = some ns → ds = ns.map .int
  | [], _, h => by cases h; rfl
  | d :: ds, ns, h => by
    unfold intsOf at h
    split at h
    · rename_i h2
      cases h2
    · rename_i i ds' heq
      cases heq
      obtain ⟨r, hr, rfl⟩ := Option.map_eq_some_iff.mp h
      rw [intsOf_eq hr]
      rfl
    · cases h
theorem keyD_int {k : List L2.Key} {z : List Int} (h : k.map keyD = z.map .int) : k = kZ z := by
  induction k generalizing z with
  | nil => cases z with
    | nil => rfl
    | cons a b => cases h
  | cons a k ih => cases z with
    | nil => cases h
    | cons b z =>
      rw [List.map_cons, List.map_cons, List.cons.injEq] at h
      obtain ⟨h1, h2⟩ := h
      cases a with
      | inl i =>
        have : (PyData.int i) = .int b := h1
        cases this
        rw [ih h2]
        rfl
      | inr x => cases h1
theorem keysZ_of : ∀ {xs : List (List L2.Key × Addr × Value)} {ks : List (List Int)}, keysZ (xs.map fun x => .tuple (x.1.map keyD)) = some ks → xs.map (·.1) = ks.map kZ
  | [], ks, h => by
    have h' : some [] = some ks := h
    cases h'
    rfl
  | x :: xs, ks, h => by
    rw [List.map_cons] at h
    unfold keysZ at h
    split at h
    · rename_i k ks' h1 h2
      cases h
      rw [List.map_cons, List.map_cons, keysZ_of h2, keyD_int (intsOf_eq h1)]
    · cases h
section
variable {X : Cx}
theorem od_inK (hu : X.A.units + 1 < cLine) : OpD X (compareOp .In) inKD := by
  intro pins s σ H x y v u Q I rx ry ⟨F, d, e, r, i, hx, hy, hg, q⟩
  unfold inKD at hg
  split at hg
  · cases hg
  rename_i k ek
  split at hg
  · cases hg
  rename_i ds ed
  split at hg
  · cases hg
  rename_i ks eks
  cases hg
  obtain ⟨qk, rfl, kn⟩ := keyZ_rp hx ek
  unfold keysD at ed
  split at ed
  rotate_left
  · cases ed
  rename_i kvs
  cases ed
  obtain ⟨a, P', w', xs, ep, rfl, h1, h2, rfl⟩ := dkt_inv hy
  rw [List.map_map] at eks
  have hk := keysZ_of eks
  have hz : ∀ x ∈ xs, ∃ z, x.1 = kZ z := fun x hx => by
    have : x.1 ∈ ks.map kZ := hk ▸ List.mem_map.mpr ⟨x, hx, rfl⟩
    obtain ⟨z, _, e⟩ := List.mem_map.mp this
    exact ⟨z, e.symm⟩
  cases (show v = Value.ref qk from rx)
  cases (show u = Value.ref a from ry)
  have hH := i _ _ h1
  rw [dct_any (P' := X.prog) (w' := X.w) hz] at hH
  obtain ⟨e1, _⟩ := dct_get I hH
  refine wpAny_in_heap (tupleKind_room_in1 hu) (key_kn I (kn.kn i)) e1 (dct_of I hH fun x hx => (h2 x hx).kn i) ?_
  have e2 : (atKey xs (kZ k)).isSome = decide (k ∈ ks) := by
    unfold atKey
    rw [Option.isSome_map, Bool.eq_iff_iff, List.find?_isSome, decide_eq_true_iff]
    constructor
    · rintro ⟨x, hx, e⟩
      have : x.1 ∈ ks.map kZ := hk ▸ List.mem_map.mpr ⟨x, hx, rfl⟩
      obtain ⟨z, hz, e3⟩ := List.mem_map.mp this
      have := of_decide_eq_true e
      rw [← e3] at this
      exact kZ_inj this ▸ hz
    · intro h
      have : kZ k ∈ xs.map (·.1) := hk ▸ List.mem_map.mpr ⟨k, h, rfl⟩
      obtain ⟨x, hx, e⟩ := List.mem_map.mp this
      exact ⟨x, hx, decide_eq_true e⟩
  rw [e2]
  exact ⟨.bl (decide (k ∈ ks)), H, I.tok _, rfl, q _ F H (.refl i) (.bl _)⟩
end
end Dl

/-! All rows that can be reached, stage after stage. -/
namespace Dl
open PySem PySem.Spec L2

def putN (acc : List (List Nat)) (k : List Nat) : List (List Nat) := if k ∈ acc then acc else acc ++ [k]
theorem mem_putN {acc : List (List Nat)} {k v : List Nat} : v ∈ putN acc k ↔ v ∈ acc ∨ v = k := by
  unfold putN
  split
  · rename_i h
    exact ⟨.inl, fun q => q.elim id fun e => e ▸ h⟩
  · simp
theorem putN_len (acc : List (List Nat)) (k : List Nat) : (putN acc k).length ≤ acc.length + 1 := by
  unfold putN
  split <;> simp
def stpN (s : Nat) : List (List Nat) → List (List Nat) → List (List Nat)
  | [], acc => acc
  | u :: us, acc => stpN s us (if 0 < at0 u s then putN (putN acc u) (carry u s) else putN acc u)
theorem mem_stpN {s : Nat} {v : List Nat} : ∀ {us acc : List (List Nat)}, v ∈ stpN s us acc ↔ v ∈ acc ∨ ∃ u ∈ us, v = u ∨ (0 < at0 u s ∧ v = carry u s)
  | [], acc => by simp [stpN]
  | u :: us, acc => by
    rw [stpN, mem_stpN]
    split
    · rename_i h
      rw [mem_putN, mem_putN]
      constructor
      · rintro (((a | a) | a) | ⟨x, hx, a⟩)
        · exact .inl a
        · exact .inr ⟨u, List.mem_cons_self, .inl a⟩
        · exact .inr ⟨u, List.mem_cons_self, .inr ⟨h, a⟩⟩
        · exact .inr ⟨x, List.mem_cons_of_mem _ hx, a⟩
      · rintro (a | ⟨x, hx, a⟩)
        · exact .inl (.inl (.inl a))
        · rcases List.mem_cons.mp hx with rfl | hx
          · rcases a with a | ⟨_, a⟩
            · exact .inl (.inl (.inr a))
            · exact .inl (.inr a)
          · exact .inr ⟨x, hx, a⟩
    · rename_i h
      rw [mem_putN]
      constructor
      · rintro ((a | a) | ⟨x, hx, a⟩)
        · exact .inl a
        · exact .inr ⟨u, List.mem_cons_self, .inl a⟩
        · exact .inr ⟨x, List.mem_cons_of_mem _ hx, a⟩
      · rintro (a | ⟨x, hx, a⟩)
        · exact .inl (.inl a)
        · rcases List.mem_cons.mp hx with rfl | hx
          · rcases a with a | ⟨b, _⟩
            · exact .inl (.inr a)
            · exact absurd b h
          · exact .inr ⟨x, hx, a⟩
theorem stpN_len (s : Nat) : ∀ (us acc : List (List Nat)), (stpN s us acc).length ≤ acc.length + 2 * us.length
  | [], acc => by simp [stpN]
  | u :: us, acc => by
    rw [stpN]
    have h1 := stpN_len s us (if 0 < at0 u s then putN (putN acc u) (carry u s) else putN acc u)
    have h2 : (if 0 < at0 u s then putN (putN acc u) (carry u s) else putN acc u).length ≤ acc.length + 2 := by
      split
      · have a := putN_len acc u
        have b := putN_len (putN acc u) (carry u s)
        omega
      · have a := putN_len acc u
        omega
    simp only [List.length_cons]
    omega
def stagesN (l : List Nat) (f : List (List Nat)) : List (List Nat) := l.foldl (fun f s => stpN s f []) f
def rowsFrom (f : List (List Nat)) (ws : List (Nat × Nat)) : List (List Nat) := ws.foldl (fun f w => stagesN (List.range' w.1 (w.2 - w.1)) f) f
def rowsN (row : List Nat) (ws : List (Nat × Nat)) : List (List Nat) := rowsFrom [row] ws
theorem mem_stagesN {v : List Nat} : ∀ (k a : Nat) (f : List (List Nat)), v ∈ stagesN (List.range' a k) f ↔ ∃ u ∈ f, ∃ st : List Nat, st.Pairwise (· < ·) ∧ (∀ x ∈ st, a ≤ x ∧ x < a + k) ∧ runSt u st = some v
  | 0, a, f => by
    constructor
    · intro h
      exact ⟨v, h, [], .nil, by simp, rfl⟩
    · rintro ⟨u, hu, st, _, h, e⟩
      cases st with
      | nil =>
        cases e
        exact hu
      | cons x st =>
        have := h x List.mem_cons_self
        omega
  | k + 1, a, f => by
    rw [List.range'_succ]
    show v ∈ stagesN (List.range' (a + 1) k) (stpN a f []) ↔ _
    rw [mem_stagesN k (a + 1)]
    constructor
    · rintro ⟨u, hu, st, hp, hb, e⟩
      rw [mem_stpN] at hu
      rcases hu with hu | ⟨x, hx, hu⟩
      · exact absurd hu List.not_mem_nil
      rcases hu with rfl | ⟨h0, rfl⟩
      · exact ⟨u, hx, st, hp, fun y hy => by have := hb y hy; omega, e⟩
      · refine ⟨x, hx, a :: st, List.pairwise_cons.mpr ⟨fun y hy => by have := hb y hy; omega, hp⟩, fun y hy => ?_, ?_⟩
        · rcases List.mem_cons.mp hy with rfl | hy
          · omega
          · have := hb y hy; omega
        · rw [runSt, if_pos h0]
          exact e
    · rintro ⟨u, hu, st, hp, hb, e⟩
      cases st with
      | nil =>
        cases e
        exact ⟨v, mem_stpN.mpr (.inr ⟨v, hu, .inl rfl⟩), [], .nil, by simp, rfl⟩
      | cons x st =>
        have hx := hb x List.mem_cons_self
        rw [List.pairwise_cons] at hp
        by_cases hxa : x = a
        · subst hxa
          rw [runSt] at e
          split at e
          · rename_i h0
            exact ⟨carry u x, mem_stpN.mpr (.inr ⟨u, hu, .inr ⟨h0, rfl⟩⟩), st, hp.2, fun y hy => by have := hp.1 y hy; have := hb y (List.mem_cons_of_mem _ hy); omega, e⟩
          · cases e
        · refine ⟨u, mem_stpN.mpr (.inr ⟨u, hu, .inl rfl⟩), x :: st, List.pairwise_cons.mpr hp, fun y hy => ?_, e⟩
          rcases List.mem_cons.mp hy with rfl | hy
          · omega
          · have := hp.1 y hy; have := hb y (List.mem_cons_of_mem _ hy); omega
theorem mem_rowsFrom {v : List Nat} {n : Nat} : ∀ (ws : List (Nat × Nat)) (f : List (List Nat)), Ways n ws → (v ∈ rowsFrom f ws ↔ ∃ u ∈ f, ∃ p, All2 OwnSt ws p ∧ runPlan u p = some v)
  | [], f, _ => by
    constructor
    · intro h
      exact ⟨v, h, [], trivial, rfl⟩
    · rintro ⟨u, hu, p, ho, e⟩
      cases p with
      | nil => cases e; exact hu
      | cons => exact ho.elim
  | w :: ws, f, hw => by
    obtain ⟨a, b⟩ := w
    have hab := (hw _ List.mem_cons_self).1
    dsimp only at hab
    show v ∈ rowsFrom (stagesN (List.range' a (b - a)) f) ws ↔ _
    rw [mem_rowsFrom ws _ fun x hx => hw x (List.mem_cons_of_mem _ hx)]
    constructor
    · rintro ⟨u, hu, p, ho, e⟩
      obtain ⟨x, hx, st, hp, hb, e1⟩ := (mem_stagesN _ _ _).mp hu
      refine ⟨x, hx, st :: p, ⟨⟨hp, fun y hy => by have := hb y hy; dsimp only; omega⟩, ho⟩, ?_⟩
      show (runSt x st).bind (fun c1 => runPlan c1 p) = some v
      rw [e1]
      exact e
    · rintro ⟨u, hu, p, ho, e⟩
      cases p with
      | nil => exact ho.elim
      | cons st p =>
        obtain ⟨⟨hp, hb⟩, ho⟩ := ho
        have e' : (runSt u st).bind (fun c1 => runPlan c1 p) = some v := e
        cases e1 : runSt u st with
        | none => rw [e1] at e'; cases e'
        | some c =>
          rw [e1] at e'
          exact ⟨c, (mem_stagesN _ _ _).mpr ⟨u, hu, st, hp, fun y hy => by have := hb y hy; dsimp only at this; omega, e1⟩, p, ho, e'⟩
theorem mem_rowsN {row v : List Nat} {ws : List (Nat × Nat)} {n : Nat} (hw : Ways n ws) : v ∈ rowsN row ws ↔ ∃ p, All2 OwnSt ws p ∧ runPlan row p = some v := by
  unfold rowsN
  rw [mem_rowsFrom ws _ hw]
  simp
theorem mem_rows_reach {row v : List Nat} {ws : List (Nat × Nat)} (h2 : 2 ≤ row.length) (hw : Ways row.length ws) : v ∈ rowsN row ws ↔ reachB row ws v = true := (mem_rowsN hw).trans (reach_iff h2 hw).symm
/-- some row has what is wanted -/
def hasN (rows : List (List Nat)) (want : List Nat) : Bool := rows.any fun u => (List.range want.length).all fun k => decide (at0 want k ≤ at0 u k)
theorem has_met {row want : List Nat} {ws : List (Nat × Nat)} (h2 : 2 ≤ row.length) (hw : Ways row.length ws) (hl : want.length = row.length) : hasN (rowsN row ws) want = metB row ws want := by
  cases hm : metB row ws want with
  | true =>
    have hm' := hm
    unfold metB at hm'
    rw [Bool.and_eq_true, decide_eq_true_eq, List.all_eq_true] at hm'
    obtain ⟨hz, ha⟩ := hm'
    obtain ⟨c, r, o, m, _⟩ := lim_meets (wants := want) hw (by omega) hz (fun s hs => by
      have := ha s (List.mem_range.mpr (by omega))
      simpa using this)
    unfold hasN
    rw [List.any_eq_true]
    refine ⟨c, (mem_rowsN hw).mpr ⟨_, o, r⟩, ?_⟩
    rw [List.all_eq_true]
    intro k hk
    rw [List.mem_range] at hk
    exact decide_eq_true (m k (by omega))
  | false =>
    cases hh : hasN (rowsN row ws) want with
    | false => rfl
    | true =>
      unfold hasN at hh
      rw [List.any_eq_true] at hh
      obtain ⟨c, hc, h⟩ := hh
      obtain ⟨p, o, r⟩ := (mem_rowsN hw).mp hc
      rw [List.all_eq_true] at h
      have := met_reached h2 hw o r fun s hs => by
        have := h s (List.mem_range.mpr (by omega))
        simpa using this
      rw [hm] at this
      cases this
end Dl

/-! Dicts whose keys are rows: what the words are worth. -/
namespace Dl
open PySem PySem.Spec L2
def zN (u : List Nat) : List Int := u.map fun n : Nat => (n : Int)
theorem zN_inj {a b : List Nat} (h : zN a = zN b) : a = b := by
  unfold zN at h
  exact List.map_inj_right (fun x y e => by omega) |>.mp h
def dctN (l : List (List Nat)) : D := .dict ((.none, .none) :: l.map fun u => (rowD u, .none))
theorem dctD_N (l : List (List Nat)) : dctD (l.map zN) = dctN l := by
  unfold dctD dctN
  rw [List.map_map]
  congr 2
  refine List.map_congr_left fun u _ => ?_
  show (PyData.tuple ((zN u).map .int), PyData.none) = (rowD u, PyData.none)
  unfold zN rowD
  rw [List.map_map]
  rfl
theorem keyZ_row (u : List Nat) : keyZ (rowD u) = some (zN u) := by
  unfold keyZ rowD
  have : u.map natD = (zN u).map .int := by
    unfold zN
    rw [List.map_map]
    rfl
  rw [this]
  exact intsOf_map _
theorem putZ_N (acc : List (List Nat)) (u : List Nat) : putZ (acc.map zN) (zN u) = (putN acc u).map zN := by
  unfold putZ putN
  by_cases h : u ∈ acc
  · rw [if_pos h, if_pos (List.mem_map.mpr ⟨u, h, rfl⟩)]
  · rw [if_neg h, if_neg, List.map_append]
    · rfl
    · intro z
      obtain ⟨y, hy, e⟩ := List.mem_map.mp z
      exact h (zN_inj e ▸ hy)
theorem keysD_N (l : List (List Nat)) : keysD (dctN l) = some (l.map rowD) := by
  unfold dctN keysD
  simp
section
variable (s : S) (a : Ex)
@[simp] theorem ev_iKeysD : iKeysD a s = (match a s with
  | none => none
  | some (d, s1) => match keysD d with
    | none => none
    | some ds => some (ds, s1)) := Eq.trans rfl rfl
@[simp] theorem ev_dDct1 : dDct1 a s = (match a s with
  | none => none
  | some (d, s1) => match keyZ d with
    | none => none
    | some k => some (dctD [k], s1)) := Eq.trans rfl rfl
def kKeysO (o : Option (List D)) (Q : QA) (s : S) : Prop := match o with
  | none => False
  | some ds => Q ds s
@[simp] theorem kKeysO_ (ds : List D) (Q : QA) : kKeysO (some ds) Q s = Q ds s := Eq.trans rfl rfl
def kKeys (Q : QA) (x : D) (s : S) : Prop := kKeysO (keysD x) Q s
@[simp] theorem kKeys_ (Q : QA) (x : D) : kKeys Q x s = kKeysO (keysD x) Q s := Eq.trans rfl rfl
@[simp] theorem wA_Keys (Q : QA) : wA (iKeysD a) s Q = wE a s (kKeys Q) := by
  unfold wA wE iKeysD
  cases a s with
  | none => rfl
  | some p =>
    obtain ⟨x, s1⟩ := p
    unfold kKeys kKeysO
    dsimp only
    cases keysD x <;> rfl
def kDct1O (o : Option (List Int)) (Q : QE) (s : S) : Prop := match o with
  | none => False
  | some k => Q (dctD [k]) s
@[simp] theorem kDct1O_ (k : List Int) (Q : QE) : kDct1O (some k) Q s = Q (dctD [k]) s := Eq.trans rfl rfl
def kDct1 (Q : QE) (x : D) (s : S) : Prop := kDct1O (keyZ x) Q s
@[simp] theorem kDct1_ (Q : QE) (x : D) : kDct1 Q x s = kDct1O (keyZ x) Q s := Eq.trans rfl rfl
@[simp] theorem wE_Dct1 (Q : QE) : wE (dDct1 a) s Q = wE a s (kDct1 Q) := by
  unfold wE dDct1
  cases a s with
  | none => rfl
  | some p =>
    obtain ⟨x, s1⟩ := p
    unfold kDct1 kDct1O
    dsimp only
    cases keyZ x <;> rfl
end
theorem rows_w {iF iL : Nat} {b : Pt} {k1 k2 : Ex} {t : Tx} {s s1 s2 : S} {ds : List D} {acc : List (List Int)} {Q : QO} (h : iL < s.env.length) (e : iKeysD (dVar iF) { s with env := s.env.set iL none } = some (ds, s1))
    (r : rowsL b k1 t k2 ds [] s1 = some (acc, s2)) (q : Q (.nx { s2 with env := s2.env.set iF (some (.fz (dctD acc))) })) : wB (bRows iF iL b k1 t k2) s Q := by
  unfold wB bRows
  rw [if_pos h, e]
  dsimp only
  rw [r]
  exact q
/-- one of two chairs' places -/
theorem carry_cut {u : List Nat} {s : Nat} (hs : s + 1 < u.length) : u.take s ++ [at0 u s - 1, at0 u (s + 1) + 1] ++ u.drop (s + 2) = carry u s := by
  unfold carry
  refine List.ext_getElem (by simp; omega) fun i h1 h2 => ?_
  rw [List.getElem_set, List.getElem_set]
  simp only [List.length_append, List.length_take, List.length_cons, List.length_nil, List.length_drop] at h1
  by_cases a : i < s
  · rw [if_neg (by omega), if_neg (by omega), List.getElem_append_left (by simp; omega), List.getElem_append_left (by simp; omega), List.getElem_take]
  · by_cases b : i = s
    · subst b
      rw [if_neg (by omega), if_pos rfl, List.getElem_append_left (by simp; omega), List.getElem_append_right (by simp; omega)]
      simp [Nat.min_eq_left (show i ≤ u.length by omega)]
    · by_cases c : i = s + 1
      · subst c
        rw [if_pos rfl, List.getElem_append_left (by simp; omega), List.getElem_append_right (by simp; omega)]
        simp [Nat.min_eq_left (show s ≤ u.length by omega)]
      · rw [if_neg (by omega), if_neg (by omega), List.getElem_append_right (by simp; omega)]
        simp only [List.length_append, List.length_take, List.length_cons, List.length_nil, List.getElem_drop]
        congr 1
        omega
theorem row_keys (u : List Nat) : keyZ (rowD u) = some (zN u) := keyZ_row u
theorem keysZ_N : ∀ l : List (List Nat), keysZ (l.map rowD) = some (l.map zN)
  | [] => rfl
  | u :: l => by
    rw [List.map_cons]
    unfold keysZ
    rw [keyZ_row, keysZ_N l]
    rfl
theorem inKD_N (v : List Nat) (l : List (List Nat)) : inKD (rowD v) (dctN l) = some (.bool (decide (v ∈ l))) := by
  unfold inKD
  rw [keyZ_row]
  dsimp only
  rw [keysD_N]
  dsimp only
  rw [keysZ_N]
  dsimp only
  congr 2
  rw [decide_eq_decide]
  constructor
  · intro h
    obtain ⟨u, hu, e⟩ := List.mem_map.mp h
    exact zN_inj e ▸ hu
  · intro h
    exact List.mem_map.mpr ⟨v, h, rfl⟩
end Dl

namespace Df
open Dl
noncomputable def e_Lrows_6e9e_3 : Ex := (dBin addD (dBin addD (dSl slD (dVar 7) dNoPart (dPart (dVar 5))) (dTup (aCons (dBin subD (dBin ixD (dVar 7) (dVar 5)) (dC (.int 1))) (aCons (dBin addD (dBin ixD (dVar 7) (dBin addD (dVar 5) (dC (.int 1)))) (dC (.int 1))) aNil)))) (dSl slD (dVar 7) (dPart (dBin addD (dVar 5) (dC (.int 2)))) dNoPart))
noncomputable def g_Lrows_6e9e_2 : Bd := (bRows 2 6 (pName 7) (dVar 7) (tOf (dBin gtD (dBin ixD (dVar 7) (dVar 5)) (dC (.int 0)))) e_Lrows_6e9e_3)
noncomputable def g_Lrows_6e9e_1 : Bd := (bFor (iRange2 (aCons (dVar 3) (aCons (dVar 4) aNil))) (pName 5) g_Lrows_6e9e_2)
noncomputable def b_Lrows_6e9e : Bd := (bSeq (bSet 2 (dDct1 (dVar 0)))
      (bSeq (bFor (iSeq (dVar 1)) (pTup 2 (pCons (pName 3) (pCons (pName 4) pNil))) g_Lrows_6e9e_1)
      (bRet (dVar 2))))
noncomputable def f_Lrows_6e9e : List D → Option D := fnP 8 b_Lrows_6e9e
theorem rows_step {s : Nat} {r0 w1 f2 v3 v4 : Option Sl} : ∀ (us acc : List (List Nat)) (v7 : Option Sl), (∀ u ∈ us, s + 1 < u.length ∧ u.length ≤ 1000) → acc.length + 2 * us.length < 16777216 →
    ∃ v7', rowsL (pName 7) (dVar 7) (tOf (dBin gtD (dBin ixD (dVar 7) (dVar 5)) (dC (.int 0)))) e_Lrows_6e9e_3 (us.map rowD) (acc.map zN) ⟨[r0, w1, f2, v3, v4, fz (natD s), none, v7], [], 0⟩ = some ((stpN s us acc).map zN, ⟨[r0, w1, f2, v3, v4, fz (natD s), none, v7'], [], 0⟩)
  | [], acc, v7, _, _ => ⟨v7, rfl⟩
  | u :: us, acc, v7, hu, hl => by
    obtain ⟨hs, hn⟩ := hu u List.mem_cons_self
    simp only [List.length_cons] at hl
    have l1 := putN_len acc u
    have l2 := putN_len (putN acc u) (carry u s)
    have ih1 := rows_step (s := s) (r0 := r0) (w1 := w1) (f2 := f2) (v3 := v3) (v4 := v4) us (putN acc u) (fz (rowD u)) (fun x hx => hu x (List.mem_cons_of_mem _ hx)) (by omega)
    have ih2 := rows_step (s := s) (r0 := r0) (w1 := w1) (f2 := f2) (v3 := v3) (v4 := v4) us (putN (putN acc u) (carry u s)) (fz (rowD u)) (fun x hx => hu x (List.mem_cons_of_mem _ hx)) (by omega)
    have k1 := keyZ_row u
    have k2 := keyZ_row (carry u s)
    have p1 := putZ_N acc u
    have p2 := putZ_N (putN acc u) (carry u s)
    have s1 : slD (rowD u) none (some (s : Int)) = some (rowD (u.take s)) := sl_row_to u s
    have s2 : slD (rowD u) (some ((s : Int) + 2)) none = some (rowD (u.drop (s + 2))) := by
      have := sl_row_from u (s + 2)
      rwa [Int.natCast_add] at this
    have a1 : ixD (rowD u) (.int (s : Int)) = some (.int (at0 u s : Int)) := nat_at (by omega)
    have a2 : ixD (rowD u) (.int ((s : Int) + 1)) = some (.int (at0 u (s + 1) : Int)) := nat_at1 (by omega)
    rw [List.map_cons]
    unfold rowsL
    by_cases hp : 0 < at0 u s
    · have d1 : addD (rowD (u.take s)) (.tuple [.int ((at0 u s : Int) - 1), .int ((at0 u (s + 1) : Int) + 1)]) = some (rowD (u.take s ++ [at0 u s - 1, at0 u (s + 1) + 1])) := by
        unfold rowD
        rw [ev_addT, if_pos (by simp; omega), List.map_append]
        simp [natD]
        omega
      have d2 : addD (rowD (u.take s ++ [at0 u s - 1, at0 u (s + 1) + 1])) (rowD (u.drop (s + 2))) = some (rowD (carry u s)) := by
        unfold rowD
        rw [ev_addT, if_pos (by simp; omega), ← List.map_append, carry_cut hs]
      have e1 : stpN s (u :: us) acc = stpN s us (putN (putN acc u) (carry u s)) := by rw [stpN, if_pos hp]
      obtain ⟨v, ih⟩ := ih2
      refine ⟨v, ?_⟩
      rw [e1]
      unfold e_Lrows_6e9e_3 at ih ⊢
      generalize rowD u = rd at *
      generalize rowD (u.take s) = r1 at *
      generalize rowD (u.drop (s + 2)) = r2 at *
      generalize rowD (u.take s ++ [at0 u s - 1, at0 u (s + 1) + 1]) = r3 at *
      generalize rowD (carry u s) = r4 at *
      have hp' : (0 : Int) < (at0 u s : Int) := by omega
      simp [k1, k2, p1, p2, a1, a2, s1, s2, d1, d2, hp, hp']
      exact ⟨by omega, by omega, ih⟩
    · have e1 : stpN s (u :: us) acc = stpN s us (putN acc u) := by rw [stpN, if_neg hp]
      obtain ⟨v, ih⟩ := ih1
      refine ⟨v, ?_⟩
      rw [e1]
      generalize rowD u = rd at *
      have hp' : ¬ (0 : Int) < (at0 u s : Int) := by omega
      simp [k1, p1, a1, hp, hp']
      exact ⟨by omega, ih⟩

theorem stpN_all {P : List Nat → Prop} {s : Nat} {us acc : List (List Nat)} (h1 : ∀ u ∈ us, P u) (h2 : ∀ u ∈ acc, P u) (h3 : ∀ u, P u → P (carry u s)) : ∀ u ∈ stpN s us acc, P u := by
  intro v hv
  rcases mem_stpN.mp hv with h | ⟨u, hu, rfl | ⟨_, rfl⟩⟩
  · exact h2 v h
  · exact h1 v hu
  · exact h3 u (h1 u hu)
theorem rows_stage {row : D} {wk : D} {l : List (List Nat)} {f t x : Nat} {v6 v7 : Option Sl} (hl : 2 * l.length < 16777216) (hu : ∀ u ∈ l, x + 1 < u.length ∧ u.length ≤ 1000) :
    ∃ v7', g_Lrows_6e9e_2 ⟨[fz row, fz wk, fz (dctN l), fz (natD f), fz (natD t), fz (natD x), v6, v7], [], 0⟩ = some (.nx ⟨[fz row, fz wk, fz (dctN (stpN x l [])), fz (natD f), fz (natD t), fz (natD x), none, v7'], [], 0⟩) := by
  obtain ⟨v7', e⟩ := rows_step (s := x) (r0 := fz row) (w1 := fz wk) (f2 := fz (dctN l)) (v3 := fz (natD f)) (v4 := fz (natD t)) l [] v7 hu (by simpa using hl)
  refine ⟨v7', ?_⟩
  unfold g_Lrows_6e9e_2 bRows
  have k := keysD_N l
  rw [← dctD_N (stpN x l [])]
  generalize dctN l = dl at *
  generalize rowsL (pName 7) (dVar 7) (tOf (dBin gtD (dBin ixD (dVar 7) (dVar 5)) (dC (.int 0)))) e_Lrows_6e9e_3 = R at *
  simp only [List.map_nil] at e
  simp [k]
  simp [e]
theorem rows_ok {row : List Nat} {ws : List (Nat × Nat)} (hr : row.length ≤ 4) (hw : Ways row.length ws) (hn : ws.length ≤ 6) :
    f_Lrows_6e9e [rowD row, walkD ws] = some (dctN (rowsN row ws)) := by
  unfold f_Lrows_6e9e fnP b_Lrows_6e9e
  have pw : ∀ j, j ≤ 6 → 8 ^ j ≤ 262144 := fun j hj => Nat.le_trans (Nat.pow_le_pow_right (by decide) hj) (by decide)
  have p2 : ∀ j, j ≤ 3 → 2 ^ j ≤ 8 := fun j hj => Nat.le_trans (Nat.pow_le_pow_right (by decide) hj) (by decide)
  obtain ⟨s', k1, v3, v4, v5, v6, v7, rfl, h1, h3⟩ := forL_relN (b := pTup 2 (pCons (pName 3) (pCons (pName 4) pNil))) (g := g_Lrows_6e9e_1)
    (fun k (a : List (List Nat)) s => ∃ v3 v4 v5 v6 v7 : Option Sl, s = ⟨[fz (rowD row), fz (walkD ws), fz (dctN a), v3, v4, v5, v6, v7], [], 0⟩ ∧ (∀ u ∈ a, u.length = row.length) ∧ a.length ≤ 8 ^ k)
    (fun f w => stagesN (List.range' w.1 (w.2 - w.1)) f) wayD ws 0 [row] ⟨[fz (rowD row), fz (walkD ws), fz (dctN [row]), none, none, none, none, none], [], 0⟩
    ⟨_, _, _, _, _, rfl, by simp, by simp⟩ (by
    rintro j ⟨f, t⟩ a s hj ⟨v3, v4, v5, v6, v7, rfl, h1, h3⟩
    obtain ⟨hft, htn⟩ := hw (f, t) (List.mem_of_getElem? hj)
    have hjn : j < 6 := by
      have := (List.getElem?_eq_some_iff.mp hj).1
      omega
    dsimp only at h1 h3 hft htn
    rw [Nat.zero_add] at h3
    obtain ⟨s', k1, v5', v6', v7', rfl, q1, q3⟩ := forL_relN (b := pName 5) (g := g_Lrows_6e9e_2)
      (fun k (a : List (List Nat)) s => ∃ v5 v6 v7 : Option Sl, s = ⟨[fz (rowD row), fz (walkD ws), fz (dctN a), fz (natD f), fz (natD t), v5, v6, v7], [], 0⟩ ∧ (∀ u ∈ a, u.length = row.length) ∧ a.length ≤ 8 ^ j * 2 ^ k)
      (fun f s => stpN s f []) natD (List.range' f (t - f)) 0 a ⟨[fz (rowD row), fz (walkD ws), fz (dctN a), fz (natD f), fz (natD t), v5, v6, v7], [], 0⟩
      ⟨_, _, _, rfl, h1, by simpa using h3⟩ (by
      rintro i x l s hi ⟨v5, v6, v7, rfl, h1, h3⟩
      have hit : i < t - f := by
        have := (List.getElem?_eq_some_iff.mp hi).1
        simpa using this
      have hx : x = f + i := by
        have e := List.getElem?_range' (s := f) (step := 1) hit
        rw [e] at hi
        have := Option.some.inj hi
        omega
      rw [Nat.zero_add] at h3
      have b1 := pw j (by omega)
      have b2 := p2 i (by omega)
      have b3 : 8 ^ j * 2 ^ i ≤ 262144 * 8 := Nat.mul_le_mul b1 b2
      obtain ⟨v7', e⟩ := rows_stage (row := rowD row) (wk := walkD ws) (l := l) (f := f) (t := t) (x := x) (v6 := v6) (v7 := v7) (by omega) (fun u hu => by have := h1 u hu; omega)
      refine ⟨_, _, rfl, .inl e, _, _, _, rfl, stpN_all h1 (by simp) (fun u hu => by rw [carry_len]; exact hu), ?_⟩
      have := stpN_len x l []
      rw [List.length_nil] at this
      rw [Nat.zero_add, Nat.pow_succ, ← Nat.mul_assoc]
      omega)
    have r1 := inR_nat (i := f) (by omega)
    have r2 := inR_nat (i := t) (by omega)
    have e3 : ((t : Int) - (f : Int)).toNat = t - f := by omega
    rw [Nat.zero_add, List.length_range'] at q3
    have b4 : 8 ^ j * 2 ^ (t - f) ≤ 8 ^ (0 + j + 1) := by
      rw [Nat.zero_add, Nat.pow_succ]
      exact Nat.mul_le_mul (Nat.le_refl _) (p2 _ (by omega))
    refine ⟨_, _, rfl, .inl ?_, fz (natD f), fz (natD t), v5', v6', v7', rfl, q1, Nat.le_trans q3 b4⟩
    unfold g_Lrows_6e9e_1
    generalize dctN a = d1 at *
    unfold stagesN
    generalize dctN ((List.range' f (t - f)).foldl (fun f s => stpN s f []) a) = d2 at *
    simp [rgD_nat, r1, r2, e3]
    exact k1)
  have kz := keyZ_row row
  have e0 : dctD [zN row] = dctN [row] := dctD_N [row]
  unfold rowsN rowsFrom
  generalize dctN (ws.foldl (fun f w => stagesN (List.range' w.1 (w.2 - w.1)) f) [row]) = dd at *
  generalize hD : dctN [row] = d0 at *
  generalize rowD row = rd at *
  unfold walkD at k1 ⊢
  simp [kz, e0, k1]

end Df

namespace Df
open Dl
noncomputable def g_Lmoved_820d_2 : Bd := (bIf (tOf (dBin gtD (dAt 2 (dVar 6)) (dC (.int 0)))) (bSeq (bPut 2 (dVar 6) (dBin subD (dAt 2 (dVar 6)) (dC (.int 1))))
      (bSeq (bPut 2 (dBin addD (dVar 6) (dC (.int 1))) (dBin addD (dAt 2 (dBin addD (dVar 6) (dC (.int 1)))) (dC (.int 1))))
      (bPut 3 (dVar 6) (dBin addD (dAt 3 (dVar 6)) (dC (.int 1)))))) bNil)
noncomputable def g_Lmoved_820d_1 : Bd := (bFor (iRange2 (aCons (dVar 4) (aCons (dVar 5) aNil))) (pName 6) g_Lmoved_820d_2)
noncomputable def b_Lmoved_820d : Bd := (bSeq (bPar [2, 3] (mO (oList (dVar 0)) (mO (oMul (dOfO (oLst (aCons (dC (.int 0)) aNil))) (dBin subD (dApp lenD (aCons (dVar 0) aNil)) (dC (.int 1)))) mNil)))
      (bSeq (bFor (iSeq (dVar 1)) (pTup 2 (pCons (pName 4) (pCons (pName 5) pNil))) g_Lmoved_820d_1)
      (bRet (dVar 3))))
noncomputable def f_Lmoved_820d : List D → Option D := fnP 7 b_Lmoved_820d
-- needs Fi3
theorem moved_ok {row : List Nat} {ws : List (Nat × Nat)} (h1r : 1 ≤ row.length) (hr : row.length ≤ 1000) (hw : Ways row.length ws) (hn : ws.length ≤ 1000) :
    f_Lmoved_820d [rowD row, walkD ws] = some (.list ((carAll row ws).2.map natD)) := by
  unfold f_Lmoved_820d fnP b_Lmoved_820d
  obtain ⟨s', k1, v4, v5, v6, rfl, h1, h3⟩ := forL_relN (b := pTup 2 (pCons (pName 4) (pCons (pName 5) pNil))) (g := g_Lmoved_820d_1)
    (fun k (a : List Nat × List Nat) s => ∃ v4 v5 v6 : Option Sl, s = ⟨[some (.fz (rowD row)), some (.fz (walkD ws)), some (.ow (a.1.map natD)), some (.ow (a.2.map natD)), v4, v5, v6], [], 0⟩ ∧
      a.1.length = row.length ∧ a.2.length + 1 = row.length)
    carWalk wayD ws 0 (row, List.replicate (row.length - 1) 0) ⟨[some (.fz (rowD row)), some (.fz (walkD ws)), some (.ow (row.map natD)), some (.ow ((List.replicate (row.length - 1) 0).map natD)), none, none, none], [], 0⟩
    ⟨_, _, _, rfl, rfl, by simp; omega⟩ (by
    rintro j ⟨f, t⟩ ⟨c, l⟩ s hj ⟨v4, v5, v6, rfl, h1, h3⟩
    obtain ⟨hft, htn⟩ := hw (f, t) (List.mem_of_getElem? hj)
    dsimp only at h1 h3 hft htn
    obtain ⟨s', k1, v6', rfl, q1, q3⟩ := forL_relN (b := pName 6) (g := g_Lmoved_820d_2)
      (fun k (a : List Nat × List Nat) s => ∃ v6 : Option Sl, s = ⟨[some (.fz (rowD row)), some (.fz (walkD ws)), some (.ow (a.1.map natD)), some (.ow (a.2.map natD)), some (.fz (natD f)), some (.fz (natD t)), v6], [], 0⟩ ∧
        a.1.length = row.length ∧ a.2.length + 1 = row.length)
      carStep natD (List.range' f (t - f)) 0 (c, l) ⟨[some (.fz (rowD row)), some (.fz (walkD ws)), some (.ow (c.map natD)), some (.ow (l.map natD)), some (.fz (natD f)), some (.fz (natD t)), v6], [], 0⟩
      ⟨_, rfl, h1, h3⟩ (by
      rintro i x ⟨c, l⟩ s hi ⟨v6, rfl, h1, h3⟩
      dsimp only at h1 h3
      have hit : i < t - f := by
        have := (List.getElem?_eq_some_iff.mp hi).1
        simpa using this
      have hx : x = f + i := by
        have e := List.getElem?_range' (s := f) (step := 1) hit
        rw [e] at hi
        have := Option.some.inj hi
        omega
      have hx1 : x < c.length := by omega
      have hx2 : x + 1 < c.length := by omega
      have hx3 : x < l.length := by omega
      have hx4 : x + 1 < (c.set x (at0 c x - 1)).length := by simpa using hx2
      have a1 := nat_at hx1
      have a2 := nat_at hx3
      have a3 := nat_at1 hx4
      rw [at0_set_ne (show x ≠ x + 1 by omega)] at a3
      have ll := carStep_len (c, l) x
      dsimp only at ll
      by_cases hp : 0 < at0 c x
      · have d1 := nat_dec hx1 hp
        have d2 := nat_inc1 hx4
        rw [at0_set_ne (show x ≠ x + 1 by omega)] at d2
        have d3 := nat_put (v := at0 l x + 1) (d := .int ((at0 l x : Int) + 1)) hx3 rfl
        have g1 : (0 : Int) < (at0 c x : Int) := by omega
        refine ⟨_, ⟨[some (.fz (rowD row)), some (.fz (walkD ws)), some (.ow ((carry c x).map natD)), some (.ow ((l.set x (at0 l x + 1)).map natD)), some (.fz (natD f)), some (.fz (natD t)), some (.fz (natD x))], [], 0⟩, rfl, .inl ?_, some (.fz (natD x)), ?_, by omega, by omega⟩
        · unfold g_Lmoved_820d_2
          simp [-List.map_set, a1, a2, a3, d1, d2, d3, g1, hp, carry]
        · simp [carStep, hp]
      · refine ⟨_, ⟨[some (.fz (rowD row)), some (.fz (walkD ws)), some (.ow (c.map natD)), some (.ow (l.map natD)), some (.fz (natD f)), some (.fz (natD t)), some (.fz (natD x))], [], 0⟩, rfl, .inl ?_, some (.fz (natD x)), ?_, by omega, by omega⟩
        · unfold g_Lmoved_820d_2
          simp [a1, hp]
        · simp [carStep, hp])
    have r1 := inR_nat (i := f) (by omega)
    have r2 := inR_nat (i := t) (by omega)
    have e3 : ((t : Int) - (f : Int)).toNat = t - f := by omega
    refine ⟨⟨[some (.fz (rowD row)), some (.fz (walkD ws)), some (.ow (c.map natD)), some (.ow (l.map natD)), some (.fz (natD f)), some (.fz (natD t)), v6], [], 0⟩, ⟨[some (.fz (rowD row)), some (.fz (walkD ws)), some (.ow ((carWalk (c, l) (f, t)).1.map natD)), some (.ow ((carWalk (c, l) (f, t)).2.map natD)), some (.fz (natD f)), some (.fz (natD t)), v6'], [], 0⟩, by simp [wayD], .inl ?_, some (.fz (natD f)), some (.fz (natD t)), v6', rfl, q1, q3⟩
    unfold g_Lmoved_820d_1
    simp [rgD_nat, r1, r2, e3, k1]
    simp [carWalk])
  have i1 : okK ((row.length : Int) - 1) = true := okK_int (by omega) (by omega)
  have i2 : ((row.length : Int) - 1).toNat = row.length - 1 := by omega
  have i3 : row.length - 1 ≤ 16777216 := by omega
  have i4 : (List.replicate (row.length - 1) 0).map natD = List.replicate (row.length - 1) (PySem.PyData.int 0) := by rw [List.map_replicate]; rfl
  rw [i4] at k1
  have ce := car_end row ws
  unfold carAll at ce ⊢
  unfold rowD walkD at k1
  rw [ce] at k1
  simp [i1, i2, i3, List.flatten_replicate_singleton, k1, rowD, walkD]

end Df

namespace Df
open Dl
noncomputable def e_Lhas_8f57_2 : Ex := (dVar 3)
noncomputable def g_Lhas_8f57_1 : Bd := (bIf (tOf (dBin eqD (dOfO (oLc (iRange1 (aCons (dApp lenD (aCons (dVar 1) aNil)) aNil)) (pName 3) (tOf (dBin ltD (dBin ixD (dVar 2) (dVar 3)) (dBin ixD (dVar 1) (dVar 3)))) e_Lhas_8f57_2 [3])) (dOfO (oLst aNil)))) (bRet (dC (.bool true))) bNil)
noncomputable def b_Lhas_8f57 : Bd := (bSeq (bFor (iKeysD (dVar 0)) (pName 2) g_Lhas_8f57_1)
      (bRet (dC (.bool false))))
noncomputable def f_Lhas_8f57 : List D → Option D := fnP 4 b_Lhas_8f57
theorem has_turn {want : List Nat} {u : List Nat} : ((((List.range want.length).filter fun k => decide (at0 u k < at0 want k)).map natD).isEmpty) = (List.range want.length).all fun k => decide (at0 want k ≤ at0 u k) := by
  rw [List.isEmpty_map, Bool.eq_iff_iff, List.isEmpty_iff, List.filter_eq_nil_iff, List.all_eq_true]
  constructor
  · intro h k hk
    have := h k hk
    simp at this ⊢
    omega
  · intro h k hk
    have := h k hk
    simp at this ⊢
    omega
theorem has_w {dd : D} {want : List Nat} (hn : want.length ≤ 1000) {Q : QO} : ∀ (l : List (List Nat)) (v2 : Option Sl), (∀ u ∈ l, u.length = want.length) → (hasN l want = true → ∀ s', Q (.rt (.bool true) s')) → (hasN l want = false → ∀ v2, Q (.nx ⟨[fz dd, fz (rowD want), v2, none], [], 0⟩)) →
    wF (pName 2) g_Lhas_8f57_1 (l.map rowD) ⟨[fz dd, fz (rowD want), v2, none], [], 0⟩ Q
  | [], v2, _, _, h4 => by
    rw [List.map_nil, wF_nil]
    exact h4 rfl _
  | u :: l, v2, hl, h3, h4 => by
    rw [List.map_cons, wF_cons]
    have hu := hl u List.mem_cons_self
    have ih := has_w (dd := dd) (want := want) hn (Q := Q) l (fz (rowD u)) fun x hx => hl x (List.mem_cons_of_mem _ hx)
    have lw : lenD [rowD want] = some (.int (want.length : Int)) := by unfold rowD; simp
    have ir := inR_nat (i := want.length) (by omega)
    have ht := has_turn (want := want) (u := u)
    have e1 : hasN (u :: l) want = (((List.range want.length).all fun k => decide (at0 want k ≤ at0 u k)) || hasN l want) := rfl
    have au : ∀ k, k < want.length → ixD (rowD u) (.int (k : Int)) = some (.int (at0 u k : Int)) := fun k hk => nat_at (by omega)
    have aw : ∀ k, k < want.length → ixD (rowD want) (.int (k : Int)) = some (.int (at0 want k : Int)) := fun k hk => nat_at hk
    unfold g_Lhas_8f57_1 at ih ⊢
    generalize rowD u = rd at *
    generalize rowD want = wd at *
    simp [lw, ir, rgD_zero]
    refine wC_fil (fun k => decide (at0 u k < at0 want k)) natD natD (by simp; omega) (fun k hk => ?_) ?_
    · have hk := List.mem_range.mp hk
      have a := au k hk
      have b := aw k hk
      unfold e_Lhas_8f57_2
      by_cases h : at0 u k < at0 want k
      · simp [a, b, h]
      · simp [a, b, h]
    · rw [List.nil_append]
      generalize ((List.range want.length).filter fun k => decide (at0 u k < at0 want k)).map natD = ys at *
      cases hb : (List.range want.length).all fun k => decide (at0 want k ≤ at0 u k) with
      | true =>
        rw [hb] at ht e1
        simp [ht, -List.isEmpty_iff]
        exact h3 e1 _
      | false =>
        rw [hb] at ht e1
        simp [ht, -List.isEmpty_eq_false_iff]
        rw [e1, Bool.false_or] at h3 h4
        exact ih h3 h4
theorem has_ok {l : List (List Nat)} {want : List Nat} (hn : want.length ≤ 1000) (hl : ∀ u ∈ l, u.length = want.length) : f_Lhas_8f57 [dctN l, rowD want] = some (.bool (hasN l want)) := by
  unfold f_Lhas_8f57
  apply fnP_w
  unfold b_Lhas_8f57
  have k := keysD_N l
  have key := has_w (dd := dctN l) (want := want) hn (Q := kBSeq (bRet (dC (.bool false))) (retD (.bool (hasN l want)))) l none hl (fun h s' => by rw [h]; simp) (fun h v2 => by rw [h]; generalize dctN l = dl; generalize rowD want = wd; simp)
  generalize dctN l = dl at *
  generalize rowD want = wd at *
  simp [k]
  exact key
theorem has_rows {row want : List Nat} {ws : List (Nat × Nat)} (h2 : 2 ≤ row.length) (hr : row.length ≤ 1000) (hw : Ways row.length ws) (hl : want.length = row.length) : f_Lhas_8f57 [dctN (rowsN row ws), rowD want] = some (.bool (metB row ws want)) := by
  rw [has_ok (by omega) fun u hu => ?_, has_met h2 hw hl]
  obtain ⟨p, _, e⟩ := (mem_rowsN hw).mp hu
  rw [runPlan_len p e, hl]

end Df

namespace Df
open Dl
noncomputable def b_Lwith_d6e3 : Bd := (bRet (dBin addD (dBin addD (dSl slD (dVar 0) dNoPart (dPart (dVar 1))) (dTup (aCons (dBin addD (dBin ixD (dVar 0) (dVar 1)) (dVar 2)) aNil))) (dSl slD (dVar 0) (dPart (dBin addD (dVar 1) (dC (.int 1)))) dNoPart)))
noncomputable def f_Lwith_d6e3 : List D → Option D := fnP 3 b_Lwith_d6e3
-- needs Fi3
theorem with_ok {row : List Nat} {s m : Nat} (hs : s < row.length) (hr : row.length ≤ 1000) : f_Lwith_d6e3 [rowD row, natD s, .int (m : Int)] = some (rowD (withN row s m)) := by
  unfold f_Lwith_d6e3
  apply fnP_w
  unfold b_Lwith_d6e3
  have s1 : slD (rowD row) none (some (s : Int)) = some (rowD (row.take s)) := sl_row_to row s
  have s2 : slD (rowD row) (some ((s : Int) + 1)) none = some (rowD (row.drop (s + 1))) := by
    unfold rowD
    have := cut_from (row.map natD) (s + 1)
    rw [Int.natCast_add, Int.natCast_one] at this
    rw [ev_slT, this, List.map_drop]
  have a1 : ixD (rowD row) (.int (s : Int)) = some (natD (at0 row s)) := nat_at hs
  have d1 : addD (rowD (row.take s)) (.tuple [.int ((at0 row s : Int) + (m : Int))]) = some (rowD (row.take s ++ [at0 row s + m])) := by
    unfold rowD
    rw [ev_addT, if_pos (by simp; omega), List.map_append]
    rfl
  have d2 : addD (rowD (row.take s ++ [at0 row s + m])) (rowD (row.drop (s + 1))) = some (rowD (withN row s m)) := by
    unfold rowD withN
    rw [ev_addT, if_pos (by simp; omega), ← List.map_append, set_cut hs]
  generalize rowD row = rd at *
  generalize rowD (row.take s) = r1 at *
  generalize rowD (row.drop (s + 1)) = r2 at *
  generalize rowD (row.take s ++ [at0 row s + m]) = r3 at *
  generalize rowD (withN row s m) = r4 at *
  simp [s1, s2, a1, d1, d2]

end Df

namespace Df
open Dl
noncomputable def e_rule_plan_2c12_1 : Ex := (dApp lenD (aCons (dVar 1) aNil))
noncomputable def b_rule_plan_2c12 : Bd := (bSeq (bSet 2 (dOfO (oLc (iRange1 (aCons (dBin subD (dApp lenD (aCons (dVar 0) aNil)) (dC (.int 1))) aNil)) (pName 3) tYesX e_rule_plan_2c12_1 [3])))
      (bRet (dCall f_limited_plan_b7b8 (aCons (dVar 0) (aCons (dVar 1) (aCons (dVar 2) aNil))))))
noncomputable def f_rule_plan_2c12 : List D → Option D := fnP 4 b_rule_plan_2c12
/-- the plan of the rule, as the program has it -/
theorem rule_ok {row : List Nat} {ws : List (Nat × Nat)} (h2 : 2 ≤ row.length) (hr : row.length ≤ 1000) (hw : Ways row.length ws) (hn : ws.length ≤ 1000) :
    f_rule_plan_2c12 [rowD row, walkD ws] = some (planD (limPlan row (List.replicate (row.length - 1) ws.length) ws)) := by
  unfold f_rule_plan_2c12 fnP b_rule_plan_2c12
  have key := lcL_map (b := pName 3) (t := tYesX) (e := e_rule_plan_2c12_1) (vs := [3]) (fun _ => natD ws.length) natD ⟨[some (.fz (rowD row)), some (.fz (walkD ws)), none, none], [], 0⟩
    (fun x => ⟨_, _, ⟨[some (.fz (rowD row)), some (.fz (walkD ws)), none, some (.fz (natD x))], [], 0⟩, rfl, rfl, by unfold e_rule_plan_2c12_1; simp [walkD], rfl⟩) (List.range (row.length - 1)) [] (by simp; omega)
  have hi := inR_nat (i := row.length - 1) (by omega)
  have e : ((row.length : Nat) : Int) - 1 = ((row.length - 1 : Nat) : Int) := by omega
  have lim := limited_ok (row := row) (l := List.replicate (row.length - 1) ws.length) (ws := ws) (.inl rfl) (by simp; omega) hr hw hn
  have e2 : (List.range (row.length - 1)).map (fun _ => natD ws.length) = (List.replicate (row.length - 1) ws.length).map natD := by rw [List.map_replicate, List.map_const', List.length_range]
  rw [e2] at key
  generalize (List.replicate (row.length - 1) ws.length) = l at *
  unfold rowD walkD at key lim
  simp [rowD, walkD, e, hi, rgD_zero, key, lim]

end Df

namespace Df
open Dl
noncomputable def e_Lrow_d7da_1 : Ex := (dCallK f_Lnext_9d8d 0 (aCons (dBin addD (dBin ixD (dOfO (oLst (aCons (dVar 2) (aCons (dC (.int 1)) (aCons (dC (.int 1)) aNil))))) (dVar 4)) (dC (.int 1))) aNil))
noncomputable def b_Lrow_d7da : Bd := (bSeq (bPar [3, 4] (mD (dBin addD (dC (.int 2)) (dCallK f_Lnext_9d8d 0 (aCons (dBin subD (dVar 1) (dC (.int 1))) aNil))) (mD (dCallK f_Lnext_9d8d 0 (aCons (dC (.int 3)) aNil)) mNil)))
      (bSeq (bSetO 5 (oLc (iRange1 (aCons (dVar 3) aNil)) (pName 6) tYesX e_Lrow_d7da_1 [6]))
      (bSeq (bIf (tOf (dBin eqD (dVar 4) (dC (.int 2)))) (bPut 5 (dCallK f_Lnext_9d8d 0 (aCons (dC (.int 2)) aNil)) (dCallK f_Lnext_9d8d 0 (aCons (dBin addD (dVar 2) (dC (.int 1))) aNil))) bNil)
      (bRet (dApp tupleD (aCons (dVar 5) aNil))))))
noncomputable def f_Lrow_d7da : List D → List Int → Int → Option (D × List Int × Int) := fnK 7 b_Lrow_d7da
/-- a drawn row -/
theorem row3_ok {st most : Nat} {n : Int} {cs : List Int} (hs : 2 ≤ st) (hs2 : st ≤ 10) (hm : 1 ≤ most) (hh : most ≤ 100000) (h0 : 0 ≤ n) (h1 : n + 100 ≤ 50000000) (hc : 2 ≤ cs.length) :
    ∃ (row : List Nat) (cs' : List Int) (n' : Int), f_Lrow_d7da [.int (st : Int), .int (most : Int)] cs n = some (rowD row, cs', n') ∧ 2 ≤ row.length ∧ row.length ≤ st ∧ (∀ x ∈ row, x ≤ most) ∧ n ≤ n' ∧ n' ≤ n + 100 ∧ 2 ≤ cs'.length := by
  unfold f_Lrow_d7da fnK b_Lrow_d7da
  obtain ⟨r1, cs1, e1, b1, l1⟩ := nextN (k := st - 1) (n := n) (cs := cs) (by omega) (by omega) h0 (by omega) hc
  obtain ⟨r2, cs2, e2, b2, l2⟩ := nextN (k := 3) (n := n + 1) (cs := cs1) (by omega) (by omega) (by omega) (by omega) l1
  have ek : (st : Int) - 1 = ((st - 1 : Nat) : Int) := by omega
  obtain ⟨top, ht, htop⟩ : ∃ top : Nat, top ≤ most ∧ L2.atI [PySem.PyData.int (most : Int), .int 1, .int 1] (r2 : Int) = some (.int (top : Int)) := by
    have : r2 = 0 ∨ r2 = 1 ∨ r2 = 2 := by omega
    rcases this with rfl | rfl | rfl
    · exact ⟨most, Nat.le_refl _, at_nat rfl⟩
    · exact ⟨1, by omega, at_nat rfl⟩
    · exact ⟨1, by omega, at_nat rfl⟩
  simp only [Int.cast_ofNat_Int] at e2
  have key := lcL_inv (b := pName 6) (t := tYesX) (e := e_Lrow_d7da_1) (vs := [6])
    (fun k acc s => ∃ (row : List Nat) (cs' : List Int) (n' : Int), acc = row.map natD ∧ row.length = k ∧ (∀ x ∈ row, x ≤ most) ∧ s = ⟨[some .dk, some (.fz (.int st)), some (.fz (.int most)), some (.fz (.int (2 + (r1 : Int)))), some (.fz (.int r2)), none, none], cs', n'⟩ ∧ 2 ≤ cs'.length ∧ n ≤ n' ∧ n' ≤ n + 2 + k)
    ((List.range (2 + r1)).map natD) 0 [] ⟨[some .dk, some (.fz (.int st)), some (.fz (.int most)), some (.fz (.int (2 + (r1 : Int)))), some (.fz (.int r2)), none, none], cs2, n + 1 + 1⟩
    ⟨[], cs2, n + 1 + 1, rfl, rfl, by simp, rfl, l2, by omega, by omega⟩ ?_
  · obtain ⟨ys, s', h1', row, cs', n', rfl, hl, hx, rfl, hc', hn1, hn2⟩ := key
    have hlen : row.length = 2 + r1 := by simpa using hl
    simp only [List.length_map, List.length_range, Nat.zero_add] at hn2
    have hcr := inR_nat (i := 2 + r1) (by omega)
    rw [Int.natCast_add] at hcr
    simp only [Int.cast_ofNat_Int] at hcr
    have tn : (2 + (r1 : Int)).toNat = 2 + r1 := by omega
    have h16 : row.length ≤ 16777216 := by omega
    by_cases hw : r2 = 2
    · subst hw
      obtain ⟨x, cs3, e3, b3, l3⟩ := nextN (k := most + 1) (n := n') (cs := cs') (by omega) (by omega) (by omega) (by omega) hc'
      obtain ⟨at', cs4, e4, b4, l4⟩ := nextN (k := 2) (n := n' + 1) (cs := cs3) (by omega) (by omega) (by omega) (by omega) l3
      rw [Int.natCast_add, Int.natCast_one] at e3
      simp only [Int.cast_ofNat_Int] at e4 h1' htop e2
      have pt : putAt (row.map natD) (at' : Int) (.int (x : Int)) = some ((row.set at' x).map natD) := nat_put (by omega) rfl
      refine ⟨row.set at' x, cs4, n' + 1 + 1, ?_, by simp; omega, by simp; omega, fun y hy => ?_, by omega, by omega, l4⟩
      · generalize f_Lnext_9d8d = F at e1 e2 e3 e4 ⊢
        simp [ek, e1, e2, htop, hcr, tn, rgD_zero, h1', e3, e4, pt, h16, rowD, -List.map_set]
      · rcases List.mem_or_eq_of_mem_set hy with h | h
        · exact hx y h
        · omega
    · refine ⟨row, cs', n', ?_, by omega, by omega, hx, by omega, by omega, hc'⟩
      have hw' : ((r2 : Int) == 2) = false := by rw [beq_eq_false_iff_ne]; omega
      generalize f_Lnext_9d8d = F at e1 e2 ⊢
      simp [-beq_eq_false_iff_ne, ek, e1, e2, htop, hcr, tn, rgD_zero, h1', hw', h16, rowD]
  · rintro j x acc s hj ⟨row, cs', n', rfl, hl, hx, rfl, hc', hn1, hn2⟩
    have hjc : j < 2 + r1 := by
      have := (List.getElem?_eq_some_iff.mp hj).1
      simpa using this
    have ex : x = .int (j : Int) := by
      rw [List.getElem?_map, List.getElem?_range hjc] at hj
      exact (Option.some.inj hj).symm
    subst ex
    obtain ⟨d1, c1, q1, k1, m1⟩ := nextN (k := top + 1) (n := n') (cs := cs') (by omega) (by omega) (by omega) (by omega) hc'
    rw [Int.natCast_add, Int.natCast_one] at q1
    refine ⟨_, rfl, .inr ⟨_, natD d1, ⟨[some .dk, some (.fz (.int st)), some (.fz (.int most)), some (.fz (.int (2 + (r1 : Int)))), some (.fz (.int r2)), none, some (.fz (.int j))], c1, n' + 1⟩, rfl, ?_, by simp; omega, ?_⟩⟩
    · unfold e_Lrow_d7da_1
      generalize f_Lnext_9d8d = F at q1 ⊢
      simp [htop, q1]
    · refine ⟨row ++ [d1], c1, n' + 1, by simp, by simp [hl], ?_, by simp, m1, by omega, by omega⟩
      intro y hy
      rcases List.mem_append.mp hy with h | h
      · exact hx y h
      · have : y = d1 := by simpa using h
        omega
theorem row3_w {st most n : Int} {cs : List Int} {R : D → List Int → Int → Prop} (hs : 2 ≤ st) (hs2 : st ≤ 10) (hm : 1 ≤ most) (hh : most ≤ 100000) (h0 : 0 ≤ n) (h1 : n + 100 ≤ 50000000) (hc : 2 ≤ cs.length)
    (h : ∀ (row : List Nat) (cs' : List Int) (n' : Int), 2 ≤ row.length → (row.length : Int) ≤ st → (∀ x ∈ row, (x : Int) ≤ most) → n ≤ n' → n' ≤ n + 100 → 2 ≤ cs'.length → R (rowD row) cs' n') : wK f_Lrow_d7da [.int st, .int most] cs n R := by
  obtain ⟨row, cs', n', e, a, b, c, d, g, l⟩ := row3_ok (st := st.toNat) (most := most.toNat) (n := n) (cs := cs) (by omega) (by omega) (by omega) (by omega) h0 h1 hc
  rw [Int.toNat_of_nonneg (by omega), Int.toNat_of_nonneg (by omega)] at e
  exact wK_of e (h row cs' n' a (by omega) (fun x hx => by have := c x hx; omega) d g l)

end Df

namespace Df
open Dl
noncomputable def g_Lways_1baf_1 : Bd := (bSeq (bSet 6 (dCallK f_Lnext_9d8d 0 (aCons (dBin ixD (dOfO (oLst (aCons (dBin subD (dVar 1) (dC (.int 1))) (aCons (dBin subD (dVar 1) (dC (.int 1))) (aCons (dC (.int 1)) aNil))))) (dVar 3)) aNil)))
      (bSeq (bSet 7 (dBin addD (dBin addD (dVar 6) (dC (.int 1))) (dCallK f_Lnext_9d8d 0 (aCons (dBin ixD (dOfO (oLst (aCons (dBin subD (dBin subD (dVar 1) (dC (.int 1))) (dVar 6)) (aCons (dC (.int 1)) (aCons (dBin subD (dBin subD (dVar 1) (dC (.int 1))) (dVar 6)) aNil))))) (dVar 3)) aNil))))
      (bApp 4 (aCons (dTup (aCons (dVar 6) (aCons (dVar 7) aNil))) aNil))))
noncomputable def b_Lways_1baf : Bd := (bSeq (bPar [3, 4] (mD (dCallK f_Lnext_9d8d 0 (aCons (dC (.int 3)) aNil)) (mO (oLst aNil) mNil)))
      (bSeq (bFor (iRange1 (aCons (dCallK f_Lnext_9d8d 0 (aCons (dBin addD (dVar 2) (dC (.int 1))) aNil)) aNil)) (pName 5) g_Lways_1baf_1)
      (bRet (dApp tupleD (aCons (dVar 4) aNil)))))
noncomputable def f_Lways_1baf : List D → List Int → Int → Option (D × List Int × Int) := fnK 8 b_Lways_1baf
/-- drawn walkers -/
theorem ways3_ok {st most : Nat} {n : Int} {cs : List Int} (hs : 2 ≤ st) (hs2 : st ≤ 10) (hm : most ≤ 40) (h0 : 0 ≤ n) (h1 : n + 100 ≤ 50000000) (hc : 2 ≤ cs.length) :
    ∃ (ws : List (Nat × Nat)) (cs' : List Int) (n' : Int), f_Lways_1baf [.int (st : Int), .int (most : Int)] cs n = some (walkD ws, cs', n') ∧ Ways st ws ∧ ws.length ≤ most ∧ n ≤ n' ∧ n' ≤ n + 100 ∧ 2 ≤ cs'.length := by
  unfold f_Lways_1baf fnK b_Lways_1baf
  obtain ⟨way, cs1, e1, b1, l1⟩ := nextN (k := 3) (n := n) (cs := cs) (by omega) (by omega) h0 (by omega) hc
  obtain ⟨cnt, cs2, e2, b2, l2⟩ := nextN (k := most + 1) (n := n + 1) (cs := cs1) (by omega) (by omega) (by omega) (by omega) l1
  simp only [Int.cast_ofNat_Int] at e1
  rw [Int.natCast_add, Int.natCast_one] at e2
  obtain ⟨s', k1, ws, cs', n', v5, v6, v7, rfl, hl, hw, hc', hn1, hn2⟩ := forL_inv (b := pName 5) (g := g_Lways_1baf_1)
    (fun k s => ∃ (ws : List (Nat × Nat)) (cs' : List Int) (n' : Int) (v5 v6 v7 : Option Sl), s = ⟨[some .dk, some (.fz (.int st)), some (.fz (.int most)), some (.fz (.int way)), some (.ow (ws.map wayD)), v5, v6, v7], cs', n'⟩ ∧ ws.length = k ∧ Ways st ws ∧ 2 ≤ cs'.length ∧ n ≤ n' ∧ n' ≤ n + 2 + 2 * k)
    ((List.range cnt).map natD) 0 ⟨[some .dk, some (.fz (.int st)), some (.fz (.int most)), some (.fz (.int way)), some (.ow []), none, none, none], cs2, n + 1 + 1⟩
    ⟨[], cs2, n + 1 + 1, none, none, none, rfl, rfl, fun w hw => (by cases hw), l2, by omega, by omega⟩ (by
    rintro j x s hj ⟨ws, cs', n', v5, v6, v7, rfl, hl, hw, hc', hn1, hn2⟩
    have hjc : j < cnt := by
      have := (List.getElem?_eq_some_iff.mp hj).1
      simpa using this
    have ek : (st : Int) - 1 = ((st - 1 : Nat) : Int) := by omega
    obtain ⟨k1, hk1, hk2, hx1⟩ : ∃ k1 : Nat, 0 < k1 ∧ k1 ≤ st - 1 ∧ L2.atI [PySem.PyData.int ((st : Int) - 1), .int ((st : Int) - 1), .int 1] (way : Int) = some (.int (k1 : Int)) := by
      have : way = 0 ∨ way = 1 ∨ way = 2 := by omega
      rcases this with rfl | rfl | rfl
      · exact ⟨st - 1, by omega, by omega, by rw [at_nat rfl, ek]⟩
      · exact ⟨st - 1, by omega, by omega, by rw [at_nat rfl, ek]⟩
      · exact ⟨1, by omega, by omega, at_nat rfl⟩
    obtain ⟨a, c1, q1, ha, m1⟩ := nextN (k := k1) (n := n') (cs := cs') (by omega) (by omega) (by omega) (by omega) hc'
    obtain ⟨k2, hk3, hk4, hx2⟩ : ∃ k2 : Nat, 0 < k2 ∧ k2 ≤ st - 1 - a ∧ L2.atI [PySem.PyData.int ((st : Int) - 1 - (a : Int)), .int 1, .int ((st : Int) - 1 - (a : Int))] (way : Int) = some (.int (k2 : Int)) := by
      have ek2 : (st : Int) - 1 - (a : Int) = ((st - 1 - a : Nat) : Int) := by omega
      have : way = 0 ∨ way = 1 ∨ way = 2 := by omega
      rcases this with rfl | rfl | rfl
      · exact ⟨st - 1 - a, by omega, by omega, by rw [at_nat rfl, ek2]⟩
      · exact ⟨1, by omega, by omega, at_nat rfl⟩
      · exact ⟨st - 1 - a, by omega, by omega, by rw [at_nat rfl, ek2]⟩
    obtain ⟨b, c2, q2, hb, m2⟩ := nextN (k := k2) (n := n' + 1) (cs := c1) (by omega) (by omega) (by omega) (by omega) m1
    refine ⟨_, ⟨[some .dk, some (.fz (.int st)), some (.fz (.int most)), some (.fz (.int way)), some (.ow ((ws ++ [(a, a + 1 + b)]).map wayD)), some (.fz x), some (.fz (.int a)), some (.fz (.int ((a : Int) + 1 + (b : Int))))], c2, n' + 1 + 1⟩, rfl, .inl ?_, ⟨ws ++ [(a, a + 1 + b)], c2, n' + 1 + 1, _, _, _, rfl, by simp [hl], ?_, m2, by omega, by omega⟩⟩
    · unfold g_Lways_1baf_1
      have hz : ws.length < 16777216 := by omega
      have ew : wayD (a, a + 1 + b) = .tuple [.int (a : Int), .int ((a : Int) + 1 + (b : Int))] := rfl
      generalize f_Lnext_9d8d = F at q1 q2 ⊢
      simp [hx1, q1, hx2, q2, hz, ew]
    · intro y hy
      rcases List.mem_append.mp hy with h | h
      · exact hw y h
      · have : y = (a, a + 1 + b) := by simpa using h
        subst this
        exact ⟨by show a < a + 1 + b; omega, by show a + 1 + b < st; omega⟩)
  simp only [List.length_map, List.length_range, Nat.zero_add] at hn2 hl
  refine ⟨ws, cs', n', ?_, hw, by omega, by omega, by omega, hc'⟩
  have hcr := inR_nat (i := cnt) (by omega)
  have hz : ws.length ≤ 16777216 := by omega
  generalize f_Lnext_9d8d = F at e1 e2 ⊢
  simp [e1, e2, hcr, rgD_zero, k1, walkD]
theorem ways3_w {st most n : Int} {cs : List Int} {R : D → List Int → Int → Prop} (hs : 2 ≤ st) (hs2 : st ≤ 10) (hm0 : 0 ≤ most) (hm : most ≤ 40) (h0 : 0 ≤ n) (h1 : n + 100 ≤ 50000000) (hc : 2 ≤ cs.length)
    (h : ∀ (ws : List (Nat × Nat)) (cs' : List Int) (n' : Int), Ways st.toNat ws → (ws.length : Int) ≤ most → n ≤ n' → n' ≤ n + 100 → 2 ≤ cs'.length → R (walkD ws) cs' n') : wK f_Lways_1baf [.int st, .int most] cs n R := by
  obtain ⟨ws, cs', n', e, a, b, c, d, l⟩ := ways3_ok (st := st.toNat) (most := most.toNat) (n := n) (cs := cs) (by omega) (by omega) (by omega) h0 h1 hc
  rw [Int.toNat_of_nonneg (by omega), Int.toNat_of_nonneg hm0] at e
  exact wK_of e (h ws cs' n' a (by omega) c d l)

end Df

namespace Df
open Dl
noncomputable def e_Lwished_76c7_1 : Ex := (dBin mulD (dCallK f_Lnext_9d8d 0 (aCons (dC (.int 3)) aNil)) (dCallK f_Lnext_9d8d 0 (aCons (dC (.int 2)) aNil)))
noncomputable def e_Lwished_76c7_2 : Ex := (dCallK f_Lnext_9d8d 0 (aCons (dBin addD (dVar 2) (dC (.int 1))) aNil))
noncomputable def g_Lwished_76c7_3 : Bd := (bSeq (bApp 6 (aCons (dBin mulD (dCallK f_Lnext_9d8d 0 (aCons (dBin addD (dApp min2D (aCons (dVar 5) (aCons (dVar 2) aNil))) (dC (.int 1))) aNil)) (dApp intD (aCons (dBin gtD (dCallK f_Lnext_9d8d 0 (aCons (dC (.int 3)) aNil)) (dC (.int 0))) aNil))) aNil))
      (bSet 5 (dBin subD (dVar 5) (dAt 6 (dUn negD (dC (.int 1)))))))
noncomputable def b_Lwished_76c7 : Bd := (bSeq (bSet 3 (dCallK f_Lnext_9d8d 0 (aCons (dC (.int 3)) aNil)))
      (bSeq (bIf (tOf (dBin eqD (dVar 3) (dC (.int 0)))) (bRet (dApp tupleD (aCons (dOfO (oLc (iSeq (dVar 1)) (pName 4) tYesX e_Lwished_76c7_1 [4])) aNil))) bNil)
      (bSeq (bIf (tOf (dBin eqD (dVar 3) (dC (.int 1)))) (bRet (dApp tupleD (aCons (dOfO (oLc (iSeq (dVar 1)) (pName 4) tYesX e_Lwished_76c7_2 [4])) aNil))) bNil)
      (bSeq (bPar [5, 6] (mD (dApp sumD (aCons (dVar 1) aNil)) (mO (oLst aNil) mNil)))
      (bSeq (bFor (iRange3 (aCons (dBin subD (dApp lenD (aCons (dVar 1) aNil)) (dC (.int 1))) (aCons (dUn negD (dC (.int 1))) (aCons (dUn negD (dC (.int 1))) aNil)))) (pName 7) g_Lwished_76c7_3)
      (bRet (dApp tupleD (aCons (dUn rev2D (dVar 6)) aNil))))))))
noncomputable def f_Lwished_76c7 : List D → List Int → Int → Option (D × List Int × Int) := fnK 8 b_Lwished_76c7
-- needs Fd9
/-- drawn wants -/
theorem wished_w {row : List Nat} {most : Nat} {n : Int} {cs : List Int} {R : D → List Int → Int → Prop} (h2 : 1 ≤ row.length) (hr : row.length ≤ 10) (hrow : ∀ x ∈ row, x ≤ 99) (hm : most ≤ 900) (h0 : 0 ≤ n) (h1 : n + 100 ≤ 50000000) (hc : 2 ≤ cs.length)
    (h : ∀ (wants : List Nat) (cs' : List Int) (n' : Int), wants.length = row.length → (∀ x ∈ wants, x ≤ max most 2) → n ≤ n' → n' ≤ n + 100 → 2 ≤ cs'.length → R (rowD wants) cs' n') : wK f_Lwished_76c7 [rowD row, .int (most : Int)] cs n R := by
  unfold f_Lwished_76c7
  apply fnK_w
  unfold b_Lwished_76c7
  have ls : ∀ s : Nat, row.length ≤ 10 := fun _ => hr
  have hsum : row.sum ≤ 999 := by
    have : ∀ l : List Nat, (∀ x ∈ l, x ≤ 99) → l.sum ≤ 99 * l.length := by
      intro l
      induction l with
      | nil => simp
      | cons a l ih =>
        intro hl
        have := ih fun x hx => hl x (List.mem_cons_of_mem _ hx)
        have := hl a (List.mem_cons_self ..)
        simp
        omega
    have := this row hrow
    omega
  have sr := sum_row row
  have lr : lenD [rowD row] = some (.int row.length) := by simp [rowD]
  have irow : rowD row = .tuple (row.map natD) := rfl
  simp
  refine next_ok (by omega) (by omega) h0 (by omega) hc fun way cs1 hway l1 => ?_
  have : way = 0 ∨ way = 1 ∨ way = 2 := by omega
  rcases this with rfl | rfl | rfl
  · simp [irow]
    obtain ⟨C, hC⟩ : ∃ C : Nat → List D → S → Prop, C = (fun (k : Nat) (acc : List D) (s : S) => ∃ (ws : List Nat) (cs : List Int) (n' : Int), s = ⟨[some .dk, fz (.tuple (row.map natD)), fz (.int most), fz (.int 0), none, none, none, none], cs, n'⟩ ∧ acc = ws.map natD ∧ ws.length = k ∧ (∀ x ∈ ws, x ≤ max most 2) ∧ n ≤ n' ∧ n' ≤ n + 1 + 2 * k ∧ 2 ≤ cs.length) := ⟨_, rfl⟩
    refine wC_inv C 0 (by rw [hC]; exact ⟨[], cs1, n + 1, rfl, rfl, rfl, all_nil, by omega, by omega, l1⟩) (fun i x acc s hi hp => ?_) fun ys s hp => ?_
    · rw [hC] at hp
      obtain ⟨ws, cs3, n3, rfl, rfl, hrl, hrx, k3, k4, l3⟩ := hp
      have hir : i < row.length := by
        have := (List.getElem?_eq_some_iff.mp hi).1
        simpa using this
      unfold e_Lwished_76c7_1
      simp
      refine next_ok (by omega) (by omega) (by omega) (by omega) l3 fun p cs4 hp l4 => ?_
      simp
      refine next_ok (by omega) (by omega) (by omega) (by omega) l4 fun c cs5 hc l5 => ?_
      have sm1 := small_nat (a := p) (by omega)
      have hpc : p * c ≤ p * 1 := Nat.mul_le_mul_left _ (by omega)
      simp [sm1]
      refine ⟨by omega, ?_⟩
      rw [hC]
      exact ⟨ws ++ [p * c], cs5, _, rfl, by simp, by simp [hrl], all_app hrx (all_one (by omega)), by omega, by omega, l5⟩
    · rw [hC] at hp
      obtain ⟨ws, cs3, n3, rfl, rfl, hrl, hrx, k3, k4, l3⟩ := hp
      rw [List.length_map, Nat.zero_add] at hrl k4
      simp
      exact h ws cs3 n3 hrl hrx k3 (by omega) l3
  · simp [irow]
    obtain ⟨C, hC⟩ : ∃ C : Nat → List D → S → Prop, C = (fun (k : Nat) (acc : List D) (s : S) => ∃ (ws : List Nat) (cs : List Int) (n' : Int), s = ⟨[some .dk, fz (.tuple (row.map natD)), fz (.int most), fz (.int 1), none, none, none, none], cs, n'⟩ ∧ acc = ws.map natD ∧ ws.length = k ∧ (∀ x ∈ ws, x ≤ max most 2) ∧ n ≤ n' ∧ n' ≤ n + 1 + 2 * k ∧ 2 ≤ cs.length) := ⟨_, rfl⟩
    refine wC_inv C 0 (by rw [hC]; exact ⟨[], cs1, n + 1, rfl, rfl, rfl, all_nil, by omega, by omega, l1⟩) (fun i x acc s hi hp => ?_) fun ys s hp => ?_
    · rw [hC] at hp
      obtain ⟨ws, cs3, n3, rfl, rfl, hrl, hrx, k3, k4, l3⟩ := hp
      have hir : i < row.length := by
        have := (List.getElem?_eq_some_iff.mp hi).1
        simpa using this
      unfold e_Lwished_76c7_2
      simp
      refine next_ok (by omega) (by omega) (by omega) (by omega) l3 fun p cs4 hp l4 => ?_
      simp
      refine ⟨by omega, ?_⟩
      rw [hC]
      exact ⟨ws ++ [p], cs4, _, rfl, by simp, by simp [hrl], all_app hrx (all_one (by omega)), by omega, by omega, l4⟩
    · rw [hC] at hp
      obtain ⟨ws, cs3, n3, rfl, rfl, hrl, hrx, k3, k4, l3⟩ := hp
      rw [List.length_map, Nat.zero_add] at hrl k4
      simp
      exact h ws cs3 n3 hrl hrx k3 (by omega) l3
  · have em1 : (row.length : Int) - 1 = ((row.length - 1 : Nat) : Int) := by omega
    have r1 := inR_nat (i := row.length - 1) (by omega)
    have r2 : inR (-1) = true := inR_int (by decide) (by decide)
    simp [sr, lr, em1, r1, r2]
    obtain ⟨P, hP⟩ : ∃ P : Nat → S → Prop, P = (fun (k : Nat) (s : S) => ∃ (ws : List Nat) (left : Nat) (cs : List Int) (n' : Int) (v7 : Option Sl), s = ⟨[some .dk, fz (rowD row), fz (.int most), fz (natD 2), none, fz (natD left), some (.ow (ws.map natD)), v7], cs, n'⟩ ∧ left ≤ 999 ∧ ws.length = k ∧ (∀ x ∈ ws, x ≤ max most 2) ∧ n ≤ n' ∧ n' ≤ n + 1 + 2 * k ∧ 2 ≤ cs.length) := ⟨_, rfl⟩
    refine wF_inv P 0 (by rw [hP]; exact ⟨[], row.sum, cs1, n + 1, _, rfl, hsum, rfl, all_nil, by omega, by omega, l1⟩) (fun j x s hj hp => ?_) fun s hp => ?_
    · rw [hP] at hp
      obtain ⟨ws, left, cs3, n3, v7, rfl, hleft, hwl, hwx, k3, k4, l3⟩ := hp
      rw [Nat.zero_add] at *
      have hjr : j < row.length := by
        have := (List.getElem?_eq_some_iff.mp hj).1
        rw [rgC_len] at this
        omega
      have mn : min2D [.int (left : Int), .int (most : Int)] = some (.int ((min left most : Nat) : Int)) := by
        rw [ev_min2]
        split <;> (congr 2; omega)
      unfold g_Lwished_76c7_3
      simp [-ev_min2, mn]
      refine next_ok (by omega) (by omega) (by omega) (by omega) l3 fun p cs4 hp l4 => ?_
      simp
      refine next_ok (by omega) (by omega) (by omega) (by omega) l4 fun c cs5 hc l5 => ?_
      have hz : ws.length < 16777216 := by omega
      have sm1 := small_nat (a := p) (by omega)
      obtain ⟨f, hf1, hf⟩ : ∃ f : Nat, f ≤ 1 ∧ intD [.bool (decide ((0 : Int) < (c : Int)))] = some (.int (f : Int)) := by
        by_cases h : (0 : Int) < (c : Int)
        · exact ⟨1, by omega, by rw [decide_eq_true h]; rfl⟩
        · exact ⟨0, by omega, by rw [decide_eq_false h]; rfl⟩
      have hpf : p * f ≤ p * 1 := Nat.mul_le_mul_left _ hf1
      have al : L2.atI (ws.map natD ++ [PySem.PyData.int ((p : Int) * (f : Int))]) (-1) = some (.int ((p : Int) * (f : Int))) := at_last
      generalize hbb : decide ((0 : Int) < (c : Int)) = bb at hf
      simp [-ev_intB, -Int.natCast_pos, hbb, hf, sm1, hz, al]
      rw [hP]
      refine ⟨ws ++ [p * f], left - p * f, cs5, n3 + 1 + 1, fz x, ?_, by omega, by simp [hwl], all_app hwx (all_one (by omega)), by omega, by omega, l5⟩
      have e1 : (left : Int) - (p : Int) * (f : Int) = ((left - p * f : Nat) : Int) := by
        rw [← Int.natCast_mul]
        omega
      rw [e1]
      simp
    · rw [hP] at hp
      obtain ⟨ws, left, cs3, n3, v7, rfl, hleft, hwl, hwx, k3, k4, l3⟩ := hp
      rw [rgC_len, Nat.zero_add] at hwl k4
      simp
      have := h ws.reverse cs3 n3 (by simp; omega) (fun x hx => hwx x (by simpa using hx)) k3 (by omega) l3
      rw [rowD, List.map_reverse] at this
      exact this

end Df

namespace Df
open Dl
noncomputable def g_Lis_enough_66a9_1 : Bd := (bSeq (bSet 4 (dApp max2D (aCons (dC (.int 0)) (aCons (dBin addD (dBin subD (dBin ixD (dVar 2) (dVar 5)) (dBin ixD (dVar 0) (dVar 5))) (dVar 4)) aNil))))
      (bIf (tOf (dBin gtD (dVar 4) (dBin ixD (dBin addD (dOfO (oLst (aCons (dC (.int 0)) aNil))) (dVar 3)) (dVar 5)))) (bRet (dC (.bool false))) bNil))
noncomputable def b_Lis_enough_66a9 : Bd := (bSeq (bPar [3, 4] (mD (dCall f_Lmoved_820d (aCons (dVar 0) (aCons (dVar 1) aNil))) (mD (dC (.int 0)) mNil)))
      (bSeq (bFor (iRange3 (aCons (dBin subD (dApp lenD (aCons (dVar 0) aNil)) (dC (.int 1))) (aCons (dUn negD (dC (.int 1))) (aCons (dUn negD (dC (.int 1))) aNil)))) (pName 5) g_Lis_enough_66a9_1)
      (bRet (dC (.bool true)))))
noncomputable def f_Lis_enough_66a9 : List D → Option D := fnP 6 b_Lis_enough_66a9
-- needs Fi3
theorem rgC_down2 (k : Nat) : rgC ((k : Int) - 1) (-1) k = (List.range k).reverse.map natD := by
  unfold rgC
  refine List.ext_getElem (by simp) fun i h1 h2 => ?_
  have hi : i < k := by simpa using h1
  simp only [List.getElem_map, List.getElem_range, List.getElem_reverse, List.length_range]
  show PySem.PyData.int _ = PySem.PyData.int _
  congr 1
  omega
theorem down_w {row wants : List Nat} {ws : List (Nat × Nat)} {N : List Nat} (hr : row.length ≤ 500) (hw : wants.length = row.length) (hN : N.length + 1 = row.length) (hc : ∀ k, k < row.length → at0 (0 :: N) k = cnt ((k : Int) - 1) (duePlan row ws)) {Q : QO} : ∀ (m : Nat) (v5 : Option Sl), m ≤ row.length →
    ((∀ k, k < m → needN row wants k ≤ cnt ((k : Int) - 1) (duePlan row ws)) → ∀ v4' v5', Q (.nx ⟨[fz (rowD row), fz (walkD ws), fz (rowD wants), fz (.list (N.map natD)), v4', v5'], [], 0⟩)) →
    (¬ (∀ k, k < m → needN row wants k ≤ cnt ((k : Int) - 1) (duePlan row ws)) → ∀ s', Q (.rt (.bool false) s')) →
    wF (pName 5) g_Lis_enough_66a9_1 ((List.range m).reverse.map natD) ⟨[fz (rowD row), fz (walkD ws), fz (rowD wants), fz (.list (N.map natD)), fz (natD (needN row wants m)), v5], [], 0⟩ Q
  | 0, v5, _, h1, _ => by
    rw [List.range_zero, List.reverse_nil, List.map_nil, wF_nil]
    exact h1 (fun k hk => by omega) _ _
  | m + 1, v5, hm, h1, h2 => by
    rw [List.range_succ, List.reverse_append, List.reverse_singleton, List.singleton_append, List.map_cons, wF_cons]
    have ih := down_w (ws := ws) hr hw hN hc (Q := Q) m (fz (natD m)) (by omega)
    have a1 := at_rowD (row := row) (j := m) (by omega)
    have a2 := at_rowD (row := wants) (j := m) (by omega)
    have e := needN_step (row := row) (wants := wants) (s := m) (by omega)
    unfold dif at e
    have mx : max2D [.int 0, .int ((at0 wants m : Int) - (at0 row m : Int) + (needN row wants (m + 1) : Int))] = some (.int (needN row wants m : Int)) := by
      rw [ev_max2]
      split <;> (congr 2; omega)
    have ad : addD (.list [.int 0]) (.list (N.map natD)) = some (.list ((0 :: N).map natD)) := by
      rw [ev_addL, if_pos (by simp; omega)]
      rfl
    have a3 : L2.atI ((0 :: N).map natD) (m : Int) = some (natD (at0 (0 :: N) m)) := nat_at (by simp; omega)
    rw [hc m (by omega)] at a3
    unfold g_Lis_enough_66a9_1 at ih ⊢
    generalize rowD row = rd at *
    generalize rowD wants = wd at *
    generalize walkD ws = wk at *
    generalize (List.range m).reverse.map natD = L at *
    generalize (0 :: N).map natD = N2 at *
    generalize N.map natD = N1 at *
    by_cases hq : needN row wants m ≤ cnt ((m : Int) - 1) (duePlan row ws)
    · have hq2 : ¬ cnt ((m : Int) - 1) (duePlan row ws) < needN row wants m := by omega
      simp [a1, a2, -ev_max2, mx, ad, a3, hq, hq2]
      refine ih (fun h => h1 fun k hk => ?_) fun h => h2 fun g => h fun k hk => g k (by omega)
      by_cases z : k = m
      · rw [z]; exact hq
      · exact h k (by omega)
    · have hq2 : cnt ((m : Int) - 1) (duePlan row ws) < needN row wants m := by omega
      simp [a1, a2, -ev_max2, mx, ad, a3, hq, hq2]
      exact h2 (fun g => hq (g m (by omega))) _
theorem enoughB_ok {row wants : List Nat} {ws : List (Nat × Nat)} (h2 : 2 ≤ row.length) (hr : row.length ≤ 500) (hw : wants.length = row.length) (hws : Ways row.length ws) (hn : ws.length < 500) :
    f_Lis_enough_66a9 [rowD row, walkD ws, rowD wants] = some (.bool (metB row ws wants)) := by
  unfold f_Lis_enough_66a9
  apply fnP_w
  unfold b_Lis_enough_66a9
  have mk := moved_ok (row := row) (ws := ws) (by omega) (by omega) hws (by omega)
  have co := car_over hws (show 1 ≤ row.length by omega)
  obtain ⟨N, hN⟩ : ∃ N, N = (carAll row ws).2 := ⟨_, rfl⟩
  rw [← hN] at mk co
  have nl : N.length + 1 = row.length := by rw [co]; simp; omega
  have hc : ∀ k, k < row.length → at0 (0 :: N) k = cnt ((k : Int) - 1) (duePlan row ws) := fun k hk => by
    cases k with
    | zero => rw [show ((0 : Nat) : Int) - 1 = -1 from rfl, cnt_neg]; rfl
    | succ k =>
      rw [show ((k + 1 : Nat) : Int) - 1 = (k : Int) by omega, co, at0_eq (by simp; omega)]
      simp
  have key := down_w (row := row) (wants := wants) (ws := ws) (N := N) hr hw nl hc (Q := kBSeq (bRet (dC (.bool true))) (retD (.bool (metB row ws wants)))) row.length none (Nat.le_refl _)
    (fun h v4 v5 => by
      have : metB row ws wants = true := (metB_iff (by omega)).mpr fun k hk => by have := h k hk; omega
      rw [this]
      generalize rowD row = rd at *
      generalize rowD wants = wd at *
      generalize walkD ws = wk at *
      simp) (fun h s' => by
      have : metB row ws wants = false := by
        cases q : metB row ws wants with
        | false => rfl
        | true =>
          refine absurd (fun k hk => ?_) h
          have := (metB_iff (by omega)).mp q k hk
          omega
      rw [this]
      simp)
  rw [needN_end (Nat.le_refl _), ← rgC_down2] at key
  have lr := len_row row
  have em : (row.length : Int) - 1 = ((row.length - 1 : Nat) : Int) := by omega
  have r1 : inR ((row.length : Int) - 1) = true := inR_int (by omega) (by omega)
  have r2 : inR (-1) = true := inR_int (by decide) (by decide)
  have e2 : ((row.length : Int) - 1 - -1).toNat = row.length := by omega
  generalize rowD row = rd at *
  generalize rowD wants = wd at *
  generalize walkD ws = wk at *
  simp [mk, lr, r1, r2, e2]
  exact key

end Df

namespace Df
open Dl
noncomputable def g_Ldue_7272_1 : Bd := (bIf (tTru (dCall f_Lhas_8f57 (aCons (dCall f_Lrows_6e9e (aCons (dCall f_Lwith_d6e3 (aCons (dVar 0) (aCons (dVar 3) (aCons (dVar 4) aNil)))) (aCons (dVar 1) aNil))) (aCons (dVar 2) aNil)))) (bRet (dVar 4)) bNil)
noncomputable def b_Ldue_7272 : Bd := (bSeq (bFor (iRange1 (aCons (dBin addD (dBin addD (dBin ixD (dVar 2) (dVar 3)) (dApp lenD (aCons (dVar 1) aNil))) (dC (.int 1))) aNil)) (pName 4) g_Ldue_7272_1)
      (bRet (dC .none)))
noncomputable def f_Ldue_7272 : List D → Option D := fnP 5 b_Ldue_7272
-- needs Fi3
theorem withN_at {b : List Nat} {s d k : Nat} (hk : k < b.length) : at0 (withN b s d) k = if s = k then at0 b s + d else at0 b k := by
  unfold withN
  rw [at0_set hk]
theorem carry_with {b : List Nat} {s d x : Nat} (hx : x + 1 < b.length) (hs : s < b.length) (h0 : 0 < at0 b x) : carry (withN b s d) x = withN (carry b x) s d := by
  refine List.ext_getElem (by rw [carry_len, withN_len, withN_len, carry_len]) fun i h1 h2 => ?_
  rw [carry_len, withN_len] at h1
  have hxw : x + 1 < (withN b s d).length := by rw [withN_len]; exact hx
  have p : 0 < at0 (withN b s d) x := by
    rw [withN_at (by omega)]
    split
    · rename_i e; subst e; omega
    · exact h0
  have a := at0_carry (c := withN b s d) (x := x) (s := i) hxw p (by rw [withN_len]; exact h1)
  have c := at0_carry (c := b) (x := x) (s := i) hx h0 h1
  have c2 := at0_carry (c := b) (x := x) (s := s) hx h0 hs
  rw [← at0_eq, ← at0_eq, withN_at (by rw [carry_len]; exact h1)]
  rw [withN_at h1] at a
  by_cases e : s = i
  · subst e
    rw [if_pos rfl] at a ⊢
    omega
  · rw [if_neg e] at a ⊢
    omega
theorem carry_ge {b : List Nat} {s x : Nat} (hx : x + 1 < b.length) (hs : s < b.length) (h0 : 0 < at0 b x) (h : x ≠ s) : at0 b s ≤ at0 (carry b x) s := by
  have c2 := at0_carry (c := b) (x := x) (s := s) hx h0 hs
  unfold one at c2
  have : (x == s) = false := beq_eq_false_iff_ne.mpr h
  rw [this] at c2
  by_cases q : (x + 1 == s) = true
  · rw [q] at c2
    simp at c2
    omega
  · rw [Bool.not_eq_true] at q
    rw [q] at c2
    simp at c2
    omega
theorem carry_self {b : List Nat} {x : Nat} (hx : x + 1 < b.length) (h0 : 0 < at0 b x) : at0 b x ≤ at0 (carry b x) x + 1 := by
  have c2 := at0_carry (c := b) (x := x) (s := x) hx h0 (by omega)
  unfold one at c2
  have e1 : (x == x) = true := beq_iff_eq.mpr rfl
  have e2 : (x + 1 == x) = false := beq_eq_false_iff_ne.mpr (by omega)
  rw [e1, e2] at c2
  simp at c2
  omega
theorem less_st0 {s d : Nat} : ∀ (st : List Nat) (b a' : List Nat), s < b.length → (∀ x ∈ st, x + 1 < b.length ∧ x ≠ s) → runSt (withN b s d) st = some a' → ∃ b', runSt b st = some b' ∧ a' = withN b' s d ∧ at0 b s ≤ at0 b' s ∧ b'.length = b.length
  | [], b, a', hs, _, e => by
    cases e
    exact ⟨b, rfl, rfl, Nat.le_refl _, rfl⟩
  | x :: st, b, a', hs, h, e => by
    obtain ⟨hx, hn⟩ := h x List.mem_cons_self
    rw [runSt] at e
    split at e
    rotate_left
    · cases e
    rename_i p
    rw [withN_at (by omega), if_neg (Ne.symm hn)] at p
    rw [carry_with hx hs p] at e
    obtain ⟨b', e1, e2, e3, e4⟩ := less_st0 (s := s) (d := d) st (carry b x) a' (by rw [carry_len]; exact hs) (fun y hy => by rw [carry_len]; exact h y (List.mem_cons_of_mem _ hy)) e
    refine ⟨b', by rw [runSt, if_pos p]; exact e1, e2, Nat.le_trans (carry_ge hx hs p hn) e3, by rw [e4, carry_len]⟩
theorem less_st {s d : Nat} : ∀ (st : List Nat) (b a' : List Nat), s < b.length → st.Pairwise (· < ·) → (∀ x ∈ st, x + 1 < b.length) → 0 < at0 b s → runSt (withN b s d) st = some a' → ∃ b', runSt b st = some b' ∧ a' = withN b' s d ∧ at0 b s ≤ at0 b' s + 1 ∧ b'.length = b.length
  | [], b, a', hs, _, _, _, e => by
    cases e
    exact ⟨b, rfl, rfl, by omega, rfl⟩
  | x :: st, b, a', hs, hp, h, h0, e => by
    have hx := h x List.mem_cons_self
    rw [List.pairwise_cons] at hp
    rw [runSt] at e
    split at e
    rotate_left
    · cases e
    rename_i p
    by_cases hn : x = s
    · subst hn
      rw [carry_with hx hs h0] at e
      obtain ⟨b', e1, e2, e3, e4⟩ := less_st0 (s := x) (d := d) st (carry b x) a' (by rw [carry_len]; exact hs) (fun y hy => ⟨by rw [carry_len]; exact h y (List.mem_cons_of_mem _ hy), by have := hp.1 y hy; omega⟩) e
      refine ⟨b', by rw [runSt, if_pos h0]; exact e1, e2, ?_, by rw [e4, carry_len]⟩
      have := carry_self hx h0
      omega
    · rw [withN_at (by omega), if_neg (Ne.symm hn)] at p
      rw [carry_with hx hs p] at e
      have g := carry_ge hx hs p hn
      obtain ⟨b', e1, e2, e3, e4⟩ := less_st (s := s) (d := d) st (carry b x) a' (by rw [carry_len]; exact hs) hp.2 (fun y hy => by rw [carry_len]; exact h y (List.mem_cons_of_mem _ hy)) (by omega) e
      refine ⟨b', by rw [runSt, if_pos p]; exact e1, e2, by omega, by rw [e4, carry_len]⟩
theorem less_plan {s d : Nat} : ∀ (ws : List (Nat × Nat)) (p : List (List Nat)) (b a' : List Nat), s < b.length → Ways b.length ws → All2 OwnSt ws p → ws.length ≤ at0 b s → runPlan (withN b s d) p = some a' → ∃ b', runPlan b p = some b' ∧ a' = withN b' s d ∧ at0 b s ≤ at0 b' s + ws.length ∧ b'.length = b.length
  | [], [], b, a', _, _, _, _, e => by
    cases e
    exact ⟨b, rfl, rfl, by simp, rfl⟩
  | w :: ws, st :: p, b, a', hs, hw, ho, h0, e => by
    obtain ⟨⟨hp, hb⟩, ho⟩ := ho
    have hw1 := hw w List.mem_cons_self
    rw [List.length_cons] at h0
    have e' : (runSt (withN b s d) st).bind (fun c1 => runPlan c1 p) = some a' := e
    cases e1 : runSt (withN b s d) st with
    | none => rw [e1] at e'; cases e'
    | some c =>
      rw [e1] at e'
      obtain ⟨b1, q1, q2, q3, q4⟩ := less_st (s := s) (d := d) st b c hs hp (fun x hx => by have := hb x hx; omega) (by omega) e1
      subst q2
      obtain ⟨b', r1, r2, r3, r4⟩ := less_plan (s := s) (d := d) ws p b1 a' (by rw [q4]; exact hs) (by rw [q4]; exact fun x hx => hw x (List.mem_cons_of_mem _ hx)) ho (by omega) e'
      refine ⟨b', ?_, r2, by rw [List.length_cons]; omega, by rw [r4, q4]⟩
      show (runSt b st).bind (fun c1 => runPlan c1 p) = some b'
      rw [q1]
      exact r1
  | [], _ :: _, _, _, _, _, h, _, _ => h.elim
  | _ :: _, [], _, _, _, _, h, _, _ => h.elim
theorem withN_add {row : List Nat} {s a d : Nat} (hs : s < row.length) : withN (withN row s a) s d = withN row s (a + d) := by
  unfold withN
  rw [at0_set hs, if_pos rfl, List.set_set, Nat.add_assoc]
/-- more than the want and a chair for each walker are not needed -/
theorem few_bnd18 {row wants : List Nat} {ws : List (Nat × Nat)} {s d : Nat} (h2 : 2 ≤ row.length) (hw : Ways row.length ws) (hs : s < row.length) (hl : wants.length = row.length) (h : metB (withN row s (at0 wants s + ws.length + d)) ws wants = true) : metB (withN row s (at0 wants s + ws.length)) ws wants = true := by
  have L := withN_len row s (at0 wants s + ws.length + d)
  have L2 := withN_len row s (at0 wants s + ws.length)
  obtain ⟨hz, hc⟩ : needN (withN row s (at0 wants s + ws.length + d)) wants 0 = 0 ∧ ∀ k, k + 1 < (withN row s (at0 wants s + ws.length + d)).length → needN (withN row s (at0 wants s + ws.length + d)) wants (k + 1) ≤ cnt k (duePlan (withN row s (at0 wants s + ws.length + d)) ws) := by
    unfold metB at h
    rw [Bool.and_eq_true, decide_eq_true_eq, List.all_eq_true] at h
    exact ⟨h.1, fun k hk => by
      have := h.2 k (List.mem_range.mpr (by omega))
      simpa using this⟩
  obtain ⟨c, r, o, m, _⟩ := lim_meets (wants := wants) (by rw [L]; exact hw) (by rw [L]; omega) hz hc
  generalize limPlan (withN row s (at0 wants s + ws.length + d)) (limits (withN row s (at0 wants s + ws.length + d)) wants) ws = pp at r o
  rw [← withN_add hs] at r
  have a0 : at0 (withN row s (at0 wants s + ws.length)) s = at0 row s + (at0 wants s + ws.length) := by rw [withN_at hs, if_pos rfl]
  obtain ⟨b', q1, q2, q3, q4⟩ := less_plan (s := s) (d := d) ws _ (withN row s (at0 wants s + ws.length)) c (by rw [L2]; exact hs) (by rw [L2]; exact hw) o (by omega) r
  refine met_reached (by rw [L2]; exact h2) (by rw [L2]; exact hw) o q1 fun k hk => ?_
  rw [L2] at hk
  by_cases e : s = k
  · subst e
    omega
  · have := m k (by omega)
    rw [q2, withN_at (by rw [q4, L2]; exact hk), if_neg e] at this
    exact this
theorem few_le_bnd18 {row wants : List Nat} {ws : List (Nat × Nat)} {s m : Nat} (h2 : 2 ≤ row.length) (hw : Ways row.length ws) (hs : s < row.length) (hl : wants.length = row.length) (h : fewN row ws wants s = some m) : m ≤ at0 wants s + ws.length := by
  obtain ⟨a, b⟩ := few_some.mp h
  by_cases q : m ≤ at0 wants s + ws.length
  · exact q
  · exfalso
    have e : m = at0 wants s + ws.length + (m - (at0 wants s + ws.length)) := by omega
    rw [e] at a
    have := few_bnd18 h2 hw hs hl a
    rw [b _ (by omega)] at this
    cases this

theorem due18_w {row wants : List Nat} {ws : List (Nat × Nat)} {s : Nat} (h2 : 2 ≤ row.length) (hr : row.length ≤ 4) (hw : wants.length = row.length) (hws : Ways row.length ws) (hn : ws.length ≤ 6) (hs : s < row.length) {Q : QO} : ∀ (m k : Nat) (v4 : Option Sl), k + m = at0 wants s + ws.length + 1 → (∀ j, j < k → metB (withN row s j) ws wants = false) →
    (∀ t, fewN row ws wants s = some t → ∀ s', Q (.rt (natD t) s')) → (fewN row ws wants s = none → ∀ v4', Q (.nx ⟨[fz (rowD row), fz (walkD ws), fz (rowD wants), fz (natD s), v4'], [], 0⟩)) →
    wF (pName 4) g_Ldue_7272_1 ((List.range' k m).map natD) ⟨[fz (rowD row), fz (walkD ws), fz (rowD wants), fz (natD s), v4], [], 0⟩ Q
  | 0, k, v4, hk, hj, _, h4 => by
    rw [List.range'_zero, List.map_nil, wF_nil]
    refine h4 ?_ _
    cases q : fewN row ws wants s with
    | none => rfl
    | some m =>
      have a := few_le_bnd18 h2 hws hs hw q
      have b := (few_some.mp q).1
      rw [hj m (by omega)] at b
      cases b
  | m + 1, k, v4, hk, hj, h3, h4 => by
    rw [List.range'_succ, List.map_cons, wF_cons]
    have ih := due18_w h2 hr hw hws hn hs (Q := Q) m (k + 1) (fz (natD k)) (by omega)
    have wk0 := with_ok (row := row) (s := s) (m := k) hs (by omega)
    have wl := withN_len row s k
    have ek := has_rows (row := withN row s k) (want := wants) (ws := ws) (by omega) (by omega) (by rw [wl]; exact hws) (by omega)
    have er := rows_ok (row := withN row s k) (ws := ws) (by omega) (by rw [wl]; exact hws) hn
    have least : metB (withN row s k) ws wants = true → fewN row ws wants s = some k := fun h => few_some.mpr ⟨h, hj⟩
    unfold g_Ldue_7272_1 at ih ⊢
    generalize dctN (rowsN (withN row s k) ws) = dd at *
    generalize rowD (withN row s k) = rk at *
    generalize rowD row = rd at *
    generalize rowD wants = wd at *
    generalize walkD ws = wk at *
    generalize (List.range' (k + 1) m).map natD = L at *
    cases hb : metB (withN row s k) ws wants with
    | true =>
      rw [hb] at ek
      simp [wk0, er, ek]
      exact h3 k (least hb) _
    | false =>
      rw [hb] at ek
      simp [wk0, er, ek]
      refine ih (fun j hj2 => ?_) h3 h4
      by_cases z : j = k
      · rw [z]; exact hb
      · exact hj j (by omega)
theorem due18_ok {row wants : List Nat} {ws : List (Nat × Nat)} {s : Nat} (h2 : 2 ≤ row.length) (hr : row.length ≤ 4) (hw : wants.length = row.length) (hws : Ways row.length ws) (hn : ws.length ≤ 6) (hs : s < row.length) (hm : at0 wants s ≤ 1000) :
    f_Ldue_7272 [rowD row, walkD ws, rowD wants, natD s] = some (optD (fewN row ws wants s)) := by
  unfold f_Ldue_7272
  apply fnP_w
  unfold b_Ldue_7272
  have lw := len_walk ws
  have ir : inR ((at0 wants s : Int) + (ws.length : Int) + 1) = true := inR_int (by omega) (by omega)
  have e1 : ((at0 wants s : Int) + (ws.length : Int) + 1).toNat = at0 wants s + ws.length + 1 := by omega
  have a1 : ixD (rowD wants) (.int (s : Int)) = some (.int (at0 wants s : Int)) := nat_at (by omega)
  have key := due18_w (row := row) (wants := wants) (ws := ws) (s := s) h2 hr hw hws hn hs (Q := kBSeq (bRet (dC .none)) (retD (optD (fewN row ws wants s)))) (at0 wants s + ws.length + 1) 0 none (by omega) (fun j hj => by omega)
    (fun t h s' => by rw [h]; simp [optD]) (fun h v3 => by
      rw [h]
      generalize rowD row = rd at *
      generalize rowD wants = wd at *
      generalize walkD ws = wk at *
      simp [optD])
  rw [← List.range_eq_range'] at key
  generalize rowD row = rd at *
  generalize rowD wants = wd at *
  generalize walkD ws = wk at *
  simp [lw, ir, e1, a1, rgD_zero]
  exact key

end Df

namespace Df
open Dl
noncomputable def e_carried_3812_1 : Ex := (dCall f_running_counts_a84c (aCons (dVar 2) (aCons (dVar 3) aNil)))
noncomputable def b_carried_3812 : Bd := (bSeq (bSet 2 (dCall f_rule_plan_2c12 (aCons (dVar 0) (aCons (dVar 1) aNil))))
      (bRet (dApp tupleD (aCons (dOfO (oLc (iRange1 (aCons (dBin subD (dApp lenD (aCons (dVar 0) aNil)) (dC (.int 1))) aNil)) (pName 3) tYesX e_carried_3812_1 [3])) aNil))))
noncomputable def f_carried_3812 : List D → Option D := fnP 4 b_carried_3812
theorem carried_ok {row : List Nat} {ws : List (Nat × Nat)} (h2 : 2 ≤ row.length) (hr : row.length ≤ 1000) (hw : Ways row.length ws) (hn : ws.length ≤ 1000) : f_carried_3812 [rowD row, walkD ws] = some (countsD row.length (duePlan row ws)) := by
  unfold f_carried_3812
  apply fnP_w
  unfold b_carried_3812
  have r1 := rule_ok h2 hr hw hn
  rw [limPlan_due hw] at r1
  have lr := len_row row
  have ht := tidy_of hw (due_own row ws)
  have run := fun s => running_ok (p := duePlan row ws) (s := s) (n := row.length) ht (by omega) (by rw [due_len]; exact hn)
  have e : ((row.length : Nat) : Int) - 1 = ((row.length - 1 : Nat) : Int) := by omega
  have hi := inR_nat (i := row.length - 1) (by omega)
  generalize rowD row = rd at *
  generalize walkD ws = wd at *
  generalize hpd : planD (duePlan row ws) = pd at *
  simp [r1, lr, e, hi, rgD_zero]
  refine wC_map (fun s => rowD (countsN s (duePlan row ws))) natD (by simp; omega) (fun s hs => ?_) ?_
  · unfold e_carried_3812_1
    have := run s
    simp [this]
  · simp [countsD]

end Df

namespace Df
open Dl
noncomputable def b_Lis_least_f42e : Bd := (bSeq (bIf (tOf (dBin isD (dVar 4) (dC .none))) (bSeq (bSet 5 (dBin addD (dBin ixD (dVar 2) (dVar 3)) (dApp lenD (aCons (dVar 1) aNil))))
      (bRet (dNot (dCall f_Lis_enough_66a9 (aCons (dCall f_Lwith_d6e3 (aCons (dVar 0) (aCons (dVar 3) (aCons (dVar 5) aNil)))) (aCons (dVar 1) (aCons (dVar 2) aNil))))))) bNil)
      (bSeq (bIf (tOrX (tNotX (tTru (dUn (fun d => some (.bool (isiD "int" d))) (dVar 4)))) (tOrX (tTru (dUn (fun d => some (.bool (isiD "bool" d))) (dVar 4))) (tOf (dBin ltD (dVar 4) (dC (.int 0)))))) (bRet (dC (.bool false))) bNil)
      (bSeq (bIf (tNotX (tTru (dCall f_Lis_enough_66a9 (aCons (dCall f_Lwith_d6e3 (aCons (dVar 0) (aCons (dVar 3) (aCons (dVar 4) aNil)))) (aCons (dVar 1) (aCons (dVar 2) aNil)))))) (bRet (dC (.bool false))) bNil)
      (bRet (dOr (dBin eqD (dVar 4) (dC (.int 0))) (dNot (dCall f_Lis_enough_66a9 (aCons (dCall f_Lwith_d6e3 (aCons (dVar 0) (aCons (dVar 3) (aCons (dBin subD (dVar 4) (dC (.int 1))) aNil)))) (aCons (dVar 1) (aCons (dVar 2) aNil))))))))))
noncomputable def f_Lis_least_f42e : List D → Option D := fnP 6 b_Lis_least_f42e
-- needs Fi3
theorem isleast_ok {row wants : List Nat} {ws : List (Nat × Nat)} {s : Nat} (h2 : 2 ≤ row.length) (hr : row.length ≤ 500) (hw : wants.length = row.length) (hws : Ways row.length ws) (hn : ws.length < 500) (hs : s < row.length) :
    f_Lis_least_f42e [rowD row, walkD ws, rowD wants, natD s, optD (fewN row ws wants s)] = some (.bool true) := by
  unfold f_Lis_least_f42e
  apply fnP_w
  unfold b_Lis_least_f42e
  have lw := len_walk ws
  have a2 : ixD (rowD wants) (.int (s : Int)) = some (natD (at0 wants s)) := nat_at (by omega)
  have wk := fun m : Nat => with_ok (row := row) (s := s) (m := m) hs (by omega)
  have ek := fun m : Nat => enoughB_ok (row := withN row s m) (wants := wants) (ws := ws) (by rw [withN_len]; exact h2) (by rw [withN_len]; exact hr) (by rw [withN_len]; exact hw) (by rw [withN_len]; exact hws) hn
  cases hf : fewN row ws wants s with
  | none =>
    have e1 := wk (at0 wants s + ws.length)
    have e2 := ek (at0 wants s + ws.length)
    rw [few_none.mp hf] at e2
    rw [Int.natCast_add] at e1
    have i2 : isD PySem.PyData.none .none = some (.bool true) := rfl
    clear wk ek
    generalize rowD (withN row s (at0 wants s + ws.length)) = rx at *
    generalize rowD row = rd at *
    generalize rowD wants = wd at *
    generalize walkD ws = wk2 at *
    simp [optD, i2, a2, lw, e1, e2]
  | some t =>
    obtain ⟨t1, t2⟩ := few_some.mp hf
    have e1 := wk t
    have e2 := ek t
    rw [t1] at e2
    have i2 : ∀ t : Int, isD (.int t) .none = some (.bool false) := fun _ => rfl
    by_cases h0 : t = 0
    · subst h0
      have e1 : f_Lwith_d6e3 [rowD row, natD s, natD 0] = some (rowD (withN row s 0)) := e1
      clear wk ek
      generalize rowD (withN row s 0) = rx at *
      generalize rowD row = rd at *
      generalize rowD wants = wd at *
      generalize walkD ws = wk2 at *
      simp [optD, i2, e1, e2]
    · have e3 := wk (t - 1)
      have e4 := ek (t - 1)
      rw [t2 (t - 1) (by omega)] at e4
      rw [show ((t - 1 : Nat) : Int) = (t : Int) - 1 by omega] at e3
      have hz : ((t : Int) == 0) = false := by rw [beq_eq_false_iff_ne]; omega
      have hneg : ¬ (t : Int) < 0 := by omega
      clear wk ek
      generalize rowD (withN row s t) = rx at *
      generalize rowD (withN row s (t - 1)) = rx2 at *
      generalize rowD row = rd at *
      generalize rowD wants = wd at *
      generalize walkD ws = wk2 at *
      simp [-beq_eq_false_iff_ne, -Int.natCast_eq_zero, optD, i2, e1, e2, hz, e3, e4, hneg]

end Df

/-! As many further chairs as are wanted in all are enough, if any number is. -/
namespace Dl
open PySem PySem.Spec L2

theorem withN_at {row : List Nat} {s m j : Nat} (hj : j < row.length) : at0 (withN row s m) j = if s = j then at0 row s + m else at0 row j := by
  unfold withN
  rw [at0_set hj]
theorem drop_sum {r : List Nat} {k : Nat} (h : k < r.length) : (r.drop k).sum = at0 r k + (r.drop (k + 1)).sum := by
  rw [List.drop_eq_getElem_cons h, List.sum_cons, at0_eq h]
theorem drop_le (r : List Nat) (k : Nat) : (r.drop k).sum ≤ r.sum := by
  have : r.sum = (r.take k).sum + (r.drop k).sum := by rw [← List.sum_append, List.take_append_drop]
  omega
theorem need_sum {row wants : List Nat} (hw : wants.length = row.length) : ∀ j k, k + j = row.length → needN row wants k ≤ (wants.drop k).sum
  | 0, k, h => by rw [needN_end (by omega)]; exact Nat.zero_le _
  | j + 1, k, h => by
    have ih := need_sum (row := row) hw j (k + 1) (by omega)
    have e := needN_step (row := row) (wants := wants) (s := k) (by omega)
    rw [drop_sum (by omega)]
    unfold dif at e
    omega
section
variable {row wants : List Nat} {ws : List (Nat × Nat)} {s m M : Nat}
theorem need_behind (hs : s < row.length) : ∀ j k, k + j = row.length → s < k → needN (withN row s m) wants k = needN (withN row s M) wants k
  | 0, k, h, _ => by rw [needN_end (by rw [withN_len]; omega), needN_end (by rw [withN_len]; omega)]
  | j + 1, k, h, hk => by
    have ih := need_behind hs j (k + 1) (by omega) (by omega)
    have e := needN_step (row := withN row s m) (wants := wants) (s := k) (by rw [withN_len]; omega)
    have e2 := needN_step (row := withN row s M) (wants := wants) (s := k) (by rw [withN_len]; omega)
    unfold dif at e e2
    rw [withN_at (by omega), if_neg (by omega)] at e e2
    omega
theorem need_before (hw : wants.length = row.length) (hs : s < row.length) (hM : wants.sum ≤ M) : ∀ j k, k + j = row.length → k ≤ s → needN (withN row s M) wants k ≤ needN (withN row s m) wants k
  | 0, k, h, hk => by omega
  | j + 1, k, h, hk => by
    have e := needN_step (row := withN row s m) (wants := wants) (s := k) (by rw [withN_len]; omega)
    have e2 := needN_step (row := withN row s M) (wants := wants) (s := k) (by rw [withN_len]; omega)
    unfold dif at e e2
    rw [withN_at (by omega)] at e e2
    by_cases hks : k = s
    · subst hks
      rw [if_pos rfl] at e e2
      have a := need_sum (row := withN row k M) (wants := wants) (by rw [withN_len]; exact hw) j (k + 1) (by rw [withN_len]; omega)
      have b := drop_sum (r := wants) (k := k) (by omega)
      have c := drop_le wants k
      omega
    · rw [if_neg (by omega)] at e e2
      have ih := need_before hw hs hM j (k + 1) (by omega) (by omega)
      omega
theorem car_before (hw : Ways row.length ws) (hs : s < row.length) : ∀ j, j < s → ∀ t, t ≤ ws.length → cnt (j : Int) ((duePlan (withN row s m) ws).take t) = cnt (j : Int) ((duePlan (withN row s M) ws).take t) := by
  intro j
  induction j with
  | zero =>
    intro hj t
    induction t with
    | zero => intro _; simp
    | succ t ih =>
      intro ht
      have a := ih (by omega)
      have b := due_rec (row := withN row s m) (by rw [withN_len]; exact hw) (s := 0) (t := t) (by rw [withN_len]; omega) (by omega)
      have c := due_rec (row := withN row s M) (by rw [withN_len]; exact hw) (s := 0) (t := t) (by rw [withN_len]; omega) (by omega)
      rw [withN_at (by omega), if_neg (by omega), cnt_lt0] at b c
      omega
  | succ j ihj =>
    intro hj t
    induction t with
    | zero => intro _; simp
    | succ t ih =>
      intro ht
      have a := ih (by omega)
      have q := ihj (by omega) (t + 1) ht
      have b := due_rec (row := withN row s m) (by rw [withN_len]; exact hw) (s := j + 1) (t := t) (by rw [withN_len]; omega) (by omega)
      have c := due_rec (row := withN row s M) (by rw [withN_len]; exact hw) (s := j + 1) (t := t) (by rw [withN_len]; omega) (by omega)
      rw [withN_at (by omega), if_neg (by omega), succ_pred] at b c
      omega
theorem car_behind (hw : Ways row.length ws) (hs : s < row.length) (hm : M ≤ m) : ∀ d, s + d < row.length → ∀ t, t ≤ ws.length → min (cnt ((s + d : Nat) : Int) ((duePlan (withN row s m) ws).take t)) M ≤ cnt ((s + d : Nat) : Int) ((duePlan (withN row s M) ws).take t) := by
  intro d
  induction d with
  | zero =>
    intro hj t
    induction t with
    | zero => intro _; simp [cnt_nil]
    | succ t ih =>
      intro ht
      have a := ih (by omega)
      have b := due_rec (row := withN row s m) (by rw [withN_len]; exact hw) (s := s + 0) (t := t) (by rw [withN_len]; omega) (by omega)
      have c := due_rec (row := withN row s M) (by rw [withN_len]; exact hw) (s := s + 0) (t := t) (by rw [withN_len]; omega) (by omega)
      rw [withN_at (by omega), if_pos (by omega)] at b c
      have w0 : 0 ≤ wk ws (s + 0) t := by unfold wk; split <;> (try unfold one) <;> (try split) <;> omega
      omega
  | succ d ihd =>
    intro hj t
    induction t with
    | zero => intro _; simp [cnt_nil]
    | succ t ih =>
      intro ht
      have a := ih (by omega)
      have q := ihd (by omega) (t + 1) ht
      have b := due_rec (row := withN row s m) (by rw [withN_len]; exact hw) (s := s + (d + 1)) (t := t) (by rw [withN_len]; omega) (by omega)
      have c := due_rec (row := withN row s M) (by rw [withN_len]; exact hw) (s := s + (d + 1)) (t := t) (by rw [withN_len]; omega) (by omega)
      rw [withN_at (by omega), if_neg (by omega), show ((s + (d + 1) : Nat) : Int) - 1 = ((s + d : Nat) : Int) by omega] at b c
      have w0 : 0 ≤ wk ws (s + (d + 1)) t := by unfold wk; split <;> (try unfold one) <;> (try split) <;> omega
      omega
/-- if any number of further chairs is enough, as many as are wanted in all are -/
theorem few_bound (hw : Ways row.length ws) (hs : s < row.length) (hl : wants.length = row.length) (hM : wants.sum ≤ M) (h : metB (withN row s m) ws wants = true) : metB (withN row s M) ws wants = true := by
  by_cases hm : m ≤ M
  · have := met_with_up hw hs h (M - m)
    rwa [show m + (M - m) = M by omega] at this
  · rw [metB_iff (by rw [withN_len]; omega)] at h ⊢
    rw [withN_len] at h ⊢
    intro k hk
    have a := h k hk
    have lm : (duePlan (withN row s m) ws).take ws.length = duePlan (withN row s m) ws := List.take_of_length_le (by rw [due_len]; omega)
    have lM : (duePlan (withN row s M) ws).take ws.length = duePlan (withN row s M) ws := List.take_of_length_le (by rw [due_len]; omega)
    by_cases hks : k ≤ s
    · have b := need_before (m := m) hl hs hM (row.length - k) k (by omega) hks
      cases k with
      | zero =>
        rw [cnt_lt0] at a ⊢
        omega
      | succ k =>
        have c := car_before (m := m) (M := M) hw hs k (by omega) ws.length (Nat.le_refl _)
        rw [lm, lM] at c
        rw [succ_pred] at a ⊢
        omega
    · have b := need_behind (m := m) (M := M) (wants := wants) hs (row.length - k) k (by omega) (by omega)
      have c := car_behind (m := m) (M := M) hw hs (by omega) (k - 1 - s) (by omega) ws.length (Nat.le_refl _)
      rw [lm, lM, show s + (k - 1 - s) = k - 1 by omega, show ((k - 1 : Nat) : Int) = (k : Int) - 1 by omega] at c
      have e := need_sum (row := withN row s M) (wants := wants) (by rw [withN_len]; exact hl) (row.length - k) k (by rw [withN_len]; omega)
      have f := drop_le wants k
      omega
end
end Dl

/-! A row is reached exactly if what must be carried over each stage is from 0 to what the rule carries. -/
namespace Dl
open PySem PySem.Spec L2

/-- how many chairs must be carried away from the stations before j, on the whole -/
def ovr (row v : List Nat) : Nat → Int
  | 0 => 0
  | j + 1 => ovr row v j + at0 row j - at0 v j
theorem ovr_sum {row v : List Nat} (hl : v.length = row.length) : ∀ j, j ≤ row.length → ovr row v j = ((row.take j).sum : Int) - ((v.take j).sum : Int)
  | 0, _ => by simp [ovr]
  | j + 1, h => by
    have ih := ovr_sum (row := row) (v := v) hl j (by omega)
    have t1 : (row.take (j + 1)).sum = (row.take j).sum + at0 row j := by
      rw [take_step (List.getElem?_eq_getElem (show j < row.length by omega)), List.sum_append, at0_eq (by omega)]
      simp
    have t2 : (v.take (j + 1)).sum = (v.take j).sum + at0 v j := by
      rw [take_step (List.getElem?_eq_getElem (show j < v.length by omega)), List.sum_append, at0_eq (by omega)]
      simp
    rw [ovr]
    omega
theorem ovr_end {row v : List Nat} (hl : v.length = row.length) (hs : v.sum = row.sum) : ovr row v row.length = 0 := by
  rw [ovr_sum hl _ (Nat.le_refl _), List.take_of_length_le (Nat.le_refl _), List.take_of_length_le (by omega)]
  omega
section
variable {row v : List Nat} {ws : List (Nat × Nat)}
theorem need_le_ovr (hl : v.length = row.length) (hs : v.sum = row.sum) (h0 : ∀ j, j ≤ row.length → 0 ≤ ovr row v j) : ∀ j k, k + j = row.length → (needN row v k : Int) ≤ ovr row v k
  | 0, k, h => by
    rw [needN_end (by omega), show k = row.length by omega, ovr_end hl hs]
    exact Int.le_refl _
  | j + 1, k, h => by
    have ih := need_le_ovr hl hs h0 j (k + 1) (by omega)
    have e := needN_step (row := row) (wants := v) (s := k) (by omega)
    have := h0 k (by omega)
    rw [ovr] at ih
    unfold dif at e
    omega
theorem ovr_le_need (hl : v.length = row.length) (hs : v.sum = row.sum) : ∀ j k, k + j = row.length → ovr row v k ≤ needN row v k
  | 0, k, h => by
    rw [needN_end (by omega), show k = row.length by omega, ovr_end hl hs]
    exact Int.le_refl _
  | j + 1, k, h => by
    have ih := ovr_le_need hl hs j (k + 1) (by omega)
    have e := needN_step (row := row) (wants := v) (s := k) (by omega)
    rw [ovr] at ih
    unfold dif at e
    omega
theorem need_up (hz : needN row v 0 = 0) : ∀ j, j ≤ row.length → (needN row v j : Int) ≤ ovr row v j
  | 0, _ => by rw [hz]; exact Int.le_refl _
  | j + 1, h => by
    have ih := need_up hz j (by omega)
    have e := needN_step (row := row) (wants := v) (s := j) (by omega)
    rw [ovr]
    unfold dif at e
    omega
theorem reach_ovr (h2 : 2 ≤ row.length) : reachB row ws v = true ↔ v.length = row.length ∧ v.sum = row.sum ∧ ∀ s, s + 1 < row.length → 0 ≤ ovr row v (s + 1) ∧ ovr row v (s + 1) ≤ cnt (s : Int) (duePlan row ws) := by
  unfold reachB
  rw [Bool.and_eq_true, Bool.and_eq_true, decide_eq_true_iff, decide_eq_true_iff, metB_iff (by omega)]
  constructor
  · rintro ⟨⟨hl, hs⟩, hm⟩
    refine ⟨hl, hs, fun s hs1 => ?_⟩
    have hz : needN row v 0 = 0 := by
      have := hm 0 (by omega)
      rw [cnt_lt0] at this
      omega
    have a := need_up hz (s + 1) (by omega)
    have b := ovr_le_need hl hs (row.length - (s + 1)) (s + 1) (by omega)
    have c := hm (s + 1) hs1
    rw [succ_pred] at c
    omega
  · rintro ⟨hl, hs, h⟩
    refine ⟨⟨hl, hs⟩, fun k hk => ?_⟩
    have h0 : ∀ j, j ≤ row.length → 0 ≤ ovr row v j := fun j hj => by
      cases j with
      | zero => exact Int.le_refl _
      | succ j =>
        by_cases q : j + 1 < row.length
        · exact (h j q).1
        · rw [show j + 1 = row.length by omega, ovr_end hl hs]
          exact Int.le_refl _
    have a := need_le_ovr hl hs h0 (row.length - k) k (by omega)
    cases k with
    | zero =>
      rw [cnt_lt0]
      rw [ovr] at a
      omega
    | succ k =>
      have := (h k hk).2
      rw [succ_pred]
      omega
end
end Dl

/-! Needs as a row, what is carried at most, zips of rows. -/
namespace Dl
open PySem PySem.Spec L2
theorem needs_rowD (row wants : List Nat) : PySem.PyData.tuple ((needs row wants).map .int) = rowD ((List.range row.length).map (needN row wants)) := by
  unfold rowD needs
  rw [List.map_map, List.map_map]
  congr 1
  apply List.map_congr_left
  intro b hb
  show PySem.PyData.int _ = PySem.PyData.int _
  rw [needN_eq]
def mostL (row : List Nat) (ws : List (Nat × Nat)) : List Nat := 0 :: (List.range (row.length - 1)).map fun (s : Nat) => cnt (s : Int) (duePlan row ws)
theorem mostL_at {row : List Nat} {ws : List (Nat × Nat)} {k : Nat} (hk : k < row.length) : at0 (mostL row ws) k = cnt ((k : Int) - 1) (duePlan row ws) := by
  unfold mostL
  cases k with
  | zero => rw [cnt_lt0]; rfl
  | succ k =>
    rw [succ_pred]
    show at0 ((List.range (row.length - 1)).map fun (s : Nat) => cnt (s : Int) (duePlan row ws)) k = _
    rw [at0_eq (by simp; omega)]
    simp
theorem zipAll {A B : List Nat} {p : Nat → Nat → Bool} (hl : A.length = B.length) : ((List.zip A B).all fun q => p q.1 q.2) = (List.range A.length).all fun k => p (at0 A k) (at0 B k) := by
  rw [Bool.eq_iff_iff, List.all_eq_true, List.all_eq_true]
  constructor
  · intro h k hk
    have hk := List.mem_range.mp hk
    refine h (at0 A k, at0 B k) ?_
    rw [List.mem_iff_getElem?]
    refine ⟨k, ?_⟩
    rw [List.getElem?_zip_eq_some]
    exact ⟨by rw [List.getElem?_eq_getElem hk, at0_eq hk], by rw [List.getElem?_eq_getElem (show k < B.length by omega)]; show _ = some (at0 B k); rw [at0_eq (by omega)]⟩
  · intro h q hq
    obtain ⟨k, hk⟩ := List.mem_iff_getElem?.mp hq
    obtain ⟨q1, q2⟩ := List.getElem?_zip_eq_some.mp hk
    obtain ⟨k1, e1⟩ := List.getElem?_eq_some_iff.mp q1
    obtain ⟨k2, e2⟩ := List.getElem?_eq_some_iff.mp q2
    have := h k (List.mem_range.mpr k1)
    rw [at0_eq k1, at0_eq k2, e1, e2] at this
    exact this
theorem zip_rn : ∀ (cs : List (List Nat)) (b : List Nat), zipD (cs.map rowD) (b.map natD) = (List.zip cs b).map fun q => .tuple [rowD q.1, natD q.2]
  | [], b => by simp [zipD]
  | _ :: _, [] => by simp [zipD]
  | x :: a, y :: b => by
    have ih := zip_rn a b
    unfold zipD at ih ⊢
    simp only [List.map_cons, List.zipWith_cons_cons, List.zip_cons_cons, ih]
theorem le_sum : ∀ {l : List Nat} {x : Nat}, x ∈ l → x ≤ l.sum
  | a :: l, x, h => by
    rw [List.sum_cons]
    rcases List.mem_cons.mp h with rfl | h
    · omega
    · have := le_sum h
      omega
theorem sum_le_mul {m : Nat} : ∀ {l : List Nat}, (∀ x ∈ l, x ≤ m) → l.sum ≤ l.length * m
  | [], _ => by simp
  | a :: l, h => by
    have h1 := h a (List.mem_cons_self ..)
    have h2 := sum_le_mul fun x hx => h x (List.mem_cons_of_mem _ hx)
    rw [List.sum_cons, List.length_cons, Nat.add_mul, Nat.one_mul]
    omega
theorem sum_small {l : List Nat} {m : Nat} (h1 : l.length ≤ 1000) (h : ∀ x ∈ l, x ≤ m) (hm : m ≤ 1000000) : l.sum < 2 ^ 999 := by
  have h2 := sum_le_mul h
  have h3 : l.length * m ≤ 1000 * 1000000 := Nat.mul_le_mul h1 hm
  exact Nat.lt_of_le_of_lt (Nat.le_trans h2 h3) (by decide +kernel)
end Dl

namespace Df
open Dl
noncomputable def e_can_be_met_73d6_1 : Ex := (dBin ixD (dVar 4) (dUn negD (dC (.int 1))))
noncomputable def e_can_be_met_73d6_2 : Ex := (dBin leD (dVar 5) (dVar 6))
noncomputable def b_can_be_met_73d6 : Bd := (bSeq (bSet 3 (dBin addD (dTup (aCons (dC (.int 0)) aNil)) (dApp tupleD (aCons (dOfO (oLc (iSeq (dCall f_carried_3812 (aCons (dVar 0) (aCons (dVar 1) aNil)))) (pName 4) tYesX e_can_be_met_73d6_1 [4])) aNil))))
      (bRet (dApp allD (aCons (dOfO (oLc (iZip (aCons (dCall f_needs_of_08a9 (aCons (dVar 0) (aCons (dVar 2) aNil))) (aCons (dVar 3) aNil))) (pTup 2 (pCons (pName 5) (pCons (pName 6) pNil))) tYesX e_can_be_met_73d6_2 [5, 6])) aNil))))
noncomputable def f_can_be_met_73d6 : List D → Option D := fnP 7 b_can_be_met_73d6
-- needs Fi7
theorem canmet_ok {row wants : List Nat} {ws : List (Nat × Nat)} (h2 : 2 ≤ row.length) (hr : row.length ≤ 1000) (hw : wants.length = row.length) (hws : Ways row.length ws) (hn : ws.length ≤ 1000) :
    f_can_be_met_73d6 [rowD row, walkD ws, rowD wants] = some (.bool (metB row ws wants)) := by
  unfold f_can_be_met_73d6
  apply fnP_w
  unfold b_can_be_met_73d6
  have ck := carried_ok (row := row) (ws := ws) h2 hr hws hn
  have nk := needs_ok (row := row) (wants := wants) hr (by omega) hw
  rw [needs_rowD] at nk
  have ecd : countsD row.length (duePlan row ws) = .tuple ((List.range (row.length - 1)).map fun s => rowD (countsN s (duePlan row ws))) := rfl
  have hmb : ((List.zip ((List.range row.length).map (needN row wants)) (mostL row ws)).all fun q => decide (q.1 ≤ q.2)) = metB row ws wants := by
    rw [Bool.eq_iff_iff, metB_iff (by omega), List.all_eq_true]
    have ll : (mostL row ws).length = row.length := by unfold mostL; simp; omega
    constructor
    · intro h k hk
      have e := h (needN row wants k, at0 (mostL row ws) k) (by
        rw [List.mem_iff_getElem?]
        refine ⟨k, ?_⟩
        rw [List.getElem?_zip_eq_some]
        refine ⟨by simp [hk], ?_⟩
        rw [List.getElem?_eq_getElem (by omega), at0_eq (by omega)])
      rw [mostL_at hk] at e
      have := of_decide_eq_true e
      dsimp only at this
      omega
    · intro h q hq
      obtain ⟨k, hk⟩ := List.mem_iff_getElem?.mp hq
      obtain ⟨q1, q2⟩ := List.getElem?_zip_eq_some.mp hk
      have hkl : k < row.length := by
        have := (List.getElem?_eq_some_iff.mp q1).1
        simpa using this
      have a := h k hkl
      rw [← mostL_at hkl] at a
      have e1 : q.1 = needN row wants k := by simpa [hkl] using q1.symm
      have e2 : q.2 = at0 (mostL row ws) k := by
        rw [at0_eq (by omega)]
        rw [List.getElem?_eq_getElem (by omega)] at q2
        exact (Option.some.inj q2).symm
      rw [e1, e2]
      exact decide_eq_true (by omega)
  have zn := zip_nat ((List.range row.length).map (needN row wants)) (mostL row ws)
  have sn := seq_row ((List.range row.length).map (needN row wants))
  have sm := seq_row (mostL row ws)
  have ml : (mostL row ws).length = row.length := by unfold mostL; simp; omega
  have ad : addD (.tuple [.int 0]) (.tuple ((List.range (row.length - 1)).map fun (s : Nat) => natD (cnt (s : Int) (duePlan row ws)))) = some (rowD (mostL row ws)) := by
    rw [ev_addT, if_pos (by simp; omega)]
    unfold rowD mostL
    simp
  have key2 := fun (Q : QA) (w : List Nat) (hw : w = mostL row ws) => wC_map (b := pTup 2 (pCons (pName 5) (pCons (pName 6) pNil))) (t := tYesX) (e := e_can_be_met_73d6_2) (vs := [5, 6]) (Q := Q)
      (fun (q : Nat × Nat) => .bool (decide (q.1 ≤ q.2))) wayD (items := List.zip ((List.range row.length).map (needN row wants)) w) (acc := []) (s := ⟨[fz (rowD row), fz (walkD ws), fz (rowD wants), fz (rowD (mostL row ws)), none, none, none], [], 0⟩) (by rw [hw]; simp; omega)
      (fun x hx => by
        unfold e_can_be_met_73d6_2
        simp [wayD])
  have key3 := key2 (k2Lc [5, 6] ⟨[fz (rowD row), fz (walkD ws), fz (rowD wants), fz (rowD (mostL row ws)), none, none, none], [], 0⟩ (kOfO (k1Cons aNil (kApp allD (kRet (retD (.bool (metB row ws wants)))))))) _ rfl (by
        have e3 : (List.zip ((List.range row.length).map (needN row wants)) (mostL row ws)).map (fun q => PySem.PyData.bool (decide (q.1 ≤ q.2))) = ((List.zip ((List.range row.length).map (needN row wants)) (mostL row ws)).map (fun q => decide (q.1 ≤ q.2))).map .bool := by rw [List.map_map]; rfl
        rw [List.nil_append, e3, ← hmb]
        simp [-List.map_map, boolsOf_map, List.all_map, Function.comp_def])
  rw [← zn] at key3
  clear key2 hmb
  generalize hmo : rowD (mostL row ws) = md at *
  generalize rowD ((List.range row.length).map (needN row wants)) = nd at *
  generalize rowD wants = wd at *
  generalize hrd : rowD row = rd at *
  generalize walkD ws = wk at *
  simp [ck, ecd]
  refine wC_map (fun (s : Nat) => natD (cnt (s : Int) (duePlan row ws))) (fun (s : Nat) => rowD (countsN s (duePlan row ws))) (by simp; omega) (fun s hs => ?_) ?_
  · unfold e_can_be_met_73d6_1
    have := countsN_last (s := s) (p := duePlan row ws)
    simp [rowD, this]
  · simp only [List.nil_append]
    simp [-List.map_map, ad, nk, sn, sm]
    exact key3

end Df

namespace Df
open Dl
noncomputable def b_is_enough_more_5750 : Bd := (bRet (dCall f_can_be_met_73d6 (aCons (dCall f_with_number_21dd (aCons (dVar 0) (aCons (dVar 3) (aCons (dBin addD (dBin ixD (dVar 0) (dVar 3)) (dVar 4)) aNil)))) (aCons (dVar 1) (aCons (dVar 2) aNil)))))
noncomputable def f_is_enough_more_5750 : List D → Option D := fnP 5 b_is_enough_more_5750
theorem enmore_ok {row wants : List Nat} {ws : List (Nat × Nat)} {s m : Nat} (h2 : 2 ≤ row.length) (hr : row.length ≤ 1000) (hw : wants.length = row.length) (hws : Ways row.length ws) (hn : ws.length ≤ 1000) (hs : s < row.length) :
    f_is_enough_more_5750 [rowD row, walkD ws, rowD wants, natD s, natD m] = some (.bool (metB (withN row s m) ws wants)) := by
  unfold f_is_enough_more_5750
  apply fnP_w
  unfold b_is_enough_more_5750
  have ix : ixD (rowD row) (.int (s : Int)) = some (natD (at0 row s)) := nat_at hs
  have wk := withnum_ok (v := at0 row s + m) hs hr
  have e : row.set s (at0 row s + m) = withN row s m := rfl
  rw [e] at wk
  have wk : f_with_number_21dd [rowD row, .int (s : Int), .int ((at0 row s : Int) + (m : Int))] = some (rowD (withN row s m)) := wk
  have ck := canmet_ok (row := withN row s m) (wants := wants) (ws := ws) (by rw [withN_len]; exact h2) (by rw [withN_len]; exact hr) (by rw [withN_len]; exact hw) (by rw [withN_len]; exact hws) hn
  generalize rowD (withN row s m) = r2 at *
  generalize rowD row = rd at *
  generalize walkD ws = wd at *
  generalize rowD wants = nd at *
  simp [ix, wk, ck]

end Df

namespace Df
open Dl
noncomputable def g_fewest_chairs_2e3c_1 : Bd := (bSeq (bSet 6 (dBin fdivD (dBin addD (dVar 5) (dVar 4)) (dC (.int 2))))
      (bIf (tTru (dCall f_is_enough_more_5750 (aCons (dVar 0) (aCons (dVar 1) (aCons (dVar 2) (aCons (dVar 3) (aCons (dVar 6) aNil))))))) (bSet 4 (dVar 6)) (bSet 5 (dBin addD (dVar 6) (dC (.int 1))))))
noncomputable def b_fewest_chairs_2e3c : Bd := (bSeq (bSet 4 (dApp sumD (aCons (dVar 2) aNil)))
      (bSeq (bIf (tNotX (tTru (dCall f_is_enough_more_5750 (aCons (dVar 0) (aCons (dVar 1) (aCons (dVar 2) (aCons (dVar 3) (aCons (dVar 4) aNil)))))))) (bRet (dC .none)) bNil)
      (bSeq (bSet 5 (dC (.int 0)))
      (bSeq (bWhile 1000 (tOf (dBin ltD (dVar 5) (dVar 4))) g_fewest_chairs_2e3c_1)
      (bRet (dVar 5))))))
noncomputable def f_fewest_chairs_2e3c : List D → Option D := fnP 7 b_fewest_chairs_2e3c
-- needs Fi7
-- needs Fw2
theorem few_w {row wants : List Nat} {ws : List (Nat × Nat)} {s : Nat} (h2 : 2 ≤ row.length) (hr : row.length ≤ 1000) (hw : wants.length = row.length) (hws : Ways row.length ws) (hn : ws.length ≤ 1000) (hs : s < row.length) {Q : QO} : ∀ (f lo hi : Nat) (v6 : Option Sl), lo ≤ hi → hi - lo < 2 ^ f →
    metB (withN row s hi) ws wants = true → (∀ j, j < lo → metB (withN row s j) ws wants = false) →
    (∀ t, fewN row ws wants s = some t → ∀ v6', Q (.nx ⟨[fz (rowD row), fz (walkD ws), fz (rowD wants), fz (natD s), fz (natD t), fz (natD t), v6'], [], 0⟩)) →
    wB (bWhile (f + 1) (tOf (dBin ltD (dVar 5) (dVar 4))) g_fewest_chairs_2e3c_1) ⟨[fz (rowD row), fz (walkD ws), fz (rowD wants), fz (natD s), fz (natD hi), fz (natD lo), v6], [], 0⟩ Q
  | f, lo, hi, v6, hl, hf, hm, hj, hQ => by
    rw [wB_While]
    by_cases e : lo = hi
    · subst e
      have := hQ lo (few_some.mpr ⟨hm, hj⟩) v6
      generalize rowD row = rd at *
      generalize walkD ws = wd at *
      generalize rowD wants = nd at *
      simp
      exact this
    · have hlt : lo < hi := by omega
      obtain ⟨f', rfl⟩ : ∃ f', f = f' + 1 := ⟨f - 1, by
        cases f with
        | zero => simp at hf; omega
        | succ f => omega⟩
      have ek := enmore_ok (row := row) (wants := wants) (ws := ws) (s := s) (m := (lo + hi) / 2) h2 hr hw hws hn hs
      have hp : 2 ^ (f' + 1) = 2 * 2 ^ f' := by rw [Nat.pow_succ]; omega
      have ih1 := fun h1 => few_w h2 hr hw hws hn hs (Q := Q) f' lo ((lo + hi) / 2) (fz (natD ((lo + hi) / 2))) (by omega) (by omega) h1 hj hQ
      have ih2 := fun h1 => few_w h2 hr hw hws hn hs (Q := Q) f' ((lo + hi) / 2 + 1) hi (fz (natD ((lo + hi) / 2))) (by omega) (by omega) hm h1 hQ
      have up : metB (withN row s ((lo + hi) / 2)) ws wants = false → ∀ j, j < (lo + hi) / 2 + 1 → metB (withN row s j) ws wants = false := fun h j hj2 => by
        cases q : metB (withN row s j) ws wants with
        | false => rfl
        | true =>
          have := met_with_up hws hs q ((lo + hi) / 2 - j)
          rw [show j + ((lo + hi) / 2 - j) = (lo + hi) / 2 by omega, h] at this
          cases this
      have ek : f_is_enough_more_5750 [rowD row, walkD ws, rowD wants, .int (s : Int), .int (((lo + hi) / 2 : Nat) : Int)] = some (.bool (metB (withN row s ((lo + hi) / 2)) ws wants)) := ek
      have ed : ((lo : Int) + (hi : Int)) / 2 = (((lo + hi) / 2 : Nat) : Int) := by omega
      have ok2 : okDiv 2 = true := okDiv_int (by decide) (by decide)
      generalize hmid : (lo + hi) / 2 = mid at *
      unfold g_fewest_chairs_2e3c_1 at ih1 ih2 ⊢
      generalize rowD row = rd at *
      generalize walkD ws = wd at *
      generalize rowD wants = nd at *
      cases hb : metB (withN row s mid) ws wants with
      | true =>
        rw [hb] at ek
        simp [hlt, ed, ok2, ek]
        exact ih1 hb
      | false =>
        rw [hb] at ek
        simp [hlt, ed, ok2, ek]
        exact ih2 (up hb)
theorem few_ok {row wants : List Nat} {ws : List (Nat × Nat)} {s : Nat} (h2 : 2 ≤ row.length) (hr : row.length ≤ 500) (hw : wants.length = row.length) (hws : Ways row.length ws) (hn : ws.length < 500) (hs : s < row.length) (hM : wants.sum < 2 ^ 999) :
    f_fewest_chairs_2e3c [rowD row, walkD ws, rowD wants, natD s] = some (optD (fewN row ws wants s)) := by
  unfold f_fewest_chairs_2e3c
  apply fnP_w
  unfold b_fewest_chairs_2e3c
  have sw := sum_row wants
  have ek := enmore_ok (row := row) (wants := wants) (ws := ws) (s := s) (m := wants.sum) h2 (by omega) hw hws (by omega) hs
  have ek : f_is_enough_more_5750 [rowD row, walkD ws, rowD wants, .int (s : Int), .int (wants.sum : Int)] = some (.bool (metB (withN row s wants.sum) ws wants)) := ek
  cases hb : metB (withN row s wants.sum) ws wants with
  | false =>
    have hnone : fewN row ws wants s = none := few_none.mpr fun m => by
      cases q : metB (withN row s m) ws wants with
      | false => rfl
      | true =>
        rw [few_bound hws hs hw (Nat.le_refl _) q] at hb
        cases hb
    rw [hnone]
    rw [hb] at ek
    generalize rowD row = rd at *
    generalize walkD ws = wd at *
    generalize rowD wants = nd at *
    simp [sw, ek, optD]
  | true =>
    have key := few_w (row := row) (wants := wants) (ws := ws) (s := s) h2 (by omega) hw hws (by omega) hs (Q := kBSeq (bRet (dVar 5)) (retD (optD (fewN row ws wants s)))) 999 0 wants.sum none (by omega) (by omega) hb (fun j hj => by omega) (fun t ht v6 => by
      rw [ht]
      generalize rowD row = rd at *
      generalize walkD ws = wd at *
      generalize rowD wants = nd at *
      simp [optD])
    rw [hb] at ek
    generalize rowD row = rd at *
    generalize walkD ws = wd at *
    generalize rowD wants = nd at *
    simp [sw, ek]
    exact key

end Df

namespace P_k18
open PySem PySem.Spec L2 Dl Df
/-! ### the text by places, the names -/
def topS (i : Nat) : Stmt := PySem.Challenge.pw_chairwalks_k18_fewest_chairs_found.main.body.getD i (.Pass ⟨0, 0, 0, 0⟩)
abbrev s_limited_plan_b7b8 : Stmt := topS 2
abbrev N_limited_plan_b7b8 : List Str := ["row", "walkers", "limits", "chairs", "left", "plan", "first", "last", "stages", "stage"]
theorem sc_limited_plan_b7b8 : FnScope N_limited_plan_b7b8 ["row", "walkers", "limits"] (defScope s_limited_plan_b7b8) := ⟨rfl, rfl, rfl, by decide +kernel, rfl, by decide +kernel, by decide +kernel⟩
abbrev s_running_counts_a84c : Stmt := topS 4
abbrev N_running_counts_a84c : List Str := ["plan", "stage", "counts", "stages"]
theorem sc_running_counts_a84c : FnScope N_running_counts_a84c ["plan", "stage"] (defScope s_running_counts_a84c) := ⟨rfl, rfl, rfl, by decide +kernel, rfl, by decide +kernel, by decide +kernel⟩
abbrev s_with_number_21dd : Stmt := topS 6
abbrev N_with_number_21dd : List Str := ["numbers", "station", "number"]
theorem sc_with_number_21dd : FnScope N_with_number_21dd ["numbers", "station", "number"] (defScope s_with_number_21dd) := ⟨rfl, rfl, rfl, by decide +kernel, rfl, by decide +kernel, by decide +kernel⟩
abbrev s_needs_of_08a9 : Stmt := topS 8
abbrev N_needs_of_08a9 : List Str := ["row", "wants", "needs", "need", "station"]
theorem sc_needs_of_08a9 : FnScope N_needs_of_08a9 ["row", "wants"] (defScope s_needs_of_08a9) := ⟨rfl, rfl, rfl, by decide +kernel, rfl, by decide +kernel, by decide +kernel⟩
abbrev s_Ldraws : Stmt := topS 14
abbrev N_Ldraws : List Str := ["script", "cells", "cell"]
theorem sc_Ldraws : FnScope N_Ldraws ["script"] (defScope s_Ldraws) := ⟨rfl, rfl, rfl, by decide +kernel, rfl, by decide +kernel, by decide +kernel⟩
abbrev s_Lnext_9d8d : Stmt := topS 15
abbrev N_Lnext_9d8d : List Str := ["drawn", "many", "cells", "nth", "rests", "spot", "digit", "mixed", "more"]
theorem sc_Lnext_9d8d : FnScope N_Lnext_9d8d ["drawn", "many"] (defScope s_Lnext_9d8d) := ⟨rfl, rfl, rfl, by decide +kernel, rfl, by decide +kernel, by decide +kernel⟩
abbrev s_Lrows_6e9e : Stmt := topS 19
abbrev N_Lrows_6e9e : List Str := ["row", "walkers", "found", "first", "last", "stage", "later", "one"]
theorem sc_Lrows_6e9e : FnScope N_Lrows_6e9e ["row", "walkers"] (defScope s_Lrows_6e9e) := ⟨rfl, rfl, rfl, by decide +kernel, rfl, by decide +kernel, by decide +kernel⟩
abbrev s_Lmoved_820d : Stmt := topS 20
abbrev N_Lmoved_820d : List Str := ["row", "walkers", "left", "found", "first", "last", "stage"]
theorem sc_Lmoved_820d : FnScope N_Lmoved_820d ["row", "walkers"] (defScope s_Lmoved_820d) := ⟨rfl, rfl, rfl, by decide +kernel, rfl, by decide +kernel, by decide +kernel⟩
abbrev s_Lhas_8f57 : Stmt := topS 22
abbrev N_Lhas_8f57 : List Str := ["rows", "want", "row", "k"]
theorem sc_Lhas_8f57 : FnScope N_Lhas_8f57 ["rows", "want"] (defScope s_Lhas_8f57) := ⟨rfl, rfl, rfl, by decide +kernel, rfl, by decide +kernel, by decide +kernel⟩
abbrev s_Lwith_d6e3 : Stmt := topS 23
abbrev N_Lwith_d6e3 : List Str := ["row", "station", "more"]
theorem sc_Lwith_d6e3 : FnScope N_Lwith_d6e3 ["row", "station", "more"] (defScope s_Lwith_d6e3) := ⟨rfl, rfl, rfl, by decide +kernel, rfl, by decide +kernel, by decide +kernel⟩
abbrev s_rule_plan_2c12 : Stmt := topS 1
abbrev N_rule_plan_2c12 : List Str := ["row", "walkers", "limits", "_"]
theorem sc_rule_plan_2c12 : FnScope N_rule_plan_2c12 ["row", "walkers"] (defScope s_rule_plan_2c12) := ⟨rfl, rfl, rfl, by decide +kernel, rfl, by decide +kernel, by decide +kernel⟩
abbrev s_Lrow_d7da : Stmt := topS 16
abbrev N_Lrow_d7da : List Str := ["drawn", "stations", "most", "many", "way", "found", "k"]
theorem sc_Lrow_d7da : FnScope N_Lrow_d7da ["drawn", "stations", "most"] (defScope s_Lrow_d7da) := ⟨rfl, rfl, rfl, by decide +kernel, rfl, by decide +kernel, by decide +kernel⟩
abbrev s_Lways_1baf : Stmt := topS 17
abbrev N_Lways_1baf : List Str := ["drawn", "stations", "most", "way", "found", "k", "first", "last"]
theorem sc_Lways_1baf : FnScope N_Lways_1baf ["drawn", "stations", "most"] (defScope s_Lways_1baf) := ⟨rfl, rfl, rfl, by decide +kernel, rfl, by decide +kernel, by decide +kernel⟩
abbrev s_Lwished_76c7 : Stmt := topS 18
abbrev N_Lwished_76c7 : List Str := ["drawn", "row", "most", "way", "number", "left", "found", "station"]
theorem sc_Lwished_76c7 : FnScope N_Lwished_76c7 ["drawn", "row", "most"] (defScope s_Lwished_76c7) := ⟨rfl, rfl, rfl, by decide +kernel, rfl, by decide +kernel, by decide +kernel⟩
abbrev s_Lis_enough_66a9 : Stmt := topS 21
abbrev N_Lis_enough_66a9 : List Str := ["row", "walkers", "want", "numbers", "need", "station"]
theorem sc_Lis_enough_66a9 : FnScope N_Lis_enough_66a9 ["row", "walkers", "want"] (defScope s_Lis_enough_66a9) := ⟨rfl, rfl, rfl, by decide +kernel, rfl, by decide +kernel, by decide +kernel⟩
abbrev s_Ldue_7272 : Stmt := topS 24
abbrev N_Ldue_7272 : List Str := ["row", "walkers", "want", "station", "more"]
theorem sc_Ldue_7272 : FnScope N_Ldue_7272 ["row", "walkers", "want", "station"] (defScope s_Ldue_7272) := ⟨rfl, rfl, rfl, by decide +kernel, rfl, by decide +kernel, by decide +kernel⟩
abbrev s_carried_3812 : Stmt := topS 3
abbrev N_carried_3812 : List Str := ["row", "walkers", "plan", "stage"]
theorem sc_carried_3812 : FnScope N_carried_3812 ["row", "walkers"] (defScope s_carried_3812) := ⟨rfl, rfl, rfl, by decide +kernel, rfl, by decide +kernel, by decide +kernel⟩
abbrev s_Lis_least_f42e : Stmt := topS 25
abbrev N_Lis_least_f42e : List Str := ["row", "walkers", "want", "station", "found", "many"]
theorem sc_Lis_least_f42e : FnScope N_Lis_least_f42e ["row", "walkers", "want", "station", "found"] (defScope s_Lis_least_f42e) := ⟨rfl, rfl, rfl, by decide +kernel, rfl, by decide +kernel, by decide +kernel⟩
abbrev s_can_be_met_73d6 : Stmt := topS 9
abbrev N_can_be_met_73d6 : List Str := ["row", "walkers", "wants", "most", "counts", "need", "number"]
theorem sc_can_be_met_73d6 : FnScope N_can_be_met_73d6 ["row", "walkers", "wants"] (defScope s_can_be_met_73d6) := ⟨rfl, rfl, rfl, by decide +kernel, rfl, by decide +kernel, by decide +kernel⟩
abbrev s_is_enough_more_5750 : Stmt := topS 12
abbrev N_is_enough_more_5750 : List Str := ["row", "walkers", "wants", "station", "more"]
theorem sc_is_enough_more_5750 : FnScope N_is_enough_more_5750 ["row", "walkers", "wants", "station", "more"] (defScope s_is_enough_more_5750) := ⟨rfl, rfl, rfl, by decide +kernel, rfl, by decide +kernel, by decide +kernel⟩
abbrev s_fewest_chairs_2e3c : Stmt := topS 11
abbrev N_fewest_chairs_2e3c : List Str := ["row", "walkers", "wants", "station", "most", "least", "middle"]
theorem sc_fewest_chairs_2e3c : FnScope N_fewest_chairs_2e3c ["row", "walkers", "wants", "station"] (defScope s_fewest_chairs_2e3c) := ⟨rfl, rfl, rfl, by decide +kernel, rfl, by decide +kernel, by decide +kernel⟩
abbrev s_law : Stmt := topS 26
abbrev N_law : List Str := ["script", "drawn", "turn", "row", "walkers", "want", "station", "due", "before", "found"]
theorem sc_law : FnScope N_law ["script"] (defScope s_law) := ⟨rfl, rfl, rfl, by decide +kernel, rfl, by decide +kernel, by decide +kernel⟩
noncomputable def g_law_2 : Bd := (bSeq (bSet 7 (dCall f_Ldue_7272 (aCons (dVar 3) (aCons (dVar 4) (aCons (dVar 5) (aCons (dVar 6) aNil))))))
      (bIf (tOf (dBin neD (dApp reprD (aCons (dCall f_fewest_chairs_2e3c (aCons (dVar 3) (aCons (dVar 4) (aCons (dVar 5) (aCons (dVar 6) aNil))))) aNil)) (dApp reprD (aCons (dVar 7) aNil)))) (bRet (dC (.bool false))) bNil))
noncomputable def g_law_1 : Bd := (bSeq (bSet 3 (dCallK f_Lrow_d7da 1 (aCons (dC (.int 3)) (aCons (dC (.int 2)) aNil))))
      (bSeq (bPar [4, 5] (mD (dCallK f_Lways_1baf 1 (aCons (dApp lenD (aCons (dVar 3) aNil)) (aCons (dC (.int 5)) aNil))) (mD (dCallK f_Lwished_76c7 1 (aCons (dVar 3) (aCons (dC (.int 3)) aNil))) mNil)))
      (bFor (iRange1 (aCons (dApp lenD (aCons (dVar 3) aNil)) aNil)) (pName 6) g_law_2)))
noncomputable def g_law_4 : Bd := (bSeq (bSet 9 (dCall f_fewest_chairs_2e3c (aCons (dVar 3) (aCons (dVar 4) (aCons (dVar 5) (aCons (dVar 6) aNil))))))
      (bSeq (bIf (tNotX (tTru (dCall f_Lis_least_f42e (aCons (dVar 3) (aCons (dVar 4) (aCons (dVar 5) (aCons (dVar 6) (aCons (dVar 9) aNil)))))))) (bRet (dC (.bool false))) bNil)
      (bIf (tOf (dBin neD (dApp reprD (aCons (dCall f_fewest_chairs_2e3c (aCons (dVar 3) (aCons (dVar 4) (aCons (dVar 5) (aCons (dVar 6) aNil))))) aNil)) (dApp reprD (aCons (dVar 9) aNil)))) (bRet (dC (.bool false))) bNil)))
noncomputable def g_law_3 : Bd := (bSeq (bSet 3 (dCallK f_Lrow_d7da 1 (aCons (dC (.int 10)) (aCons (dC (.int 50)) aNil))))
      (bSeq (bPar [4, 5] (mD (dCallK f_Lways_1baf 1 (aCons (dApp lenD (aCons (dVar 3) aNil)) (aCons (dC (.int 40)) aNil))) (mD (dCallK f_Lwished_76c7 1 (aCons (dVar 3) (aCons (dBin subD (dBin ixD (dOfO (oLst (aCons (dC (.int 60)) (aCons (dC (.int 501)) aNil)))) (dCallK f_Lnext_9d8d 1 (aCons (dC (.int 2)) aNil))) (dC (.int 1))) aNil))) mNil)))
      (bSeq (bSet 8 (dApp reprD (aCons (dOfO (oLst (aCons (dVar 3) (aCons (dVar 4) (aCons (dVar 5) aNil))))) aNil)))
      (bSeq (bFor (iRange1 (aCons (dApp lenD (aCons (dVar 3) aNil)) aNil)) (pName 6) g_law_4)
      (bIf (tOf (dBin neD (dApp reprD (aCons (dOfO (oLst (aCons (dVar 3) (aCons (dVar 4) (aCons (dVar 5) aNil))))) aNil)) (dVar 8))) (bRet (dC (.bool false))) bNil)))))
noncomputable def b_law : Bd := (bSeq (bFor (iRange1 (aCons (dC (.int 3)) aNil)) (pName 2) g_law_1)
      (bSeq (bFor (iRange1 (aCons (dC (.int 3)) aNil)) (pName 2) g_law_3)
      (bRet (dC (.bool true)))))
structure Fx (K : PySem.W.Frag) (mg : Str → Option Value) (base : Heap) where
  sys : SysAt base
  a_limited_plan_b7b8 : Addr
  d_limited_plan_b7b8 : FuncData
  F_limited_plan_b7b8 : Fun K "limited_plan" "limited_plan" s_limited_plan_b7b8 a_limited_plan_b7b8 d_limited_plan_b7b8
  g_limited_plan_b7b8 : mg "limited_plan" = some (.ref a_limited_plan_b7b8)
  b_limited_plan_b7b8 : Binds K d_limited_plan_b7b8 ["row", "walkers", "limits"] []
  a_running_counts_a84c : Addr
  d_running_counts_a84c : FuncData
  F_running_counts_a84c : Fun K "running_counts" "running_counts" s_running_counts_a84c a_running_counts_a84c d_running_counts_a84c
  g_running_counts_a84c : mg "running_counts" = some (.ref a_running_counts_a84c)
  b_running_counts_a84c : Binds K d_running_counts_a84c ["plan", "stage"] []
  a_with_number_21dd : Addr
  d_with_number_21dd : FuncData
  F_with_number_21dd : Fun K "with_number" "with_number" s_with_number_21dd a_with_number_21dd d_with_number_21dd
  g_with_number_21dd : mg "with_number" = some (.ref a_with_number_21dd)
  b_with_number_21dd : Binds K d_with_number_21dd ["numbers", "station", "number"] []
  a_needs_of_08a9 : Addr
  d_needs_of_08a9 : FuncData
  F_needs_of_08a9 : Fun K "needs_of" "needs_of" s_needs_of_08a9 a_needs_of_08a9 d_needs_of_08a9
  g_needs_of_08a9 : mg "needs_of" = some (.ref a_needs_of_08a9)
  b_needs_of_08a9 : Binds K d_needs_of_08a9 ["row", "wants"] []
  a_Ldraws : Addr
  d_Ldraws : FuncData
  F_Ldraws : Fun K "_law_draws" "_law_draws" s_Ldraws a_Ldraws d_Ldraws
  g_Ldraws : mg "_law_draws" = some (.ref a_Ldraws)
  b_Ldraws : Binds K d_Ldraws ["script"] []
  a_Lnext_9d8d : Addr
  d_Lnext_9d8d : FuncData
  F_Lnext_9d8d : Fun K "_law_next" "_law_next" s_Lnext_9d8d a_Lnext_9d8d d_Lnext_9d8d
  g_Lnext_9d8d : mg "_law_next" = some (.ref a_Lnext_9d8d)
  b_Lnext_9d8d : Binds K d_Lnext_9d8d ["drawn", "many"] []
  a_Lrows_6e9e : Addr
  d_Lrows_6e9e : FuncData
  F_Lrows_6e9e : Fun K "_law_rows" "_law_rows" s_Lrows_6e9e a_Lrows_6e9e d_Lrows_6e9e
  g_Lrows_6e9e : mg "_law_rows" = some (.ref a_Lrows_6e9e)
  b_Lrows_6e9e : Binds K d_Lrows_6e9e ["row", "walkers"] []
  a_Lmoved_820d : Addr
  d_Lmoved_820d : FuncData
  F_Lmoved_820d : Fun K "_law_moved" "_law_moved" s_Lmoved_820d a_Lmoved_820d d_Lmoved_820d
  g_Lmoved_820d : mg "_law_moved" = some (.ref a_Lmoved_820d)
  b_Lmoved_820d : Binds K d_Lmoved_820d ["row", "walkers"] []
  a_Lhas_8f57 : Addr
  d_Lhas_8f57 : FuncData
  F_Lhas_8f57 : Fun K "_law_has" "_law_has" s_Lhas_8f57 a_Lhas_8f57 d_Lhas_8f57
  g_Lhas_8f57 : mg "_law_has" = some (.ref a_Lhas_8f57)
  b_Lhas_8f57 : Binds K d_Lhas_8f57 ["rows", "want"] []
  a_Lwith_d6e3 : Addr
  d_Lwith_d6e3 : FuncData
  F_Lwith_d6e3 : Fun K "_law_with" "_law_with" s_Lwith_d6e3 a_Lwith_d6e3 d_Lwith_d6e3
  g_Lwith_d6e3 : mg "_law_with" = some (.ref a_Lwith_d6e3)
  b_Lwith_d6e3 : Binds K d_Lwith_d6e3 ["row", "station", "more"] []
  a_rule_plan_2c12 : Addr
  d_rule_plan_2c12 : FuncData
  F_rule_plan_2c12 : Fun K "rule_plan" "rule_plan" s_rule_plan_2c12 a_rule_plan_2c12 d_rule_plan_2c12
  g_rule_plan_2c12 : mg "rule_plan" = some (.ref a_rule_plan_2c12)
  b_rule_plan_2c12 : Binds K d_rule_plan_2c12 ["row", "walkers"] []
  a_Lrow_d7da : Addr
  d_Lrow_d7da : FuncData
  F_Lrow_d7da : Fun K "_law_row" "_law_row" s_Lrow_d7da a_Lrow_d7da d_Lrow_d7da
  g_Lrow_d7da : mg "_law_row" = some (.ref a_Lrow_d7da)
  b_Lrow_d7da : Binds K d_Lrow_d7da ["drawn", "stations", "most"] []
  a_Lways_1baf : Addr
  d_Lways_1baf : FuncData
  F_Lways_1baf : Fun K "_law_ways" "_law_ways" s_Lways_1baf a_Lways_1baf d_Lways_1baf
  g_Lways_1baf : mg "_law_ways" = some (.ref a_Lways_1baf)
  b_Lways_1baf : Binds K d_Lways_1baf ["drawn", "stations", "most"] []
  a_Lwished_76c7 : Addr
  d_Lwished_76c7 : FuncData
  F_Lwished_76c7 : Fun K "_law_wished" "_law_wished" s_Lwished_76c7 a_Lwished_76c7 d_Lwished_76c7
  g_Lwished_76c7 : mg "_law_wished" = some (.ref a_Lwished_76c7)
  b_Lwished_76c7 : Binds K d_Lwished_76c7 ["drawn", "row", "most"] []
  a_Lis_enough_66a9 : Addr
  d_Lis_enough_66a9 : FuncData
  F_Lis_enough_66a9 : Fun K "_law_is_enough" "_law_is_enough" s_Lis_enough_66a9 a_Lis_enough_66a9 d_Lis_enough_66a9
  g_Lis_enough_66a9 : mg "_law_is_enough" = some (.ref a_Lis_enough_66a9)
  b_Lis_enough_66a9 : Binds K d_Lis_enough_66a9 ["row", "walkers", "want"] []
  a_Ldue_7272 : Addr
  d_Ldue_7272 : FuncData
  F_Ldue_7272 : Fun K "_law_due" "_law_due" s_Ldue_7272 a_Ldue_7272 d_Ldue_7272
  g_Ldue_7272 : mg "_law_due" = some (.ref a_Ldue_7272)
  b_Ldue_7272 : Binds K d_Ldue_7272 ["row", "walkers", "want", "station"] []
  a_carried_3812 : Addr
  d_carried_3812 : FuncData
  F_carried_3812 : Fun K "carried" "carried" s_carried_3812 a_carried_3812 d_carried_3812
  g_carried_3812 : mg "carried" = some (.ref a_carried_3812)
  b_carried_3812 : Binds K d_carried_3812 ["row", "walkers"] []
  a_Lis_least_f42e : Addr
  d_Lis_least_f42e : FuncData
  F_Lis_least_f42e : Fun K "_law_is_least" "_law_is_least" s_Lis_least_f42e a_Lis_least_f42e d_Lis_least_f42e
  g_Lis_least_f42e : mg "_law_is_least" = some (.ref a_Lis_least_f42e)
  b_Lis_least_f42e : Binds K d_Lis_least_f42e ["row", "walkers", "want", "station", "found"] []
  a_can_be_met_73d6 : Addr
  d_can_be_met_73d6 : FuncData
  F_can_be_met_73d6 : Fun K "can_be_met" "can_be_met" s_can_be_met_73d6 a_can_be_met_73d6 d_can_be_met_73d6
  g_can_be_met_73d6 : mg "can_be_met" = some (.ref a_can_be_met_73d6)
  b_can_be_met_73d6 : Binds K d_can_be_met_73d6 ["row", "walkers", "wants"] []
  a_is_enough_more_5750 : Addr
  d_is_enough_more_5750 : FuncData
  F_is_enough_more_5750 : Fun K "is_enough_more" "is_enough_more" s_is_enough_more_5750 a_is_enough_more_5750 d_is_enough_more_5750
  g_is_enough_more_5750 : mg "is_enough_more" = some (.ref a_is_enough_more_5750)
  b_is_enough_more_5750 : Binds K d_is_enough_more_5750 ["row", "walkers", "wants", "station", "more"] []
  a_fewest_chairs_2e3c : Addr
  d_fewest_chairs_2e3c : FuncData
  F_fewest_chairs_2e3c : Fun K "fewest_chairs" "fewest_chairs" s_fewest_chairs_2e3c a_fewest_chairs_2e3c d_fewest_chairs_2e3c
  g_fewest_chairs_2e3c : mg "fewest_chairs" = some (.ref a_fewest_chairs_2e3c)
  b_fewest_chairs_2e3c : Binds K d_fewest_chairs_2e3c ["row", "walkers", "wants", "station"] []
  a_law : Addr
  d_law : FuncData
  F_law : Fun K "law" "law" s_law a_law d_law
  g_law : mg "law" = some (.ref a_law)
  b_law : Binds K d_law ["script"] []
  z_abs : mg "abs" = none
  z_all : mg "all" = none
  z_bool : mg "bool" = none
  z_int : mg "int" = none
  z_isinstance : mg "isinstance" = none
  z_len : mg "len" = none
  z_list : mg "list" = none
  z_max : mg "max" = none
  z_min : mg "min" = none
  z_range : mg "range" = none
  z_repr : mg "repr" = none
  z_sum : mg "sum" = none
  z_tuple : mg "tuple" = none
  z_zip : mg "zip" = none
/-! ### the deck of three, and a draw from it: by hand -/
def cellsOf (ns : List Int) : List Int := (ns.take 63) ++ if ns.length = 0 then [0] else []
def deckOf (ns : List Int) : List Int := cellsOf ns ++ (cellsOf ns).map fun c => c * (if 1000000000000000000 ≤ c then 1 else 0)
theorem deckOf_len (ns : List Int) (h : ns.length ≤ 63) : 2 ≤ (deckOf ns).length ∧ (deckOf ns).length ≤ 126 := by
  unfold deckOf cellsOf
  rcases ns with _ | ⟨x, ns⟩
  · simp
  · simp only [List.length_cons] at h
    simp
    omega
section
variable {P : Program} {w : World} {K : PySem.W.Frag} {mg : Str → Option Value} {base : Heap}
set_option maxHeartbeats 0 in
theorem ok_Ldraws (T : Fx K mg base) : GFn P w K mg base CX0 1 T.a_Ldraws T.d_Ldraws ["script"] (spDeck K deckOf) :=
  .of (T.F_Ldraws.ok sc_Ldraws (fun vs H Q E h => by obtain ⟨a, ns, rfl, _⟩ := h; rfl) fun cdv A outer s H vs Q E hr h => by
    obtain ⟨a, ns, rfl, hS, hlen, q⟩ := h
    have nd := sc_Ldraws.nd
    refine ⟨_, pss_cons (ps_set (i := 1) nd rfl (by first | exact Or.inl rfl | exact Or.inr rfl) (pe_op op_cat (pe_callTy call_list_of (by rfl) T.z_list (by decide +kernel) (pa_cons (pe_slice sl_list (pv 0) po_none (po_some pe_int)) pa_nil)) (pe_op op_rep (pe_lst (pa_cons pe_int pa_nil)) (pe_callTy call_int1 (by rfl) T.z_int (by decide +kernel) (pa_cons (pe_cmpR op_eq (pe_callB call_len_seq (by rfl) T.z_len (by decide +kernel) (pa_cons (pv 0) pa_nil)) pe_int (nomark _)) pa_nil)))))
      (pss_one (ps_ret (pe_lst (pa_cons (pv 1) (pa_cons pe_int (pa_cons (pe_lc (own := [("cell", 2)]) (g := gName 2) (tt := tYes) rfl nd (pi_list (pv 1))
        (blkOk_by (N := N_Ldraws) (sc := defScope s_Ldraws) (by decide +kernel)) (fun _ _ _ _ _ => pg_name (i := 2) nd rfl (Or.inl rfl)) (fun _ _ _ _ _ => pts_nil)
        (fun _ _ _ _ _ => pe_op op_mul (pv 2) (pe_callTy call_int1 (by rfl) T.z_int (by decide +kernel) (pa_cons (pe_cmpR op_ge (pv 2) (pe_op op_pow pe_int pe_int) (nomark _)) pa_nil)))) pa_nil)))))), ?_⟩
    refine ⟨.ref a, rfl, 63, rfl, a, ns.map V.int, rfl, hS, fun c nc => ?_⟩
    refine ⟨c, _, rfl, .inl (.inl (.inl upd_same)), fun l nl => ?_⟩
    refine ⟨by show 1 ≤ sizeLine; decide, fun z nz => ?_⟩
    refine ⟨.ref a, rfl, a, ns.map V.int, rfl, .inl (sql_up (sql_up (sql_up hS nc) nl) nz), rfl, .inr ⟨_, rfl, ?_⟩⟩
    have eb : (if decide (V.int ((ns.map V.int).length : Int) = V.int 0) = true then (1 : Int) else 0) = (((if ns.length = 0 then 1 else 0 : Nat)) : Int) := by
      rw [dec_int, List.length_map]
      by_cases hz : ns.length = 0
      · rw [hz]; rfl
      · rw [if_neg (by simp only [beq_iff_eq]; omega), if_neg hz]; rfl
    have ec : cutV (ns.map V.int) none (some 63) = (ns.take 63).map V.int := by
      unfold cutV
      rw [show HT.sIx (ns.map V.int).length (ns.map V.int).length (some 63) = min 63 (ns.map V.int).length from HT.sIx_nat _ _ 63, HT.sIx_none, List.drop_zero, Nat.sub_zero, List.map_take, List.length_map]
      by_cases hz : ns.length ≤ 63
      · rw [Nat.min_eq_right hz, List.take_of_length_le (by simp), List.take_of_length_le (by simpa using hz)]
      · rw [Nat.min_eq_left (by omega)]
    dsimp only
    rw [eb, ec]
    rw [ec] at nl nz
    have n1 : ((if ns.length = 0 then 1 else 0 : Nat)) ≤ 1 := by split <;> omega
    have ef : (List.replicate (if ns.length = 0 then 1 else 0 : Nat) [V.int 0]).flatten = (if ns.length = 0 then [0] else []).map V.int := by
      by_cases hz : ns.length = 0
      · rw [if_pos hz, if_pos hz]; rfl
      · rw [if_neg hz, if_neg hz]; rfl
    have lt : (ns.take 63).length ≤ 63 := by rw [List.length_take]; omega
    have lf : ((if ns.length = 0 then [0] else []) : List Int).length ≤ 1 := by split <;> simp
    have s64 : 100 ≤ sizeLine := by decide
    refine ⟨z, _, [.int 0], rfl, rfl, upd_same, by omega, by omega, by rw [Int.toNat_natCast]; show 1 * _ ≤ _; omega, fun r nr => ?_⟩
    rw [Int.toNat_natCast, ef]
    have hl1 : (upd (upd H c (.lst ((ns.take 63).map V.int))) l (.lst ((ns.take 63).map V.int))) l = some (.lst ((ns.take 63).map V.int)) := upd_same
    have hl2 := (upd_ne (o := HO.lst [V.int 0]) (ne_of_none hl1 nz)).trans hl1
    have hl3 := (upd_ne (o := HO.lst ((if ns.length = 0 then [0] else [] : List Int).map V.int)) (ne_of_none hl2 nr)).trans hl2
    refine ⟨l, r, _, _, rfl, rfl, hl3, upd_same, by rw [List.length_map, List.length_map]; omega, fun b nb => ?_⟩
    rw [← List.map_append, show (ns.take 63 ++ if ns.length = 0 then [0] else []) = cellsOf ns from rfl]
    have hb : ∀ X : Hp, (upd X b (.lst ((cellsOf ns).map V.int))) b = some (.lst ((cellsOf ns).map V.int)) := fun X => upd_same
    have cl : (cellsOf ns).length ≤ 64 := by
      unfold cellsOf
      rw [List.length_append]
      first | omega | (rw [List.length_map]; omega)
    unfold deckOf at q
    generalize cellsOf ns = cells at *
    refine ⟨.ref b, rfl, .ref b, rfl, b, rfl, ⟨_, .inl (.inl (hb _))⟩, fun D nD => ?_⟩
    have nDb : b ≠ D := ne_of_none (hb _) nD
    generalize hf : (fun c : Int => c * (if 1000000000000000000 ≤ c then 1 else 0)) = f at *
    refine lc_list (K := K) (a := b) (xs := cells.map V.int) (fun i H' => H' b = some (.lst (cells.map V.int)) ∧ H' D = some (.lst (((cells.map f).take i).map V.int))) ⟨?_, upd_same⟩ (fun i H' _ h => .inl (.inl h.1)) (fun i x H' hx h => ?_) (fun H' h => ?_)
    · rw [upd_ne nDb]; exact hb _
    · obtain ⟨h1, h2⟩ := h
      have hi : i < cells.length := by
        have := (List.getElem?_eq_some_iff.mp hx).1
        simpa using this
      have ex : x = .int cells[i] := by
        rw [List.getElem?_map, List.getElem?_eq_getElem hi] at hx
        exact (Option.some.inj hx).symm
      subst ex
      have e18 : (10 : Int) ^ (18 : Int).toNat = 1000000000000000000 := by decide
      refine ⟨rfl, ?_⟩
      unfold tYes
      dsimp only
      rw [if_pos rfl]
      refine ⟨.int cells[i], rfl, .int cells[i], rfl, 10, 18, rfl, rfl, ⟨by decide, by decide, by decide⟩, cells[i], _, rfl, rfl, .inr ⟨_, rfl, cells[i], _, rfl, rfl, .inr ?_, _, h2, ?_, ?_, ?_⟩⟩
      · split <;> exact ⟨by decide, by decide⟩
      · rw [List.length_map, List.length_take]
        exact Nat.lt_of_le_of_lt (Nat.min_le_right _ _) (by rw [List.length_map]; omega)
      · rw [upd_ne nDb]; exact h1
      · rw [upd_same, List.take_add_one, List.getElem?_map, List.getElem?_eq_getElem hi, List.map_append, e18, ← hf]
        simp
    · obtain ⟨h1, h2⟩ := h
      refine ⟨by show 3 ≤ sizeLine; decide, fun p np => ?_⟩
      have npD : D ≠ p := ne_of_none h2 np
      have npb : b ≠ p := ne_of_none h1 np
      have f0 : ∀ x, x ≠ b → (updF (fun _ => none) b (HO.lst (cells.map V.int))) x = none := fun x hx => updF_ne hx
      refine q (updF (fun _ => none) b (.lst (cells.map V.int))) p D _ (fun x u h => ?_) ⟨fun x u h => ?_, fun x u h => ?_⟩ ⟨npD.symm, ⟨b, cells, cells.map f, rfl, by simp, upd_same, ?_, updF_same⟩, f0 _ npb.symm, f0 _ nDb.symm⟩
      · by_cases hx : x = b
        · subst hx
          rw [updF_same] at h
          cases h
        · rw [f0 x hx] at h; cases h
      · by_cases hx : x = b
        · subst hx
          rw [updF_same] at h
          cases h
          rw [upd_ne npb]; exact h1
        · rw [f0 x hx] at h; cases h
      · by_cases hx : x = b
        · subst hx
          rw [updF_same] at h
          cases h
        · rw [f0 x hx] at h; cases h
      · rw [upd_ne npD, h2, List.take_of_length_le (by simp)])
set_option maxHeartbeats 0 in
theorem ok_Lnext_9d8d (T : Fx K mg base) : GFn P w K mg base CX0 1 T.a_Lnext_9d8d T.d_Lnext_9d8d ["drawn", "many"] (DkSp K 1 f_Lnext_9d8d) :=
  .of (T.F_Lnext_9d8d.ok sc_Lnext_9d8d (fun vs H Q E ⟨F, dp, dc, vs', ds, cs, m, r, cs', m', hv, hl, _, _, _, rr, _⟩ => by rw [hv, List.length_cons, rr.len, hl]; rfl) fun cdv A outer s H vs Q E hr h => by
    obtain ⟨F, dp, dc, vs', ds, cs, n, r, cs', n', hv, hl, nn, e, ⟨ne, ⟨a, cells, rests, rfl, hlen, h1, h2, h3⟩, fp, fc⟩, rr, hf, q⟩ := h
    subst hv
    obtain ⟨k, rfl⟩ : ∃ k, ds = [.int k] := by
      unfold f_Lnext_9d8d nextF at hf
      split at hf
      · exact ⟨_, rfl⟩
      · cases hf
    obtain ⟨v, rfl, rv⟩ := rr.one
    cases rv
    have hf' : (if (decide (0 < k) && decide (k < 1000002) && decide (0 ≤ n) && decide (n < 50000000) && decide (2 ≤ (cells ++ rests).length)) = true then some (PyData.int (nextAt mix3 (cells ++ rests) n k).1, (nextAt mix3 (cells ++ rests) n k).2, n + 1) else none) = some (r, cs', n') := hf
    split at hf'
    rotate_left
    · cases hf'
    rename_i hb
    simp only [Bool.and_eq_true, decide_eq_true_eq, List.length_append] at hb
    obtain ⟨⟨⟨⟨b1, b2⟩, b3⟩, b4⟩, b5⟩ := hb
    have hp : 0 < cells.length := by omega
    obtain ⟨j, hj⟩ : ∃ j : Nat, n % (cells.length : Int) = (j : Int) := ⟨_, (Int.toNat_of_nonneg (Int.emod_nonneg _ (by omega))).symm⟩
    have hjl : j < cells.length := by
      have := Int.emod_lt_of_pos n (show (0 : Int) < cells.length by omega)
      omega
    have hjr : j < rests.length := by omega
    rw [next_split hlen hj hjl hjr] at hf'
    have nec : dc ≠ dp := ne.symm
    have h3' : H a = some (.lst (cells.map V.int)) := e _ _ h3
    have nap : a ≠ dp := fun z => by rw [z, fp] at h3; cases h3
    have nac : a ≠ dc := fun z => by rw [z, fc] at h3; cases h3
    have ec : atI (cells.map V.int) ((j : Nat) : Int) = some (.int cells[j]) := at_nat (by rw [List.getElem?_map, List.getElem?_eq_getElem hjl]; rfl)
    have er : atI (rests.map V.int) ((j : Nat) : Int) = some (.int rests[j]) := at_nat (by rw [List.getElem?_map, List.getElem?_eq_getElem hjr]; rfl)
    have hn2 : (0 : Int) ≤ n * n ∧ n * n ≤ 50000000 * 50000000 := ⟨Int.mul_nonneg b3 b3, Int.mul_le_mul (by omega) (by omega) b3 (by omega)⟩
    have nd := sc_Lnext_9d8d.nd
    refine ⟨_, pss_cons (ps_asg (pv 0) (pg_lst rfl (pgs_cons (pg_name (i := 2) nd rfl (Or.inl rfl)) (pgs_cons (pg_name (i := 3) nd rfl (Or.inl rfl)) (pgs_cons (pg_name (i := 4) nd rfl (Or.inl rfl)) pgs_nil)))))
      (pss_cons (ps_set (i := 5) nd rfl (Or.inl rfl) (pe_op op_mod (pv 3) (pe_callB call_len_seq (by rfl) T.z_len (by decide +kernel) (pa_cons (pv 2) pa_nil))))
      (pss_cons (ps_asg (pe_op op_add (pv 3) pe_int) (pg_sub (pv 0) pe_int set_list))
      (pss_cons (ps_if (pt_cmpR op_gt (pe_ix ix_list (pv 4) (pv 5) (fun _ _ => rfl)) pe_int (nomark _))
        (pss_cons (ps_set (i := 6) nd rfl (Or.inl rfl) (pe_op op_mod (pe_ix ix_list (pv 4) (pv 5) (fun _ _ => rfl)) (pv 1)))
        (pss_cons (ps_asg (pe_op op_fdiv (pe_ix ix_list (pv 4) (pv 5) (fun _ _ => rfl)) (pv 1)) (pg_sub (pv 4) (pv 5) set_list))
        (pss_one (ps_ret (pv 6))))) pss_nil)
      (pss_cons (ps_set (i := 7) nd rfl (Or.inl rfl) (pe_op op_mod (pe_op op_pow (pe_op op_add (pe_op op_add (pe_op op_mod (pe_ix ix_list (pv 2) (pv 5) (fun _ _ => rfl)) pe_int) (pe_op op_mul pe_int (pv 3))) pe_int) pe_int) pe_int))
      (pss_cons (ps_set (i := 8) nd rfl (Or.inl rfl) (pe_op op_mod (pe_op op_pow (pe_op op_add (pe_op op_add (pv 7) (pe_op op_mul (pe_op op_mul pe_int (pv 3)) (pv 3))) pe_int) pe_int) pe_int))
      (pss_one (ps_ret (pe_op op_mod (pe_op op_mod (pe_op op_add (pe_op op_mul (pv 8) pe_int) (pv 7)) pe_int) (pv 1))))))))), ?_⟩
    refine ⟨.ref dp, rfl, dp, _, rfl, .inl (.inl h1), rfl, ?_⟩
    refine ⟨_, _, rfl, _, _, rfl, _, _, rfl, rfl, ?_⟩
    refine ⟨.int n, rfl, .ref a, rfl, a, _, rfl, .inl (.inl (.inl h3')), n, _, rfl, rfl, by rw [List.length_map]; omega, ?_⟩
    have ej : n % (((cells.map V.int).length : Nat) : Int) = (j : Int) := by rw [List.length_map]; exact hj
    dsimp only
    rw [ej]
    refine ⟨.int n, rfl, n, 1, rfl, rfl, .ref dp, rfl, dp, _, 1, 1, rfl, rfl, h1, rfl, ?_⟩
    have hdp : ∀ o, (upd H dp o) dp = some o := fun o => upd_same
    have hdc : ∀ o, (upd H dp o) dc = some (.lst (rests.map V.int)) := fun o => by rw [upd_ne nec]; exact h2
    have ha : ∀ o, (upd H dp o) a = some (.lst (cells.map V.int)) := fun o => by rw [upd_ne nap]; exact h3'
    refine ⟨.ref dc, rfl, .int j, rfl, dc, _, (j : Int), _, rfl, rfl, .inl (.inl (hdc _)), er, rests[j], 0, rfl, rfl, _, rfl, ?_⟩
    have n1 : H dp ≠ none := by rw [h1]; exact fun z => nomatch z
    have n2 : H dc ≠ none := by rw [h2]; exact fun z => nomatch z
    dsimp only
    by_cases hr : 0 < rests[j]
    · rw [if_pos (decide_eq_true hr)]
      rw [if_pos hr] at hf'
      cases hf'
      refine ⟨.ref dc, rfl, .int j, rfl, dc, _, (j : Int), _, rfl, rfl, .inl (.inl (hdc _)), er, .int k, rfl, rests[j], k, rfl, rfl, b1, ?_⟩
      refine ⟨.ref dc, rfl, .int j, rfl, dc, _, (j : Int), _, rfl, rfl, .inl (.inl (hdc _)), er, .int k, rfl, rests[j], k, rfl, rfl, ⟨b1, by omega⟩, .ref dc, rfl, .int j, rfl, dc, _, (j : Int), j, rfl, rfl, hdc _, by rw [List.length_map]; exact ixN_nat hjr, ?_⟩
      refine ⟨.int (rests[j] % k), rfl, ?_⟩
      refine q _ F _ (grow_deck e fp fc n1 n2 (fun b u h x y => by rw [upd_ne y, upd_ne x]; exact h) (fun b h => ?_)) ⟨ne, ⟨a, cells, rests.set j (rests[j] / k), rfl, by simp [hlen], ?_, ?_, h3⟩, fp, fc⟩ (.int _)
      · by_cases x : b = dc
        · subst x; rw [upd_same] at h; cases h
        · rw [upd_ne x] at h
          by_cases y : b = dp
          · subst y; rw [upd_same] at h; cases h
          · rw [upd_ne y] at h; exact h
      · rw [upd_ne ne, upd_same]; rfl
      · rw [upd_same, List.map_set]
    · rw [if_neg (by rw [decide_eq_false hr]; decide)]
      rw [if_neg hr] at hf'
      cases hf'
      have c0 := Int.emod_nonneg cells[j] (show (2147483647 : Int) ≠ 0 by decide)
      have c1 := Int.emod_lt_of_pos cells[j] (show (0 : Int) < 2147483647 by decide)
      have m0 : 0 ≤ mix3a cells[j] n := Int.emod_nonneg _ (by decide)
      have m1 : mix3a cells[j] n < 2147483629 := Int.emod_lt_of_pos _ (by decide)
      have p1 : (cells[j] % 2147483647 + 69621 * n + 30269).natAbs < 2 ^ 64 := by omega
      have p2 : (mix3a cells[j] n + 6007 * n * n + 17).natAbs < 2 ^ 64 := by
        rw [Int.mul_assoc]
        omega
      have cn : ∀ x : Int, CMul x n := fun x => .inr ⟨by omega, by omega⟩
      refine ⟨.ref a, rfl, .int j, rfl, a, _, (j : Int), _, rfl, rfl, .inl (.inl (ha _)), ec, cells[j], 2147483647, rfl, rfl, (show (0 : Int) < 2147483647 by decide), .int n, rfl, 69621, n, rfl, rfl, cn _, _, _, rfl, rfl, _, 30269, rfl, rfl, _, 3, rfl, rfl, ⟨by decide, by decide, p1⟩, _, 2147483629, rfl, rfl, (show (0 : Int) < 2147483629 by decide), ?_⟩
      refine ⟨.int (mix3a cells[j] n), rfl, .int n, rfl, 6007, n, rfl, rfl, cn _, .int n, rfl, _, n, rfl, rfl, cn _, _, _, rfl, rfl, _, 17, rfl, rfl, _, 3, rfl, rfl, ⟨by decide, by decide, p2⟩, _, 2147483587, rfl, rfl, (show (0 : Int) < 2147483587 by decide), ?_⟩
      refine ⟨.int ((mix3a cells[j] n + 6007 * n * n + 17) ^ 3 % 2147483587), rfl, _, 2147483423, rfl, rfl, .inr ⟨by decide, by decide⟩, .int (mix3a cells[j] n), rfl, _, _, rfl, rfl, _, 4611686018427387847, rfl, rfl, (show (0 : Int) < 4611686018427387847 by decide), .int k, rfl, _, k, rfl, rfl, b1, ?_⟩
      refine q _ F _ (grow_deck e fp fc n1 n2 (fun b u h x y => by rw [upd_ne x]; exact h) (fun b h => ?_)) ⟨ne, ⟨a, cells, rests, rfl, hlen, ?_, ?_, h3⟩, fp, fc⟩ (.int _)
      · by_cases y : b = dp
        · subst y; rw [upd_same] at h; cases h
        · rw [upd_ne y] at h; exact h
      · rw [upd_same]; rfl
      · exact hdc _)

theorem ok_limited_plan_b7b8 (T : Fx K mg base) : GFn P w K mg base CX0 1 T.a_limited_plan_b7b8 T.d_limited_plan_b7b8 ["row", "walkers", "limits"] (FnSp K 3 f_limited_plan_b7b8) :=
  ok_fn (N := N_limited_plan_b7b8) T.F_limited_plan_b7b8 sc_limited_plan_b7b8 fun cdv A outer s H C hob hgd hr => by
    have hu64 := hr.units
    have hu65 := room65 hr
    have hu66 := room66 hr
    exact (ds_cons (ds_setO (ps_set (i := 3) sc_limited_plan_b7b8.nd rfl (by first | exact Or.inl rfl | exact Or.inr rfl) (oe_list (by rfl) T.z_list (by decide +kernel) (de_var (pv 0)))))
      (ds_cons (ds_setO (ps_set (i := 4) sc_limited_plan_b7b8.nd rfl (by first | exact Or.inl rfl | exact Or.inr rfl) (oe_list (by rfl) T.z_list (by decide +kernel) (de_var (pv 2)))))
      (ds_cons (ds_setO (ps_set (i := 5) sc_limited_plan_b7b8.nd rfl (by first | exact Or.inl rfl | exact Or.inr rfl) (oe_lst da_nil)))
      (ds_cons (ds_for PassesOwn.never rfl (di_seq (de_var (pv 1))) (dg_tup rfl (dgs_cons (dg_name (pg_name (i := 6) sc_limited_plan_b7b8.nd rfl (by first | exact Or.inl rfl | exact Or.inr rfl))) (dgs_cons (dg_name (pg_name (i := 7) sc_limited_plan_b7b8.nd rfl (by first | exact Or.inl rfl | exact Or.inr rfl))) dgs_nil))) (ds_cons (ds_setO (ps_set (i := 8) sc_limited_plan_b7b8.nd rfl (by first | exact Or.inl rfl | exact Or.inr rfl) (oe_lst da_nil)))
      (ds_cons (ds_for PassesOwn.never rfl (di_range2 (pi_range2 (by rfl) T.z_range (da_cons (de_var (pv 6)) (da_cons (de_var (pv 7)) da_nil)))) (dg_name (pg_name (i := 9) sc_limited_plan_b7b8.nd rfl (by first | exact Or.inl rfl | exact Or.inr rfl))) (ds_one (ds_if (dw_pt (dw_and (dt_cmp od_gt (de_at (i := 3) (pe_ix ix_list (pv 3) (de_var (pv 9)) (fun _ _ => rfl))) de_int (nomark _)) (dw_and1 (dt_cmp od_gt (de_at (i := 4) (pe_ix ix_list (pv 4) (de_var (pv 9)) (fun _ _ => rfl))) de_int (nomark _))))) (ds_cons (ds_augAt (i := 3) (ps_augS (pv 3) (de_var (pv 9)) pget_list de_int od_isub set_list))
      (ds_cons (ds_augAt (i := 3) (ps_augS (pv 3) (de_bin od_add (de_var (pv 9)) de_int) pget_list de_int od_iadd' set_list))
      (ds_cons (ds_augAt (i := 4) (ps_augS (pv 4) (de_var (pv 9)) pget_list de_int od_isub set_list))
      (ds_one (ds_app (i := 8) (ps_expr (pe_bm PySem.F.plainAttrs_list PySem.F.slot_list_append PySem.F.type_list_append mt_append (pv 8) (da_cons (de_var (pv 9)) da_nil)))))))) ds_nil)))
      (ds_one (ds_app (i := 5) (ps_expr (pe_bm PySem.F.plainAttrs_list PySem.F.slot_list_append PySem.F.type_list_append mt_append (pv 5) (da_cons (de_ty cd_tuple (by rfl) T.z_tuple (by decide +kernel) (da_cons (de_var (pv 8)) da_nil)) da_nil))))))))
      (ds_one (ds_ret (de_ty cd_tuple (by rfl) T.z_tuple (by decide +kernel) (da_cons (de_var (pv 5)) da_nil))))))))
theorem ok_running_counts_a84c (T : Fx K mg base) : GFn P w K mg base CX0 1 T.a_running_counts_a84c T.d_running_counts_a84c ["plan", "stage"] (FnSp K 2 f_running_counts_a84c) :=
  ok_fn (N := N_running_counts_a84c) T.F_running_counts_a84c sc_running_counts_a84c fun cdv A outer s H C hob hgd hr => by
    have hu64 := hr.units
    have hu65 := room65 hr
    have hu66 := room66 hr
    exact (ds_cons (ds_setO (ps_set (i := 2) sc_running_counts_a84c.nd rfl (by first | exact Or.inl rfl | exact Or.inr rfl) (oe_lst (da_cons de_int da_nil))))
      (ds_cons (ds_for PassesOwn.never rfl (di_seq (de_var (pv 0))) (dg_name (pg_name (i := 3) sc_running_counts_a84c.nd rfl (by first | exact Or.inl rfl | exact Or.inr rfl))) (ds_one (ds_app (i := 2) (ps_expr (pe_bm PySem.F.plainAttrs_list PySem.F.slot_list_append PySem.F.type_list_append mt_append (pv 2) (da_cons (de_bin od_add (de_at (i := 2) (pe_ix ix_list (pv 2) (de_un ud_neg de_int) (fun _ _ => rfl))) (de_count hu65 (de_var (pv 3)) (da_cons (de_var (pv 1)) da_nil))) da_nil))))))
      (ds_one (ds_ret (de_ty cd_tuple (by rfl) T.z_tuple (by decide +kernel) (da_cons (de_var (pv 2)) da_nil))))))
theorem ok_with_number_21dd (T : Fx K mg base) : GFn P w K mg base CX0 1 T.a_with_number_21dd T.d_with_number_21dd ["numbers", "station", "number"] (FnSp K 3 f_with_number_21dd) :=
  ok_fn (N := N_with_number_21dd) T.F_with_number_21dd sc_with_number_21dd fun cdv A outer s H C hob hgd hr => by
    have hu64 := hr.units
    have hu65 := room65 hr
    have hu66 := room66 hr
    exact (ds_one (ds_ret (de_bin od_add (de_bin od_add (de_sl sd_sl (de_var (pv 0)) dp_none (dp_some (de_var (pv 1)))) (de_tup (da_cons (de_var (pv 2)) da_nil))) (de_sl sd_sl (de_var (pv 0)) (dp_some (de_bin od_add (de_var (pv 1)) de_int)) dp_none))))
theorem ok_needs_of_08a9 (T : Fx K mg base) : GFn P w K mg base CX0 1 T.a_needs_of_08a9 T.d_needs_of_08a9 ["row", "wants"] (FnSp K 2 f_needs_of_08a9) :=
  ok_fn (N := N_needs_of_08a9) T.F_needs_of_08a9 sc_needs_of_08a9 fun cdv A outer s H C hob hgd hr => by
    have hu64 := hr.units
    have hu65 := room65 hr
    have hu66 := room66 hr
    exact (ds_cons (ds_setO (ps_set (i := 2) sc_needs_of_08a9.nd rfl (by first | exact Or.inl rfl | exact Or.inr rfl) (oe_lst da_nil)))
      (ds_cons (ds_set (ps_set (i := 3) sc_needs_of_08a9.nd rfl (by first | exact Or.inl rfl | exact Or.inr rfl) de_int))
      (ds_cons (ds_for PassesOwn.never rfl (di_range3 (by rfl) T.z_range (da_cons (de_bin od_sub (de_b cd_len (by rfl) T.z_len (by decide +kernel) (da_cons (de_var (pv 0)) da_nil)) de_int) (da_cons (de_un ud_neg de_int) (da_cons (de_un ud_neg de_int) da_nil)))) (dg_name (pg_name (i := 4) sc_needs_of_08a9.nd rfl (by first | exact Or.inl rfl | exact Or.inr rfl))) (ds_cons (ds_set (ps_set (i := 3) sc_needs_of_08a9.nd rfl (by first | exact Or.inl rfl | exact Or.inr rfl) (de_b (cd_max2 rfl) (by rfl) T.z_max (by decide +kernel) (da_cons de_int (da_cons (de_bin od_sub (de_bin od_add (de_var (pv 3)) (de_ix id_ix (de_var (pv 1)) (de_var (pv 4)) (fun _ _ => rfl))) (de_ix id_ix (de_var (pv 0)) (de_var (pv 4)) (fun _ _ => rfl))) da_nil)))))
      (ds_one (ds_app (i := 2) (ps_expr (pe_bm PySem.F.plainAttrs_list PySem.F.slot_list_append PySem.F.type_list_append mt_append (pv 2) (da_cons (de_var (pv 3)) da_nil)))))))
      (ds_one (ds_ret (de_ty cd_tuple (by rfl) T.z_tuple (by decide +kernel) (da_cons (de_rev2 (de_var (pv 2))) da_nil)))))))
theorem ok_Lrows_6e9e (T : Fx K mg base) : GFn P w K mg base CX0 1 T.a_Lrows_6e9e T.d_Lrows_6e9e ["row", "walkers"] (FnSp K 2 f_Lrows_6e9e) :=
  ok_fn (N := N_Lrows_6e9e) T.F_Lrows_6e9e sc_Lrows_6e9e fun cdv A outer s H C hob hgd hr => by
    have hu64 := hr.units
    have hu65 := room65 hr
    have hu66 := room66 hr
    exact (ds_cons (ds_set (ps_set (i := 2) sc_Lrows_6e9e.nd rfl (by first | exact Or.inl rfl | exact Or.inr rfl) (de_dct1 (lt_oneT hu64) (de_var (pv 0)))))
      (ds_cons (ds_for PassesOwn.never rfl (di_seq (de_var (pv 1))) (dg_tup rfl (dgs_cons (dg_name (pg_name (i := 3) sc_Lrows_6e9e.nd rfl (by first | exact Or.inl rfl | exact Or.inr rfl))) (dgs_cons (dg_name (pg_name (i := 4) sc_Lrows_6e9e.nd rfl (by first | exact Or.inl rfl | exact Or.inr rfl))) dgs_nil))) (ds_one (ds_for PassesOwn.never rfl (di_range2 (pi_range2 (by rfl) T.z_range (da_cons (de_var (pv 3)) (da_cons (de_var (pv 4)) da_nil)))) (dg_name (pg_name (i := 5) sc_Lrows_6e9e.nd rfl (by first | exact Or.inl rfl | exact Or.inr rfl))) (ds_rows (iF := 2) (iL := 6) PassesOwn.never rfl (ps_set (i := 6) sc_Lrows_6e9e.nd rfl (by first | exact Or.inl rfl | exact Or.inr rfl) pe_dct0) (di_keysT (de_var (pv 2))) (dg_name (pg_name (i := 7) sc_Lrows_6e9e.nd rfl (by first | exact Or.inl rfl | exact Or.inr rfl))) (by decide) (ps_asg pe_bl (pg_sub (pv 6) (de_var (pv 7)) (set_dct (lt_oneT hu64)))) (dt_cmp od_gt (de_ix id_ix (de_var (pv 7)) (de_var (pv 5)) (fun _ _ => rfl)) de_int (nomark _)) (ps_asg pe_bl (pg_sub (pv 6) (de_bin od_add (de_bin od_add (de_sl sd_sl (de_var (pv 7)) dp_none (dp_some (de_var (pv 5)))) (de_tup (da_cons (de_bin od_sub (de_ix id_ix (de_var (pv 7)) (de_var (pv 5)) (fun _ _ => rfl)) de_int) (da_cons (de_bin od_add (de_ix id_ix (de_var (pv 7)) (de_bin od_add (de_var (pv 5)) de_int) (fun _ _ => rfl)) de_int) da_nil)))) (de_sl sd_sl (de_var (pv 7)) (dp_some (de_bin od_add (de_var (pv 5)) de_int)) dp_none)) (set_dct (lt_oneT hu64)))) (ps_set (i := 2) sc_Lrows_6e9e.nd rfl (by first | exact Or.inl rfl | exact Or.inr rfl) (pv 6))))))
      (ds_one (ds_ret (de_var (pv 2))))))
theorem ok_Lmoved_820d (T : Fx K mg base) : GFn P w K mg base CX0 1 T.a_Lmoved_820d T.d_Lmoved_820d ["row", "walkers"] (FnSp K 2 f_Lmoved_820d) :=
  ok_fn (N := N_Lmoved_820d) T.F_Lmoved_820d sc_Lmoved_820d fun cdv A outer s H C hob hgd hr => by
    have hu64 := hr.units
    have hu65 := room65 hr
    have hu66 := room66 hr
    exact (ds_cons (ds_par2 (i := 2) (j := 3) (ps_par rfl sc_Lmoved_820d.nd rfl rfl (by decide) rfl rfl (dm_o (oe_list (by rfl) T.z_list (by decide +kernel) (de_var (pv 0))) (dm_o (oe_mul (de_ofO (oe_lst (da_cons de_int da_nil))) (de_bin od_sub (de_b cd_len (by rfl) T.z_len (by decide +kernel) (da_cons (de_var (pv 0)) da_nil)) de_int)) dm_nil)) (by rfl)))
      (ds_cons (ds_for PassesOwn.never rfl (di_seq (de_var (pv 1))) (dg_tup rfl (dgs_cons (dg_name (pg_name (i := 4) sc_Lmoved_820d.nd rfl (by first | exact Or.inl rfl | exact Or.inr rfl))) (dgs_cons (dg_name (pg_name (i := 5) sc_Lmoved_820d.nd rfl (by first | exact Or.inl rfl | exact Or.inr rfl))) dgs_nil))) (ds_one (ds_for PassesOwn.never rfl (di_range2 (pi_range2 (by rfl) T.z_range (da_cons (de_var (pv 4)) (da_cons (de_var (pv 5)) da_nil)))) (dg_name (pg_name (i := 6) sc_Lmoved_820d.nd rfl (by first | exact Or.inl rfl | exact Or.inr rfl))) (ds_one (ds_if (dt_cmp od_gt (de_at (i := 2) (pe_ix ix_list (pv 2) (de_var (pv 6)) (fun _ _ => rfl))) de_int (nomark _)) (ds_cons (ds_put (i := 2) (ps_asg (de_bin od_sub (de_at (i := 2) (pe_ix ix_list (pv 2) (de_var (pv 6)) (fun _ _ => rfl))) de_int) (pg_sub (pv 2) (de_var (pv 6)) set_list)))
      (ds_cons (ds_put (i := 2) (ps_asg (de_bin od_add (de_at (i := 2) (pe_ix ix_list (pv 2) (de_bin od_add (de_var (pv 6)) de_int) (fun _ _ => rfl))) de_int) (pg_sub (pv 2) (de_bin od_add (de_var (pv 6)) de_int) set_list)))
      (ds_one (ds_put (i := 3) (ps_asg (de_bin od_add (de_at (i := 3) (pe_ix ix_list (pv 3) (de_var (pv 6)) (fun _ _ => rfl))) de_int) (pg_sub (pv 3) (de_var (pv 6)) set_list)))))) ds_nil)))))
      (ds_one (ds_ret (de_var (pv 3))))))
theorem ok_Lhas_8f57 (T : Fx K mg base) : GFn P w K mg base CX0 1 T.a_Lhas_8f57 T.d_Lhas_8f57 ["rows", "want"] (FnSp K 2 f_Lhas_8f57) :=
  ok_fn (N := N_Lhas_8f57) T.F_Lhas_8f57 sc_Lhas_8f57 fun cdv A outer s H C hob hgd hr => by
    have hu64 := hr.units
    have hu65 := room65 hr
    have hu66 := room66 hr
    exact (ds_cons (ds_for PassesOwn.never rfl (di_keysT (de_var (pv 0))) (dg_name (pg_name (i := 2) sc_Lhas_8f57.nd rfl (by first | exact Or.inl rfl | exact Or.inr rfl))) (ds_one (ds_if (dt_cmp (od_eq hu64) (de_ofO (oe_lc (by decide) (pe_lc (own := [("k", 3)]) rfl sc_Lhas_8f57.nd (di_range1 (pi_range1 (by rfl) T.z_range (da_cons (de_b cd_len (by rfl) T.z_len (by decide +kernel) (da_cons (de_var (pv 1)) da_nil)) da_nil))) (blkOk_by (N := N_Lhas_8f57) (sc := defScope s_Lhas_8f57) (by decide +kernel)) (fun _ _ _ _ _ => (dg_name (pg_name (i := 3) sc_Lhas_8f57.nd rfl (by first | exact Or.inl rfl | exact Or.inr rfl)))) (fun _ _ _ _ _ => (dts_one (dt_cmp od_lt (de_ix id_ix (de_var (pv 2)) (de_var (pv 3)) (fun _ _ => rfl)) (de_ix id_ix (de_var (pv 1)) (de_var (pv 3)) (fun _ _ => rfl)) (nomark _)))) (fun _ _ _ _ _ => (de_var (pv 3)))))) (de_ofO (oe_lst da_nil)) (nomark _)) (ds_one (ds_ret de_bl)) ds_nil)))
      (ds_one (ds_ret de_bl)))
theorem ok_Lwith_d6e3 (T : Fx K mg base) : GFn P w K mg base CX0 1 T.a_Lwith_d6e3 T.d_Lwith_d6e3 ["row", "station", "more"] (FnSp K 3 f_Lwith_d6e3) :=
  ok_fn (N := N_Lwith_d6e3) T.F_Lwith_d6e3 sc_Lwith_d6e3 fun cdv A outer s H C hob hgd hr => by
    have hu64 := hr.units
    have hu65 := room65 hr
    have hu66 := room66 hr
    exact (ds_one (ds_ret (de_bin od_add (de_bin od_add (de_sl sd_sl (de_var (pv 0)) dp_none (dp_some (de_var (pv 1)))) (de_tup (da_cons (de_bin od_add (de_ix id_ix (de_var (pv 0)) (de_var (pv 1)) (fun _ _ => rfl)) (de_var (pv 2))) da_nil))) (de_sl sd_sl (de_var (pv 0)) (dp_some (de_bin od_add (de_var (pv 1)) de_int)) dp_none))))
theorem ok_rule_plan_2c12 (T : Fx K mg base) : GFn P w K mg base CX0 2 T.a_rule_plan_2c12 T.d_rule_plan_2c12 ["row", "walkers"] (FnSp K 2 f_rule_plan_2c12) :=
  ok_fn (N := N_rule_plan_2c12) T.F_rule_plan_2c12 sc_rule_plan_2c12 fun cdv A outer s H C hob hgd hr => by
    have hu64 := hr.units
    have hu65 := room65 hr
    have hu66 := room66 hr
    exact (ds_cons (ds_lc (i := 2) (by decide) (ps_setLc (i := 2) (own := [("_", 3)]) rfl sc_rule_plan_2c12.nd rfl rfl (sw_true rfl rfl rfl (by decide +kernel)) (di_range1 (pi_range1 (by rfl) T.z_range (da_cons (de_bin od_sub (de_b cd_len (by rfl) T.z_len (by decide +kernel) (da_cons (de_var (pv 0)) da_nil)) de_int) da_nil))) (blkOk_by (N := N_rule_plan_2c12) (sc := defScope s_rule_plan_2c12) (by decide +kernel)) (fun _ _ _ _ _ => (dg_name (pg_name (i := 3) sc_rule_plan_2c12.nd rfl (by first | exact Or.inl rfl | exact Or.inr rfl)))) (fun _ _ _ _ _ => dts_nil) (fun _ _ _ _ _ => (de_b cd_len (by rfl) T.z_len (by decide +kernel) (da_cons (de_var (pv 1)) da_nil)))))
      (ds_one (ds_ret (de_call hob (ok_limited_plan_b7b8 T) rfl hgd (hr.mono (by decide)) (by rfl) T.g_limited_plan_b7b8 T.F_limited_plan_b7b8.kp T.b_limited_plan_b7b8 rfl (da_cons (de_var (pv 0)) (da_cons (de_var (pv 1)) (da_cons (de_var (pv 2)) da_nil))) (aCons_len (aCons_len (aCons_len aNil_len)))))))
theorem ok_Lrow_d7da (T : Fx K mg base) : GFn P w K mg base CX0 2 T.a_Lrow_d7da T.d_Lrow_d7da ["drawn", "stations", "most"] (DkSp K 2 f_Lrow_d7da) :=
  ok_fnK (N := N_Lrow_d7da) T.F_Lrow_d7da sc_Lrow_d7da rfl fun cdv A outer s H C hob hgd hr => by
    have hu64 := hr.units
    have hu65 := room65 hr
    have hu66 := room66 hr
    exact (ds_cons (ds_parN (sl := [3, 4]) rfl (by decide) (ps_asg (pe_tup (dm_d (de_bin od_add de_int (de_callK hob (ok_Lnext_9d8d T) hgd (hr.mono (by decide)) (by rfl) T.g_Lnext_9d8d T.F_Lnext_9d8d.kp T.b_Lnext_9d8d rfl (pv 0) (da_cons (de_bin od_sub (de_var (pv 1)) de_int) da_nil) (aCons_len aNil_len))) (dm_d (de_callK hob (ok_Lnext_9d8d T) hgd (hr.mono (by decide)) (by rfl) T.g_Lnext_9d8d T.F_Lnext_9d8d.kp T.b_Lnext_9d8d rfl (pv 0) (da_cons de_int da_nil) (aCons_len aNil_len)) dm_nil))) (pg_tup rfl (pgs_cons (pg_name (i := 3) sc_Lrow_d7da.nd rfl (by first | exact Or.inl rfl | exact Or.inr rfl)) (pgs_cons (pg_name (i := 4) sc_Lrow_d7da.nd rfl (by first | exact Or.inl rfl | exact Or.inr rfl)) pgs_nil)))))
      (ds_cons (ds_lcO (i := 5) (by decide) (ps_setLc (i := 5) (own := [("k", 6)]) rfl sc_Lrow_d7da.nd rfl rfl (sw_true rfl rfl rfl (by decide +kernel)) (di_range1 (pi_range1 (by rfl) T.z_range (da_cons (de_var (pv 3)) da_nil))) (blkOk_by (N := N_Lrow_d7da) (sc := defScope s_Lrow_d7da) (by decide +kernel)) (fun _ _ _ _ _ => (dg_name (pg_name (i := 6) sc_Lrow_d7da.nd rfl (by first | exact Or.inl rfl | exact Or.inr rfl)))) (fun _ _ _ _ _ => dts_nil) (fun _ _ _ _ _ => (de_callK hob (ok_Lnext_9d8d T) hgd (hr.mono (by decide)) (by rfl) T.g_Lnext_9d8d T.F_Lnext_9d8d.kp T.b_Lnext_9d8d rfl (pv 0) (da_cons (de_bin od_add (de_ix id_ix (de_ofO (oe_lst (da_cons (de_var (pv 2)) (da_cons de_int (da_cons de_int da_nil))))) (de_var (pv 4)) (fun _ _ => rfl)) de_int) da_nil) (aCons_len aNil_len)))))
      (ds_cons (ds_if (dt_cmp (od_eq hu64) (de_var (pv 4)) de_int (nomark _)) (ds_one (ds_put (i := 5) (ps_asg (de_callK hob (ok_Lnext_9d8d T) hgd (hr.mono (by decide)) (by rfl) T.g_Lnext_9d8d T.F_Lnext_9d8d.kp T.b_Lnext_9d8d rfl (pv 0) (da_cons (de_bin od_add (de_var (pv 2)) de_int) da_nil) (aCons_len aNil_len)) (pg_sub (pv 5) (de_callK hob (ok_Lnext_9d8d T) hgd (hr.mono (by decide)) (by rfl) T.g_Lnext_9d8d T.F_Lnext_9d8d.kp T.b_Lnext_9d8d rfl (pv 0) (da_cons de_int da_nil) (aCons_len aNil_len)) set_list)))) ds_nil)
      (ds_one (ds_ret (de_ty cd_tuple (by rfl) T.z_tuple (by decide +kernel) (da_cons (de_var (pv 5)) da_nil)))))))
theorem ok_Lways_1baf (T : Fx K mg base) : GFn P w K mg base CX0 2 T.a_Lways_1baf T.d_Lways_1baf ["drawn", "stations", "most"] (DkSp K 2 f_Lways_1baf) :=
  ok_fnK (N := N_Lways_1baf) T.F_Lways_1baf sc_Lways_1baf rfl fun cdv A outer s H C hob hgd hr => by
    have hu64 := hr.units
    have hu65 := room65 hr
    have hu66 := room66 hr
    exact (ds_cons (ds_par2 (i := 3) (j := 4) (ps_par rfl sc_Lways_1baf.nd rfl rfl (by decide) rfl rfl (dm_d (de_callK hob (ok_Lnext_9d8d T) hgd (hr.mono (by decide)) (by rfl) T.g_Lnext_9d8d T.F_Lnext_9d8d.kp T.b_Lnext_9d8d rfl (pv 0) (da_cons de_int da_nil) (aCons_len aNil_len)) (dm_o (oe_lst da_nil) dm_nil)) (by rfl)))
      (ds_cons (ds_for PassesOwn.never rfl (di_range1 (pi_range1 (by rfl) T.z_range (da_cons (de_callK hob (ok_Lnext_9d8d T) hgd (hr.mono (by decide)) (by rfl) T.g_Lnext_9d8d T.F_Lnext_9d8d.kp T.b_Lnext_9d8d rfl (pv 0) (da_cons (de_bin od_add (de_var (pv 2)) de_int) da_nil) (aCons_len aNil_len)) da_nil))) (dg_name (pg_name (i := 5) sc_Lways_1baf.nd rfl (by first | exact Or.inl rfl | exact Or.inr rfl))) (ds_cons (ds_set (ps_set (i := 6) sc_Lways_1baf.nd rfl (by first | exact Or.inl rfl | exact Or.inr rfl) (de_callK hob (ok_Lnext_9d8d T) hgd (hr.mono (by decide)) (by rfl) T.g_Lnext_9d8d T.F_Lnext_9d8d.kp T.b_Lnext_9d8d rfl (pv 0) (da_cons (de_ix id_ix (de_ofO (oe_lst (da_cons (de_bin od_sub (de_var (pv 1)) de_int) (da_cons (de_bin od_sub (de_var (pv 1)) de_int) (da_cons de_int da_nil))))) (de_var (pv 3)) (fun _ _ => rfl)) da_nil) (aCons_len aNil_len))))
      (ds_cons (ds_set (ps_set (i := 7) sc_Lways_1baf.nd rfl (by first | exact Or.inl rfl | exact Or.inr rfl) (de_bin od_add (de_bin od_add (de_var (pv 6)) de_int) (de_callK hob (ok_Lnext_9d8d T) hgd (hr.mono (by decide)) (by rfl) T.g_Lnext_9d8d T.F_Lnext_9d8d.kp T.b_Lnext_9d8d rfl (pv 0) (da_cons (de_ix id_ix (de_ofO (oe_lst (da_cons (de_bin od_sub (de_bin od_sub (de_var (pv 1)) de_int) (de_var (pv 6))) (da_cons de_int (da_cons (de_bin od_sub (de_bin od_sub (de_var (pv 1)) de_int) (de_var (pv 6))) da_nil))))) (de_var (pv 3)) (fun _ _ => rfl)) da_nil) (aCons_len aNil_len)))))
      (ds_one (ds_app (i := 4) (ps_expr (pe_bm PySem.F.plainAttrs_list PySem.F.slot_list_append PySem.F.type_list_append mt_append (pv 4) (da_cons (de_tup (da_cons (de_var (pv 6)) (da_cons (de_var (pv 7)) da_nil))) da_nil))))))))
      (ds_one (ds_ret (de_ty cd_tuple (by rfl) T.z_tuple (by decide +kernel) (da_cons (de_var (pv 4)) da_nil))))))
theorem ok_Lwished_76c7 (T : Fx K mg base) : GFn P w K mg base CX0 2 T.a_Lwished_76c7 T.d_Lwished_76c7 ["drawn", "row", "most"] (DkSp K 2 f_Lwished_76c7) :=
  ok_fnK (N := N_Lwished_76c7) T.F_Lwished_76c7 sc_Lwished_76c7 rfl fun cdv A outer s H C hob hgd hr => by
    have hu64 := hr.units
    have hu65 := room65 hr
    have hu66 := room66 hr
    exact (ds_cons (ds_set (ps_set (i := 3) sc_Lwished_76c7.nd rfl (by first | exact Or.inl rfl | exact Or.inr rfl) (de_callK hob (ok_Lnext_9d8d T) hgd (hr.mono (by decide)) (by rfl) T.g_Lnext_9d8d T.F_Lnext_9d8d.kp T.b_Lnext_9d8d rfl (pv 0) (da_cons de_int da_nil) (aCons_len aNil_len))))
      (ds_cons (ds_if (dt_cmp (od_eq hu64) (de_var (pv 3)) de_int (nomark _)) (ds_one (ds_ret (de_ty cd_tuple (by rfl) T.z_tuple (by decide +kernel) (da_cons (de_ofO (oe_lc (by decide) (pe_lc (own := [("number", 4)]) rfl sc_Lwished_76c7.nd (di_seq (de_var (pv 1))) (blkOk_by (N := N_Lwished_76c7) (sc := defScope s_Lwished_76c7) (by decide +kernel)) (fun _ _ _ _ _ => (dg_name (pg_name (i := 4) sc_Lwished_76c7.nd rfl (by first | exact Or.inl rfl | exact Or.inr rfl)))) (fun _ _ _ _ _ => dts_nil) (fun _ _ _ _ _ => (de_bin od_mul (de_callK hob (ok_Lnext_9d8d T) hgd (hr.mono (by decide)) (by rfl) T.g_Lnext_9d8d T.F_Lnext_9d8d.kp T.b_Lnext_9d8d rfl (pv 0) (da_cons de_int da_nil) (aCons_len aNil_len)) (de_callK hob (ok_Lnext_9d8d T) hgd (hr.mono (by decide)) (by rfl) T.g_Lnext_9d8d T.F_Lnext_9d8d.kp T.b_Lnext_9d8d rfl (pv 0) (da_cons de_int da_nil) (aCons_len aNil_len))))))) da_nil)))) ds_nil)
      (ds_cons (ds_if (dt_cmp (od_eq hu64) (de_var (pv 3)) de_int (nomark _)) (ds_one (ds_ret (de_ty cd_tuple (by rfl) T.z_tuple (by decide +kernel) (da_cons (de_ofO (oe_lc (by decide) (pe_lc (own := [("number", 4)]) rfl sc_Lwished_76c7.nd (di_seq (de_var (pv 1))) (blkOk_by (N := N_Lwished_76c7) (sc := defScope s_Lwished_76c7) (by decide +kernel)) (fun _ _ _ _ _ => (dg_name (pg_name (i := 4) sc_Lwished_76c7.nd rfl (by first | exact Or.inl rfl | exact Or.inr rfl)))) (fun _ _ _ _ _ => dts_nil) (fun _ _ _ _ _ => (de_callK hob (ok_Lnext_9d8d T) hgd (hr.mono (by decide)) (by rfl) T.g_Lnext_9d8d T.F_Lnext_9d8d.kp T.b_Lnext_9d8d rfl (pv 0) (da_cons (de_bin od_add (de_var (pv 2)) de_int) da_nil) (aCons_len aNil_len)))))) da_nil)))) ds_nil)
      (ds_cons (ds_par2 (i := 5) (j := 6) (ps_par rfl sc_Lwished_76c7.nd rfl rfl (by decide) rfl rfl (dm_d (de_b (cd_sum rfl) (by rfl) T.z_sum (by decide +kernel) (da_cons (de_var (pv 1)) da_nil)) (dm_o (oe_lst da_nil) dm_nil)) (by rfl)))
      (ds_cons (ds_for PassesOwn.never rfl (di_range3 (by rfl) T.z_range (da_cons (de_bin od_sub (de_b cd_len (by rfl) T.z_len (by decide +kernel) (da_cons (de_var (pv 1)) da_nil)) de_int) (da_cons (de_un ud_neg de_int) (da_cons (de_un ud_neg de_int) da_nil)))) (dg_name (pg_name (i := 7) sc_Lwished_76c7.nd rfl (by first | exact Or.inl rfl | exact Or.inr rfl))) (ds_cons (ds_app (i := 6) (ps_expr (pe_bm PySem.F.plainAttrs_list PySem.F.slot_list_append PySem.F.type_list_append mt_append (pv 6) (da_cons (de_bin od_mul (de_callK hob (ok_Lnext_9d8d T) hgd (hr.mono (by decide)) (by rfl) T.g_Lnext_9d8d T.F_Lnext_9d8d.kp T.b_Lnext_9d8d rfl (pv 0) (da_cons (de_bin od_add (de_b (cd_min2 rfl) (by rfl) T.z_min (by decide +kernel) (da_cons (de_var (pv 5)) (da_cons (de_var (pv 2)) da_nil))) de_int) da_nil) (aCons_len aNil_len)) (de_ty cd_int (by rfl) T.z_int (by decide +kernel) (da_cons (de_cmp od_gt (de_callK hob (ok_Lnext_9d8d T) hgd (hr.mono (by decide)) (by rfl) T.g_Lnext_9d8d T.F_Lnext_9d8d.kp T.b_Lnext_9d8d rfl (pv 0) (da_cons de_int da_nil) (aCons_len aNil_len)) de_int (nomark _)) da_nil))) da_nil))))
      (ds_one (ds_set (ps_set (i := 5) sc_Lwished_76c7.nd rfl (by first | exact Or.inl rfl | exact Or.inr rfl) (de_bin od_sub (de_var (pv 5)) (de_at (i := 6) (pe_ix ix_list (pv 6) (de_un ud_neg de_int) (fun _ _ => rfl)))))))))
      (ds_one (ds_ret (de_ty cd_tuple (by rfl) T.z_tuple (by decide +kernel) (da_cons (de_rev2 (de_var (pv 6))) da_nil)))))))))
theorem ok_Lis_enough_66a9 (T : Fx K mg base) : GFn P w K mg base CX0 2 T.a_Lis_enough_66a9 T.d_Lis_enough_66a9 ["row", "walkers", "want"] (FnSp K 3 f_Lis_enough_66a9) :=
  ok_fn (N := N_Lis_enough_66a9) T.F_Lis_enough_66a9 sc_Lis_enough_66a9 fun cdv A outer s H C hob hgd hr => by
    have hu64 := hr.units
    have hu65 := room65 hr
    have hu66 := room66 hr
    exact (ds_cons (ds_par2 (i := 3) (j := 4) (ps_par rfl sc_Lis_enough_66a9.nd rfl rfl (by decide) rfl rfl (dm_d (de_call hob (ok_Lmoved_820d T) rfl hgd (hr.mono (by decide)) (by rfl) T.g_Lmoved_820d T.F_Lmoved_820d.kp T.b_Lmoved_820d rfl (da_cons (de_var (pv 0)) (da_cons (de_var (pv 1)) da_nil)) (aCons_len (aCons_len aNil_len))) (dm_d de_int dm_nil)) (by rfl)))
      (ds_cons (ds_for PassesOwn.never rfl (di_range3 (by rfl) T.z_range (da_cons (de_bin od_sub (de_b cd_len (by rfl) T.z_len (by decide +kernel) (da_cons (de_var (pv 0)) da_nil)) de_int) (da_cons (de_un ud_neg de_int) (da_cons (de_un ud_neg de_int) da_nil)))) (dg_name (pg_name (i := 5) sc_Lis_enough_66a9.nd rfl (by first | exact Or.inl rfl | exact Or.inr rfl))) (ds_cons (ds_set (ps_set (i := 4) sc_Lis_enough_66a9.nd rfl (by first | exact Or.inl rfl | exact Or.inr rfl) (de_b (cd_max2 rfl) (by rfl) T.z_max (by decide +kernel) (da_cons de_int (da_cons (de_bin od_add (de_bin od_sub (de_ix id_ix (de_var (pv 2)) (de_var (pv 5)) (fun _ _ => rfl)) (de_ix id_ix (de_var (pv 0)) (de_var (pv 5)) (fun _ _ => rfl))) (de_var (pv 4))) da_nil)))))
      (ds_one (ds_if (dt_cmp od_gt (de_var (pv 4)) (de_ix id_ix (de_bin od_add (de_ofO (oe_lst (da_cons de_int da_nil))) (de_var (pv 3))) (de_var (pv 5)) (fun _ _ => rfl)) (nomark _)) (ds_one (ds_ret de_bl)) ds_nil))))
      (ds_one (ds_ret de_bl))))
theorem ok_Ldue_7272 (T : Fx K mg base) : GFn P w K mg base CX0 2 T.a_Ldue_7272 T.d_Ldue_7272 ["row", "walkers", "want", "station"] (FnSp K 4 f_Ldue_7272) :=
  ok_fn (N := N_Ldue_7272) T.F_Ldue_7272 sc_Ldue_7272 fun cdv A outer s H C hob hgd hr => by
    have hu64 := hr.units
    have hu65 := room65 hr
    have hu66 := room66 hr
    exact (ds_cons (ds_for PassesOwn.never rfl (di_range1 (pi_range1 (by rfl) T.z_range (da_cons (de_bin od_add (de_bin od_add (de_ix id_ix (de_var (pv 2)) (de_var (pv 3)) (fun _ _ => rfl)) (de_b cd_len (by rfl) T.z_len (by decide +kernel) (da_cons (de_var (pv 1)) da_nil))) de_int) da_nil))) (dg_name (pg_name (i := 4) sc_Ldue_7272.nd rfl (by first | exact Or.inl rfl | exact Or.inr rfl))) (ds_one (ds_if (dt_tru (de_call hob (ok_Lhas_8f57 T) rfl hgd (hr.mono (by decide)) (by rfl) T.g_Lhas_8f57 T.F_Lhas_8f57.kp T.b_Lhas_8f57 rfl (da_cons (de_call hob (ok_Lrows_6e9e T) rfl hgd (hr.mono (by decide)) (by rfl) T.g_Lrows_6e9e T.F_Lrows_6e9e.kp T.b_Lrows_6e9e rfl (da_cons (de_call hob (ok_Lwith_d6e3 T) rfl hgd (hr.mono (by decide)) (by rfl) T.g_Lwith_d6e3 T.F_Lwith_d6e3.kp T.b_Lwith_d6e3 rfl (da_cons (de_var (pv 0)) (da_cons (de_var (pv 3)) (da_cons (de_var (pv 4)) da_nil))) (aCons_len (aCons_len (aCons_len aNil_len)))) (da_cons (de_var (pv 1)) da_nil)) (aCons_len (aCons_len aNil_len))) (da_cons (de_var (pv 2)) da_nil)) (aCons_len (aCons_len aNil_len)))) (ds_one (ds_ret (de_var (pv 4)))) ds_nil)))
      (ds_one (ds_ret de_non)))
theorem ok_carried_3812 (T : Fx K mg base) : GFn P w K mg base CX0 3 T.a_carried_3812 T.d_carried_3812 ["row", "walkers"] (FnSp K 2 f_carried_3812) :=
  ok_fn (N := N_carried_3812) T.F_carried_3812 sc_carried_3812 fun cdv A outer s H C hob hgd hr => by
    have hu64 := hr.units
    have hu65 := room65 hr
    have hu66 := room66 hr
    exact (ds_cons (ds_set (ps_set (i := 2) sc_carried_3812.nd rfl (by first | exact Or.inl rfl | exact Or.inr rfl) (de_call hob (ok_rule_plan_2c12 T) rfl hgd (hr.mono (by decide)) (by rfl) T.g_rule_plan_2c12 T.F_rule_plan_2c12.kp T.b_rule_plan_2c12 rfl (da_cons (de_var (pv 0)) (da_cons (de_var (pv 1)) da_nil)) (aCons_len (aCons_len aNil_len)))))
      (ds_one (ds_ret (de_ty cd_tuple (by rfl) T.z_tuple (by decide +kernel) (da_cons (de_ofO (oe_lc (by decide) (pe_lc (own := [("stage", 3)]) rfl sc_carried_3812.nd (di_range1 (pi_range1 (by rfl) T.z_range (da_cons (de_bin od_sub (de_b cd_len (by rfl) T.z_len (by decide +kernel) (da_cons (de_var (pv 0)) da_nil)) de_int) da_nil))) (blkOk_by (N := N_carried_3812) (sc := defScope s_carried_3812) (by decide +kernel)) (fun _ _ _ _ _ => (dg_name (pg_name (i := 3) sc_carried_3812.nd rfl (by first | exact Or.inl rfl | exact Or.inr rfl)))) (fun _ _ _ _ _ => dts_nil) (fun _ _ _ _ _ => (de_call hob (ok_running_counts_a84c T) rfl hgd (hr.mono (by decide)) (by rfl) T.g_running_counts_a84c T.F_running_counts_a84c.kp T.b_running_counts_a84c rfl (da_cons (de_var (pv 2)) (da_cons (de_var (pv 3)) da_nil)) (aCons_len (aCons_len aNil_len))))))) da_nil)))))
theorem ok_Lis_least_f42e (T : Fx K mg base) : GFn P w K mg base CX0 3 T.a_Lis_least_f42e T.d_Lis_least_f42e ["row", "walkers", "want", "station", "found"] (FnSp K 5 f_Lis_least_f42e) :=
  ok_fn (N := N_Lis_least_f42e) T.F_Lis_least_f42e sc_Lis_least_f42e fun cdv A outer s H C hob hgd hr => by
    have hu64 := hr.units
    have hu65 := room65 hr
    have hu66 := room66 hr
    exact (ds_cons (ds_if (dt_cmp od_is (de_var (pv 4)) de_non (nomark _)) (ds_cons (ds_set (ps_set (i := 5) sc_Lis_least_f42e.nd rfl (by first | exact Or.inl rfl | exact Or.inr rfl) (de_bin od_add (de_ix id_ix (de_var (pv 2)) (de_var (pv 3)) (fun _ _ => rfl)) (de_b cd_len (by rfl) T.z_len (by decide +kernel) (da_cons (de_var (pv 1)) da_nil)))))
      (ds_one (ds_ret (de_not (de_call hob (ok_Lis_enough_66a9 T) rfl hgd (hr.mono (by decide)) (by rfl) T.g_Lis_enough_66a9 T.F_Lis_enough_66a9.kp T.b_Lis_enough_66a9 rfl (da_cons (de_call hob (ok_Lwith_d6e3 T) rfl hgd (hr.mono (by decide)) (by rfl) T.g_Lwith_d6e3 T.F_Lwith_d6e3.kp T.b_Lwith_d6e3 rfl (da_cons (de_var (pv 0)) (da_cons (de_var (pv 3)) (da_cons (de_var (pv 5)) da_nil))) (aCons_len (aCons_len (aCons_len aNil_len)))) (da_cons (de_var (pv 1)) (da_cons (de_var (pv 2)) da_nil))) (aCons_len (aCons_len (aCons_len aNil_len)))))))) ds_nil)
      (ds_cons (ds_if (dw_pt (dw_or (dt_not (dt_tru (de_isi (t := "int") hob (by rfl) T.z_isinstance (by rfl) T.z_int (by decide +kernel) kit_int (de_var (pv 4))))) (dw_or (dt_tru (de_isi (t := "bool") hob (by rfl) T.z_isinstance (by rfl) T.z_bool (by decide +kernel) kit_bool (de_var (pv 4)))) (dw_or1 (dt_cmp od_lt (de_var (pv 4)) de_int (nomark _)))))) (ds_one (ds_ret de_bl)) ds_nil)
      (ds_cons (ds_if (dt_not (dt_tru (de_call hob (ok_Lis_enough_66a9 T) rfl hgd (hr.mono (by decide)) (by rfl) T.g_Lis_enough_66a9 T.F_Lis_enough_66a9.kp T.b_Lis_enough_66a9 rfl (da_cons (de_call hob (ok_Lwith_d6e3 T) rfl hgd (hr.mono (by decide)) (by rfl) T.g_Lwith_d6e3 T.F_Lwith_d6e3.kp T.b_Lwith_d6e3 rfl (da_cons (de_var (pv 0)) (da_cons (de_var (pv 3)) (da_cons (de_var (pv 4)) da_nil))) (aCons_len (aCons_len (aCons_len aNil_len)))) (da_cons (de_var (pv 1)) (da_cons (de_var (pv 2)) da_nil))) (aCons_len (aCons_len (aCons_len aNil_len)))))) (ds_one (ds_ret de_bl)) ds_nil)
      (ds_one (ds_ret (de_or (de_cmp (od_eq hu64) (de_var (pv 4)) de_int (nomark _)) (de_one (de_not (de_call hob (ok_Lis_enough_66a9 T) rfl hgd (hr.mono (by decide)) (by rfl) T.g_Lis_enough_66a9 T.F_Lis_enough_66a9.kp T.b_Lis_enough_66a9 rfl (da_cons (de_call hob (ok_Lwith_d6e3 T) rfl hgd (hr.mono (by decide)) (by rfl) T.g_Lwith_d6e3 T.F_Lwith_d6e3.kp T.b_Lwith_d6e3 rfl (da_cons (de_var (pv 0)) (da_cons (de_var (pv 3)) (da_cons (de_bin od_sub (de_var (pv 4)) de_int) da_nil))) (aCons_len (aCons_len (aCons_len aNil_len)))) (da_cons (de_var (pv 1)) (da_cons (de_var (pv 2)) da_nil))) (aCons_len (aCons_len (aCons_len aNil_len))))))))))))
theorem ok_can_be_met_73d6 (T : Fx K mg base) : GFn P w K mg base CX0 4 T.a_can_be_met_73d6 T.d_can_be_met_73d6 ["row", "walkers", "wants"] (FnSp K 3 f_can_be_met_73d6) :=
  ok_fn (N := N_can_be_met_73d6) T.F_can_be_met_73d6 sc_can_be_met_73d6 fun cdv A outer s H C hob hgd hr => by
    have hu64 := hr.units
    have hu65 := room65 hr
    have hu66 := room66 hr
    exact (ds_cons (ds_set (ps_set (i := 3) sc_can_be_met_73d6.nd rfl (by first | exact Or.inl rfl | exact Or.inr rfl) (de_bin od_add (de_tup (da_cons de_int da_nil)) (de_ty cd_tuple (by rfl) T.z_tuple (by decide +kernel) (da_cons (de_ofO (oe_lc (by decide) (pe_lc (own := [("counts", 4)]) rfl sc_can_be_met_73d6.nd (di_seq (de_call hob (ok_carried_3812 T) rfl hgd (hr.mono (by decide)) (by rfl) T.g_carried_3812 T.F_carried_3812.kp T.b_carried_3812 rfl (da_cons (de_var (pv 0)) (da_cons (de_var (pv 1)) da_nil)) (aCons_len (aCons_len aNil_len)))) (blkOk_by (N := N_can_be_met_73d6) (sc := defScope s_can_be_met_73d6) (by decide +kernel)) (fun _ _ _ _ _ => (dg_name (pg_name (i := 4) sc_can_be_met_73d6.nd rfl (by first | exact Or.inl rfl | exact Or.inr rfl)))) (fun _ _ _ _ _ => dts_nil) (fun _ _ _ _ _ => (de_ix id_ix (de_var (pv 4)) (de_un ud_neg de_int) (fun _ _ => rfl)))))) da_nil)))))
      (ds_one (ds_ret (de_b (cd_all rfl) (by rfl) T.z_all (by decide +kernel) (da_cons (de_ofO (oe_lc (by decide) (pe_lc (own := [("need", 5), ("number", 6)]) rfl sc_can_be_met_73d6.nd (di_zip (by rfl) T.z_zip (da_cons (de_call hob (ok_needs_of_08a9 T) rfl hgd (hr.mono (by decide)) (by rfl) T.g_needs_of_08a9 T.F_needs_of_08a9.kp T.b_needs_of_08a9 rfl (da_cons (de_var (pv 0)) (da_cons (de_var (pv 2)) da_nil)) (aCons_len (aCons_len aNil_len))) (da_cons (de_var (pv 3)) da_nil))) (blkOk_by (N := N_can_be_met_73d6) (sc := defScope s_can_be_met_73d6) (by decide +kernel)) (fun _ _ _ _ _ => (dg_tup rfl (dgs_cons (dg_name (pg_name (i := 5) sc_can_be_met_73d6.nd rfl (by first | exact Or.inl rfl | exact Or.inr rfl))) (dgs_cons (dg_name (pg_name (i := 6) sc_can_be_met_73d6.nd rfl (by first | exact Or.inl rfl | exact Or.inr rfl))) dgs_nil)))) (fun _ _ _ _ _ => dts_nil) (fun _ _ _ _ _ => (de_cmp od_le (de_var (pv 5)) (de_var (pv 6)) (nomark _)))))) da_nil)))))
theorem ok_is_enough_more_5750 (T : Fx K mg base) : GFn P w K mg base CX0 5 T.a_is_enough_more_5750 T.d_is_enough_more_5750 ["row", "walkers", "wants", "station", "more"] (FnSp K 5 f_is_enough_more_5750) :=
  ok_fn (N := N_is_enough_more_5750) T.F_is_enough_more_5750 sc_is_enough_more_5750 fun cdv A outer s H C hob hgd hr => by
    have hu64 := hr.units
    have hu65 := room65 hr
    have hu66 := room66 hr
    exact (ds_one (ds_ret (de_call hob (ok_can_be_met_73d6 T) rfl hgd (hr.mono (by decide)) (by rfl) T.g_can_be_met_73d6 T.F_can_be_met_73d6.kp T.b_can_be_met_73d6 rfl (da_cons (de_call hob (ok_with_number_21dd T) rfl hgd (hr.mono (by decide)) (by rfl) T.g_with_number_21dd T.F_with_number_21dd.kp T.b_with_number_21dd rfl (da_cons (de_var (pv 0)) (da_cons (de_var (pv 3)) (da_cons (de_bin od_add (de_ix id_ix (de_var (pv 0)) (de_var (pv 3)) (fun _ _ => rfl)) (de_var (pv 4))) da_nil))) (aCons_len (aCons_len (aCons_len aNil_len)))) (da_cons (de_var (pv 1)) (da_cons (de_var (pv 2)) da_nil))) (aCons_len (aCons_len (aCons_len aNil_len))))))
theorem ok_fewest_chairs_2e3c (T : Fx K mg base) : GFn P w K mg base CX0 6 T.a_fewest_chairs_2e3c T.d_fewest_chairs_2e3c ["row", "walkers", "wants", "station"] (FnSp K 4 f_fewest_chairs_2e3c) :=
  ok_fn (N := N_fewest_chairs_2e3c) T.F_fewest_chairs_2e3c sc_fewest_chairs_2e3c fun cdv A outer s H C hob hgd hr => by
    have hu64 := hr.units
    have hu65 := room65 hr
    have hu66 := room66 hr
    exact (ds_cons (ds_set (ps_set (i := 4) sc_fewest_chairs_2e3c.nd rfl (by first | exact Or.inl rfl | exact Or.inr rfl) (de_b (cd_sum rfl) (by rfl) T.z_sum (by decide +kernel) (da_cons (de_var (pv 2)) da_nil))))
      (ds_cons (ds_if (dt_not (dt_tru (de_call hob (ok_is_enough_more_5750 T) rfl hgd (hr.mono (by decide)) (by rfl) T.g_is_enough_more_5750 T.F_is_enough_more_5750.kp T.b_is_enough_more_5750 rfl (da_cons (de_var (pv 0)) (da_cons (de_var (pv 1)) (da_cons (de_var (pv 2)) (da_cons (de_var (pv 3)) (da_cons (de_var (pv 4)) da_nil))))) (aCons_len (aCons_len (aCons_len (aCons_len (aCons_len aNil_len)))))))) (ds_one (ds_ret de_non)) ds_nil)
      (ds_cons (ds_set (ps_set (i := 5) sc_fewest_chairs_2e3c.nd rfl (by first | exact Or.inl rfl | exact Or.inr rfl) de_int))
      (ds_cons (ds_while (n := 1000) PassesOwn.never (dt_cmp od_lt (de_var (pv 5)) (de_var (pv 4)) (nomark _)) (ds_cons (ds_set (ps_set (i := 6) sc_fewest_chairs_2e3c.nd rfl (by first | exact Or.inl rfl | exact Or.inr rfl) (de_bin od_fdiv (de_bin od_add (de_var (pv 5)) (de_var (pv 4))) de_int)))
      (ds_one (ds_if (dt_tru (de_call hob (ok_is_enough_more_5750 T) rfl hgd (hr.mono (by decide)) (by rfl) T.g_is_enough_more_5750 T.F_is_enough_more_5750.kp T.b_is_enough_more_5750 rfl (da_cons (de_var (pv 0)) (da_cons (de_var (pv 1)) (da_cons (de_var (pv 2)) (da_cons (de_var (pv 3)) (da_cons (de_var (pv 6)) da_nil))))) (aCons_len (aCons_len (aCons_len (aCons_len (aCons_len aNil_len))))))) (ds_one (ds_set (ps_set (i := 4) sc_fewest_chairs_2e3c.nd rfl (by first | exact Or.inl rfl | exact Or.inr rfl) (de_var (pv 6))))) (ds_one (ds_set (ps_set (i := 5) sc_fewest_chairs_2e3c.nd rfl (by first | exact Or.inl rfl | exact Or.inr rfl) (de_bin od_add (de_var (pv 6)) de_int))))))))
      (ds_one (ds_ret (de_var (pv 5))))))))
set_option maxHeartbeats 0 in
/-- the law's def keeps its promise, if its text's worth is True for every script -/
theorem ok_law (T : Fx K mg base) (hlaw : ∀ ns : List Int, ns.length ≤ 63 → ∃ s', b_law ⟨(List.replicate 10 none).set 1 (some .dk), deckOf ns, 0⟩ = some (.rt (.bool true) s')) : GFn P w K mg base CX0 7 T.a_law T.d_law ["script"] (spLaw K) :=
  g_def (N := N_law) T.F_law sc_law (fun vs H Q E h => by obtain ⟨a, ns, rfl, _⟩ := h; rfl) fun cdv A outer s H vs Q E hgd hr h => by
    obtain ⟨a, ns, rfl, hS, hl, q⟩ := h
    have hu64 := hr.units
    have hu65 := room65 hr
    have hu66 := room66 hr
    refine ⟨_, PSs.nox (pss_cons (ps_set (i := 1) sc_law.nd rfl (by first | exact Or.inl rfl | exact Or.inr rfl) (ge_call (E := E0) (ok_Ldraws T) hgd (hr.mono (by decide)) (by rfl) T.g_Ldraws T.F_Ldraws.kp T.b_Ldraws .nil pass0 (pa_cons (pv 0) pa_nil)))
      (pss_ex (t := fun (C : {C : Ct // C.ob = false}) => tS K C.1 (fun _ _ _ _ => False) b_law) (fun C => (fun (hob : C.1.ob = false) => ((ds_cons (ds_for PassesOwn.never rfl (di_range1 (pi_range1 (by rfl) T.z_range (da_cons de_int da_nil))) (dg_name (pg_name (i := 2) sc_law.nd rfl (by first | exact Or.inl rfl | exact Or.inr rfl))) (ds_cons (ds_set (ps_set (i := 3) sc_law.nd rfl (by first | exact Or.inl rfl | exact Or.inr rfl) (de_callK hob (ok_Lrow_d7da T) hgd (hr.mono (by decide)) (by rfl) T.g_Lrow_d7da T.F_Lrow_d7da.kp T.b_Lrow_d7da rfl (pv 1) (da_cons de_int (da_cons de_int da_nil)) (aCons_len (aCons_len aNil_len)))))
      (ds_cons (ds_par2 (i := 4) (j := 5) (ps_par rfl sc_law.nd rfl rfl (by decide) rfl rfl (dm_d (de_callK hob (ok_Lways_1baf T) hgd (hr.mono (by decide)) (by rfl) T.g_Lways_1baf T.F_Lways_1baf.kp T.b_Lways_1baf rfl (pv 1) (da_cons (de_b cd_len (by rfl) T.z_len (by decide +kernel) (da_cons (de_var (pv 3)) da_nil)) (da_cons de_int da_nil)) (aCons_len (aCons_len aNil_len))) (dm_d (de_callK hob (ok_Lwished_76c7 T) hgd (hr.mono (by decide)) (by rfl) T.g_Lwished_76c7 T.F_Lwished_76c7.kp T.b_Lwished_76c7 rfl (pv 1) (da_cons (de_var (pv 3)) (da_cons de_int da_nil)) (aCons_len (aCons_len aNil_len))) dm_nil)) (by rfl)))
      (ds_one (ds_for PassesOwn.never rfl (di_range1 (pi_range1 (by rfl) T.z_range (da_cons (de_b cd_len (by rfl) T.z_len (by decide +kernel) (da_cons (de_var (pv 3)) da_nil)) da_nil))) (dg_name (pg_name (i := 6) sc_law.nd rfl (by first | exact Or.inl rfl | exact Or.inr rfl))) (ds_cons (ds_set (ps_set (i := 7) sc_law.nd rfl (by first | exact Or.inl rfl | exact Or.inr rfl) (de_call hob (ok_Ldue_7272 T) rfl hgd (hr.mono (by decide)) (by rfl) T.g_Ldue_7272 T.F_Ldue_7272.kp T.b_Ldue_7272 rfl (da_cons (de_var (pv 3)) (da_cons (de_var (pv 4)) (da_cons (de_var (pv 5)) (da_cons (de_var (pv 6)) da_nil)))) (aCons_len (aCons_len (aCons_len (aCons_len aNil_len)))))))
      (ds_one (ds_if (dt_cmp (od_ne hu64) (de_b (cd_repr T.sys hgd hu66) (by rfl) T.z_repr (by decide +kernel) (da_cons (de_call hob (ok_fewest_chairs_2e3c T) rfl hgd (hr.mono (by decide)) (by rfl) T.g_fewest_chairs_2e3c T.F_fewest_chairs_2e3c.kp T.b_fewest_chairs_2e3c rfl (da_cons (de_var (pv 3)) (da_cons (de_var (pv 4)) (da_cons (de_var (pv 5)) (da_cons (de_var (pv 6)) da_nil)))) (aCons_len (aCons_len (aCons_len (aCons_len aNil_len))))) da_nil)) (de_b (cd_repr T.sys hgd hu66) (by rfl) T.z_repr (by decide +kernel) (da_cons (de_var (pv 7)) da_nil)) (nomark _)) (ds_one (ds_ret de_bl)) ds_nil))))))))
      (ds_cons (ds_for PassesOwn.never rfl (di_range1 (pi_range1 (by rfl) T.z_range (da_cons de_int da_nil))) (dg_name (pg_name (i := 2) sc_law.nd rfl (by first | exact Or.inl rfl | exact Or.inr rfl))) (ds_cons (ds_set (ps_set (i := 3) sc_law.nd rfl (by first | exact Or.inl rfl | exact Or.inr rfl) (de_callK hob (ok_Lrow_d7da T) hgd (hr.mono (by decide)) (by rfl) T.g_Lrow_d7da T.F_Lrow_d7da.kp T.b_Lrow_d7da rfl (pv 1) (da_cons de_int (da_cons de_int da_nil)) (aCons_len (aCons_len aNil_len)))))
      (ds_cons (ds_par2 (i := 4) (j := 5) (ps_par rfl sc_law.nd rfl rfl (by decide) rfl rfl (dm_d (de_callK hob (ok_Lways_1baf T) hgd (hr.mono (by decide)) (by rfl) T.g_Lways_1baf T.F_Lways_1baf.kp T.b_Lways_1baf rfl (pv 1) (da_cons (de_b cd_len (by rfl) T.z_len (by decide +kernel) (da_cons (de_var (pv 3)) da_nil)) (da_cons de_int da_nil)) (aCons_len (aCons_len aNil_len))) (dm_d (de_callK hob (ok_Lwished_76c7 T) hgd (hr.mono (by decide)) (by rfl) T.g_Lwished_76c7 T.F_Lwished_76c7.kp T.b_Lwished_76c7 rfl (pv 1) (da_cons (de_var (pv 3)) (da_cons (de_bin od_sub (de_ix id_ix (de_ofO (oe_lst (da_cons de_int (da_cons de_int da_nil)))) (de_callK hob (ok_Lnext_9d8d T) hgd (hr.mono (by decide)) (by rfl) T.g_Lnext_9d8d T.F_Lnext_9d8d.kp T.b_Lnext_9d8d rfl (pv 1) (da_cons de_int da_nil) (aCons_len aNil_len)) (fun _ _ => rfl)) de_int) da_nil)) (aCons_len (aCons_len aNil_len))) dm_nil)) (by rfl)))
      (ds_cons (ds_set (ps_set (i := 8) sc_law.nd rfl (by first | exact Or.inl rfl | exact Or.inr rfl) (de_b (cd_repr T.sys hgd hu66) (by rfl) T.z_repr (by decide +kernel) (da_cons (de_ofO (oe_lst (da_cons (de_var (pv 3)) (da_cons (de_var (pv 4)) (da_cons (de_var (pv 5)) da_nil))))) da_nil))))
      (ds_cons (ds_for PassesOwn.never rfl (di_range1 (pi_range1 (by rfl) T.z_range (da_cons (de_b cd_len (by rfl) T.z_len (by decide +kernel) (da_cons (de_var (pv 3)) da_nil)) da_nil))) (dg_name (pg_name (i := 6) sc_law.nd rfl (by first | exact Or.inl rfl | exact Or.inr rfl))) (ds_cons (ds_set (ps_set (i := 9) sc_law.nd rfl (by first | exact Or.inl rfl | exact Or.inr rfl) (de_call hob (ok_fewest_chairs_2e3c T) rfl hgd (hr.mono (by decide)) (by rfl) T.g_fewest_chairs_2e3c T.F_fewest_chairs_2e3c.kp T.b_fewest_chairs_2e3c rfl (da_cons (de_var (pv 3)) (da_cons (de_var (pv 4)) (da_cons (de_var (pv 5)) (da_cons (de_var (pv 6)) da_nil)))) (aCons_len (aCons_len (aCons_len (aCons_len aNil_len)))))))
      (ds_cons (ds_if (dt_not (dt_tru (de_call hob (ok_Lis_least_f42e T) rfl hgd (hr.mono (by decide)) (by rfl) T.g_Lis_least_f42e T.F_Lis_least_f42e.kp T.b_Lis_least_f42e rfl (da_cons (de_var (pv 3)) (da_cons (de_var (pv 4)) (da_cons (de_var (pv 5)) (da_cons (de_var (pv 6)) (da_cons (de_var (pv 9)) da_nil))))) (aCons_len (aCons_len (aCons_len (aCons_len (aCons_len aNil_len)))))))) (ds_one (ds_ret de_bl)) ds_nil)
      (ds_one (ds_if (dt_cmp (od_ne hu64) (de_b (cd_repr T.sys hgd hu66) (by rfl) T.z_repr (by decide +kernel) (da_cons (de_call hob (ok_fewest_chairs_2e3c T) rfl hgd (hr.mono (by decide)) (by rfl) T.g_fewest_chairs_2e3c T.F_fewest_chairs_2e3c.kp T.b_fewest_chairs_2e3c rfl (da_cons (de_var (pv 3)) (da_cons (de_var (pv 4)) (da_cons (de_var (pv 5)) (da_cons (de_var (pv 6)) da_nil)))) (aCons_len (aCons_len (aCons_len (aCons_len aNil_len))))) da_nil)) (de_b (cd_repr T.sys hgd hu66) (by rfl) T.z_repr (by decide +kernel) (da_cons (de_var (pv 9)) da_nil)) (nomark _)) (ds_one (ds_ret de_bl)) ds_nil)))))
      (ds_one (ds_if (dt_cmp (od_ne hu64) (de_b (cd_repr T.sys hgd hu66) (by rfl) T.z_repr (by decide +kernel) (da_cons (de_ofO (oe_lst (da_cons (de_var (pv 3)) (da_cons (de_var (pv 4)) (da_cons (de_var (pv 5)) da_nil))))) da_nil)) (de_var (pv 8)) (nomark _)) (ds_one (ds_ret de_bl)) ds_nil)))))))
      (ds_one (ds_ret de_bl)))) : PSs _ _ (tS K C.1 (fun _ _ _ _ => False) b_law))) C.2))), ?_⟩
    refine ⟨.ref a, rfl, a, ns, rfl, hS, hl, fun F0 dp dc H1 nn sm dk => ?_⟩
    obtain ⟨s', hb⟩ := hlaw ns hl
    exact ⟨⟨_, rfl⟩, _, _, _, w_law (n := 10) (i := 1) rfl rfl nn sm dk, hb, fun v σ' F' H' _ _ rv => by cases rv; exact q H'⟩
end
set_option maxHeartbeats 0 in
theorem all_mk {l : PySem.W.OpenLaw} {w : World} {K : PySem.W.Frag} {h : Heap} {mg : Str → Option Value} {fa f0 f1 f2 f3 f4 f5 f6 f7 f8 f9 f10 f11 f12 f13 f14 f15 f16 f17 f18 f19 f20 f21 : Addr} (X : K.In h) (G : h.Ns mainGlobals mg) (hfa : mg "law" = some (.ref fa))
    (hlaw : ∀ ns : List Int, ns.length ≤ 63 → ∃ s', b_law ⟨(List.replicate 10 none).set 1 (some .dk), deckOf ns, 0⟩ = some (.rt (.bool true) s'))
    {od0 an0 od1 an1 od2 an2 od3 an3 od4 an4 od5 an5 od6 an6 od7 an7 od8 an8 od9 an9 od10 an10 od11 an11 od12 an12 od13 an13 od14 an14 od15 an15 od16 an16 od17 an17 od18 an18 od19 an19 od20 an20 od21 an21 : Option Addr} {sl0 sl1 sl2 sl3 sl4 sl5 sl6 sl7 sl8 sl9 sl10 sl11 sl12 sl13 sl14 sl15 sl16 sl17 sl18 sl19 sl20 sl21 : Array (Option Value)} {oc0 kV0 dc0 pm0 cd0 ct0 oc1 kV1 dc1 pm1 cd1 ct1 oc2 kV2 dc2 pm2 cd2 ct2 oc3 kV3 dc3 pm3 cd3 ct3 oc4 kV4 dc4 pm4 cd4 ct4 oc5 kV5 dc5 pm5 cd5 ct5 oc6 kV6 dc6 pm6 cd6 ct6 oc7 kV7 dc7 pm7 cd7 ct7 oc8 kV8 dc8 pm8 cd8 ct8 oc9 kV9 dc9 pm9 cd9 ct9 oc10 kV10 dc10 pm10 cd10 ct10 oc11 kV11 dc11 pm11 cd11 ct11 oc12 kV12 dc12 pm12 cd12 ct12 oc13 kV13 dc13 pm13 cd13 ct13 oc14 kV14 dc14 pm14 cd14 ct14 oc15 kV15 dc15 pm15 cd15 ct15 oc16 kV16 dc16 pm16 cd16 ct16 oc17 kV17 dc17 pm17 cd17 ct17 oc18 kV18 dc18 pm18 cd18 ct18 oc19 kV19 dc19 pm19 cd19 ct19 oc20 kV20 dc20 pm20 cd20 ct20 oc21 kV21 dc21 pm21 cd21 ct21 : Value}
    (a0 : PySem.W.nsIn K mainGlobals "limited_plan" = some (some (.ref f0))) (l0 : K.lookup f0 = some ⟨oc0, od0, .func (PySem.W.fnOf "limited_plan" "limited_plan" (defArgs s_limited_plan_b7b8) (defBody s_limited_plan_b7b8) (defScope s_limited_plan_b7b8) .none kV0 dc0 pm0 an0 cd0 ct0), sl0⟩) (c0 : PySem.W.codeIn K cd0 "limited_plan" = true) (k0 : PySem.W.keepIn K (.ref f0) = true)
    (a1 : PySem.W.nsIn K mainGlobals "running_counts" = some (some (.ref f1))) (l1 : K.lookup f1 = some ⟨oc1, od1, .func (PySem.W.fnOf "running_counts" "running_counts" (defArgs s_running_counts_a84c) (defBody s_running_counts_a84c) (defScope s_running_counts_a84c) .none kV1 dc1 pm1 an1 cd1 ct1), sl1⟩) (c1 : PySem.W.codeIn K cd1 "running_counts" = true) (k1 : PySem.W.keepIn K (.ref f1) = true)
    (a2 : PySem.W.nsIn K mainGlobals "with_number" = some (some (.ref f2))) (l2 : K.lookup f2 = some ⟨oc2, od2, .func (PySem.W.fnOf "with_number" "with_number" (defArgs s_with_number_21dd) (defBody s_with_number_21dd) (defScope s_with_number_21dd) .none kV2 dc2 pm2 an2 cd2 ct2), sl2⟩) (c2 : PySem.W.codeIn K cd2 "with_number" = true) (k2 : PySem.W.keepIn K (.ref f2) = true)
    (a3 : PySem.W.nsIn K mainGlobals "needs_of" = some (some (.ref f3))) (l3 : K.lookup f3 = some ⟨oc3, od3, .func (PySem.W.fnOf "needs_of" "needs_of" (defArgs s_needs_of_08a9) (defBody s_needs_of_08a9) (defScope s_needs_of_08a9) .none kV3 dc3 pm3 an3 cd3 ct3), sl3⟩) (c3 : PySem.W.codeIn K cd3 "needs_of" = true) (k3 : PySem.W.keepIn K (.ref f3) = true)
    (a4 : PySem.W.nsIn K mainGlobals "_law_draws" = some (some (.ref f4))) (l4 : K.lookup f4 = some ⟨oc4, od4, .func (PySem.W.fnOf "_law_draws" "_law_draws" (defArgs s_Ldraws) (defBody s_Ldraws) (defScope s_Ldraws) .none kV4 dc4 pm4 an4 cd4 ct4), sl4⟩) (c4 : PySem.W.codeIn K cd4 "_law_draws" = true) (k4 : PySem.W.keepIn K (.ref f4) = true)
    (a5 : PySem.W.nsIn K mainGlobals "_law_next" = some (some (.ref f5))) (l5 : K.lookup f5 = some ⟨oc5, od5, .func (PySem.W.fnOf "_law_next" "_law_next" (defArgs s_Lnext_9d8d) (defBody s_Lnext_9d8d) (defScope s_Lnext_9d8d) .none kV5 dc5 pm5 an5 cd5 ct5), sl5⟩) (c5 : PySem.W.codeIn K cd5 "_law_next" = true) (k5 : PySem.W.keepIn K (.ref f5) = true)
    (a6 : PySem.W.nsIn K mainGlobals "_law_rows" = some (some (.ref f6))) (l6 : K.lookup f6 = some ⟨oc6, od6, .func (PySem.W.fnOf "_law_rows" "_law_rows" (defArgs s_Lrows_6e9e) (defBody s_Lrows_6e9e) (defScope s_Lrows_6e9e) .none kV6 dc6 pm6 an6 cd6 ct6), sl6⟩) (c6 : PySem.W.codeIn K cd6 "_law_rows" = true) (k6 : PySem.W.keepIn K (.ref f6) = true)
    (a7 : PySem.W.nsIn K mainGlobals "_law_moved" = some (some (.ref f7))) (l7 : K.lookup f7 = some ⟨oc7, od7, .func (PySem.W.fnOf "_law_moved" "_law_moved" (defArgs s_Lmoved_820d) (defBody s_Lmoved_820d) (defScope s_Lmoved_820d) .none kV7 dc7 pm7 an7 cd7 ct7), sl7⟩) (c7 : PySem.W.codeIn K cd7 "_law_moved" = true) (k7 : PySem.W.keepIn K (.ref f7) = true)
    (a8 : PySem.W.nsIn K mainGlobals "_law_has" = some (some (.ref f8))) (l8 : K.lookup f8 = some ⟨oc8, od8, .func (PySem.W.fnOf "_law_has" "_law_has" (defArgs s_Lhas_8f57) (defBody s_Lhas_8f57) (defScope s_Lhas_8f57) .none kV8 dc8 pm8 an8 cd8 ct8), sl8⟩) (c8 : PySem.W.codeIn K cd8 "_law_has" = true) (k8 : PySem.W.keepIn K (.ref f8) = true)
    (a9 : PySem.W.nsIn K mainGlobals "_law_with" = some (some (.ref f9))) (l9 : K.lookup f9 = some ⟨oc9, od9, .func (PySem.W.fnOf "_law_with" "_law_with" (defArgs s_Lwith_d6e3) (defBody s_Lwith_d6e3) (defScope s_Lwith_d6e3) .none kV9 dc9 pm9 an9 cd9 ct9), sl9⟩) (c9 : PySem.W.codeIn K cd9 "_law_with" = true) (k9 : PySem.W.keepIn K (.ref f9) = true)
    (a10 : PySem.W.nsIn K mainGlobals "rule_plan" = some (some (.ref f10))) (l10 : K.lookup f10 = some ⟨oc10, od10, .func (PySem.W.fnOf "rule_plan" "rule_plan" (defArgs s_rule_plan_2c12) (defBody s_rule_plan_2c12) (defScope s_rule_plan_2c12) .none kV10 dc10 pm10 an10 cd10 ct10), sl10⟩) (c10 : PySem.W.codeIn K cd10 "rule_plan" = true) (k10 : PySem.W.keepIn K (.ref f10) = true)
    (a11 : PySem.W.nsIn K mainGlobals "_law_row" = some (some (.ref f11))) (l11 : K.lookup f11 = some ⟨oc11, od11, .func (PySem.W.fnOf "_law_row" "_law_row" (defArgs s_Lrow_d7da) (defBody s_Lrow_d7da) (defScope s_Lrow_d7da) .none kV11 dc11 pm11 an11 cd11 ct11), sl11⟩) (c11 : PySem.W.codeIn K cd11 "_law_row" = true) (k11 : PySem.W.keepIn K (.ref f11) = true)
    (a12 : PySem.W.nsIn K mainGlobals "_law_ways" = some (some (.ref f12))) (l12 : K.lookup f12 = some ⟨oc12, od12, .func (PySem.W.fnOf "_law_ways" "_law_ways" (defArgs s_Lways_1baf) (defBody s_Lways_1baf) (defScope s_Lways_1baf) .none kV12 dc12 pm12 an12 cd12 ct12), sl12⟩) (c12 : PySem.W.codeIn K cd12 "_law_ways" = true) (k12 : PySem.W.keepIn K (.ref f12) = true)
    (a13 : PySem.W.nsIn K mainGlobals "_law_wished" = some (some (.ref f13))) (l13 : K.lookup f13 = some ⟨oc13, od13, .func (PySem.W.fnOf "_law_wished" "_law_wished" (defArgs s_Lwished_76c7) (defBody s_Lwished_76c7) (defScope s_Lwished_76c7) .none kV13 dc13 pm13 an13 cd13 ct13), sl13⟩) (c13 : PySem.W.codeIn K cd13 "_law_wished" = true) (k13 : PySem.W.keepIn K (.ref f13) = true)
    (a14 : PySem.W.nsIn K mainGlobals "_law_is_enough" = some (some (.ref f14))) (l14 : K.lookup f14 = some ⟨oc14, od14, .func (PySem.W.fnOf "_law_is_enough" "_law_is_enough" (defArgs s_Lis_enough_66a9) (defBody s_Lis_enough_66a9) (defScope s_Lis_enough_66a9) .none kV14 dc14 pm14 an14 cd14 ct14), sl14⟩) (c14 : PySem.W.codeIn K cd14 "_law_is_enough" = true) (k14 : PySem.W.keepIn K (.ref f14) = true)
    (a15 : PySem.W.nsIn K mainGlobals "_law_due" = some (some (.ref f15))) (l15 : K.lookup f15 = some ⟨oc15, od15, .func (PySem.W.fnOf "_law_due" "_law_due" (defArgs s_Ldue_7272) (defBody s_Ldue_7272) (defScope s_Ldue_7272) .none kV15 dc15 pm15 an15 cd15 ct15), sl15⟩) (c15 : PySem.W.codeIn K cd15 "_law_due" = true) (k15 : PySem.W.keepIn K (.ref f15) = true)
    (a16 : PySem.W.nsIn K mainGlobals "carried" = some (some (.ref f16))) (l16 : K.lookup f16 = some ⟨oc16, od16, .func (PySem.W.fnOf "carried" "carried" (defArgs s_carried_3812) (defBody s_carried_3812) (defScope s_carried_3812) .none kV16 dc16 pm16 an16 cd16 ct16), sl16⟩) (c16 : PySem.W.codeIn K cd16 "carried" = true) (k16 : PySem.W.keepIn K (.ref f16) = true)
    (a17 : PySem.W.nsIn K mainGlobals "_law_is_least" = some (some (.ref f17))) (l17 : K.lookup f17 = some ⟨oc17, od17, .func (PySem.W.fnOf "_law_is_least" "_law_is_least" (defArgs s_Lis_least_f42e) (defBody s_Lis_least_f42e) (defScope s_Lis_least_f42e) .none kV17 dc17 pm17 an17 cd17 ct17), sl17⟩) (c17 : PySem.W.codeIn K cd17 "_law_is_least" = true) (k17 : PySem.W.keepIn K (.ref f17) = true)
    (a18 : PySem.W.nsIn K mainGlobals "can_be_met" = some (some (.ref f18))) (l18 : K.lookup f18 = some ⟨oc18, od18, .func (PySem.W.fnOf "can_be_met" "can_be_met" (defArgs s_can_be_met_73d6) (defBody s_can_be_met_73d6) (defScope s_can_be_met_73d6) .none kV18 dc18 pm18 an18 cd18 ct18), sl18⟩) (c18 : PySem.W.codeIn K cd18 "can_be_met" = true) (k18 : PySem.W.keepIn K (.ref f18) = true)
    (a19 : PySem.W.nsIn K mainGlobals "is_enough_more" = some (some (.ref f19))) (l19 : K.lookup f19 = some ⟨oc19, od19, .func (PySem.W.fnOf "is_enough_more" "is_enough_more" (defArgs s_is_enough_more_5750) (defBody s_is_enough_more_5750) (defScope s_is_enough_more_5750) .none kV19 dc19 pm19 an19 cd19 ct19), sl19⟩) (c19 : PySem.W.codeIn K cd19 "is_enough_more" = true) (k19 : PySem.W.keepIn K (.ref f19) = true)
    (a20 : PySem.W.nsIn K mainGlobals "fewest_chairs" = some (some (.ref f20))) (l20 : K.lookup f20 = some ⟨oc20, od20, .func (PySem.W.fnOf "fewest_chairs" "fewest_chairs" (defArgs s_fewest_chairs_2e3c) (defBody s_fewest_chairs_2e3c) (defScope s_fewest_chairs_2e3c) .none kV20 dc20 pm20 an20 cd20 ct20), sl20⟩) (c20 : PySem.W.codeIn K cd20 "fewest_chairs" = true) (k20 : PySem.W.keepIn K (.ref f20) = true)
    (a21 : PySem.W.nsIn K mainGlobals "law" = some (some (.ref f21))) (l21 : K.lookup f21 = some ⟨oc21, od21, .func (PySem.W.fnOf "law" "law" (defArgs s_law) (defBody s_law) (defScope s_law) .none kV21 dc21 pm21 an21 cd21 ct21), sl21⟩) (c21 : PySem.W.codeIn K cd21 "law" = true) (k21 : PySem.W.keepIn K (.ref f21) = true)
    (z_abs : PySem.W.nsIn K mainGlobals "abs" = some none)
    (z_all : PySem.W.nsIn K mainGlobals "all" = some none)
    (z_bool : PySem.W.nsIn K mainGlobals "bool" = some none)
    (z_int : PySem.W.nsIn K mainGlobals "int" = some none)
    (z_isinstance : PySem.W.nsIn K mainGlobals "isinstance" = some none)
    (z_len : PySem.W.nsIn K mainGlobals "len" = some none)
    (z_list : PySem.W.nsIn K mainGlobals "list" = some none)
    (z_max : PySem.W.nsIn K mainGlobals "max" = some none)
    (z_min : PySem.W.nsIn K mainGlobals "min" = some none)
    (z_range : PySem.W.nsIn K mainGlobals "range" = some none)
    (z_repr : PySem.W.nsIn K mainGlobals "repr" = some none)
    (z_sum : PySem.W.nsIn K mainGlobals "sum" = some none)
    (z_tuple : PySem.W.nsIn K mainGlobals "tuple" = some none)
    (z_zip : PySem.W.nsIn K mainGlobals "zip" = some none) :
    ∃ fd : FuncData, (∀ (s : Shared) (v : Value), BindsTo s fd ⟨[v], []⟩ [("script", v)]) ∧ ∀ base : Heap, K.In base → base.Ns mainGlobals mg → SysAt base → GFn l.prog w K mg base CX0 7 fa fd ["script"] (spLaw K) := by
  have e := hfa.symm.trans (PySem.W.mg_of X G a21)
  cases e
  have B0 := (fun_mk (st := s_limited_plan_b7b8) l0 c0 k0).binds (ps := ["row", "walkers", "limits"]) fun _ _ _ _ _ _ us hl => match us, hl with | [_, _, _], _ => rfl
  have B1 := (fun_mk (st := s_running_counts_a84c) l1 c1 k1).binds (ps := ["plan", "stage"]) fun _ _ _ _ _ _ us hl => match us, hl with | [_, _], _ => rfl
  have B2 := (fun_mk (st := s_with_number_21dd) l2 c2 k2).binds (ps := ["numbers", "station", "number"]) fun _ _ _ _ _ _ us hl => match us, hl with | [_, _, _], _ => rfl
  have B3 := (fun_mk (st := s_needs_of_08a9) l3 c3 k3).binds (ps := ["row", "wants"]) fun _ _ _ _ _ _ us hl => match us, hl with | [_, _], _ => rfl
  have B4 := (fun_mk (st := s_Ldraws) l4 c4 k4).binds (ps := ["script"]) fun _ _ _ _ _ _ us hl => match us, hl with | [_], _ => rfl
  have B5 := (fun_mk (st := s_Lnext_9d8d) l5 c5 k5).binds (ps := ["drawn", "many"]) fun _ _ _ _ _ _ us hl => match us, hl with | [_, _], _ => rfl
  have B6 := (fun_mk (st := s_Lrows_6e9e) l6 c6 k6).binds (ps := ["row", "walkers"]) fun _ _ _ _ _ _ us hl => match us, hl with | [_, _], _ => rfl
  have B7 := (fun_mk (st := s_Lmoved_820d) l7 c7 k7).binds (ps := ["row", "walkers"]) fun _ _ _ _ _ _ us hl => match us, hl with | [_, _], _ => rfl
  have B8 := (fun_mk (st := s_Lhas_8f57) l8 c8 k8).binds (ps := ["rows", "want"]) fun _ _ _ _ _ _ us hl => match us, hl with | [_, _], _ => rfl
  have B9 := (fun_mk (st := s_Lwith_d6e3) l9 c9 k9).binds (ps := ["row", "station", "more"]) fun _ _ _ _ _ _ us hl => match us, hl with | [_, _, _], _ => rfl
  have B10 := (fun_mk (st := s_rule_plan_2c12) l10 c10 k10).binds (ps := ["row", "walkers"]) fun _ _ _ _ _ _ us hl => match us, hl with | [_, _], _ => rfl
  have B11 := (fun_mk (st := s_Lrow_d7da) l11 c11 k11).binds (ps := ["drawn", "stations", "most"]) fun _ _ _ _ _ _ us hl => match us, hl with | [_, _, _], _ => rfl
  have B12 := (fun_mk (st := s_Lways_1baf) l12 c12 k12).binds (ps := ["drawn", "stations", "most"]) fun _ _ _ _ _ _ us hl => match us, hl with | [_, _, _], _ => rfl
  have B13 := (fun_mk (st := s_Lwished_76c7) l13 c13 k13).binds (ps := ["drawn", "row", "most"]) fun _ _ _ _ _ _ us hl => match us, hl with | [_, _, _], _ => rfl
  have B14 := (fun_mk (st := s_Lis_enough_66a9) l14 c14 k14).binds (ps := ["row", "walkers", "want"]) fun _ _ _ _ _ _ us hl => match us, hl with | [_, _, _], _ => rfl
  have B15 := (fun_mk (st := s_Ldue_7272) l15 c15 k15).binds (ps := ["row", "walkers", "want", "station"]) fun _ _ _ _ _ _ us hl => match us, hl with | [_, _, _, _], _ => rfl
  have B16 := (fun_mk (st := s_carried_3812) l16 c16 k16).binds (ps := ["row", "walkers"]) fun _ _ _ _ _ _ us hl => match us, hl with | [_, _], _ => rfl
  have B17 := (fun_mk (st := s_Lis_least_f42e) l17 c17 k17).binds (ps := ["row", "walkers", "want", "station", "found"]) fun _ _ _ _ _ _ us hl => match us, hl with | [_, _, _, _, _], _ => rfl
  have B18 := (fun_mk (st := s_can_be_met_73d6) l18 c18 k18).binds (ps := ["row", "walkers", "wants"]) fun _ _ _ _ _ _ us hl => match us, hl with | [_, _, _], _ => rfl
  have B19 := (fun_mk (st := s_is_enough_more_5750) l19 c19 k19).binds (ps := ["row", "walkers", "wants", "station", "more"]) fun _ _ _ _ _ _ us hl => match us, hl with | [_, _, _, _, _], _ => rfl
  have B20 := (fun_mk (st := s_fewest_chairs_2e3c) l20 c20 k20).binds (ps := ["row", "walkers", "wants", "station"]) fun _ _ _ _ _ _ us hl => match us, hl with | [_, _, _, _], _ => rfl
  have B21 := (fun_mk (st := s_law) l21 c21 k21).binds (ps := ["script"]) fun _ _ _ _ _ _ us hl => match us, hl with | [_], _ => rfl
  exact ⟨_, fun s v => .of_eq rfl, fun base _ _ Y => ok_law ⟨Y, _, _, fun_mk (st := s_limited_plan_b7b8) l0 c0 k0, PySem.W.mg_of X G a0, B0, _, _, fun_mk (st := s_running_counts_a84c) l1 c1 k1, PySem.W.mg_of X G a1, B1, _, _, fun_mk (st := s_with_number_21dd) l2 c2 k2, PySem.W.mg_of X G a2, B2, _, _, fun_mk (st := s_needs_of_08a9) l3 c3 k3, PySem.W.mg_of X G a3, B3, _, _, fun_mk (st := s_Ldraws) l4 c4 k4, PySem.W.mg_of X G a4, B4, _, _, fun_mk (st := s_Lnext_9d8d) l5 c5 k5, PySem.W.mg_of X G a5, B5, _, _, fun_mk (st := s_Lrows_6e9e) l6 c6 k6, PySem.W.mg_of X G a6, B6, _, _, fun_mk (st := s_Lmoved_820d) l7 c7 k7, PySem.W.mg_of X G a7, B7, _, _, fun_mk (st := s_Lhas_8f57) l8 c8 k8, PySem.W.mg_of X G a8, B8, _, _, fun_mk (st := s_Lwith_d6e3) l9 c9 k9, PySem.W.mg_of X G a9, B9, _, _, fun_mk (st := s_rule_plan_2c12) l10 c10 k10, PySem.W.mg_of X G a10, B10, _, _, fun_mk (st := s_Lrow_d7da) l11 c11 k11, PySem.W.mg_of X G a11, B11, _, _, fun_mk (st := s_Lways_1baf) l12 c12 k12, PySem.W.mg_of X G a12, B12, _, _, fun_mk (st := s_Lwished_76c7) l13 c13 k13, PySem.W.mg_of X G a13, B13, _, _, fun_mk (st := s_Lis_enough_66a9) l14 c14 k14, PySem.W.mg_of X G a14, B14, _, _, fun_mk (st := s_Ldue_7272) l15 c15 k15, PySem.W.mg_of X G a15, B15, _, _, fun_mk (st := s_carried_3812) l16 c16 k16, PySem.W.mg_of X G a16, B16, _, _, fun_mk (st := s_Lis_least_f42e) l17 c17 k17, PySem.W.mg_of X G a17, B17, _, _, fun_mk (st := s_can_be_met_73d6) l18 c18 k18, PySem.W.mg_of X G a18, B18, _, _, fun_mk (st := s_is_enough_more_5750) l19 c19 k19, PySem.W.mg_of X G a19, B19, _, _, fun_mk (st := s_fewest_chairs_2e3c) l20 c20 k20, PySem.W.mg_of X G a20, B20, _, _, fun_mk (st := s_law) l21 c21 k21, PySem.W.mg_of X G a21, B21, PySem.W.mg_none_of X G z_abs, PySem.W.mg_none_of X G z_all, PySem.W.mg_none_of X G z_bool, PySem.W.mg_none_of X G z_int, PySem.W.mg_none_of X G z_isinstance, PySem.W.mg_none_of X G z_len, PySem.W.mg_none_of X G z_list, PySem.W.mg_none_of X G z_max, PySem.W.mg_none_of X G z_min, PySem.W.mg_none_of X G z_range, PySem.W.mg_none_of X G z_repr, PySem.W.mg_none_of X G z_sum, PySem.W.mg_none_of X G z_tuple, PySem.W.mg_none_of X G z_zip⟩ hlaw⟩
end P_k18

namespace P_k18
open PySem PySem.Spec L2 Dl Df
-- needs Fi3
theorem fine_few {row wants : List Nat} {ws : List (Nat × Nat)} {s : Nat} (h2 : 2 ≤ row.length) (hw : Ways row.length ws) (hs : s < row.length) (hl : wants.length = row.length) (hn : ws.length ≤ 500) (hm : at0 wants s ≤ 1000) : Fine (optD (fewN row ws wants s)) 0 0 := by
  cases hq : fewN row ws wants s with
  | none => exact fine_none
  | some t =>
    have := few_le_bnd18 h2 hw hs hl hq
    exact fine_nat (by omega)
theorem at_le {l : List Nat} {m s : Nat} (h : ∀ x ∈ l, x ≤ m) : at0 l s ≤ m := by
  by_cases hs : s < l.length
  · rw [at0_eq hs]
    exact h _ (List.getElem_mem hs)
  · unfold at0
    rw [List.getD_eq_getElem?_getD, List.getElem?_eq_none (by omega)]
    exact Nat.zero_le _
theorem small_w {row wants : List Nat} {ws : List (Nat × Nat)} {s : Nat} {cs : List Int} {n : Int} {v2 v7 v8 v9 : Option Sl} {Q : QO} (h2 : 2 ≤ row.length) (hr : row.length ≤ 4) (hw : wants.length = row.length) (hws : Ways row.length ws) (hn : ws.length ≤ 6) (hs : s < row.length) (hm : ∀ x ∈ wants, x ≤ 900)
    (h : ∀ v7, Q (.nx ⟨[none, some .dk, v2, fz (rowD row), fz (walkD ws), fz (rowD wants), fz (natD s), v7, v8, v9], cs, n⟩)) :
    wB g_law_2 ⟨[none, some .dk, v2, fz (rowD row), fz (walkD ws), fz (rowD wants), fz (natD s), v7, v8, v9], cs, n⟩ Q := by
  have m1 : at0 wants s ≤ 900 := at_le hm
  have dk := due18_ok h2 hr hw hws hn hs (by omega)
  have hMs : wants.sum < 2 ^ 999 := sum_small (by omega) (fun x hx => hm x hx) (by omega)
  have fk := few_ok (row := row) (wants := wants) (ws := ws) (s := s) h2 (by omega) hw hws (by omega) hs hMs
  have s2 := reprD_of (fine_few h2 hws hs hw (by omega) (by omega)) (by decide) (by decide)
  unfold g_law_2
  generalize optD (fewN row ws wants s) = od at *
  generalize rowD row = rd at *
  generalize rowD wants = wd at *
  generalize walkD ws = wk at *
  simp [dk, fk, s2]
  exact h _
theorem far18_w {row wants : List Nat} {ws : List (Nat × Nat)} {s : Nat} {cs : List Int} {n : Int} {v2 v7 v8 v9 : Option Sl} {Q : QO} (h2 : 2 ≤ row.length) (hr : row.length ≤ 10) (hw : wants.length = row.length) (hws : Ways row.length ws) (hn : ws.length ≤ 40) (hs : s < row.length) (hm : ∀ x ∈ wants, x ≤ 900)
    (h : ∀ v9, Q (.nx ⟨[none, some .dk, v2, fz (rowD row), fz (walkD ws), fz (rowD wants), fz (natD s), v7, v8, v9], cs, n⟩)) :
    wB g_law_4 ⟨[none, some .dk, v2, fz (rowD row), fz (walkD ws), fz (rowD wants), fz (natD s), v7, v8, v9], cs, n⟩ Q := by
  have m1 : at0 wants s ≤ 900 := at_le hm
  have hMs : wants.sum < 2 ^ 999 := sum_small (by omega) (fun x hx => hm x hx) (by omega)
  have fk := few_ok (row := row) (wants := wants) (ws := ws) (s := s) h2 (by omega) hw hws (by omega) hs hMs
  have il := isleast_ok (row := row) (wants := wants) (ws := ws) (s := s) h2 (by omega) hw hws (by omega) hs
  have s2 := reprD_of (fine_few h2 hws hs hw (by omega) (by omega)) (by decide) (by decide)
  unfold g_law_4
  generalize optD (fewN row ws wants s) = od at *
  generalize rowD row = rd at *
  generalize rowD wants = wd at *
  generalize walkD ws = wk at *
  simp [fk, il, s2]
  exact h _
theorem main : ∀ ns : List Int, ns.length ≤ 63 → ∃ s', b_law ⟨(List.replicate 10 none).set 1 (some .dk), deckOf ns, 0⟩ = some (.rt (.bool true) s') := by
  intro ns hns
  apply wB_law
  unfold b_law
  have e0 : (List.replicate 10 (none : Option Sl)).set 1 (some .dk) = [none, some .dk, none, none, none, none, none, none, none, none] := rfl
  rw [e0]
  obtain ⟨G1, hG1⟩ : ∃ G : Bd, G = g_law_1 := ⟨_, rfl⟩
  obtain ⟨G3, hG3⟩ : ∃ G : Bd, G = g_law_3 := ⟨_, rfl⟩
  rw [← hG1, ← hG3]
  simp
  obtain ⟨P, hP⟩ : ∃ P : Nat → S → Prop, P = (fun (k : Nat) (s : S) => ∃ (cs : List Int) (n : Int) (v2 v3 v4 v5 v6 v7 v8 v9 : Option Sl), s = ⟨[none, some .dk, v2, v3, v4, v5, v6, v7, v8, v9], cs, n⟩ ∧ 0 ≤ n ∧ n ≤ 5000 * k ∧ 2 ≤ cs.length) := ⟨_, rfl⟩
  refine wF_inv P 0 (by rw [hP]; exact ⟨_, _, _, _, _, _, _, _, _, _, rfl, by omega, by omega, (deckOf_len ns hns).1⟩) (fun j x s hj hp => ?_) fun s hp => ?_
  · rw [hP] at hp
    obtain ⟨cs, n, v2, v3, v4, v5, v6, v7, v8, v9, rfl, hn0, hn1, hl⟩ := hp
    rw [rgD_zero 3] at hj
    obtain ⟨hj4, rfl⟩ := range_at hj
    rw [Nat.zero_add] at *
    rw [hG1]
    unfold g_law_1
    obtain ⟨G2, hG2⟩ : ∃ G : Bd, G = g_law_2 := ⟨_, rfl⟩
    rw [← hG2]
    simp
    refine row3_w (by omega) (by omega) (by omega) (by omega) hn0 (by omega) hl fun row cs1 n1 r2 rl rm k1 k2 hl1 => ?_
    have lr := len_row row
    simp [lr]
    refine ways3_w (by omega) (by omega) (by omega) (by omega) (by omega) (by omega) hl1 fun ws cs2 n2 hw hwl k3 k4 hl2 => ?_
    rw [Int.toNat_natCast] at hw
    simp
    refine wished_w (most := 3) (by omega) (by omega) (fun x hx => by have := rm x hx; omega) (by omega) (by omega) (by omega) hl2 fun wants cs4 n4 wl wm k7 k8 hl4 => ?_
    have ir := inR_nat (i := row.length) (by omega)
    simp [lr, ir, rgD_zero]
    obtain ⟨R, hR⟩ : ∃ R : Nat → S → Prop, R = (fun (k : Nat) (s : S) => ∃ (v6 v7 : Option Sl), s = ⟨[none, some .dk, fz (natD j), fz (rowD row), fz (walkD ws), fz (rowD wants), v6, v7, v8, v9], cs4, n4⟩) := ⟨_, rfl⟩
    refine wF_inv R 0 (by rw [hR]; exact ⟨_, _, rfl⟩) (fun i x s hi hp => ?_) fun s hp => ?_
    · rw [hR] at hp
      obtain ⟨v6, v7, rfl⟩ := hp
      obtain ⟨hi3, rfl⟩ := range_at hi
      rw [Nat.zero_add] at *
      have key := fun (Q : QO) => small_w (row := row) (wants := wants) (ws := ws) (s := i) (cs := cs4) (n := n4) (v2 := fz (natD j)) (v7 := v7) (v8 := v8) (v9 := v9) (Q := Q) r2 (by omega) wl hw (by omega) hi3 (fun x hx => by have := wm x hx; omega)
      generalize rowD row = rd at *
      generalize rowD wants = wd at *
      generalize walkD ws = wk at *
      rw [hG2]
      rw [← hG2] at key ⊢
      simp
      refine key _ fun v7 => ?_
      simp
      rw [hR]
      exact ⟨_, _, rfl⟩
    · rw [hR] at hp
      obtain ⟨v6, v7, rfl⟩ := hp
      simp
      rw [hP]
      exact ⟨_, _, _, _, _, _, _, _, _, _, rfl, by omega, by omega, hl4⟩
  · rw [hP] at hp
    obtain ⟨cs, n, v2, v3, v4, v5, v6, v7, v8, v9, rfl, hn0, hn1, hl⟩ := hp
    have hlen : (rgD 0 3).length = 3 := rgD_len 0 3
    simp only [hlen, Nat.zero_add] at hn1
    simp
    obtain ⟨P2, hP2⟩ : ∃ P : Nat → S → Prop, P = (fun (k : Nat) (s : S) => ∃ (cs : List Int) (n : Int) (v2 v3 v4 v5 v6 v7 v8 v9 : Option Sl), s = ⟨[none, some .dk, v2, v3, v4, v5, v6, v7, v8, v9], cs, n⟩ ∧ 0 ≤ n ∧ n ≤ 15000 + 5000 * k ∧ 2 ≤ cs.length) := ⟨_, rfl⟩
    refine wF_inv P2 0 (by rw [hP2]; exact ⟨_, _, _, _, _, _, _, _, _, _, rfl, by omega, by omega, hl⟩) (fun j x s hj hp => ?_) fun s hp => ?_
    · rw [hP2] at hp
      obtain ⟨cs, n, v2, v3, v4, v5, v6, v7, v8, v9, rfl, hn0, hn1, hl⟩ := hp
      rw [rgD_zero 3] at hj
      obtain ⟨hj4, rfl⟩ := range_at hj
      rw [Nat.zero_add] at *
      rw [hG3]
      unfold g_law_3
      obtain ⟨G4, hG4⟩ : ∃ G : Bd, G = g_law_4 := ⟨_, rfl⟩
      rw [← hG4]
      simp
      refine row3_w (by omega) (by omega) (by omega) (by omega) hn0 (by omega) hl fun row cs1 n1 r2 rl rm k1 k2 hl1 => ?_
      have lr := len_row row
      simp [lr]
      refine ways3_w (by omega) (by omega) (by omega) (by omega) (by omega) (by omega) hl1 fun ws cs2 n2 hw hwl k3 k4 hl2 => ?_
      rw [Int.toNat_natCast] at hw
      simp
      refine next_ok (by omega) (by omega) (by omega) (by omega) hl2 fun a cs3 ha hl3 => ?_
      obtain ⟨m, hm, hme⟩ : ∃ m : Nat, m ≤ 500 ∧ L2.atI [PySem.PyData.int 60, .int 501] (a : Int) = some (.int ((m : Int) + 1)) := by
        have : a = 0 ∨ a = 1 := by omega
        rcases this with h | h <;> rw [h]
        · exact ⟨59, by decide, at_nat rfl⟩
        · exact ⟨500, by decide, at_nat rfl⟩
      simp [hme]
      refine wished_w (most := m) (by omega) (by omega) (fun x hx => by have := rm x hx; omega) (by omega) (by omega) (by omega) hl3 fun wants cs4 n4 wl wm k7 k8 hl4 => ?_
      have ir := inR_nat (i := row.length) (by omega)
      have fr : Fine (rowD row) 2 120 := (fine_row (n := 10) (fun x hx => by have := rm x hx; omega) (by omega)).up (by omega) (by omega)
      have fw : Fine (walkD ws) 2 120 := fine_walk (n := 40) hw (by omega) (by omega)
      have fm : Fine (rowD wants) 2 120 := (fine_row (n := 10) (fun x hx => by have := wm x hx; omega) (by omega)).up (by omega) (by omega)
      have s1 := reprD_of (fine3 fr fw fm) (by decide) (by decide)
      have key := fun (i : Nat) (hi : i < row.length) (v8 v9 : Option Sl) (Q : QO) => far18_w (row := row) (wants := wants) (ws := ws) (s := i) (cs := cs4) (n := n4) (v2 := fz (natD j)) (v7 := v7) (v8 := v8) (v9 := v9) (Q := Q) r2 (by omega) wl hw (by omega) hi (fun x hx => by have := wm x hx; omega)
      rw [← hG4] at key
      generalize rowD row = rd at *
      generalize rowD wants = wd at *
      generalize walkD ws = wk at *
      simp [lr, ir, rgD_zero, s1]
      obtain ⟨R, hR⟩ : ∃ R : Nat → S → Prop, R = (fun (k : Nat) (s : S) => ∃ (v6 v9 : Option Sl), s = ⟨[none, some .dk, fz (natD j), fz rd, fz wk, fz wd, v6, v7, fz (.str (PySem.PyData.list [rd, wk, wd]).shown), v9], cs4, n4⟩) := ⟨_, rfl⟩
      refine wF_inv R 0 (by rw [hR]; exact ⟨_, _, rfl⟩) (fun i x s hi hp => ?_) fun s hp => ?_
      · rw [hR] at hp
        obtain ⟨v6, v9, rfl⟩ := hp
        obtain ⟨hi3, rfl⟩ := range_at hi
        rw [Nat.zero_add] at *
        simp
        refine key i hi3 _ _ _ fun v9 => ?_
        simp
        rw [hR]
        exact ⟨_, _, rfl⟩
      · rw [hR] at hp
        obtain ⟨v6, v9, rfl⟩ := hp
        simp [s1]
        rw [hP2]
        exact ⟨_, _, _, _, _, _, _, _, _, _, rfl, by omega, by omega, hl4⟩
    · rw [hP2] at hp
      obtain ⟨cs, n, v2, v3, v4, v5, v6, v7, v8, v9, rfl, hn0, hn1, hl⟩ := hp
      simp
end P_k18

open PySem PySem.W PyProof.Rows
set_option maxRecDepth 100000 in
set_option maxHeartbeats 0 in
theorem PySem.Challenge.cw_chairwalks_k18_fewest_chairs_found_holds : PySem.Challenge.rw_chairwalks_k18_fewest_chairs_found.Holds := by
  w_on; o_law; k_head; (case hw => w_witness2)
  k_fill
  refine Dl.g_walk (l := PySem.Challenge.rw_chairwalks_k18_fewest_chairs_found) (n := 63) (k := 7) (x := "script") (sp := Dl.spLaw) rfl (by decide) rfl (by decide +kernel) ⟨rfl, by decide, by decide⟩ (fun w h Y => PySem.W.kIn_of Y) ?F (fun _ _ a ns hl _ hS => ⟨a, ns, rfl, hS, hl, fun _ => rfl⟩)
  case F =>
    intro w mg fa h KX G hmg
    refine' P_k18.all_mk KX G hmg P_k18.main ?a0 ?l0 ?c0 ?k0 ?a1 ?l1 ?c1 ?k1 ?a2 ?l2 ?c2 ?k2 ?a3 ?l3 ?c3 ?k3 ?a4 ?l4 ?c4 ?k4 ?a5 ?l5 ?c5 ?k5 ?a6 ?l6 ?c6 ?k6 ?a7 ?l7 ?c7 ?k7 ?a8 ?l8 ?c8 ?k8 ?a9 ?l9 ?c9 ?k9 ?a10 ?l10 ?c10 ?k10 ?a11 ?l11 ?c11 ?k11 ?a12 ?l12 ?c12 ?k12 ?a13 ?l13 ?c13 ?k13 ?a14 ?l14 ?c14 ?k14 ?a15 ?l15 ?c15 ?k15 ?a16 ?l16 ?c16 ?k16 ?a17 ?l17 ?c17 ?k17 ?a18 ?l18 ?c18 ?k18 ?a19 ?l19 ?c19 ?k19 ?a20 ?l20 ?c20 ?k20 ?a21 ?l21 ?c21 ?k21 ?z_abs ?z_all ?z_bool ?z_int ?z_isinstance ?z_len ?z_list ?z_max ?z_min ?z_range ?z_repr ?z_sum ?z_tuple ?z_zip
    (case a0 => k_is); (case l0 => k_is); (case c0 => k_is); (case k0 => k_is); (case a1 => k_is); (case l1 => k_is); (case c1 => k_is); (case k1 => k_is); (case a2 => k_is); (case l2 => k_is); (case c2 => k_is); (case k2 => k_is); (case a3 => k_is); (case l3 => k_is); (case c3 => k_is); (case k3 => k_is); (case a4 => k_is); (case l4 => k_is); (case c4 => k_is); (case k4 => k_is); (case a5 => k_is); (case l5 => k_is); (case c5 => k_is); (case k5 => k_is); (case a6 => k_is); (case l6 => k_is); (case c6 => k_is); (case k6 => k_is); (case a7 => k_is); (case l7 => k_is); (case c7 => k_is); (case k7 => k_is); (case a8 => k_is); (case l8 => k_is); (case c8 => k_is); (case k8 => k_is); (case a9 => k_is); (case l9 => k_is); (case c9 => k_is); (case k9 => k_is); (case a10 => k_is); (case l10 => k_is); (case c10 => k_is); (case k10 => k_is); (case a11 => k_is); (case l11 => k_is); (case c11 => k_is); (case k11 => k_is); (case a12 => k_is); (case l12 => k_is); (case c12 => k_is); (case k12 => k_is); (case a13 => k_is); (case l13 => k_is); (case c13 => k_is); (case k13 => k_is); (case a14 => k_is); (case l14 => k_is); (case c14 => k_is); (case k14 => k_is); (case a15 => k_is); (case l15 => k_is); (case c15 => k_is); (case k15 => k_is); (case a16 => k_is); (case l16 => k_is); (case c16 => k_is); (case k16 => k_is); (case a17 => k_is); (case l17 => k_is); (case c17 => k_is); (case k17 => k_is); (case a18 => k_is); (case l18 => k_is); (case c18 => k_is); (case k18 => k_is); (case a19 => k_is); (case l19 => k_is); (case c19 => k_is); (case k19 => k_is); (case a20 => k_is); (case l20 => k_is); (case c20 => k_is); (case k20 => k_is); (case a21 => k_is); (case l21 => k_is); (case c21 => k_is); (case k21 => k_is); (case z_abs => k_is); (case z_all => k_is); (case z_bool => k_is); (case z_int => k_is); (case z_isinstance => k_is); (case z_len => k_is); (case z_list => k_is); (case z_max => k_is); (case z_min => k_is); (case z_range => k_is); (case z_repr => k_is); (case z_sum => k_is); (case z_tuple => k_is); (case z_zip => k_is)
