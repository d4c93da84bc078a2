import PyProof.Rows.All
import Wide.All
import OpenK.AllK
import Wide.FinOn
import PyProof.FactsAll.object
import HandS.ForMost
import HandS.Exc
import HandS.TryOnly
import HandS.TryMany
import HandS.ExcOwn
import HandS.CallSlots
import HandS.WordsExc
import HandS.More
import HandS.IsInst
import HandS.ExcIs
import PySem.Challenge.RW_escrowbook_k02_amounts
set_option Elab.async false
set_option maxRecDepth 100000
namespace NeTy
open PySem PySem.TypeEq
theorem sl_ne : Slot "type" (cmpInfo .NotEq).2.1 "object.__ne__" :=
  Slot.of (n := "__ne__") (owner := "object") (by
      rw [typeLookup_type, builtinLookup_eq_fast]
      kernel_rfl) (by decide +kernel) (by decide +kernel) (by decide +kernel)
    (by first | exact .inl (by decide +kernel) | exact .inr (by decide +kernel)) (by
      rw [isSubtype_type]
      kernel_rfl)
theorem sl_ne2 : Slot "type" (cmpInfo .NotEq).2.2 "object.__ne__" :=
  Slot.of (n := "__ne__") (owner := "object") (by
      rw [typeLookup_type, builtinLookup_eq_fast]
      kernel_rfl) (by decide +kernel) (by decide +kernel) (by decide +kernel)
    (by first | exact .inl (by decide +kernel) | exact .inr (by decide +kernel)) (by
      rw [isSubtype_type]
      kernel_rfl)
section
variable {prog : Program} {w : World} {A : Around} {E : Value → Shared → Prop} {s : Shared}
/-- object's own != of two types: by == -/
theorem obj_ne {X Y : String} {R : Value} {Q : Fin → Shared → Prop} (hX : ∀ z : Shared, z.TypeIs (.type X) "type")
    (hc : wpAny (model prog w) A (call (.builtin "object.__eq__") [.type X, .type Y]) (fun v z => v = R ∧ z = s) E s)
    (hR : (R = .notImplemented ∧ Q (.done (.ret .notImplemented)) s) ∨ (∃ b, R = .bool b ∧ Q (.done (.ret (.bool (!b)))) s)) :
    wpAny (model prog w) A (Builtin.«object.__ne__» ⟨[.type X, .type Y], []⟩) Q E s := by
  unfold Builtin.«object.__ne__»
  rcases hR with ⟨rfl, hq⟩ | ⟨b, rfl, hq⟩
  all_goals
    repeat (first
      | (fail_if_success (with_reducible show wpAny _ _ (callSpecialIfBound? _ _ _) _ _ _)
         wp_step))
    refine wpAny_callSpecialIfBound?_slot (hX s) slot_type_eq (wpAny_mono hc (fun v z hv => ?_) fun _ _ e => e)
    obtain ⟨rfl, rfl⟩ := hv
  · exact wpAny_pure hq
  · exact wpAny_bind (wpAny_truthy_bool (wpAny_pure hq))
theorem call_ne {X Y : String} {R : Value} {Q : Value → Shared → Prop} (hX : ∀ z : Shared, z.TypeIs (.type X) "type")
    (hc : wpAny (model prog w) A.in1 (call (.builtin "object.__eq__") [.type X, .type Y]) (fun v z => v = R ∧ z = s) E s)
    (hR : (R = .notImplemented ∧ Q .notImplemented s) ∨ (∃ b, R = .bool b ∧ Q (.bool (!b)) s)) :
    wpAny (model prog w) A (call (.builtin "object.__ne__") [.type X, .type Y]) Q E s := by
  refine wpAny_call_entry sl_ne (hX s) F.entry_object_ne ?_ (F.args_object_ne_2 _ _)
  refine obj_ne hX hc ?_
  rcases hR with ⟨rfl, hq⟩ | ⟨b, rfl, hq⟩
  · exact .inl ⟨rfl, _, rfl, hq⟩
  · exact .inr ⟨b, rfl, _, rfl, hq⟩
/-- T != T -/
theorem ne_same {X : String} {Q : Value → Shared → Prop} (hX : ∀ z : Shared, z.TypeIs (.type X) "type") (h : Q (.bool false) s) :
    wpAny (model prog w) A (compareOp .NotEq (.type X) (.type X)) Q E s := by
  show wpAny _ A (richCompare .NotEq _ _) Q E s
  exact wpAny_richCompare_same (T := "type") (hX s) (hX s) sl_ne
    (call_ne hX (call_gives slot_type_eq (hX s) F.entry_object_eq (F.args_object_eq_2 _ _) (object_eq_same rfl (by simp)) ⟨rfl, rfl⟩)
      (.inr ⟨true, rfl, (by intro e; cases e), h⟩))
/-- T != U -/
theorem ne_other {X Y : String} {Q : Value → Shared → Prop} (hX : ∀ z : Shared, z.TypeIs (.type X) "type") (hY : ∀ z : Shared, z.TypeIs (.type Y) "type")
    (hd : X ≠ Y) (h : Q (.bool true) s) : wpAny (model prog w) A (compareOp .NotEq (.type X) (.type Y)) Q E s := by
  have d1 : (Value.type X == Value.type Y) = false := by
    rw [beq_eq_false_iff_ne]
    intro e
    exact hd (Value.type.inj e)
  have d2 : (Value.type Y == Value.type X) = false := by
    rw [beq_eq_false_iff_ne]
    intro e
    exact hd (Value.type.inj e).symm
  show wpAny _ A (richCompare .NotEq _ _) Q E s
  rcases hi : cmpInfo CmpOp.NotEq with ⟨sy, f, r⟩
  have n1 : Slot "type" f "object.__ne__" := by
    have q := sl_ne
    rw [hi] at q
    exact q
  have n2 : Slot "type" r "object.__ne__" := by
    have q := sl_ne2
    rw [hi] at q
    exact q
  simp only [richCompare, hi, (hX s).oneThing_none]
  try with_reducible refine wpAny_holding ?_
  refine wpAny_bind (wpAny_cRoomFor_or (.inl rfl) ?_)
  refine wpAny_bind (wpAny_typeOf (hX s) ?_)
  refine wpAny_bind (wpAny_typeOf (hY s) ?_)
  simp only [bne_self_eq_false, Bool.false_eq_true, if_false, pure_bind, Bool.not_false, if_true]
  refine wpAny_bind (m := tryCompare (.type X) _ (.type Y)) (wpAny_tryCompare_declines (hX s) n1 ?_)
  refine call_ne hX (call_gives slot_type_eq (hX s) F.entry_object_eq (F.args_object_eq_2 _ _) (object_eq_other rfl d1) ⟨rfl, rfl⟩) (.inl ⟨rfl, rfl, ?_⟩)
  refine wpAny_bind (m := tryCompare (.type Y) _ (.type X)) (wpAny_tryCompare_declines (hY s) n2 ?_)
  refine call_ne hY (call_gives slot_type_eq (hY s) F.entry_object_eq (F.args_object_eq_2 _ _) (object_eq_other rfl d2) ⟨rfl, rfl⟩) (.inl ⟨rfl, rfl, ?_⟩)
  refine wpAny_bind (wpAny_rule (wpAny_bind (wpAny_of_eq (isSame_plain rfl) ?_)))
  rw [d1]
  exact wpAny_pure h
end
end NeTy
set_option Elab.async false
set_option linter.all false
set_option maxRecDepth 100000
set_option maxHeartbeats 4000000
namespace Fw
open PySem PySem.Spec PyProof.Rows L2
/-! ### what is read at an address, as a function -/
def lstOf (H : Hp) (a : Addr) : Option (List V) := match H a with
  | some (.lst xs) => some xs
  | some (.frz _ (.lst xs)) => some xs
  | _ => none
def tupOf (H : Hp) (a : Addr) : Option (List V) := match H a with
  | some (.tup xs) => some xs
  | some (.frz _ (.tup xs)) => some xs
  | _ => none
def dicOf (H : Hp) (a : Addr) : Option (List (Key × V)) := match H a with
  | some (.dK kvs) => some kvs
  | some (.frz _ (.dK kvs)) => some kvs
  | _ => none
theorem sq_lst {K : PySem.W.Frag} {H : Hp} {a : Addr} {xs : List V} (h : lstOf H a = some xs) : SqL K H a xs := by
  unfold lstOf at h
  split at h
  · rename_i e; cases h; exact .inl (.inl e)
  · rename_i e; cases h; exact .inl (.inr ⟨_, e⟩)
  · cases h
theorem sq_tup {K : PySem.W.Frag} {H : Hp} {a : Addr} {xs : List V} (h : tupOf H a = some xs) : SqT K H a xs := by
  unfold tupOf at h
  split at h
  · rename_i e; cases h; exact .inl (.inl e)
  · rename_i e; cases h; exact .inl (.inr ⟨_, e⟩)
  · cases h
theorem rd_dic {H : Hp} {a : Addr} {kvs : List (Key × V)} (h : dicOf H a = some kvs) : Rd H a (.dK kvs) := by
  unfold dicOf at h
  split at h
  · rename_i e; cases h; exact .inl e
  · rename_i e; cases h; exact .inr ⟨_, e⟩
  · cases h
/-- a value as a key -/
def keyOf : V → Option Key
  | .int i => some (.inl i)
  | .str x => some (.inr x)
  | _ => none
theorem keyOf_kV {v : V} {k : Key} (h : keyOf v = some k) : v = kV k := by
  cases v <;> simp [keyOf] at h <;> subst h <;> rfl

/-! ### operations by the values' kinds -/
def vAdd : R2 := fun x y H Q => match x, y with
  | .int i, .int j => Q (.int (i + j)) H
  | .str i, .str j => i.length + j.length ≤ sizeLine ∧ Q (.str (i ++ j)) H
  | .ref a, .ref b => ∃ xs ys, H a = some (.lst xs) ∧ H b = some (.lst ys) ∧ xs.length + ys.length ≤ sizeLine ∧ ∀ p, H p = none → Q (.ref p) (upd H p (.lst (xs ++ ys)))
  | _, _ => False
def vSub : R2 := fun x y H Q => match x, y with
  | .int i, .int j => Q (.int (i - j)) H
  | _, _ => False
def vMul : R2 := fun x y H Q => match x, y with
  | .int i, .int j => CMul i j ∧ Q (.int (i * j)) H
  | .ref a, .int k => ∃ xs, H a = some (.lst xs) ∧ -(2 ^ 63) ≤ k ∧ k < 2 ^ 63 ∧ xs.length * k.toNat ≤ sizeLine ∧ ∀ p, H p = none → Q (.ref p) (upd H p (.lst ((List.replicate k.toNat xs).flatten)))
  | _, _ => False
def vDiv : R2 := fun x y H Q => match x, y with
  | .int i, .int j => CDiv i j ∧ Q (.int (i / j)) H
  | _, _ => False
def vMod : R2 := fun x y H Q => match x, y with
  | .int i, .int j => 0 < j ∧ Q (.int (i % j)) H
  | _, _ => False
def vPow : R2 := fun x y H Q => match x, y with
  | .int i, .int j => CPow i j ∧ Q (.int (i ^ j.toNat)) H
  | _, _ => False
def vLt : R2 := fun x y H Q => match x, y with
  | .int i, .int j => Q (.bl (decide (i < j))) H
  | _, _ => False
def vGt : R2 := fun x y H Q => match x, y with
  | .int i, .int j => Q (.bl (decide (j < i))) H
  | _, _ => False
def vLe : R2 := fun x y H Q => match x, y with
  | .int i, .int j => Q (.bl (decide (i ≤ j))) H
  | .str i, .str j => Q (.bl (!decide (j.cps.toList < i.cps.toList))) H
  | _, _ => False
def vGe : R2 := fun x y H Q => match x, y with
  | .int i, .int j => Q (.bl (decide (j ≤ i))) H
  | _, _ => False
/-- the built-in types that the rules for types know -/
def tyOk (a : String) : Bool := a == "int" || a == "str" || a == "bool" || a == "NoneType" || a == "list" || a == "tuple" || a == "dict"
section
variable {X : Cx}
theorem op_vAdd : OpR X (binaryOp .Add) vAdd := by
  intro pins s σ H x y u v Q I rx ry h
  unfold vAdd at h
  split at h
  · exact op_add pins s σ H _ _ u v Q I rx ry ⟨_, _, rfl, rfl, h⟩
  · exact op_add_str pins s σ H _ _ u v Q I rx ry ⟨_, _, rfl, rfl, h.1, h.2⟩
  · obtain ⟨xs, ys, ha, hb, hl, q⟩ := h
    exact op_cat pins s σ H _ _ u v Q I rx ry ⟨_, _, _, _, rfl, rfl, ha, hb, hl, q⟩
  · exact h.elim
theorem op_vSub : OpR X (binaryOp .Sub) vSub := by
  intro pins s σ H x y u v Q I rx ry h
  unfold vSub at h
  split at h
  · exact op_sub pins s σ H _ _ u v Q I rx ry ⟨_, _, rfl, rfl, h⟩
  · exact h.elim
theorem op_vMul : OpR X (binaryOp .Mult) vMul := by
  intro pins s σ H x y u v Q I rx ry h
  unfold vMul at h
  split at h
  · exact op_mul pins s σ H _ _ u v Q I rx ry ⟨_, _, rfl, rfl, h.1, h.2⟩
  · obtain ⟨xs, ha, h1, h2, h3, q⟩ := h
    exact op_rep pins s σ H _ _ u v Q I rx ry ⟨_, _, _, rfl, rfl, ha, h1, h2, h3, q⟩
  · exact h.elim
theorem op_vDiv : OpR X (binaryOp .FloorDiv) vDiv := by
  intro pins s σ H x y u v Q I rx ry h
  unfold vDiv at h
  split at h
  · exact op_fdiv pins s σ H _ _ u v Q I rx ry ⟨_, _, rfl, rfl, h.1, h.2⟩
  · exact h.elim
theorem op_vMod : OpR X (binaryOp .Mod) vMod := by
  intro pins s σ H x y u v Q I rx ry h
  unfold vMod at h
  split at h
  · exact op_mod pins s σ H _ _ u v Q I rx ry ⟨_, _, rfl, rfl, h.1, h.2⟩
  · exact h.elim
theorem op_vPow : OpR X (binaryOp .Pow) vPow := by
  intro pins s σ H x y u v Q I rx ry h
  unfold vPow at h
  split at h
  · exact op_pow pins s σ H _ _ u v Q I rx ry ⟨_, _, rfl, rfl, h.1, h.2⟩
  · exact h.elim
theorem op_vLt : OpR X (compareOp .Lt) vLt := by
  intro pins s σ H x y u v Q I rx ry h
  unfold vLt at h
  split at h
  · exact op_lt pins s σ H _ _ u v Q I rx ry ⟨_, _, rfl, rfl, h⟩
  · exact h.elim
theorem op_vGt : OpR X (compareOp .Gt) vGt := by
  intro pins s σ H x y u v Q I rx ry h
  unfold vGt at h
  split at h
  · exact op_gt pins s σ H _ _ u v Q I rx ry ⟨_, _, rfl, rfl, h⟩
  · exact h.elim
theorem op_vLe : OpR X (compareOp .LtE) vLe := by
  intro pins s σ H x y u v Q I rx ry h
  unfold vLe at h
  split at h
  · exact op_le pins s σ H _ _ u v Q I rx ry ⟨_, _, rfl, rfl, h⟩
  · exact op_le_str pins s σ H _ _ u v Q I rx ry ⟨_, _, rfl, rfl, h⟩
  · exact h.elim
theorem op_vGe : OpR X (compareOp .GtE) vGe := by
  intro pins s σ H x y u v Q I rx ry h
  unfold vGe at h
  split at h
  · exact op_ge pins s σ H _ _ u v Q I rx ry ⟨_, _, rfl, rfl, h⟩
  · exact h.elim
theorem meta_of {a : String} (h : tyOk a = true) : ∀ z : Shared, z.TypeIs (.type a) "type" := by
  simp only [tyOk, Bool.or_eq_true, beq_iff_eq] at h
  rcases h with (((((h | h) | h) | h) | h) | h) | h <;> subst h
  · exact TypeEq.meta_int
  · exact TypeEq.meta_str
  · exact TypeEq.meta_bool
  · exact TypeEq.meta_NoneType
  · exact TypeEq.meta_list
  · exact TypeEq.meta_tuple
  · exact TypeEq.meta_dict
theorem op_neTy : OpR X (compareOp .NotEq) (fun x y H Q => ∃ a b, x = .ty a ∧ y = .ty b ∧ tyOk a = true ∧ tyOk b = true ∧ Q (.bl (!decide (a = b))) H) := by
  intro pins s σ H x y u v Q I rx ry h
  obtain ⟨a, b, rfl, rfl, h1, h2, q⟩ := h
  cases (show u = Value.type a from rx)
  cases (show v = Value.type b from ry)
  by_cases e : a = b
  · subst e
    exact NeTy.ne_same (meta_of h1) (fin_bl I q (by simp))
  · exact NeTy.ne_other (meta_of h1) (meta_of h2) e (fin_bl I q (by simp [e]))
theorem op_eqTy : OpR X (compareOp .Eq) (fun x y H Q => ∃ a b, x = .ty a ∧ y = .ty b ∧ tyOk a = true ∧ tyOk b = true ∧ Q (.bl (decide (a = b))) H) := by
  intro pins s σ H x y u v Q I rx ry h
  obtain ⟨a, b, rfl, rfl, h1, h2, q⟩ := h
  cases (show u = Value.type a from rx)
  cases (show v = Value.type b from ry)
  by_cases e : a = b
  · subst e
    exact TypeEq.eq_type_same (meta_of h1) (fin_bl I q (by simp))
  · exact TypeEq.eq_type_other (meta_of h1) (meta_of h2) (by
      rw [beq_eq_false_iff_ne]
      intro z
      exact e (Value.type.inj z)) (fin_bl I q (by simp [e]))
end
/-- ==, !=: scalars by value; built-in types; all else as data -/
def vEq (K : PySem.W.Frag) : R2 := fun x y H Q => match x, y with
  | .ty a, .ty b => tyOk a = true ∧ tyOk b = true ∧ Q (.bl (decide (a = b))) H
  | .ref a, y => rEqD K (.ref a) y H Q
  | x, .ref b => rEqD K x (.ref b) H Q
  | x, y => scal x y = true ∧ Q (.bl (decide (x = y))) H
def vNe (K : PySem.W.Frag) : R2 := fun x y H Q => match x, y with
  | .ty a, .ty b => tyOk a = true ∧ tyOk b = true ∧ Q (.bl (!decide (a = b))) H
  | .ref a, y => rNeD K (.ref a) y H Q
  | x, .ref b => rNeD K x (.ref b) H Q
  | x, y => scal x y = true ∧ Q (.bl (!decide (x = y))) H
theorem op_vEq {X : Cx} (hu : X.A.units + 64 < cLine) : OpR X (compareOp .Eq) (vEq X.K) := by
  intro pins s σ H x y u v Q I rx ry h
  unfold vEq at h
  split at h
  · exact op_eqTy pins s σ H _ _ u v Q I rx ry ⟨_, _, rfl, rfl, h.1, h.2.1, h.2.2⟩
  · exact op_eqD hu pins s σ H _ _ u v Q I rx ry h
  · exact op_eqD hu pins s σ H _ _ u v Q I rx ry h
  · exact op_eq pins s σ H _ _ u v Q I rx ry h
theorem op_vNe {X : Cx} (hu : X.A.units + 64 < cLine) : OpR X (compareOp .NotEq) (vNe X.K) := by
  intro pins s σ H x y u v Q I rx ry h
  unfold vNe at h
  split at h
  · exact op_neTy pins s σ H _ _ u v Q I rx ry ⟨_, _, rfl, rfl, h.1, h.2.1, h.2.2⟩
  · exact op_neD hu pins s σ H _ _ u v Q I rx ry h
  · exact op_neD hu pins s σ H _ _ u v Q I rx ry h
  · exact op_ne pins s σ H _ _ u v Q I rx ry h
/-- type(x) -/
def tyOf (H : Hp) : V → Option String
  | .non => some "NoneType"
  | .bl _ => some "bool"
  | .int _ => some "int"
  | .str _ => some "str"
  | .ref a => match H a with
    | some (.lst _) => some "list"
    | some (.tup _) => some "tuple"
    | some (.dK _) => some "dict"
    | _ => none
  | _ => none
def cType : List V → Hp → VK → Prop := fun xs H Q => match xs with
  | [x] => (match tyOf H x with
    | some T => Q (.ty T) H
    | none => False)
  | _ => False

theorem tyB_of {K : PySem.W.Frag} {H : Hp} {x : V} {T : String} (h : tyOf H x = some T) : TyB K H x T := by
  unfold tyOf at h
  split at h
  · cases h; exact .non
  · cases h; exact .bl _
  · cases h; exact .int _
  · cases h; exact .str _
  · split at h
    · rename_i e; cases h; exact .lst (.inl (.inl e))
    · rename_i e; cases h; exact .tup (.inl (.inl e))
    · rename_i e; cases h; exact .dK e
    · cases h
  · cases h
theorem tyOf_of {K : PySem.W.Frag} {H : Hp} {x : V} {T : String} (h : tyOf H x = some T) : TyOf K H x (.type T) := by
  unfold tyOf at h
  split at h
  · cases h; exact .non
  · cases h; exact .bl _
  · cases h; exact .int _
  · cases h; exact .str _
  · split at h
    · rename_i e; cases h; exact .lst e
    · rename_i e; cases h; exact .tup e
    · rename_i e; cases h; exact .dK e
    · cases h
  · cases h
theorem tyOf_in {H : Hp} {x : V} {T : String} (h : tyOf H x = some T) : T ∈ ["NoneType", "bool", "int", "str", "list", "tuple", "dict"] := by
  unfold tyOf at h
  split at h
  · cases h; decide
  · cases h; decide
  · cases h; decide
  · cases h; decide
  · split at h
    · cases h; decide
    · cases h; decide
    · cases h; decide
    · cases h
  · cases h
theorem call_vType {X : Cx} : CallR X (.type "type") cType := by
  intro pins s σ H xs us Q I r h
  unfold cType at h
  split at h
  · split at h
    · rename_i T e
      exact call_type1 pins s σ H _ us Q I r ⟨_, T, rfl, tyB_of e, h⟩
    · exact h.elim
  · exact h.elim
/-- isinstance(x, T), T a built-in type -/
def isT (A T : String) : Bool := A == T || (A == "bool" && T == "int")
theorem kit_isT : ∀ A ∈ ["NoneType", "bool", "int", "str", "list", "tuple", "dict"], ∀ T ∈ ["bool", "int", "str", "list", "tuple", "dict"], kitB A T = some (isT A T) := by decide +kernel
def cIs : List V → Hp → VK → Prop := fun xs H Q => match xs with
  | [x, .ty T] => T ∈ ["bool", "int", "str", "list", "tuple", "dict"] ∧ (match tyOf H x with
    | some A => Q (.bl (isT A T)) H
    | none => False)
  | _ => False
theorem call_vIs {X : Cx} : CallR X (.builtin "isinstance") cIs := by
  intro pins s σ H xs us Q I r h
  unfold cIs at h
  split at h
  · rename_i x T
    obtain ⟨hT, h⟩ := h
    split at h
    · rename_i A e
      exact call_isi pins s σ H _ us Q I r ⟨x, .ty T, .type A, .type T, isT A T, rfl, .ty T, .base (tyOf_of e), kit_ty (kit_isT A (tyOf_in e) T hT), h⟩
    · exact h.elim
  · exact h.elim
/-! ### the module's defs by their names -/
structure Fn (P : Program) (w : World) (K : PySem.W.Frag) (mg : Str → Option Value) (base : Heap) (k : Nat) (x : Str) (ps : List Str) (sp : Sp) : Prop where
  ex : ∃ (f : Addr) (fd : FuncData), FnOk P w K mg base CX0 k f fd ps sp ∧ mg x = some (.ref f) ∧ PySem.W.keepIn K (.ref f) = true ∧ Binds K fd ps [] ∧ ∃ oc od osl, K.lookup f = some ⟨oc, od, .func fd, osl⟩
/-- one that may raise -/
structure FnX (P : Program) (w : World) (K : PySem.W.Frag) (mg : Str → Option Value) (base : Heap) (k : Nat) (x : Str) (ps : List Str) (sp : Sp) : Prop where
  ex : ∃ (f : Addr) (fd : FuncData), FnOk P w K mg base (L2.CX P w) k f fd ps sp ∧ mg x = some (.ref f) ∧ PySem.W.keepIn K (.ref f) = true ∧ Binds K fd ps []
/-- a def of the text as the top has left it -/
structure Src (K : PySem.W.Frag) (mg : Str → Option Value) (x : Str) (ps : List Str) (st : Stmt) : Prop where
  ex : ∃ (f : Addr) (fd : FuncData), Fun K x x st f fd ∧ mg x = some (.ref f) ∧ ∀ us : List Value, us.length = ps.length → bindArgs fd ⟨us, []⟩ = pure (ps.zip us)
theorem src_mk {K : PySem.W.Frag} {mg : Str → Option Value} {h : Heap} {x : Str} {ps : List Str} {st : Stmt} {f : Addr} {oc : Value} {od an : Option Addr} {osl : Array (Option Value)} {kV doc pm cd ct : Value}
    (X : K.In h) (G : h.Ns mainGlobals mg) (a : PySem.W.nsIn K mainGlobals x = some (some (.ref f)))
    (l : K.lookup f = some ⟨oc, od, .func (PySem.W.fnOf x x (defArgs st) (defBody st) (defScope st) .none kV doc pm an cd ct), osl⟩) (c : PySem.W.codeIn K cd x = true) (k : PySem.W.keepIn K (.ref f) = true)
    (hb : ∀ us : List Value, us.length = ps.length → bindArgs (PySem.W.fnOf x x (defArgs st) (defBody st) (defScope st) .none kV doc pm an cd ct) ⟨us, []⟩ = pure (ps.zip us)) : Src K mg x ps st :=
  ⟨f, _, fun_mk l c k, PySem.W.mg_of X G a, hb⟩
section
variable {P : Program} {w : World} {K : PySem.W.Frag} {mg : Str → Option Value} {base : Heap}
theorem fn_mk {x : Str} {st : Stmt} {N ps : List Str} {k : Nat} {sp : Sp} (S : Src K mg x ps st) (sc : FnScope N ps (defScope st)) (len : ∀ vs H Q E, sp vs H Q E → vs.length = ps.length)
    (hbody : ∀ (f : Addr) (cdv : Value) (A : Around) (outer : List Env) (s : Shared) (H : Hp) (vs : List V) (Q : VK) (E : XK), Room k (A.deeper (envOfC x (defScope st) s.heap.objs.size f cdv)) → sp vs H Q E →
      ∃ t, PSs (cxOf CX0 P w K mg base N x (defScope st) f cdv A outer s H E).nox (defBody st) t ∧ t { nx := fun _ H' => Q .non H', rt := Q } (start N vs) H) : Fn P w K mg base (k + 1) x ps sp := by
  obtain ⟨f, fd, F, hm, hb⟩ := S.ex
  obtain ⟨oc, od, kV, doc, pm, an, cdv, ct, osl, e, lk, hcd⟩ := id F.ex
  exact ⟨f, fd, F.ok sc len (hbody f), hm, F.kp, .all hb, oc, od, osl, lk⟩
theorem fnx_mk {x : Str} {st : Stmt} {N ps : List Str} {k : Nat} {sp : Sp} (S : Src K mg x ps st) (sc : FnScope N ps (defScope st)) (len : ∀ vs H Q E, sp vs H Q E → vs.length = ps.length)
    (hbody : ∀ (f : Addr) (cdv : Value) (A : Around) (outer : List Env) (s : Shared) (H : Hp) (vs : List V) (Q : VK) (E : XK), Room k (A.deeper (envOfC x (defScope st) s.heap.objs.size f cdv)) → sp vs H Q E →
      ∃ t, PSs (cxOf (L2.CX P w) P w K mg base N x (defScope st) f cdv A outer s H E) (defBody st) t ∧ t { nx := fun _ H' => Q .non H', rt := Q } (start N vs) H) : FnX P w K mg base (k + 1) x ps sp := by
  obtain ⟨f, fd, F, hm, hb⟩ := S.ex
  exact ⟨f, fd, F.okX sc len (hbody f), hm, F.kp, .all hb⟩
end
/-- f(..) of such a def -/
def tFn (sp : Sp) (t : TA) : TE := fun σ H Q => t σ H fun vs H1 => sp vs H1 Q E0
/-- .. that may raise: E what is wished of it, at the slots -/
def tFnX (sp : Sp) (E : L2.St → XK) (t : TA) : TE := fun σ H Q => t σ H fun vs H1 => sp vs H1 Q (E σ)
section
variable {X : Cx} {k : Nat} {ps : List Str} {sp : Sp} {x : Str} {p pos : Pos} {e : Expr} {es : List Expr} {t : TA}
theorem pe_fn (G : Fn X.prog X.w X.K X.mg X.base k x ps sp) (hr : Room k X.A) (hg : Gl X x) (ha : PA X (e :: es) t) (hdb : (x == ("__debug__" : Str)) = false := by decide)
    (he : starEach (e :: es) X.env = (false, eval e X.env) :: starEach es X.env := by rfl) (hpl : (backTo pos (starEach es X.env)).any (·.1) = false := by rfl) :
    PE X (.Call (.Name x p) (e :: es) [] pos) (tFn sp t) := by
  obtain ⟨f, fd, F, hm, hk, hb, _⟩ := G.ex
  have h := pe_call (pos := pos) (p := p) F hr hg hm hk hb .nil pass0 ha hdb he hpl
  refine ⟨fun pins s σ H Q I q => h.run pins s σ H Q I ?_⟩
  have q' : t σ H fun vs H1 => sp vs H1 Q E0 := q
  show t σ H fun vs H1 => sp (vs ++ []) H1 Q E0
  simp only [List.append_nil]
  exact q'
theorem pe_fnX {W : WX} (G : FnX X.prog X.w X.K X.mg X.base k x ps sp) (tk : Takes X W) (hr : Room k X.A) (hg : Gl X x) (ha : PA X (e :: es) t) (hdb : (x == ("__debug__" : Str)) = false := by decide)
    (he : starEach (e :: es) X.env = (false, eval e X.env) :: starEach es X.env := by rfl) (hpl : (backTo pos (starEach es X.env)).any (·.1) = false := by rfl) :
    PE X (.Call (.Name x p) (e :: es) [] pos) (tFnX sp (WE W) t) := by
  obtain ⟨f, fd, F, hm, hk, hb⟩ := G.ex
  exact pe_callS (pos := pos) (p := p) F hr hg hm hk hb (fun σ => passAt tk σ) ha hdb he hpl
end

/-! ### subscripts, in, stores -/
/-- x[y] -/
def vIx : R2 := fun x y H Q => match x with
  | .ref a => (match lstOf H a with
    | some xs => (match y with
      | .int i => ∃ v, atI xs i = some v ∧ Q v H
      | _ => False)
    | none => (match tupOf H a with
      | some xs => (match y with
        | .int i => ∃ v, atI xs i = some v ∧ Q v H
        | _ => False)
      | none => (match dicOf H a with
        | some kvs => (match keyOf y with
          | some k => ∃ v, valV kvs k = some v ∧ Q v H
          | none => False)
        | none => False)))
  | .str z => (match y with
    | .int i => z.length ≤ sizeLine ∧ ∃ c, atI z.cps.toList i = some c ∧ Q (.str ⟨#[c]⟩) H
    | _ => False)
  | _ => False
theorem dget_of {H : Hp} {a : Addr} {kvs : List (Key × V)} {y : V} {k : Key} (h : dicOf H a = some kvs) (e : keyOf y = some k) : DGet H a y (valV kvs k) :=
  .inl ⟨kvs, k, rd_dic h, keyOf_kV e, rfl⟩
theorem ix_v {X : Cx} (hu : X.A.units + 1 < cLine) : IxR X vIx := by
  intro value slice pins s σ H x y v u Q I rx ry h hs
  unfold vIx at h
  split at h
  · rename_i a
    split at h
    · rename_i xs e
      split at h
      · rename_i i
        obtain ⟨z, h1, q⟩ := h
        exact ix_list value slice pins s σ H _ _ v u Q I rx ry ⟨a, xs, i, z, rfl, rfl, sq_lst e, h1, q⟩ hs
      · exact h.elim
    · split at h
      · rename_i xs e
        split at h
        · rename_i i
          obtain ⟨z, h1, q⟩ := h
          exact ix_tup value slice pins s σ H _ _ v u Q I rx ry ⟨a, xs, i, z, rfl, rfl, sq_tup e, h1, q⟩ hs
        · exact h.elim
      · split at h
        · rename_i kvs e
          split at h
          · rename_i k ek
            obtain ⟨z, h1, q⟩ := h
            cases (show v = Value.ref a from rx)
            have g : DGet H a y (some z) := by
              rw [← h1]
              exact dget_of e ek
            exact tail_any (dict_typeIs I g) PySem.F.slot_dict_getitem.lookup (d_getItem hu I g ry fun w' s3 I3 r3 => ⟨z, H, I3, r3, q⟩) hs
          · exact h.elim
        · exact h.elim
  · rename_i z
    split at h
    · rename_i i
      obtain ⟨h1, c, h2, q⟩ := h
      exact ix_str value slice pins s σ H _ _ v u Q I rx ry ⟨z, i, c, rfl, rfl, h1, h2, q⟩ hs
    · exact h.elim
  · exact h.elim
/-- x in y -/
def vInB (neg : Bool) : R2 := fun x y H Q => match y with
  | .ref a => (match lstOf H a with
    | some xs => flatV x = true ∧ xs.all flatV = true ∧ Q (.bl (inV x xs ^^ neg)) H
    | none => (match tupOf H a with
      | some xs => flatV x = true ∧ xs.all flatV = true ∧ Q (.bl (inV x xs ^^ neg)) H
      | none => (match dicOf H a with
        | some kvs => (match keyOf x with
          | some k => Q (.bl ((valV kvs k).isSome ^^ neg)) H
          | none => False)
        | none => False)))
  | .str z => (match x with
    | .str ⟨⟨[c]⟩⟩ => Q (.bl (decide (c ∈ z.cps.toList) ^^ neg)) H
    | _ => False)
  | _ => False
theorem op_vIn {X : Cx} (hu : X.A.units + 1 < cLine) : OpR X (compareOp .In) (vInB false) := by
  intro pins s σ H x y u v Q I rx ry h
  unfold vInB at h
  split at h
  · rename_i a
    split at h
    · rename_i xs e
      exact op_in_seq pins s σ H _ _ u v Q I rx ry ⟨a, xs, rfl, .inl (sq_lst e), h.1, h.2.1, by simpa using h.2.2⟩
    · split at h
      · rename_i xs e
        exact op_in_seq pins s σ H _ _ u v Q I rx ry ⟨a, xs, rfl, .inr (sq_tup e), h.1, h.2.1, by simpa using h.2.2⟩
      · split at h
        · rename_i kvs e
          split at h
          · rename_i k ek
            cases (show v = Value.ref a from ry)
            refine d_in hu I (dget_of e ek) rx fun s3 I3 => ⟨.bl (valV kvs k).isSome, H, I3, rfl, ?_⟩
            simpa using h
          · exact h.elim
        · exact h.elim
  · rename_i z
    split at h
    · rename_i c
      exact op_in_sign pins s σ H _ _ u v Q I rx ry ⟨c, z, rfl, rfl, by simpa using h⟩
    · exact h.elim
  · exact h.elim
theorem op_vNotIn {X : Cx} (hu : X.A.units + 1 < cLine) : OpR X (compareOp .NotIn) (vInB true) := by
  intro pins s σ H x y u v Q I rx ry h
  unfold vInB at h
  split at h
  · rename_i a
    split at h
    · rename_i xs e
      exact op_notIn_seq pins s σ H _ _ u v Q I rx ry ⟨a, xs, rfl, .inl (sq_lst e), h.1, h.2.1, by simpa using h.2.2⟩
    · split at h
      · rename_i xs e
        exact op_notIn_seq pins s σ H _ _ u v Q I rx ry ⟨a, xs, rfl, .inr (sq_tup e), h.1, h.2.1, by simpa using h.2.2⟩
      · split at h
        · rename_i kvs e
          split at h
          · rename_i k ek
            cases (show v = Value.ref a from ry)
            refine d_notIn hu I (dget_of e ek) rx fun s3 I3 => ⟨.bl (!(valV kvs k).isSome), H, I3, rfl, ?_⟩
            simpa using h
          · exact h.elim
        · exact h.elim
  · rename_i z
    split at h
    · rename_i c
      exact op_notIn_sign pins s σ H _ _ u v Q I rx ry ⟨c, z, rfl, rfl, by simpa using h⟩
    · exact h.elim
  · exact h.elim
/-- o[i] = v -/
def vSet : TSet := fun o i v H Q => match o with
  | .ref a => (match H a with
    | some (.lst xs) => (match i with
      | .int k => ∃ j, ixN xs.length k = some j ∧ Q (upd H a (.lst (xs.set j v)))
      | _ => False)
    | some (.dK kvs) => (match keyOf i with
      | some k => kvs.length < sizeLine ∧ Q (upd H a (.dK (putK kvs k v)))
      | none => False)
    | _ => False)
  | _ => False
theorem set_v {X : Cx} (hu : X.A.units + 1 < cLine) : PSet X vSet := by
  intro pins s σ H o i v ov iv u Q I ro ri rv h
  unfold vSet at h
  split at h
  · rename_i a
    split at h
    · rename_i xs e
      split at h
      · rename_i k
        obtain ⟨j, h1, q⟩ := h
        exact set_list pins s σ H _ _ v ov iv u Q I ro ri rv ⟨a, xs, k, j, rfl, rfl, e, h1, q⟩
      · exact h.elim
    · rename_i kvs e
      split at h
      · rename_i k ek
        cases (show ov = Value.ref a from ro)
        have g : DPut H a i v (upd H a (.dK (putK kvs k v))) := by
          rw [keyOf_kV ek]
          exact DPut.k e h.1
        exact d_setItem hu I g ri rv fun s3 I3 => ⟨_, I3, h.2⟩
      · exact h.elim
    · exact h.elim
  · exact h.elim
/-- len(x) -/
def cLen : List V → Hp → VK → Prop := fun vs H Q => match vs with
  | [.str z] => z.length ≤ sizeLine ∧ Q (.int z.length) H
  | [.ref a] => (match lstOf H a with
    | some xs => Q (.int xs.length) H
    | none => (match tupOf H a with
      | some xs => Q (.int xs.length) H
      | none => (match dicOf H a with
        | some kvs => Q (.int kvs.length) H
        | none => False)))
  | _ => False
theorem call_vLen {X : Cx} : CallR X (.builtin "len") cLen := by
  intro pins s σ H xs us Q I r h
  unfold cLen at h
  split at h
  · exact call_len_str pins s σ H _ us Q I r ⟨_, rfl, h.1, h.2⟩
  · rename_i a
    split at h
    · rename_i xs e
      exact call_len_seq pins s σ H _ us Q I r ⟨a, xs, rfl, .inl (sq_lst e), h⟩
    · split at h
      · rename_i xs e
        exact call_len_seq pins s σ H _ us Q I r ⟨a, xs, rfl, .inr (sq_tup e), h⟩
      · split at h
        · rename_i kvs e
          obtain ⟨u, rfl, ru⟩ := vals1 r
          cases (show u = Value.ref a from ru)
          exact d_len I (rd_dic e) fun t s3 I3 => ⟨.int kvs.length, H, I3, ⟨_, rfl⟩, h⟩
        · exact h.elim
  · exact h.elim
/-- list(x) -/
def cList : List V → Hp → VK → Prop := fun vs H Q => match vs with
  | [.ref a] => (match lstOf H a with
    | some xs => ∀ p, H p = none → Q (.ref p) (upd H p (.lst xs))
    | none => (match tupOf H a with
      | some xs => ∀ p, H p = none → Q (.ref p) (upd H p (.lst xs))
      | none => False))
  | _ => False
theorem call_vList {X : Cx} : CallR X (.type "list") cList := by
  intro pins s σ H xs us Q I r h
  unfold cList at h
  split at h
  · rename_i a
    split at h
    · rename_i xs e
      exact call_list_of pins s σ H _ us Q I r ⟨a, xs, rfl, .inl (sq_lst e), h⟩
    · split at h
      · rename_i xs e
        exact call_list_of pins s σ H _ us Q I r ⟨a, xs, rfl, .inr (sq_tup e), h⟩
      · exact h.elim
  · exact h.elim
/-- int(x) of a bool or an int -/
def cInt : List V → Hp → VK → Prop := fun vs H Q => match vs with
  | [.int i] => Q (.int i) H
  | [.bl k] => Q (.int (if k = true then 1 else 0)) H
  | _ => False
theorem call_vInt {X : Cx} : CallR X (.type "int") cInt := by
  intro pins s σ H xs us Q I r h
  unfold cInt at h
  split at h
  · exact call_int1 pins s σ H _ us Q I r (.inl ⟨_, rfl, h⟩)
  · exact call_int1 pins s σ H _ us Q I r (.inr ⟨_, rfl, h⟩)
  · exact h.elim

/-! ### exceptions -/
abbrev veMro : List Value := [.type "ValueError", .type "Exception", .type "BaseException", .type "object"]
/-- an own class over ValueError, without an __init__ of its own, as the top has left it -/
structure Exn (K : PySem.W.Frag) (mg : Str → Option Value) (x : Str) (C : Addr) : Prop where
  gC : mg x = some (.ref C)
  ex : PySem.W.excIn K C veMro "ValueError.__new__" = true
  kp : PySem.W.keepIn K (.ref C) = true
  sb : PySem.W.subIn K (.ref C) (.type "BaseException") = some true
  ty : PySem.W.typeIn K (.ref C) = some (.type "type")
theorem Exn.mk_ {X : Cx} {x m : Str} {C : Addr} {j : Nat} {p p2 pos : Pos} (T : Exn X.K X.mg x C) (hg : Gl X x) (hdb : (x == ("__debug__" : Str)) = false := by decide) :
    PMk X (.Call (.Name x p) [.Constant (.str m) j p2] [] pos) (fun _ H Q => Q (.ref C) none H) :=
  pmk_own PySem.F.excBase_ValueError T.ex T.gC T.kp (raises_own T.sb T.ty) hg hdb
/-- isinstance(e, c) within the suite that holds e -/
def cIsE (K : PySem.W.Frag) (cls : Value) (d : Option Addr) (a : Addr) : List V → Hp → VK → Prop := fun xs H Q =>
  ∃ (D : Addr) (c : V) (cv : Value) (b : Bool), cls = .ref D ∧ d = none ∧ ExcC K D ∧ xs = [.ref a, c] ∧ (∀ u, RelV c u → u = cv) ∧ PySem.W.kitOne K (.ref D) cv = some b ∧ Q (.bl b) H
theorem pe_isE {X : Cx} {a : Addr} {oe : Obj} {cls : Value} {d : Option Addr} {pn : List (Addr × Obj)} {p pos : Pos} {e : Expr} {es : List Expr} {t : TA} (hz : Zc cls d oe) (hf : ∃ vs, oe.data = .fields vs)
    (hg : Gl (X.suite a ((a, oe) :: pn)) "isinstance") (hm : X.mg "isinstance" = none) (ha : PA (X.suite a ((a, oe) :: pn)) (e :: es) t)
    (he : starEach (e :: es) (X.suite a ((a, oe) :: pn)).env = (false, eval e (X.suite a ((a, oe) :: pn)).env) :: starEach es (X.suite a ((a, oe) :: pn)).env := by rfl)
    (hpl : (backTo pos (starEach es (X.suite a ((a, oe) :: pn)).env)).any (·.1) = false := by rfl) :
    PE (X.suite a ((a, oe) :: pn)) (.Call (.Name "isinstance" p) (e :: es) [] pos) (tCB (cIsE X.K cls d a) t) := by
  refine pe_callB (id := "isinstance") ?_ hg hm (by decide +kernel) ha (by decide) (by decide) he hpl
  intro pins s σ H xs us Q I r h
  obtain ⟨D, c, cv, b, rfl, rfl, C, rfl, h1, h2, q⟩ := h
  exact call_isE C hz hf pins s σ H _ us Q I r ⟨c, cv, b, rfl, h1, h2, q⟩

/-- a module's whole number -/
theorem pe_gint {X : Cx} {x : Str} {i : Int} {pos : Pos} (h : ∃ t, X.mg x = some (.int i t)) (hg : Gl X x) (hd : (x == ("__debug__" : Str)) = false := by decide) : PE X (.Name x pos) (tC (.int i)) := by
  obtain ⟨t, h⟩ := h
  exact pe_glob hg h ⟨t, rfl⟩ hd

theorem cx_K {CX : CXT} {P : Program} {w : World} {K : PySem.W.Frag} {mg : Str → Option Value} {base : Heap} {N : List Str} {qual : Str} {scope : Scope} {f : Addr} {cd : Value} {A : Around} {outer : List Env} {s : Shared} {H : Hp} {E : XK} :
    (cxOf CX P w K mg base N qual scope f cd A outer s H E).K = K := rfl
theorem map_int_get {ns : List Int} {j : Nat} {v : Int} (h : ns[j]? = some v) : (ns.map V.int)[j]? = some (.int v) := by
  rw [List.getElem?_map, h]
  rfl

theorem ty_ref {H : Hp} {a : Addr} {T : String} (h : tyOf H (.ref a) = some T) : T = "list" ∨ T = "tuple" ∨ T = "dict" := by
  have e : tyOf H (.ref a) = (match H a with
    | some (.lst _) => some "list"
    | some (.tup _) => some "tuple"
    | some (.dK _) => some "dict"
    | _ => none) := rfl
  rw [e] at h
  split at h
  · exact .inl (Option.some.inj h).symm
  · exact .inr (.inl (Option.some.inj h).symm)
  · exact .inr (.inr (Option.some.inj h).symm)
  · cases h
/-- the kinds of a value with a type -/
theorem ty_cases {H : Hp} {v : V} {T : String} (h : tyOf H v = some T) :
    (v = .non ∧ T = "NoneType") ∨ (∃ b, v = .bl b ∧ T = "bool") ∨ (∃ i, v = .int i ∧ T = "int") ∨ (∃ x, v = .str x ∧ T = "str") ∨ (∃ a, v = .ref a ∧ (T = "list" ∨ T = "tuple" ∨ T = "dict")) := by
  cases v with
  | non => exact .inl ⟨rfl, (Option.some.inj h).symm⟩
  | bl b => exact .inr (.inl ⟨b, rfl, (Option.some.inj h).symm⟩)
  | int i => exact .inr (.inr (.inl ⟨i, rfl, (Option.some.inj h).symm⟩))
  | str x => exact .inr (.inr (.inr (.inl ⟨x, rfl, (Option.some.inj h).symm⟩)))
  | ref a => exact .inr (.inr (.inr (.inr ⟨a, rfl, ty_ref h⟩)))
  | byt b => cases h
  | flt b => cases h
  | ty n => cases h
theorem isT_NoneType_bool : isT "NoneType" "bool" = false := by decide
theorem isT_NoneType_int : isT "NoneType" "int" = false := by decide
theorem isT_NoneType_str : isT "NoneType" "str" = false := by decide
theorem isT_NoneType_list : isT "NoneType" "list" = false := by decide
theorem isT_NoneType_tuple : isT "NoneType" "tuple" = false := by decide
theorem isT_NoneType_dict : isT "NoneType" "dict" = false := by decide
theorem isT_bool_bool : isT "bool" "bool" = true := by decide
theorem isT_bool_int : isT "bool" "int" = true := by decide
theorem isT_bool_str : isT "bool" "str" = false := by decide
theorem isT_bool_list : isT "bool" "list" = false := by decide
theorem isT_bool_tuple : isT "bool" "tuple" = false := by decide
theorem isT_bool_dict : isT "bool" "dict" = false := by decide
theorem isT_int_bool : isT "int" "bool" = false := by decide
theorem isT_int_int : isT "int" "int" = true := by decide
theorem isT_int_str : isT "int" "str" = false := by decide
theorem isT_int_list : isT "int" "list" = false := by decide
theorem isT_int_tuple : isT "int" "tuple" = false := by decide
theorem isT_int_dict : isT "int" "dict" = false := by decide
theorem isT_str_bool : isT "str" "bool" = false := by decide
theorem isT_str_int : isT "str" "int" = false := by decide
theorem isT_str_str : isT "str" "str" = true := by decide
theorem isT_str_list : isT "str" "list" = false := by decide
theorem isT_str_tuple : isT "str" "tuple" = false := by decide
theorem isT_str_dict : isT "str" "dict" = false := by decide
theorem isT_list_bool : isT "list" "bool" = false := by decide
theorem isT_list_int : isT "list" "int" = false := by decide
theorem isT_list_str : isT "list" "str" = false := by decide
theorem isT_list_list : isT "list" "list" = true := by decide
theorem isT_list_tuple : isT "list" "tuple" = false := by decide
theorem isT_list_dict : isT "list" "dict" = false := by decide
theorem isT_tuple_bool : isT "tuple" "bool" = false := by decide
theorem isT_tuple_int : isT "tuple" "int" = false := by decide
theorem isT_tuple_str : isT "tuple" "str" = false := by decide
theorem isT_tuple_list : isT "tuple" "list" = false := by decide
theorem isT_tuple_tuple : isT "tuple" "tuple" = true := by decide
theorem isT_tuple_dict : isT "tuple" "dict" = false := by decide
theorem isT_dict_bool : isT "dict" "bool" = false := by decide
theorem isT_dict_int : isT "dict" "int" = false := by decide
theorem isT_dict_str : isT "dict" "str" = false := by decide
theorem isT_dict_list : isT "dict" "list" = false := by decide
theorem isT_dict_tuple : isT "dict" "tuple" = false := by decide
theorem isT_dict_dict : isT "dict" "dict" = true := by decide

/-- what walk_of asks of the law's own def -/
theorem fin_of {P : Program} {w : World} {K : PySem.W.Frag} {mg : Str → Option Value} {x p : Str} {st : Stmt} {fa : Addr} {k : Nat} {sp : Sp} (S : Src K mg x [p] st) (hfa : mg x = some (.ref fa))
    (h : ∀ base : Heap, Fn P w K mg base k x [p] sp) : ∃ fd : FuncData, (∀ (s : Shared) (u : Value), BindsTo s fd ⟨[u], []⟩ [(p, u)]) ∧
      ∀ base : Heap, K.In base → base.Ns mainGlobals mg → FnOk P w K mg base CX0 k fa fd [p] sp := by
  obtain ⟨f, fd, F, hm, hb⟩ := S.ex
  obtain ⟨oc, od, kV, doc, pm, an, cdv, ct, osl, e, lk, hcd⟩ := id F.ex
  have e1 : f = fa := by
    rw [hm] at hfa
    cases hfa
    rfl
  subst e1
  refine ⟨fd, fun s u => .of_eq (hb [u] rfl), fun base _ _ => ?_⟩
  obtain ⟨f2, fd2, ok, hm2, _, _, oc2, od2, osl2, lk2⟩ := (h base).ex
  have e2 : f2 = f := by
    rw [hm2] at hm
    cases hm
    rfl
  subst e2
  have e3 : fd2 = fd := by
    rw [lk] at lk2
    cases lk2
    rfl
  rw [← e3]
  exact ok

theorem kit_sub {K : PySem.W.Frag} {C : Addr} {T : String} {b : Bool} (hm : PySem.W.kitMeta T = true) (h : PySem.W.subIn K (.ref C) (.type T) = some b) : PySem.W.kitOne K (.ref C) (.type T) = some b := by
  unfold PySem.W.kitOne
  rw [if_neg (by simp)]
  unfold PySem.W.kitCls
  simp only [hm, if_true]
  exact h
theorem meta_VE : PySem.W.kitMeta "ValueError" = true := by decide +kernel
end Fw
set_option Elab.async false
set_option linter.all false
set_option maxRecDepth 100000
set_option maxHeartbeats 4000000
namespace Pf
open PySem PySem.Spec PyProof.Rows L2 Fw
/-! ### the text by places -/
def topS (i : Nat) : Stmt := PySem.Challenge.pw_escrowbook_k02_amounts.main.body.getD i (.Pass ⟨0, 0, 0, 0⟩)
abbrev s_is_amount : Stmt := topS 6
theorem sc_is_amount : FnScope ["thing"] ["thing"] (defScope s_is_amount) := ⟨rfl, rfl, rfl, by decide +kernel, rfl, by decide +kernel, by decide +kernel⟩
abbrev s_amount_of : Stmt := topS 5
theorem sc_amount_of : FnScope ["thing"] ["thing"] (defScope s_amount_of) := ⟨rfl, rfl, rfl, by decide +kernel, rfl, by decide +kernel, by decide +kernel⟩
abbrev s_whole : Stmt := topS 8
theorem sc_whole : FnScope ["_law_found"] ["_law_found"] (defScope s_whole) := ⟨rfl, rfl, rfl, by decide +kernel, rfl, by decide +kernel, by decide +kernel⟩
abbrev s_cell_at : Stmt := topS 9
theorem sc_cell_at : FnScope ["_law_script", "_law_k"] ["_law_script", "_law_k"] (defScope s_cell_at) := ⟨rfl, rfl, rfl, by decide +kernel, rfl, by decide +kernel, by decide +kernel⟩
abbrev s_thing_by : Stmt := topS 10
theorem sc_thing_by : FnScope ["_law_script", "_law_way", "_law_cell"] ["_law_script"] (defScope s_thing_by) := ⟨rfl, rfl, rfl, by decide +kernel, rfl, by decide +kernel, by decide +kernel⟩
abbrev s_refused_by_any : Stmt := topS 11
theorem sc_refused_by_any : FnScope ["_law_thing", "e"] ["_law_thing"] (defScope s_refused_by_any) := ⟨rfl, rfl, rfl, by decide +kernel, rfl, by decide +kernel, by decide +kernel⟩
abbrev s_law : Stmt := topS 12
theorem sc_law : FnScope ["_law_script", "_law_thing", "_law_refused", "_law_found"] ["_law_script"] (defScope s_law) := ⟨rfl, rfl, rfl, by decide +kernel, rfl, by decide +kernel, by decide +kernel⟩
/-! ### what the top says -/
structure Blt (mg : Str → Option Value) : Prop where
  n_type : mg "type" = none
  n_int : mg "int" = none
  n_isinstance : mg "isinstance" = none
  n_bool : mg "bool" = none
  n_len : mg "len" = none
  n_ValueError : mg "ValueError" = none

/-- is it an amount -/
def amt (H : Hp) (v : V) : Prop := ∃ i, v = .int i ∧ 1 ≤ i ∧ i ≤ 10 ^ 30

section
variable {P : Program} {w : World} {K : PySem.W.Frag} {mg : Str → Option Value} {base : Heap}
variable {CA CB : Addr}

def isA : V → Bool
  | .int i => decide (1 ≤ i) && decide (i ≤ 10 ^ 30)
  | _ => false
def sp_is_amount : Sp := fun vs H Q _ => match vs with
  | [v] => (match tyOf H v with
    | some _ => Q (.bl (isA v)) H
    | none => False)
  | _ => False

def sp_amount_of (CA : Addr) : Sp := fun vs H Q E => match vs with
  | [v] => (match tyOf H v with
    | some _ => if isA v = true then Q v H else E (.ref CA) none H
    | none => False)
  | _ => False

def isInt : V → Bool
  | .int _ => true
  | _ => false
def sp_whole : Sp := fun vs H Q _ => match vs with
  | [v] => (match tyOf H v with
    | some _ => Q (.bl (isInt v)) H
    | none => False)
  | _ => False

def cellAt (ns : List Int) (k : Nat) : Int := (ns[k]?).getD 0
def sp_cell_at (K : PySem.W.Frag) : Sp := fun vs H Q _ => match vs with
  | [.ref a, .int k] => ∃ (ns : List Int) (j : Nat), SqL K H a (ns.map V.int) ∧ k = (j : Int) ∧ Q (.int (cellAt ns j)) H
  | _ => False

def sp_thing_by (K : PySem.W.Frag) : Sp := fun vs H Q _ => match vs with
  | [.ref a] => (∃ ns : List Int, SqL K H a (ns.map V.int)) ∧ ∀ v H', Same H H' → (∃ T, tyOf H' v = some T) → Q v H'
  | _ => False

def sp_refused_by_any (K : PySem.W.Frag) : Sp := fun vs H Q _ => match vs with
  | [v] => (match tyOf H v with
    | some _ => Q (.bl (!isA v)) H
    | none => False)
  | _ => False

def sp_law (K : PySem.W.Frag) : Sp := fun vs H Q _ => match vs with
  | [.ref a] => (∃ ns : List Int, SqL K H a (ns.map V.int)) ∧ ∀ H', Q (.bl true) H'
  | _ => False
/-! ### _is_amount -/
theorem ok_is_amount (S : Src K mg "_is_amount" ["thing"] s_is_amount) (B : Blt mg) (C_GREATEST_AMOUNT : ∃ t, mg "GREATEST_AMOUNT" = some (.int (10 ^ 30) t)) : Fn P w K mg base 1 "_is_amount" ["thing"] (sp_is_amount) := by
  have sc := sc_is_amount
  refine fn_mk S sc (fun vs H Q E h => ?_) (fun f cdv A outer s H vs Q E hr h => ⟨_, (pss_cons (ps_if (pt_cmpR (op_vNe hr.units) (pe_callTy call_vType rfl B.n_type (by decide +kernel) (pa_cons (pv 0) pa_nil)) (pe_bltn (v := .ty "int") rfl B.n_int (by decide +kernel) rfl) (nomark _))
     (pss_one (ps_ret pe_bl))
     pss_nil)
     (pss_one (ps_ret (pe_chain op_vLe op_vLe pe_int (pv 0) (pe_gint C_GREATEST_AMOUNT rfl))))), ?_⟩)
  · unfold sp_is_amount at h; split at h <;> first | rfl | exact h.elim
  · unfold sp_is_amount at h
    split at h
    · rename_i v
      split at h
      · rename_i T e
        unfold cType
        try simp only [tSeq, tNext, tAsg, gName, tVar, tC, tOp, tUn, tCons, tNil, tRet, tRetN, tDrop, tIfS, tTest, tB, tAnd, tOr, tNot, tNotV, tAndV, tOrV, tIf, tFn, tFnX, tCB, tLst, tTup, tChain, tDNewK, rI, rI0, rU, List.length_replicate, Nat.sub_self, Nat.reduceSub, Nat.reduceAdd, List.replicate_zero, List.replicate_succ, List.append_nil, vAdd, vSub, vMul, vDiv, vMod, vPow, vLt, vGt, vLe, vGe, vEq, vNe, scal, Int.reduceToNat, L2.start, cx_K, List.length_cons, List.length_nil, List.map_cons, List.map_nil, List.replicate, List.cons_append, List.nil_append, List.getElem?_cons_zero, List.getElem?_cons_succ, List.set_cons_zero, List.set_cons_succ, Option.some.injEq, V.int.injEq, V.bl.injEq, V.ref.injEq, V.str.injEq, exists_eq_left', exists_eq_left, exists_eq_right, true_and, and_true, decide_eq_true_eq, ite_true, ite_false, Bool.not_true, Bool.not_false, Bool.false_eq_true, reduceCtorEq]
        rw [e]
        rcases ty_cases e with ⟨rfl, rfl⟩ | ⟨b, rfl, rfl⟩ | ⟨i, rfl, rfl⟩ | ⟨x, rfl, rfl⟩ | ⟨a, rfl, rfl | rfl | rfl⟩
        all_goals (try simp only [tSeq, tNext, tAsg, gName, tVar, tC, tOp, tUn, tCons, tNil, tRet, tRetN, tDrop, tIfS, tTest, tB, tAnd, tOr, tNot, tNotV, tAndV, tOrV, tIf, tFn, tFnX, tCB, tLst, tTup, tChain, tDNewK, rI, rI0, rU, List.length_replicate, Nat.sub_self, Nat.reduceSub, Nat.reduceAdd, List.replicate_zero, List.replicate_succ, List.append_nil, vAdd, vSub, vMul, vDiv, vMod, vPow, vLt, vGt, vLe, vGe, vEq, vNe, scal, Int.reduceToNat, L2.start, cx_K, List.length_cons, List.length_nil, List.map_cons, List.map_nil, List.replicate, List.cons_append, List.nil_append, List.getElem?_cons_zero, List.getElem?_cons_succ, List.set_cons_zero, List.set_cons_succ, Option.some.injEq, V.int.injEq, V.bl.injEq, V.ref.injEq, V.str.injEq, exists_eq_left', exists_eq_left, exists_eq_right, true_and, and_true, decide_eq_true_eq, ite_true, ite_false, Bool.not_true, Bool.not_false, Bool.false_eq_true, reduceCtorEq]; refine ⟨by decide, by decide, ?_⟩; simp only [isA] at h; simp (decide := true) only [ite_true, ite_false]; try first | exact h | done)
        show (if 1 ≤ i then _ else _)
        by_cases c : 1 ≤ i
        · rw [if_pos c]
          rw [decide_eq_true c, Bool.true_and] at h
          exact h
        · rw [if_neg c]
          rw [decide_eq_false c, Bool.false_and] at h
          exact h
      · exact h.elim
    · exact h.elim
/-! ### amount_of -/
theorem ok_amount_of (S : Src K mg "amount_of" ["thing"] s_amount_of) (B : Blt mg) (G__is_amount : Fn P w K mg base 1 "_is_amount" ["thing"] (sp_is_amount)) (X_NoAmount : Exn K mg "NoAmount" CA) : FnX P w K mg base 2 "amount_of" ["thing"] (sp_amount_of CA) := by
  have sc := sc_amount_of
  refine fnx_mk S sc (fun vs H Q E h => ?_) (fun f cdv A outer s H vs Q E hr h => ⟨_, (pss_cons (ps_if (pt_not (pt_val (pe_fn G__is_amount (hr.mono (by decide)) rfl (pa_cons (pv 0) pa_nil))))
     (pss_one (ps_raise rfl (takes_of rfl rfl rfl rfl) (X_NoAmount.mk_ rfl)))
     pss_nil)
     (pss_one (ps_ret (pv 0)))), ?_⟩)
  · unfold sp_amount_of at h; split at h <;> first | rfl | exact h.elim
  · unfold sp_amount_of at h
    split at h
    · rename_i v
      split at h
      · rename_i T e
        try simp only [tSeq, tNext, tAsg, gName, tVar, tC, tOp, tUn, tCons, tNil, tRet, tRetN, tDrop, tIfS, tTest, tB, tAnd, tOr, tNot, tNotV, tAndV, tOrV, tIf, tFn, tFnX, tCB, tLst, tTup, tChain, tDNewK, rI, rI0, rU, List.length_replicate, Nat.sub_self, Nat.reduceSub, Nat.reduceAdd, List.replicate_zero, List.replicate_succ, List.append_nil, vAdd, vSub, vMul, vDiv, vMod, vPow, vLt, vGt, vLe, vGe, vEq, vNe, scal, Int.reduceToNat, L2.start, cx_K, List.length_cons, List.length_nil, List.map_cons, List.map_nil, List.replicate, List.cons_append, List.nil_append, List.getElem?_cons_zero, List.getElem?_cons_succ, List.set_cons_zero, List.set_cons_succ, Option.some.injEq, V.int.injEq, V.bl.injEq, V.ref.injEq, V.str.injEq, exists_eq_left', exists_eq_left, exists_eq_right, true_and, and_true, decide_eq_true_eq, ite_true, ite_false, Bool.not_true, Bool.not_false, Bool.false_eq_true, reduceCtorEq]
        unfold sp_is_amount
        simp only [e]
        try simp only [tSeq, tNext, tAsg, gName, tVar, tC, tOp, tUn, tCons, tNil, tRet, tRetN, tDrop, tIfS, tTest, tB, tAnd, tOr, tNot, tNotV, tAndV, tOrV, tIf, tFn, tFnX, tCB, tLst, tTup, tChain, tDNewK, rI, rI0, rU, List.length_replicate, Nat.sub_self, Nat.reduceSub, Nat.reduceAdd, List.replicate_zero, List.replicate_succ, List.append_nil, vAdd, vSub, vMul, vDiv, vMod, vPow, vLt, vGt, vLe, vGe, vEq, vNe, scal, Int.reduceToNat, L2.start, cx_K, List.length_cons, List.length_nil, List.map_cons, List.map_nil, List.replicate, List.cons_append, List.nil_append, List.getElem?_cons_zero, List.getElem?_cons_succ, List.set_cons_zero, List.set_cons_succ, Option.some.injEq, V.int.injEq, V.bl.injEq, V.ref.injEq, V.str.injEq, exists_eq_left', exists_eq_left, exists_eq_right, true_and, and_true, decide_eq_true_eq, ite_true, ite_false, Bool.not_true, Bool.not_false, Bool.false_eq_true, reduceCtorEq]
        cases hb : isA v with
        | true =>
          rw [hb] at h
          exact h
        | false =>
          rw [hb] at h
          exact h
      · exact h.elim
    · exact h.elim
/-! ### _law_whole -/
theorem ok_whole (S : Src K mg "_law_whole" ["_law_found"] s_whole) (B : Blt mg) : Fn P w K mg base 1 "_law_whole" ["_law_found"] (sp_whole) := by
  have sc := sc_whole
  refine fn_mk S sc (fun vs H Q E h => ?_) (fun f cdv A outer s H vs Q E hr h => ⟨_, (pss_one (ps_ret (pe_and (pe_callB call_vIs rfl B.n_isinstance (by decide +kernel) (pa_cons (pv 0) (pa_cons (pe_bltn (v := .ty "int") rfl B.n_int (by decide +kernel) rfl) pa_nil))) (pe_one (pe_not (pe_callB call_vIs rfl B.n_isinstance (by decide +kernel) (pa_cons (pv 0) (pa_cons (pe_bltn (v := .ty "bool") rfl B.n_bool (by decide +kernel) rfl) pa_nil)))))))), ?_⟩)
  · unfold sp_whole at h; split at h <;> first | rfl | exact h.elim
  · unfold sp_whole at h
    split at h
    · rename_i v
      split at h
      · rename_i T e
        try simp only [tSeq, tNext, tAsg, gName, tVar, tC, tOp, tUn, tCons, tNil, tRet, tRetN, tDrop, tIfS, tTest, tB, tAnd, tOr, tNot, tNotV, tAndV, tOrV, tIf, tFn, tFnX, tCB, tLst, tTup, tChain, tDNewK, rI, rI0, rU, List.length_replicate, Nat.sub_self, Nat.reduceSub, Nat.reduceAdd, List.replicate_zero, List.replicate_succ, List.append_nil, vAdd, vSub, vMul, vDiv, vMod, vPow, vLt, vGt, vLe, vGe, vEq, vNe, scal, Int.reduceToNat, L2.start, cx_K, List.length_cons, List.length_nil, List.map_cons, List.map_nil, List.replicate, List.cons_append, List.nil_append, List.getElem?_cons_zero, List.getElem?_cons_succ, List.set_cons_zero, List.set_cons_succ, Option.some.injEq, V.int.injEq, V.bl.injEq, V.ref.injEq, V.str.injEq, exists_eq_left', exists_eq_left, exists_eq_right, true_and, and_true, decide_eq_true_eq, ite_true, ite_false, Bool.not_true, Bool.not_false, Bool.false_eq_true, reduceCtorEq]
        unfold cIs
        refine ⟨by decide, ?_⟩
        simp only [e]
        try simp only [tSeq, tNext, tAsg, gName, tVar, tC, tOp, tUn, tCons, tNil, tRet, tRetN, tDrop, tIfS, tTest, tB, tAnd, tOr, tNot, tNotV, tAndV, tOrV, tIf, tFn, tFnX, tCB, tLst, tTup, tChain, tDNewK, rI, rI0, rU, List.length_replicate, Nat.sub_self, Nat.reduceSub, Nat.reduceAdd, List.replicate_zero, List.replicate_succ, List.append_nil, vAdd, vSub, vMul, vDiv, vMod, vPow, vLt, vGt, vLe, vGe, vEq, vNe, scal, Int.reduceToNat, L2.start, cx_K, List.length_cons, List.length_nil, List.map_cons, List.map_nil, List.replicate, List.cons_append, List.nil_append, List.getElem?_cons_zero, List.getElem?_cons_succ, List.set_cons_zero, List.set_cons_succ, Option.some.injEq, V.int.injEq, V.bl.injEq, V.ref.injEq, V.str.injEq, exists_eq_left', exists_eq_left, exists_eq_right, true_and, and_true, decide_eq_true_eq, ite_true, ite_false, Bool.not_true, Bool.not_false, Bool.false_eq_true, reduceCtorEq]
        rcases ty_cases e with ⟨rfl, rfl⟩ | ⟨b, rfl, rfl⟩ | ⟨i, rfl, rfl⟩ | ⟨x, rfl, rfl⟩ | ⟨a, rfl, rfl | rfl | rfl⟩
        all_goals (simp only [isInt] at h; simp only [isT_NoneType_bool, isT_NoneType_int, isT_NoneType_str, isT_NoneType_list, isT_NoneType_tuple, isT_NoneType_dict, isT_bool_bool, isT_bool_int, isT_bool_str, isT_bool_list, isT_bool_tuple, isT_bool_dict, isT_int_bool, isT_int_int, isT_int_str, isT_int_list, isT_int_tuple, isT_int_dict, isT_str_bool, isT_str_int, isT_str_str, isT_str_list, isT_str_tuple, isT_str_dict, isT_list_bool, isT_list_int, isT_list_str, isT_list_list, isT_list_tuple, isT_list_dict, isT_tuple_bool, isT_tuple_int, isT_tuple_str, isT_tuple_list, isT_tuple_tuple, isT_tuple_dict, isT_dict_bool, isT_dict_int, isT_dict_str, isT_dict_list, isT_dict_tuple, isT_dict_dict, ite_true, ite_false, Bool.not_true, Bool.not_false, Bool.false_eq_true]; first | exact h | exact ⟨by decide, h⟩)
      · exact h.elim
    · exact h.elim
/-! ### _law_cell_at -/
theorem ok_cell_at (S : Src K mg "_law_cell_at" ["_law_script", "_law_k"] s_cell_at) (B : Blt mg) : Fn P w K mg base 1 "_law_cell_at" ["_law_script", "_law_k"] (sp_cell_at K) := by
  have sc := sc_cell_at
  refine fn_mk S sc (fun vs H Q E h => ?_) (fun f cdv A outer s H vs Q E hr h => ⟨_, (pss_cons (ps_if (pt_cmpR op_vLt (pv 1) (pe_callB call_len_seq rfl B.n_len (by decide +kernel) (pa_cons (pv 0) pa_nil)) (nomark _))
     (pss_one (ps_ret (pe_ix ix_list (pv 0) (pv 1) (fun _ _ => rfl))))
     pss_nil)
     (pss_one (ps_ret pe_int))), ?_⟩)
  · unfold sp_cell_at at h; split at h <;> first | rfl | exact h.elim
  · unfold sp_cell_at at h
    split at h
    · rename_i a k
      obtain ⟨ns, j, hS, rfl, q⟩ := h
      try simp only [tSeq, tNext, tAsg, gName, tVar, tC, tOp, tUn, tCons, tNil, tRet, tRetN, tDrop, tIfS, tTest, tB, tAnd, tOr, tNot, tNotV, tAndV, tOrV, tIf, tFn, tFnX, tCB, tLst, tTup, tChain, tDNewK, rI, rI0, rU, List.length_replicate, Nat.sub_self, Nat.reduceSub, Nat.reduceAdd, List.replicate_zero, List.replicate_succ, List.append_nil, vAdd, vSub, vMul, vDiv, vMod, vPow, vLt, vGt, vLe, vGe, vEq, vNe, scal, Int.reduceToNat, L2.start, cx_K, List.length_cons, List.length_nil, List.map_cons, List.map_nil, List.replicate, List.cons_append, List.nil_append, List.getElem?_cons_zero, List.getElem?_cons_succ, List.set_cons_zero, List.set_cons_succ, Option.some.injEq, V.int.injEq, V.bl.injEq, V.ref.injEq, V.str.injEq, exists_eq_left', exists_eq_left, exists_eq_right, true_and, and_true, decide_eq_true_eq, ite_true, ite_false, Bool.not_true, Bool.not_false, Bool.false_eq_true, reduceCtorEq]
      refine ⟨a, _, rfl, .inl hS, ?_⟩
      show (if (j : Int) < ((ns.map V.int).length : Int) then _ else _)
      rw [List.length_map]
      by_cases c : j < ns.length
      · rw [if_pos (by omega)]
        refine ⟨a, _, (j : Int), _, rfl, rfl, hS, atI_nat (map_int_get (List.getElem?_eq_getElem c)), ?_⟩
        have : cellAt ns j = ns[j] := by simp [cellAt, c]
        rw [← this]
        exact q
      · rw [if_neg (by omega)]
        have : cellAt ns j = 0 := by simp [cellAt, Nat.le_of_not_lt c]
        rw [← this]
        exact q
    · exact h.elim
/-! ### _law_thing_by -/
theorem ok_thing_by (S : Src K mg "_law_thing_by" ["_law_script"] s_thing_by) (B : Blt mg) (G__law_cell_at : Fn P w K mg base 1 "_law_cell_at" ["_law_script", "_law_k"] (sp_cell_at K)) : Fn P w K mg base 2 "_law_thing_by" ["_law_script"] (sp_thing_by K) := by
  have sc := sc_thing_by
  refine fn_mk S sc (fun vs H Q E h => ?_) (fun f cdv A outer s H vs Q E hr h => ⟨_, (pss_cons (ps_set (i := 1) sc.nd rfl (Or.inl rfl) (pe_op op_vMod (pe_fn G__law_cell_at (hr.mono (by decide)) rfl (pa_cons (pv 0) (pa_cons pe_int pa_nil))) pe_int))
     (pss_cons (ps_set (i := 2) sc.nd rfl (Or.inl rfl) (pe_fn G__law_cell_at (hr.mono (by decide)) rfl (pa_cons (pv 0) (pa_cons pe_int pa_nil))))
     (pss_cons (ps_if (pt_cmpR op_vLt (pv 1) pe_int (nomark _))
     (pss_one (ps_ret (pe_op op_vMod (pv 2) (pe_op op_vAdd (pe_op op_vPow pe_int pe_int) pe_int))))
     pss_nil)
     (pss_cons (ps_if (pt_cmpR (op_vEq hr.units) (pv 1) pe_int (nomark _))
     (pss_one (ps_ret (pe_op op_vSub (pe_op op_vMod (pv 2) pe_int) pe_int)))
     pss_nil)
     (pss_cons (ps_if (pt_cmpR (op_vEq hr.units) (pv 1) pe_int (nomark _))
     (pss_one (ps_ret (pe_op op_vAdd (pe_op op_vSub (pe_op op_vPow pe_int pe_int) pe_int) (pe_op op_vMod (pv 2) pe_int))))
     pss_nil)
     (pss_cons (ps_if (pt_cmpR (op_vEq hr.units) (pv 1) pe_int (nomark _))
     (pss_one (ps_ret (pe_op op_vSub (pe_op op_vMod (pv 2) (pe_op op_vMul pe_int (pe_op op_vPow pe_int pe_int))) (pe_op op_vPow pe_int pe_int))))
     pss_nil)
     (pss_one (ps_ret (pe_ix (ix_v (hu_of hr)) (pe_lst (pa_cons pe_bl (pa_cons pe_bl (pa_cons pe_non (pa_cons pe_str (pa_cons (pe_lst (pa_cons pe_int pa_nil)) pa_nil)))))) (pe_op op_vMod (pv 2) pe_int) (fun _ _ => rfl)))))))))), ?_⟩)
  · unfold sp_thing_by at h; split at h <;> first | rfl | exact h.elim
  · unfold sp_thing_by at h
    split at h
    · rename_i a
      obtain ⟨⟨ns, hS⟩, q⟩ := h
      try simp only [tSeq, tNext, tAsg, gName, tVar, tC, tOp, tUn, tCons, tNil, tRet, tRetN, tDrop, tIfS, tTest, tB, tAnd, tOr, tNot, tNotV, tAndV, tOrV, tIf, tFn, tFnX, tCB, tLst, tTup, tChain, tDNewK, rI, rI0, rU, List.length_replicate, Nat.sub_self, Nat.reduceSub, Nat.reduceAdd, List.replicate_zero, List.replicate_succ, List.append_nil, vAdd, vSub, vMul, vDiv, vMod, vPow, vLt, vGt, vLe, vGe, vEq, vNe, scal, Int.reduceToNat, L2.start, cx_K, List.length_cons, List.length_nil, List.map_cons, List.map_nil, List.replicate, List.cons_append, List.nil_append, List.getElem?_cons_zero, List.getElem?_cons_succ, List.set_cons_zero, List.set_cons_succ, Option.some.injEq, V.int.injEq, V.bl.injEq, V.ref.injEq, V.str.injEq, exists_eq_left', exists_eq_left, exists_eq_right, true_and, and_true, decide_eq_true_eq, ite_true, ite_false, Bool.not_true, Bool.not_false, Bool.false_eq_true, reduceCtorEq]
      unfold sp_cell_at
      refine ⟨ns, 0, hS, rfl, ?_⟩
      refine ⟨by decide, ns, 1, hS, rfl, ?_⟩
      dsimp only
      try simp only [tSeq, tNext, tAsg, gName, tVar, tC, tOp, tUn, tCons, tNil, tRet, tRetN, tDrop, tIfS, tTest, tB, tAnd, tOr, tNot, tNotV, tAndV, tOrV, tIf, tFn, tFnX, tCB, tLst, tTup, tChain, tDNewK, rI, rI0, rU, List.length_replicate, Nat.sub_self, Nat.reduceSub, Nat.reduceAdd, List.replicate_zero, List.replicate_succ, List.append_nil, vAdd, vSub, vMul, vDiv, vMod, vPow, vLt, vGt, vLe, vGe, vEq, vNe, scal, Int.reduceToNat, L2.start, cx_K, List.length_cons, List.length_nil, List.map_cons, List.map_nil, List.replicate, List.cons_append, List.nil_append, List.getElem?_cons_zero, List.getElem?_cons_succ, List.set_cons_zero, List.set_cons_succ, Option.some.injEq, V.int.injEq, V.bl.injEq, V.ref.injEq, V.str.injEq, exists_eq_left', exists_eq_left, exists_eq_right, true_and, and_true, decide_eq_true_eq, ite_true, ite_false, Bool.not_true, Bool.not_false, Bool.false_eq_true, reduceCtorEq]
      have Z : ∀ z : Int, Q (.int z) H := fun z => q _ _ (Same.refl H) ⟨_, rfl⟩
      refine ite2 (fun _ => ⟨⟨by decide, by decide, by decide⟩, by decide, Z _⟩) fun _ => ?_
      refine ite2 (fun _ => ⟨by decide, Z _⟩) fun _ => ?_
      refine ite2 (fun _ => ⟨⟨by decide, by decide, by decide⟩, by decide, Z _⟩) fun _ => ?_
      refine ite2 (fun _ => ⟨⟨by decide, by decide, by decide⟩, .inl ⟨by decide, by decide⟩, by decide, ⟨by decide, by decide, by decide⟩, Z _⟩) fun _ => ?_
      refine ⟨by decide, fun p hp => ⟨by decide, fun p1 hp1 => ⟨by decide, ?_⟩⟩⟩
      have ne : p ≠ p1 := ne_of_none upd_same hp1
      have s2 : Same H (upd (upd H p (.lst [.int 5])) p1 (.lst [.bl true, .bl false, .non, .str "5", .ref p])) := fun b o e => by
        rw [upd_ne (ne_of_none (by rw [upd_ne (ne_of_none e hp)]; exact e) hp1), upd_ne (ne_of_none e hp)]
        exact e
      have a1 := Int.emod_nonneg (cellAt ns 1) (b := 5) (by decide)
      have a2 := Int.emod_lt_of_pos (cellAt ns 1) (b := 5) (by decide)
      have L : lstOf (upd (upd H p (.lst [.int 5])) p1 (.lst [.bl true, .bl false, .non, .str "5", .ref p])) p1 = some [.bl true, .bl false, .non, .str "5", .ref p] := by
        unfold lstOf
        rw [upd_same]
      unfold vIx
      simp only [L]
      generalize cellAt ns 1 % 5 = z at a1 a2 ⊢
      have hz : z = 0 ∨ z = 1 ∨ z = 2 ∨ z = 3 ∨ z = 4 := by omega
      rcases hz with rfl | rfl | rfl | rfl | rfl
      · exact ⟨_, rfl, q _ _ s2 ⟨_, rfl⟩⟩
      · exact ⟨_, rfl, q _ _ s2 ⟨_, rfl⟩⟩
      · exact ⟨_, rfl, q _ _ s2 ⟨_, rfl⟩⟩
      · exact ⟨_, rfl, q _ _ s2 ⟨_, rfl⟩⟩
      · refine ⟨_, rfl, q _ _ s2 ⟨"list", ?_⟩⟩
        show (match upd (upd H p (.lst [.int 5])) p1 (.lst [.bl true, .bl false, .non, .str "5", .ref p]) p with
          | some (.lst _) => some "list"
          | some (.tup _) => some "tuple"
          | some (.dK _) => some "dict"
          | _ => none) = some "list"
        rw [upd_ne ne, upd_same]
    · exact h.elim
/-! ### _law_refused_by_any -/
theorem ok_refused_by_any (S : Src K mg "_law_refused_by_any" ["_law_thing"] s_refused_by_any) (B : Blt mg) (G_amount_of : FnX P w K mg base 2 "amount_of" ["thing"] (sp_amount_of CA)) (X_BookError : Exn K mg "BookError" CB) (mAB : PySem.W.exmOne K (.ref CA) (.ref CB) = some true) (cA : ExcC K CA) (kA : PySem.W.kitOne K (.ref CA) (.type "ValueError") = some true) : Fn P w K mg base 3 "_law_refused_by_any" ["_law_thing"] (sp_refused_by_any K) := by
  have sc := sc_refused_by_any
  refine fn_mk S sc (fun vs H Q E h => ?_) (fun f cdv A outer s H vs Q E hr h => ⟨_, (pss_cons (ps_try_as (i := 1) rfl rfl sc.nd rfl rfl ⟨rfl, by decide, .inl X_BookError.gC⟩ takes0 (fun W pn xe tk _ =>
     (pss_one (ps_expr (pe_fnX G_amount_of tk (hr.mono (by decide)) rfl (pa_cons (pv 0) pa_nil)))))
     (fun a oe cls d pn hz hf => (pss_one (ps_ret (pe_isE hz hf rfl B.n_isinstance (pa_cons (pv 1) (pa_cons (pe_bltn (v := .ty "ValueError") rfl B.n_ValueError (by decide +kernel) rfl) pa_nil)))))))
     (pss_one (ps_ret pe_bl))), ?_⟩)
  · unfold sp_refused_by_any at h; split at h <;> first | rfl | exact h.elim
  · unfold sp_refused_by_any at h
    split at h
    · rename_i v
      split at h
      · rename_i T e
        try simp only [tSeq, tNext, tAsg, gName, tVar, tC, tOp, tUn, tCons, tNil, tRet, tRetN, tDrop, tIfS, tTest, tB, tAnd, tOr, tNot, tNotV, tAndV, tOrV, tIf, tFn, tFnX, tCB, tLst, tTup, tChain, tDNewK, rI, rI0, rU, List.length_replicate, Nat.sub_self, Nat.reduceSub, Nat.reduceAdd, List.replicate_zero, List.replicate_succ, List.append_nil, vAdd, vSub, vMul, vDiv, vMod, vPow, vLt, vGt, vLe, vGe, vEq, vNe, scal, Int.reduceToNat, L2.start, cx_K, List.length_cons, List.length_nil, List.map_cons, List.map_nil, List.replicate, List.cons_append, List.nil_append, List.getElem?_cons_zero, List.getElem?_cons_succ, List.set_cons_zero, List.set_cons_succ, Option.some.injEq, V.int.injEq, V.bl.injEq, V.ref.injEq, V.str.injEq, exists_eq_left', exists_eq_left, exists_eq_right, true_and, and_true, decide_eq_true_eq, ite_true, ite_false, Bool.not_true, Bool.not_false, Bool.false_eq_true, reduceCtorEq]
        unfold sp_amount_of
        simp only [e]
        cases hb : isA v with
        | true =>
          rw [hb] at h
          exact h
        | false =>
          rw [hb] at h
          refine ⟨true, mAB, fun _ a na => ?_, fun z => nomatch z⟩
          try simp only [tSeq, tNext, tAsg, gName, tVar, tC, tOp, tUn, tCons, tNil, tRet, tRetN, tDrop, tIfS, tTest, tB, tAnd, tOr, tNot, tNotV, tAndV, tOrV, tIf, tFn, tFnX, tCB, tLst, tTup, tChain, tDNewK, rI, rI0, rU, List.length_replicate, Nat.sub_self, Nat.reduceSub, Nat.reduceAdd, List.replicate_zero, List.replicate_succ, List.append_nil, vAdd, vSub, vMul, vDiv, vMod, vPow, vLt, vGt, vLe, vGe, vEq, vNe, scal, Int.reduceToNat, L2.start, cx_K, List.length_cons, List.length_nil, List.map_cons, List.map_nil, List.replicate, List.cons_append, List.nil_append, List.getElem?_cons_zero, List.getElem?_cons_succ, List.set_cons_zero, List.set_cons_succ, Option.some.injEq, V.int.injEq, V.bl.injEq, V.ref.injEq, V.str.injEq, exists_eq_left', exists_eq_left, exists_eq_right, true_and, and_true, decide_eq_true_eq, ite_true, ite_false, Bool.not_true, Bool.not_false, Bool.false_eq_true, reduceCtorEq]
          exact ⟨CA, _, _, true, rfl, rfl, cA, rfl, fun u r => r, kA, h⟩
      · exact h.elim
    · exact h.elim
/-! ### law -/
theorem ok_law (S : Src K mg "law" ["_law_script"] s_law) (B : Blt mg) (G_amount_of : FnX P w K mg base 2 "amount_of" ["thing"] (sp_amount_of CA)) (G__law_whole : Fn P w K mg base 1 "_law_whole" ["_law_found"] (sp_whole)) (G__law_thing_by : Fn P w K mg base 2 "_law_thing_by" ["_law_script"] (sp_thing_by K)) (G__law_refused_by_any : Fn P w K mg base 3 "_law_refused_by_any" ["_law_thing"] (sp_refused_by_any K)) (X_NoAmount : Exn K mg "NoAmount" CA) (mAA : PySem.W.exmOne K (.ref CA) (.ref CA) = some true) : Fn P w K mg base 4 "law" ["_law_script"] (sp_law K) := by
  have sc := sc_law
  refine fn_mk S sc (fun vs H Q E h => ?_) (fun f cdv A outer s H vs Q E hr h => ⟨_, (pss_cons (ps_set (i := 1) sc.nd rfl (Or.inl rfl) (pe_fn G__law_thing_by (hr.mono (by decide)) rfl (pa_cons (pv 0) pa_nil)))
     (pss_cons (ps_set (i := 2) sc.nd rfl (Or.inl rfl) pe_bl)
     (pss_cons (ps_set (i := 3) sc.nd rfl (Or.inl rfl) pe_non)
     (pss_cons (ps_try_only rfl rfl ⟨rfl, by decide, .inl X_NoAmount.gC⟩ takes0 (fun W pn xe tk _ =>
     (pss_one (ps_set (i := 3) sc.nd rfl (Or.inl rfl) (pe_fnX G_amount_of tk (hr.mono (by decide)) rfl (pa_cons (pv 1) pa_nil)))))
     (fun a oe cls d pn hz hf => (pss_one (ps_set (i := 2) sc.nd rfl (Or.inl rfl) pe_bl))))
     (pss_cons (ps_if (PW.pt (pw_or (pt_not (pt_val (pe_fn G__law_whole (hr.mono (by decide)) rfl (pa_cons (pv 1) pa_nil)))) (pw_or (pt_cmpR op_vLt (pv 1) pe_int (nomark _)) (pw_or1 (pt_cmpR op_vGt (pv 1) (pe_op op_vPow pe_int pe_int) (nomark _))))))
     (pss_one (ps_ret (pe_and (pv 2) (pe_one (pe_fn G__law_refused_by_any (hr.mono (by decide)) rfl (pa_cons (pv 1) pa_nil))))))
     pss_nil)
     (pss_one (ps_ret (pe_and (pe_not (pv 2)) (pe_and (pe_fn G__law_whole (hr.mono (by decide)) rfl (pa_cons (pv 3) pa_nil)) (pe_one (pe_cmpR (op_vEq hr.units) (pv 3) (pv 1) (nomark _)))))))))))), ?_⟩)
  · unfold sp_law at h; split at h <;> first | rfl | exact h.elim
  · unfold sp_law at h
    split at h
    · rename_i a
      obtain ⟨hS, q⟩ := h
      try simp only [tSeq, tNext, tAsg, gName, tVar, tC, tOp, tUn, tCons, tNil, tRet, tRetN, tDrop, tIfS, tTest, tB, tAnd, tOr, tNot, tNotV, tAndV, tOrV, tIf, tFn, tFnX, tCB, tLst, tTup, tChain, tDNewK, rI, rI0, rU, List.length_replicate, Nat.sub_self, Nat.reduceSub, Nat.reduceAdd, List.replicate_zero, List.replicate_succ, List.append_nil, vAdd, vSub, vMul, vDiv, vMod, vPow, vLt, vGt, vLe, vGe, vEq, vNe, scal, Int.reduceToNat, L2.start, cx_K, List.length_cons, List.length_nil, List.map_cons, List.map_nil, List.replicate, List.cons_append, List.nil_append, List.getElem?_cons_zero, List.getElem?_cons_succ, List.set_cons_zero, List.set_cons_succ, Option.some.injEq, V.int.injEq, V.bl.injEq, V.ref.injEq, V.str.injEq, exists_eq_left', exists_eq_left, exists_eq_right, true_and, and_true, decide_eq_true_eq, ite_true, ite_false, Bool.not_true, Bool.not_false, Bool.false_eq_true, reduceCtorEq]
      unfold sp_thing_by
      refine ⟨hS, fun v H' sm hv => ?_⟩
      obtain ⟨T, e⟩ := hv
      try simp only [tSeq, tNext, tAsg, gName, tVar, tC, tOp, tUn, tCons, tNil, tRet, tRetN, tDrop, tIfS, tTest, tB, tAnd, tOr, tNot, tNotV, tAndV, tOrV, tIf, tFn, tFnX, tCB, tLst, tTup, tChain, tDNewK, rI, rI0, rU, List.length_replicate, Nat.sub_self, Nat.reduceSub, Nat.reduceAdd, List.replicate_zero, List.replicate_succ, List.append_nil, vAdd, vSub, vMul, vDiv, vMod, vPow, vLt, vGt, vLe, vGe, vEq, vNe, scal, Int.reduceToNat, L2.start, cx_K, List.length_cons, List.length_nil, List.map_cons, List.map_nil, List.replicate, List.cons_append, List.nil_append, List.getElem?_cons_zero, List.getElem?_cons_succ, List.set_cons_zero, List.set_cons_succ, Option.some.injEq, V.int.injEq, V.bl.injEq, V.ref.injEq, V.str.injEq, exists_eq_left', exists_eq_left, exists_eq_right, true_and, and_true, decide_eq_true_eq, ite_true, ite_false, Bool.not_true, Bool.not_false, Bool.false_eq_true, reduceCtorEq]
      unfold sp_amount_of
      simp only [e]
      cases hb : isA v with
      | true =>
        obtain ⟨i, rfl⟩ : ∃ i, v = .int i := by
          cases v <;> first | exact ⟨_, rfl⟩ | cases hb
        simp only [isA, Bool.and_eq_true, decide_eq_true_eq] at hb
        unfold sp_whole
        simp only [e, ite_true]
        try simp only [tSeq, tNext, tAsg, gName, tVar, tC, tOp, tUn, tCons, tNil, tRet, tRetN, tDrop, tIfS, tTest, tB, tAnd, tOr, tNot, tNotV, tAndV, tOrV, tIf, tFn, tFnX, tCB, tLst, tTup, tChain, tDNewK, rI, rI0, rU, List.length_replicate, Nat.sub_self, Nat.reduceSub, Nat.reduceAdd, List.replicate_zero, List.replicate_succ, List.append_nil, vAdd, vSub, vMul, vDiv, vMod, vPow, vLt, vGt, vLe, vGe, vEq, vNe, scal, Int.reduceToNat, L2.start, cx_K, List.length_cons, List.length_nil, List.map_cons, List.map_nil, List.replicate, List.cons_append, List.nil_append, List.getElem?_cons_zero, List.getElem?_cons_succ, List.set_cons_zero, List.set_cons_succ, Option.some.injEq, V.int.injEq, V.bl.injEq, V.ref.injEq, V.str.injEq, exists_eq_left', exists_eq_left, exists_eq_right, true_and, and_true, decide_eq_true_eq, ite_true, ite_false, Bool.not_true, Bool.not_false, Bool.false_eq_true, reduceCtorEq]
        simp only [isInt, Bool.not_true, Bool.false_eq_true, ite_false, ite_true, decide_true]
        rw [if_neg (by omega)]
        refine ⟨⟨by decide, by decide, by decide⟩, ?_⟩
        rw [if_neg (by omega)]
        exact q _
      | false =>
        refine ⟨true, mAA, fun _ b nb => ?_, fun z => nomatch z⟩
        try simp only [tSeq, tNext, tAsg, gName, tVar, tC, tOp, tUn, tCons, tNil, tRet, tRetN, tDrop, tIfS, tTest, tB, tAnd, tOr, tNot, tNotV, tAndV, tOrV, tIf, tFn, tFnX, tCB, tLst, tTup, tChain, tDNewK, rI, rI0, rU, List.length_replicate, Nat.sub_self, Nat.reduceSub, Nat.reduceAdd, List.replicate_zero, List.replicate_succ, List.append_nil, vAdd, vSub, vMul, vDiv, vMod, vPow, vLt, vGt, vLe, vGe, vEq, vNe, scal, Int.reduceToNat, L2.start, cx_K, List.length_cons, List.length_nil, List.map_cons, List.map_nil, List.replicate, List.cons_append, List.nil_append, List.getElem?_cons_zero, List.getElem?_cons_succ, List.set_cons_zero, List.set_cons_succ, Option.some.injEq, V.int.injEq, V.bl.injEq, V.ref.injEq, V.str.injEq, exists_eq_left', exists_eq_left, exists_eq_right, true_and, and_true, decide_eq_true_eq, ite_true, ite_false, Bool.not_true, Bool.not_false, Bool.false_eq_true, reduceCtorEq]
        unfold sp_whole
        simp only [e]
        have R : sp_refused_by_any K [v] H' Q E0 := by
          unfold sp_refused_by_any
          simp only [e, hb]
          exact q _
        try simp only [tSeq, tNext, tAsg, gName, tVar, tC, tOp, tUn, tCons, tNil, tRet, tRetN, tDrop, tIfS, tTest, tB, tAnd, tOr, tNot, tNotV, tAndV, tOrV, tIf, tFn, tFnX, tCB, tLst, tTup, tChain, tDNewK, rI, rI0, rU, List.length_replicate, Nat.sub_self, Nat.reduceSub, Nat.reduceAdd, List.replicate_zero, List.replicate_succ, List.append_nil, vAdd, vSub, vMul, vDiv, vMod, vPow, vLt, vGt, vLe, vGe, vEq, vNe, scal, Int.reduceToNat, L2.start, cx_K, List.length_cons, List.length_nil, List.map_cons, List.map_nil, List.replicate, List.cons_append, List.nil_append, List.getElem?_cons_zero, List.getElem?_cons_succ, List.set_cons_zero, List.set_cons_succ, Option.some.injEq, V.int.injEq, V.bl.injEq, V.ref.injEq, V.str.injEq, exists_eq_left', exists_eq_left, exists_eq_right, true_and, and_true, decide_eq_true_eq, ite_true, ite_false, Bool.not_true, Bool.not_false, Bool.false_eq_true, reduceCtorEq]
        cases v with
        | int i =>
          simp only [isInt, Bool.not_true, Bool.false_eq_true, ite_false, ite_true, decide_true]
          refine ite2 (fun _ => R) fun c1 => ⟨⟨by decide, by decide, by decide⟩, ite2 (fun _ => R) fun c2 => ?_⟩
          simp only [isA, Bool.and_eq_false_iff, decide_eq_false_iff_not] at hb
          omega
        | _ => exact R
    · exact h.elim
end

/-- all of it from what the top has left -/
theorem all_ok {P : Program} {w : World} {K : PySem.W.Frag} {mg : Str → Option Value} {CA CB : Addr} (B : Blt mg)
  (S_is_amount : Src K mg "_is_amount" ["thing"] s_is_amount) (S_amount_of : Src K mg "amount_of" ["thing"] s_amount_of) (S_whole : Src K mg "_law_whole" ["_law_found"] s_whole) (S_cell_at : Src K mg "_law_cell_at" ["_law_script", "_law_k"] s_cell_at) (S_thing_by : Src K mg "_law_thing_by" ["_law_script"] s_thing_by) (S_refused_by_any : Src K mg "_law_refused_by_any" ["_law_thing"] s_refused_by_any) (S_law : Src K mg "law" ["_law_script"] s_law)
  (X_NoAmount : Exn K mg "NoAmount" CA) (X_BookError : Exn K mg "BookError" CB) (cA : ExcC K CA) (kA : PySem.W.kitOne K (.ref CA) (.type "ValueError") = some true)
  (mAA : PySem.W.exmOne K (.ref CA) (.ref CA) = some true) (mAB : PySem.W.exmOne K (.ref CA) (.ref CB) = some true) (C_GREATEST_AMOUNT : ∃ t, mg "GREATEST_AMOUNT" = some (.int (10 ^ 30) t))
  (base : Heap) : Fn P w K mg base 4 "law" ["_law_script"] (sp_law K) :=
  have g1 := ok_is_amount (P := P) (w := w) (base := base) S_is_amount B C_GREATEST_AMOUNT
  have g2 := ok_amount_of S_amount_of B g1 X_NoAmount
  have g3 := ok_whole (P := P) (w := w) (base := base) S_whole B
  have g4 := ok_cell_at (P := P) (w := w) (base := base) S_cell_at B
  have g5 := ok_thing_by S_thing_by B g4
  have g6 := ok_refused_by_any S_refused_by_any B g2 X_BookError mAB cA kA
  ok_law S_law B g2 g3 g5 g6 X_NoAmount mAA

theorem all_mk {P : Program} {w : World} {K : PySem.W.Frag} {h : Heap} {mg : Str → Option Value} {fa : Addr} (X : K.In h) (G : h.Ns mainGlobals mg) (hfa : mg "law" = some (.ref fa))
    {f_is_amount : Addr} {oc_is_amount kV_is_amount doc_is_amount pm_is_amount cd_is_amount ct_is_amount : Value} {od_is_amount an_is_amount : Option Addr} {osl_is_amount : Array (Option Value)}
    {f_amount_of : Addr} {oc_amount_of kV_amount_of doc_amount_of pm_amount_of cd_amount_of ct_amount_of : Value} {od_amount_of an_amount_of : Option Addr} {osl_amount_of : Array (Option Value)}
    {f_whole : Addr} {oc_whole kV_whole doc_whole pm_whole cd_whole ct_whole : Value} {od_whole an_whole : Option Addr} {osl_whole : Array (Option Value)}
    {f_cell_at : Addr} {oc_cell_at kV_cell_at doc_cell_at pm_cell_at cd_cell_at ct_cell_at : Value} {od_cell_at an_cell_at : Option Addr} {osl_cell_at : Array (Option Value)}
    {f_thing_by : Addr} {oc_thing_by kV_thing_by doc_thing_by pm_thing_by cd_thing_by ct_thing_by : Value} {od_thing_by an_thing_by : Option Addr} {osl_thing_by : Array (Option Value)}
    {f_refused_by_any : Addr} {oc_refused_by_any kV_refused_by_any doc_refused_by_any pm_refused_by_any cd_refused_by_any ct_refused_by_any : Value} {od_refused_by_any an_refused_by_any : Option Addr} {osl_refused_by_any : Array (Option Value)}
    {f_law : Addr} {oc_law kV_law doc_law pm_law cd_law ct_law : Value} {od_law an_law : Option Addr} {osl_law : Array (Option Value)}
    {CA : Addr}
    {CB : Addr}
    (a_is_amount : PySem.W.nsIn K mainGlobals "_is_amount" = some (some (.ref f_is_amount)))
    (l_is_amount : K.lookup f_is_amount = some ⟨oc_is_amount, od_is_amount, .func (PySem.W.fnOf "_is_amount" "_is_amount" (defArgs s_is_amount) (defBody s_is_amount) (defScope s_is_amount) .none kV_is_amount doc_is_amount pm_is_amount an_is_amount cd_is_amount ct_is_amount), osl_is_amount⟩)
    (c_is_amount : PySem.W.codeIn K cd_is_amount "_is_amount" = true)
    (k_is_amount : PySem.W.keepIn K (.ref f_is_amount) = true)
    (a_amount_of : PySem.W.nsIn K mainGlobals "amount_of" = some (some (.ref f_amount_of)))
    (l_amount_of : K.lookup f_amount_of = some ⟨oc_amount_of, od_amount_of, .func (PySem.W.fnOf "amount_of" "amount_of" (defArgs s_amount_of) (defBody s_amount_of) (defScope s_amount_of) .none kV_amount_of doc_amount_of pm_amount_of an_amount_of cd_amount_of ct_amount_of), osl_amount_of⟩)
    (c_amount_of : PySem.W.codeIn K cd_amount_of "amount_of" = true)
    (k_amount_of : PySem.W.keepIn K (.ref f_amount_of) = true)
    (a_whole : PySem.W.nsIn K mainGlobals "_law_whole" = some (some (.ref f_whole)))
    (l_whole : K.lookup f_whole = some ⟨oc_whole, od_whole, .func (PySem.W.fnOf "_law_whole" "_law_whole" (defArgs s_whole) (defBody s_whole) (defScope s_whole) .none kV_whole doc_whole pm_whole an_whole cd_whole ct_whole), osl_whole⟩)
    (c_whole : PySem.W.codeIn K cd_whole "_law_whole" = true)
    (k_whole : PySem.W.keepIn K (.ref f_whole) = true)
    (a_cell_at : PySem.W.nsIn K mainGlobals "_law_cell_at" = some (some (.ref f_cell_at)))
    (l_cell_at : K.lookup f_cell_at = some ⟨oc_cell_at, od_cell_at, .func (PySem.W.fnOf "_law_cell_at" "_law_cell_at" (defArgs s_cell_at) (defBody s_cell_at) (defScope s_cell_at) .none kV_cell_at doc_cell_at pm_cell_at an_cell_at cd_cell_at ct_cell_at), osl_cell_at⟩)
    (c_cell_at : PySem.W.codeIn K cd_cell_at "_law_cell_at" = true)
    (k_cell_at : PySem.W.keepIn K (.ref f_cell_at) = true)
    (a_thing_by : PySem.W.nsIn K mainGlobals "_law_thing_by" = some (some (.ref f_thing_by)))
    (l_thing_by : K.lookup f_thing_by = some ⟨oc_thing_by, od_thing_by, .func (PySem.W.fnOf "_law_thing_by" "_law_thing_by" (defArgs s_thing_by) (defBody s_thing_by) (defScope s_thing_by) .none kV_thing_by doc_thing_by pm_thing_by an_thing_by cd_thing_by ct_thing_by), osl_thing_by⟩)
    (c_thing_by : PySem.W.codeIn K cd_thing_by "_law_thing_by" = true)
    (k_thing_by : PySem.W.keepIn K (.ref f_thing_by) = true)
    (a_refused_by_any : PySem.W.nsIn K mainGlobals "_law_refused_by_any" = some (some (.ref f_refused_by_any)))
    (l_refused_by_any : K.lookup f_refused_by_any = some ⟨oc_refused_by_any, od_refused_by_any, .func (PySem.W.fnOf "_law_refused_by_any" "_law_refused_by_any" (defArgs s_refused_by_any) (defBody s_refused_by_any) (defScope s_refused_by_any) .none kV_refused_by_any doc_refused_by_any pm_refused_by_any an_refused_by_any cd_refused_by_any ct_refused_by_any), osl_refused_by_any⟩)
    (c_refused_by_any : PySem.W.codeIn K cd_refused_by_any "_law_refused_by_any" = true)
    (k_refused_by_any : PySem.W.keepIn K (.ref f_refused_by_any) = true)
    (a_law : PySem.W.nsIn K mainGlobals "law" = some (some (.ref f_law)))
    (l_law : K.lookup f_law = some ⟨oc_law, od_law, .func (PySem.W.fnOf "law" "law" (defArgs s_law) (defBody s_law) (defScope s_law) .none kV_law doc_law pm_law an_law cd_law ct_law), osl_law⟩)
    (c_law : PySem.W.codeIn K cd_law "law" = true)
    (k_law : PySem.W.keepIn K (.ref f_law) = true)
    (z_type : PySem.W.nsIn K mainGlobals "type" = some none)
    (z_int : PySem.W.nsIn K mainGlobals "int" = some none)
    (z_isinstance : PySem.W.nsIn K mainGlobals "isinstance" = some none)
    (z_bool : PySem.W.nsIn K mainGlobals "bool" = some none)
    (z_len : PySem.W.nsIn K mainGlobals "len" = some none)
    (z_ValueError : PySem.W.nsIn K mainGlobals "ValueError" = some none)
    (e1_NoAmount : PySem.W.nsIn K mainGlobals "NoAmount" = some (some (.ref CA)))
    (e2_NoAmount : PySem.W.excIn K CA veMro "ValueError.__new__" = true)
    (e3_NoAmount : PySem.W.keepIn K (.ref CA) = true)
    (e4_NoAmount : PySem.W.subIn K (.ref CA) (.type "BaseException") = some true)
    (e5_NoAmount : PySem.W.typeIn K (.ref CA) = some (.type "type"))
    (e1_BookError : PySem.W.nsIn K mainGlobals "BookError" = some (some (.ref CB)))
    (e2_BookError : PySem.W.excIn K CB veMro "ValueError.__new__" = true)
    (e3_BookError : PySem.W.keepIn K (.ref CB) = true)
    (e4_BookError : PySem.W.subIn K (.ref CB) (.type "BaseException") = some true)
    (e5_BookError : PySem.W.typeIn K (.ref CB) = some (.type "type"))
    (h1 : PySem.W.findIn K (.ref CA) "__getattribute__" = some (some (.builtin "BaseException.__getattribute__")))
    (h2 : PySem.W.findIn K (.ref CA) "__getattr__" = some none)
    (h4 : PySem.W.hasDictIn K CA = true)
    (h5 : PySem.W.findIn K (.ref CA) "__class__" = some (some (.builtin "object.__class__")))
    (h6 : PySem.W.specialIn K (.builtin "object.__class__") "__get__" = some (some (.builtin "getset_descriptor.__get__")))
    (h7 : PySem.W.takesIn K (.builtin "object.__class__") = some true)
    (h8 : PySem.W.mroIn K CA (.type "object") = some true)
    (kA : PySem.W.subIn K (.ref CA) (.type "ValueError") = some true)
    (hdB : PySem.W.hasDictIn K CB = true)
    (sAA : PySem.W.subIn K (.ref CA) (.ref CA) = some true)
    (sAB : PySem.W.subIn K (.ref CA) (.ref CB) = some true)
    (gA : ∃ t, mg "GREATEST_AMOUNT" = some (.int (10 ^ 30) t))
    : ∃ fd : FuncData, (∀ (s : Shared) (v : Value), BindsTo s fd ⟨[v], []⟩ [("_law_script", v)]) ∧ ∀ base : Heap, K.In base → base.Ns mainGlobals mg → FnOk P w K mg base CX0 4 fa fd ["_law_script"] (sp_law K) := by
  have B : Blt mg := ⟨PySem.W.mg_none_of X G z_type, PySem.W.mg_none_of X G z_int, PySem.W.mg_none_of X G z_isinstance, PySem.W.mg_none_of X G z_bool, PySem.W.mg_none_of X G z_len, PySem.W.mg_none_of X G z_ValueError⟩
  have S_is_amount : Src K mg "_is_amount" ["thing"] s_is_amount := src_mk X G a_is_amount l_is_amount c_is_amount k_is_amount fun us hl => match us, hl with | [_], _ => rfl
  have S_amount_of : Src K mg "amount_of" ["thing"] s_amount_of := src_mk X G a_amount_of l_amount_of c_amount_of k_amount_of fun us hl => match us, hl with | [_], _ => rfl
  have S_whole : Src K mg "_law_whole" ["_law_found"] s_whole := src_mk X G a_whole l_whole c_whole k_whole fun us hl => match us, hl with | [_], _ => rfl
  have S_cell_at : Src K mg "_law_cell_at" ["_law_script", "_law_k"] s_cell_at := src_mk X G a_cell_at l_cell_at c_cell_at k_cell_at fun us hl => match us, hl with | [_, _], _ => rfl
  have S_thing_by : Src K mg "_law_thing_by" ["_law_script"] s_thing_by := src_mk X G a_thing_by l_thing_by c_thing_by k_thing_by fun us hl => match us, hl with | [_], _ => rfl
  have S_refused_by_any : Src K mg "_law_refused_by_any" ["_law_thing"] s_refused_by_any := src_mk X G a_refused_by_any l_refused_by_any c_refused_by_any k_refused_by_any fun us hl => match us, hl with | [_], _ => rfl
  have S_law : Src K mg "law" ["_law_script"] s_law := src_mk X G a_law l_law c_law k_law fun us hl => match us, hl with | [_], _ => rfl
  have X_NoAmount : Exn K mg "NoAmount" CA := ⟨PySem.W.mg_of X G e1_NoAmount, e2_NoAmount, e3_NoAmount, e4_NoAmount, e5_NoAmount⟩
  have X_BookError : Exn K mg "BookError" CB := ⟨PySem.W.mg_of X G e1_BookError, e2_BookError, e3_BookError, e4_BookError, e5_BookError⟩
  exact fin_of S_law hfa fun base => all_ok B S_is_amount S_amount_of S_whole S_cell_at S_thing_by S_refused_by_any S_law X_NoAmount X_BookError ⟨h1, h2, e4_NoAmount, h4, h5, h6, h7, h8⟩ (kit_sub meta_VE kA) (PySem.W.exm_ref e4_NoAmount h4 e5_NoAmount sAA) (PySem.W.exm_ref e4_BookError hdB e5_BookError sAB) gA base
end Pf
open PySem PySem.W PyProof.Rows
set_option maxHeartbeats 0 in
theorem PySem.Challenge.cw_escrowbook_k02_amounts_holds : PySem.Challenge.rw_escrowbook_k02_amounts.Holds := by
  w_on; o_law; k_head; (case hw => w_witness2)
  k_fill
  refine L2.walk_of (l := PySem.Challenge.rw_escrowbook_k02_amounts) (n := 63) (k := 4) (x := "_law_script") (CX := fun _ => L2.CX0) (sp := fun w => Pf.sp_law _) rfl (by decide) rfl ⟨rfl, by decide, by decide⟩ (fun w h Y => PySem.W.kIn_of Y) ?F (fun _ _ a ns hl _ hS => ⟨⟨ns, hS⟩, fun _ => rfl⟩) (fun _ _ _ _ _ h => h)
  case F =>
    intro w mg fa h KX G hmg
    refine' Pf.all_mk KX G hmg ?a_is_amount ?l_is_amount ?c_is_amount ?k_is_amount ?a_amount_of ?l_amount_of ?c_amount_of ?k_amount_of ?a_whole ?l_whole ?c_whole ?k_whole ?a_cell_at ?l_cell_at ?c_cell_at ?k_cell_at ?a_thing_by ?l_thing_by ?c_thing_by ?k_thing_by ?a_refused_by_any ?l_refused_by_any ?c_refused_by_any ?k_refused_by_any ?a_law ?l_law ?c_law ?k_law ?z_type ?z_int ?z_isinstance ?z_bool ?z_len ?z_ValueError ?e1_NoAmount ?e2_NoAmount ?e3_NoAmount ?e4_NoAmount ?e5_NoAmount ?e1_BookError ?e2_BookError ?e3_BookError ?e4_BookError ?e5_BookError ?h1 ?h2 ?h4 ?h5 ?h6 ?h7 ?h8 ?kA ?hdB ?sAA ?sAB ?gA
    (case a_is_amount => k_is)
    (case l_is_amount => k_is)
    (case c_is_amount => k_is)
    (case k_is_amount => k_is)
    (case a_amount_of => k_is)
    (case l_amount_of => k_is)
    (case c_amount_of => k_is)
    (case k_amount_of => k_is)
    (case a_whole => k_is)
    (case l_whole => k_is)
    (case c_whole => k_is)
    (case k_whole => k_is)
    (case a_cell_at => k_is)
    (case l_cell_at => k_is)
    (case c_cell_at => k_is)
    (case k_cell_at => k_is)
    (case a_thing_by => k_is)
    (case l_thing_by => k_is)
    (case c_thing_by => k_is)
    (case k_thing_by => k_is)
    (case a_refused_by_any => k_is)
    (case l_refused_by_any => k_is)
    (case c_refused_by_any => k_is)
    (case k_refused_by_any => k_is)
    (case a_law => k_is)
    (case l_law => k_is)
    (case c_law => k_is)
    (case k_law => k_is)
    (case z_type => k_is)
    (case z_int => k_is)
    (case z_isinstance => k_is)
    (case z_bool => k_is)
    (case z_len => k_is)
    (case z_ValueError => k_is)
    (case e1_NoAmount => k_is)
    (case e2_NoAmount => k_exc)
    (case e3_NoAmount => k_is)
    (case e4_NoAmount => k_is)
    (case e5_NoAmount => k_is)
    (case e1_BookError => k_is)
    (case e2_BookError => k_exc)
    (case e3_BookError => k_is)
    (case e4_BookError => k_is)
    (case e5_BookError => k_is)
    (case h1 => k_is)
    (case h2 => k_is)
    (case h4 => k_is)
    (case h5 => k_is)
    (case h6 => k_is)
    (case h7 => k_is)
    (case h8 => k_is)
    (case kA => k_is)
    (case hdB => k_is)
    (case sAA => k_is)
    (case sAB => k_is)
    (case gA => exact ⟨_, PySem.W.mg_of KX G (by k_is)⟩)
