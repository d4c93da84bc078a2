import PyProof.Rows.All
import Wide.All
import OpenK.AllK
import Wide.FinOn
import PyProof.FactsAll.object
import HandS.ForMost
import HandS.Exc
import HandS.TryOnly
import HandS.TryMany
import HandS.ExcOwn
import HandS.CallSlots
import HandS.WordsExc
import HandS.More
import HandS.IsInst
import HandS.ExcIs
import PySem.Challenge.RW_escrowbook_k01_names
set_option Elab.async false
set_option maxRecDepth 100000
namespace NeTy
open PySem PySem.TypeEq
theorem sl_ne : Slot "type" (cmpInfo .NotEq).2.1 "object.__ne__" :=
  Slot.of (n := "__ne__") (owner := "object") (by
      rw [typeLookup_type, builtinLookup_eq_fast]
      kernel_rfl) (by decide +kernel) (by decide +kernel) (by decide +kernel)
    (by first | exact .inl (by decide +kernel) | exact .inr (by decide +kernel)) (by
      rw [isSubtype_type]
      kernel_rfl)
theorem sl_ne2 : Slot "type" (cmpInfo .NotEq).2.2 "object.__ne__" :=
  Slot.of (n := "__ne__") (owner := "object") (by
      rw [typeLookup_type, builtinLookup_eq_fast]
      kernel_rfl) (by decide +kernel) (by decide +kernel) (by decide +kernel)
    (by first | exact .inl (by decide +kernel) | exact .inr (by decide +kernel)) (by
      rw [isSubtype_type]
      kernel_rfl)
section
variable {prog : Program} {w : World} {A : Around} {E : Value → Shared → Prop} {s : Shared}
/-- object's own != of two types: by == -/
theorem obj_ne {X Y : String} {R : Value} {Q : Fin → Shared → Prop} (hX : ∀ z : Shared, z.TypeIs (.type X) "type")
    (hc : wpAny (model prog w) A (call (.builtin "object.__eq__") [.type X, .type Y]) (fun v z => v = R ∧ z = s) E s)
    (hR : (R = .notImplemented ∧ Q (.done (.ret .notImplemented)) s) ∨ (∃ b, R = .bool b ∧ Q (.done (.ret (.bool (!b)))) s)) :
    wpAny (model prog w) A (Builtin.«object.__ne__» ⟨[.type X, .type Y], []⟩) Q E s := by
  unfold Builtin.«object.__ne__»
  rcases hR with ⟨rfl, hq⟩ | ⟨b, rfl, hq⟩
  all_goals
    repeat (first
      | (fail_if_success (with_reducible show wpAny _ _ (callSpecialIfBound? _ _ _) _ _ _)
         wp_step))
    refine wpAny_callSpecialIfBound?_slot (hX s) slot_type_eq (wpAny_mono hc (fun v z hv => ?_) fun _ _ e => e)
    obtain ⟨rfl, rfl⟩ := hv
  · exact wpAny_pure hq
  · exact wpAny_bind (wpAny_truthy_bool (wpAny_pure hq))
theorem call_ne {X Y : String} {R : Value} {Q : Value → Shared → Prop} (hX : ∀ z : Shared, z.TypeIs (.type X) "type")
    (hc : wpAny (model prog w) A.in1 (call (.builtin "object.__eq__") [.type X, .type Y]) (fun v z => v = R ∧ z = s) E s)
    (hR : (R = .notImplemented ∧ Q .notImplemented s) ∨ (∃ b, R = .bool b ∧ Q (.bool (!b)) s)) :
    wpAny (model prog w) A (call (.builtin "object.__ne__") [.type X, .type Y]) Q E s := by
  refine wpAny_call_entry sl_ne (hX s) F.entry_object_ne ?_ (F.args_object_ne_2 _ _)
  refine obj_ne hX hc ?_
  rcases hR with ⟨rfl, hq⟩ | ⟨b, rfl, hq⟩
  · exact .inl ⟨rfl, _, rfl, hq⟩
  · exact .inr ⟨b, rfl, _, rfl, hq⟩
/-- T != T -/
theorem ne_same {X : String} {Q : Value → Shared → Prop} (hX : ∀ z : Shared, z.TypeIs (.type X) "type") (h : Q (.bool false) s) :
    wpAny (model prog w) A (compareOp .NotEq (.type X) (.type X)) Q E s := by
  show wpAny _ A (richCompare .NotEq _ _) Q E s
  exact wpAny_richCompare_same (T := "type") (hX s) (hX s) sl_ne
    (call_ne hX (call_gives slot_type_eq (hX s) F.entry_object_eq (F.args_object_eq_2 _ _) (object_eq_same rfl (by simp)) ⟨rfl, rfl⟩)
      (.inr ⟨true, rfl, (by intro e; cases e), h⟩))
/-- T != U -/
theorem ne_other {X Y : String} {Q : Value → Shared → Prop} (hX : ∀ z : Shared, z.TypeIs (.type X) "type") (hY : ∀ z : Shared, z.TypeIs (.type Y) "type")
    (hd : X ≠ Y) (h : Q (.bool true) s) : wpAny (model prog w) A (compareOp .NotEq (.type X) (.type Y)) Q E s := by
  have d1 : (Value.type X == Value.type Y) = false := by
    rw [beq_eq_false_iff_ne]
    intro e
    exact hd (Value.type.inj e)
  have d2 : (Value.type Y == Value.type X) = false := by
    rw [beq_eq_false_iff_ne]
    intro e
    exact hd (Value.type.inj e).symm
  show wpAny _ A (richCompare .NotEq _ _) Q E s
  rcases hi : cmpInfo CmpOp.NotEq with ⟨sy, f, r⟩
  have n1 : Slot "type" f "object.__ne__" := by
    have q := sl_ne
    rw [hi] at q
    exact q
  have n2 : Slot "type" r "object.__ne__" := by
    have q := sl_ne2
    rw [hi] at q
    exact q
  simp only [richCompare, hi, (hX s).oneThing_none]
  try with_reducible refine wpAny_holding ?_
  refine wpAny_bind (wpAny_cRoomFor_or (.inl rfl) ?_)
  refine wpAny_bind (wpAny_typeOf (hX s) ?_)
  refine wpAny_bind (wpAny_typeOf (hY s) ?_)
  simp only [bne_self_eq_false, Bool.false_eq_true, if_false, pure_bind, Bool.not_false, if_true]
  refine wpAny_bind (m := tryCompare (.type X) _ (.type Y)) (wpAny_tryCompare_declines (hX s) n1 ?_)
  refine call_ne hX (call_gives slot_type_eq (hX s) F.entry_object_eq (F.args_object_eq_2 _ _) (object_eq_other rfl d1) ⟨rfl, rfl⟩) (.inl ⟨rfl, rfl, ?_⟩)
  refine wpAny_bind (m := tryCompare (.type Y) _ (.type X)) (wpAny_tryCompare_declines (hY s) n2 ?_)
  refine call_ne hY (call_gives slot_type_eq (hY s) F.entry_object_eq (F.args_object_eq_2 _ _) (object_eq_other rfl d2) ⟨rfl, rfl⟩) (.inl ⟨rfl, rfl, ?_⟩)
  refine wpAny_bind (wpAny_rule (wpAny_bind (wpAny_of_eq (isSame_plain rfl) ?_)))
  rw [d1]
  exact wpAny_pure h
end
end NeTy
set_option Elab.async false
set_option linter.all false
set_option maxRecDepth 100000
set_option maxHeartbeats 4000000
namespace Fw
open PySem PySem.Spec PyProof.Rows L2
/-! ### what is read at an address, as a function -/
def lstOf (H : Hp) (a : Addr) : Option (List V) := match H a with
  | some (.lst xs) => some xs
  | some (.frz _ (.lst xs)) => some xs
  | _ => none
def tupOf (H : Hp) (a : Addr) : Option (List V) := match H a with
  | some (.tup xs) => some xs
  | some (.frz _ (.tup xs)) => some xs
  | _ => none
def dicOf (H : Hp) (a : Addr) : Option (List (Key × V)) := match H a with
  | some (.dK kvs) => some kvs
  | some (.frz _ (.dK kvs)) => some kvs
  | _ => none
theorem sq_lst {K : PySem.W.Frag} {H : Hp} {a : Addr} {xs : List V} (h : lstOf H a = some xs) : SqL K H a xs := by
  unfold lstOf at h
  split at h
  · rename_i e; cases h; exact .inl (.inl e)
  · rename_i e; cases h; exact .inl (.inr ⟨_, e⟩)
  · cases h
theorem sq_tup {K : PySem.W.Frag} {H : Hp} {a : Addr} {xs : List V} (h : tupOf H a = some xs) : SqT K H a xs := by
  unfold tupOf at h
  split at h
  · rename_i e; cases h; exact .inl (.inl e)
  · rename_i e; cases h; exact .inl (.inr ⟨_, e⟩)
  · cases h
theorem rd_dic {H : Hp} {a : Addr} {kvs : List (Key × V)} (h : dicOf H a = some kvs) : Rd H a (.dK kvs) := by
  unfold dicOf at h
  split at h
  · rename_i e; cases h; exact .inl e
  · rename_i e; cases h; exact .inr ⟨_, e⟩
  · cases h
/-- a value as a key -/
def keyOf : V → Option Key
  | .int i => some (.inl i)
  | .str x => some (.inr x)
  | _ => none
theorem keyOf_kV {v : V} {k : Key} (h : keyOf v = some k) : v = kV k := by
  cases v <;> simp [keyOf] at h <;> subst h <;> rfl

/-! ### operations by the values' kinds -/
def vAdd : R2 := fun x y H Q => match x, y with
  | .int i, .int j => Q (.int (i + j)) H
  | .str i, .str j => i.length + j.length ≤ sizeLine ∧ Q (.str (i ++ j)) H
  | .ref a, .ref b => ∃ xs ys, H a = some (.lst xs) ∧ H b = some (.lst ys) ∧ xs.length + ys.length ≤ sizeLine ∧ ∀ p, H p = none → Q (.ref p) (upd H p (.lst (xs ++ ys)))
  | _, _ => False
def vSub : R2 := fun x y H Q => match x, y with
  | .int i, .int j => Q (.int (i - j)) H
  | _, _ => False
def vMul : R2 := fun x y H Q => match x, y with
  | .int i, .int j => CMul i j ∧ Q (.int (i * j)) H
  | .ref a, .int k => ∃ xs, H a = some (.lst xs) ∧ -(2 ^ 63) ≤ k ∧ k < 2 ^ 63 ∧ xs.length * k.toNat ≤ sizeLine ∧ ∀ p, H p = none → Q (.ref p) (upd H p (.lst ((List.replicate k.toNat xs).flatten)))
  | _, _ => False
def vDiv : R2 := fun x y H Q => match x, y with
  | .int i, .int j => CDiv i j ∧ Q (.int (i / j)) H
  | _, _ => False
def vMod : R2 := fun x y H Q => match x, y with
  | .int i, .int j => 0 < j ∧ Q (.int (i % j)) H
  | _, _ => False
def vPow : R2 := fun x y H Q => match x, y with
  | .int i, .int j => CPow i j ∧ Q (.int (i ^ j.toNat)) H
  | _, _ => False
def vLt : R2 := fun x y H Q => match x, y with
  | .int i, .int j => Q (.bl (decide (i < j))) H
  | _, _ => False
def vGt : R2 := fun x y H Q => match x, y with
  | .int i, .int j => Q (.bl (decide (j < i))) H
  | _, _ => False
def vLe : R2 := fun x y H Q => match x, y with
  | .int i, .int j => Q (.bl (decide (i ≤ j))) H
  | .str i, .str j => Q (.bl (!decide (j.cps.toList < i.cps.toList))) H
  | _, _ => False
def vGe : R2 := fun x y H Q => match x, y with
  | .int i, .int j => Q (.bl (decide (j ≤ i))) H
  | _, _ => False
/-- the built-in types that the rules for types know -/
def tyOk (a : String) : Bool := a == "int" || a == "str" || a == "bool" || a == "NoneType" || a == "list" || a == "tuple" || a == "dict"
section
variable {X : Cx}
theorem op_vAdd : OpR X (binaryOp .Add) vAdd := by
  intro pins s σ H x y u v Q I rx ry h
  unfold vAdd at h
  split at h
  · exact op_add pins s σ H _ _ u v Q I rx ry ⟨_, _, rfl, rfl, h⟩
  · exact op_add_str pins s σ H _ _ u v Q I rx ry ⟨_, _, rfl, rfl, h.1, h.2⟩
  · obtain ⟨xs, ys, ha, hb, hl, q⟩ := h
    exact op_cat pins s σ H _ _ u v Q I rx ry ⟨_, _, _, _, rfl, rfl, ha, hb, hl, q⟩
  · exact h.elim
theorem op_vSub : OpR X (binaryOp .Sub) vSub := by
  intro pins s σ H x y u v Q I rx ry h
  unfold vSub at h
  split at h
  · exact op_sub pins s σ H _ _ u v Q I rx ry ⟨_, _, rfl, rfl, h⟩
  · exact h.elim
theorem op_vMul : OpR X (binaryOp .Mult) vMul := by
  intro pins s σ H x y u v Q I rx ry h
  unfold vMul at h
  split at h
  · exact op_mul pins s σ H _ _ u v Q I rx ry ⟨_, _, rfl, rfl, h.1, h.2⟩
  · obtain ⟨xs, ha, h1, h2, h3, q⟩ := h
    exact op_rep pins s σ H _ _ u v Q I rx ry ⟨_, _, _, rfl, rfl, ha, h1, h2, h3, q⟩
  · exact h.elim
theorem op_vDiv : OpR X (binaryOp .FloorDiv) vDiv := by
  intro pins s σ H x y u v Q I rx ry h
  unfold vDiv at h
  split at h
  · exact op_fdiv pins s σ H _ _ u v Q I rx ry ⟨_, _, rfl, rfl, h.1, h.2⟩
  · exact h.elim
theorem op_vMod : OpR X (binaryOp .Mod) vMod := by
  intro pins s σ H x y u v Q I rx ry h
  unfold vMod at h
  split at h
  · exact op_mod pins s σ H _ _ u v Q I rx ry ⟨_, _, rfl, rfl, h.1, h.2⟩
  · exact h.elim
theorem op_vPow : OpR X (binaryOp .Pow) vPow := by
  intro pins s σ H x y u v Q I rx ry h
  unfold vPow at h
  split at h
  · exact op_pow pins s σ H _ _ u v Q I rx ry ⟨_, _, rfl, rfl, h.1, h.2⟩
  · exact h.elim
theorem op_vLt : OpR X (compareOp .Lt) vLt := by
  intro pins s σ H x y u v Q I rx ry h
  unfold vLt at h
  split at h
  · exact op_lt pins s σ H _ _ u v Q I rx ry ⟨_, _, rfl, rfl, h⟩
  · exact h.elim
theorem op_vGt : OpR X (compareOp .Gt) vGt := by
  intro pins s σ H x y u v Q I rx ry h
  unfold vGt at h
  split at h
  · exact op_gt pins s σ H _ _ u v Q I rx ry ⟨_, _, rfl, rfl, h⟩
  · exact h.elim
theorem op_vLe : OpR X (compareOp .LtE) vLe := by
  intro pins s σ H x y u v Q I rx ry h
  unfold vLe at h
  split at h
  · exact op_le pins s σ H _ _ u v Q I rx ry ⟨_, _, rfl, rfl, h⟩
  · exact op_le_str pins s σ H _ _ u v Q I rx ry ⟨_, _, rfl, rfl, h⟩
  · exact h.elim
theorem op_vGe : OpR X (compareOp .GtE) vGe := by
  intro pins s σ H x y u v Q I rx ry h
  unfold vGe at h
  split at h
  · exact op_ge pins s σ H _ _ u v Q I rx ry ⟨_, _, rfl, rfl, h⟩
  · exact h.elim
theorem meta_of {a : String} (h : tyOk a = true) : ∀ z : Shared, z.TypeIs (.type a) "type" := by
  simp only [tyOk, Bool.or_eq_true, beq_iff_eq] at h
  rcases h with (((((h | h) | h) | h) | h) | h) | h <;> subst h
  · exact TypeEq.meta_int
  · exact TypeEq.meta_str
  · exact TypeEq.meta_bool
  · exact TypeEq.meta_NoneType
  · exact TypeEq.meta_list
  · exact TypeEq.meta_tuple
  · exact TypeEq.meta_dict
theorem op_neTy : OpR X (compareOp .NotEq) (fun x y H Q => ∃ a b, x = .ty a ∧ y = .ty b ∧ tyOk a = true ∧ tyOk b = true ∧ Q (.bl (!decide (a = b))) H) := by
  intro pins s σ H x y u v Q I rx ry h
  obtain ⟨a, b, rfl, rfl, h1, h2, q⟩ := h
  cases (show u = Value.type a from rx)
  cases (show v = Value.type b from ry)
  by_cases e : a = b
  · subst e
    exact NeTy.ne_same (meta_of h1) (fin_bl I q (by simp))
  · exact NeTy.ne_other (meta_of h1) (meta_of h2) e (fin_bl I q (by simp [e]))
theorem op_eqTy : OpR X (compareOp .Eq) (fun x y H Q => ∃ a b, x = .ty a ∧ y = .ty b ∧ tyOk a = true ∧ tyOk b = true ∧ Q (.bl (decide (a = b))) H) := by
  intro pins s σ H x y u v Q I rx ry h
  obtain ⟨a, b, rfl, rfl, h1, h2, q⟩ := h
  cases (show u = Value.type a from rx)
  cases (show v = Value.type b from ry)
  by_cases e : a = b
  · subst e
    exact TypeEq.eq_type_same (meta_of h1) (fin_bl I q (by simp))
  · exact TypeEq.eq_type_other (meta_of h1) (meta_of h2) (by
      rw [beq_eq_false_iff_ne]
      intro z
      exact e (Value.type.inj z)) (fin_bl I q (by simp [e]))
end
/-- ==, !=: scalars by value; built-in types; all else as data -/
def vEq (K : PySem.W.Frag) : R2 := fun x y H Q => match x, y with
  | .ty a, .ty b => tyOk a = true ∧ tyOk b = true ∧ Q (.bl (decide (a = b))) H
  | .ref a, y => rEqD K (.ref a) y H Q
  | x, .ref b => rEqD K x (.ref b) H Q
  | x, y => scal x y = true ∧ Q (.bl (decide (x = y))) H
def vNe (K : PySem.W.Frag) : R2 := fun x y H Q => match x, y with
  | .ty a, .ty b => tyOk a = true ∧ tyOk b = true ∧ Q (.bl (!decide (a = b))) H
  | .ref a, y => rNeD K (.ref a) y H Q
  | x, .ref b => rNeD K x (.ref b) H Q
  | x, y => scal x y = true ∧ Q (.bl (!decide (x = y))) H
theorem op_vEq {X : Cx} (hu : X.A.units + 64 < cLine) : OpR X (compareOp .Eq) (vEq X.K) := by
  intro pins s σ H x y u v Q I rx ry h
  unfold vEq at h
  split at h
  · exact op_eqTy pins s σ H _ _ u v Q I rx ry ⟨_, _, rfl, rfl, h.1, h.2.1, h.2.2⟩
  · exact op_eqD hu pins s σ H _ _ u v Q I rx ry h
  · exact op_eqD hu pins s σ H _ _ u v Q I rx ry h
  · exact op_eq pins s σ H _ _ u v Q I rx ry h
theorem op_vNe {X : Cx} (hu : X.A.units + 64 < cLine) : OpR X (compareOp .NotEq) (vNe X.K) := by
  intro pins s σ H x y u v Q I rx ry h
  unfold vNe at h
  split at h
  · exact op_neTy pins s σ H _ _ u v Q I rx ry ⟨_, _, rfl, rfl, h.1, h.2.1, h.2.2⟩
  · exact op_neD hu pins s σ H _ _ u v Q I rx ry h
  · exact op_neD hu pins s σ H _ _ u v Q I rx ry h
  · exact op_ne pins s σ H _ _ u v Q I rx ry h
/-- type(x) -/
def tyOf (H : Hp) : V → Option String
  | .non => some "NoneType"
  | .bl _ => some "bool"
  | .int _ => some "int"
  | .str _ => some "str"
  | .ref a => match H a with
    | some (.lst _) => some "list"
    | some (.tup _) => some "tuple"
    | some (.dK _) => some "dict"
    | _ => none
  | _ => none
def cType : List V → Hp → VK → Prop := fun xs H Q => match xs with
  | [x] => (match tyOf H x with
    | some T => Q (.ty T) H
    | none => False)
  | _ => False

theorem tyB_of {K : PySem.W.Frag} {H : Hp} {x : V} {T : String} (h : tyOf H x = some T) : TyB K H x T := by
  unfold tyOf at h
  split at h
  · cases h; exact .non
  · cases h; exact .bl _
  · cases h; exact .int _
  · cases h; exact .str _
  · split at h
    · rename_i e; cases h; exact .lst (.inl (.inl e))
    · rename_i e; cases h; exact .tup (.inl (.inl e))
    · rename_i e; cases h; exact .dK e
    · cases h
  · cases h
theorem tyOf_of {K : PySem.W.Frag} {H : Hp} {x : V} {T : String} (h : tyOf H x = some T) : TyOf K H x (.type T) := by
  unfold tyOf at h
  split at h
  · cases h; exact .non
  · cases h; exact .bl _
  · cases h; exact .int _
  · cases h; exact .str _
  · split at h
    · rename_i e; cases h; exact .lst e
    · rename_i e; cases h; exact .tup e
    · rename_i e; cases h; exact .dK e
    · cases h
  · cases h
theorem tyOf_in {H : Hp} {x : V} {T : String} (h : tyOf H x = some T) : T ∈ ["NoneType", "bool", "int", "str", "list", "tuple", "dict"] := by
  unfold tyOf at h
  split at h
  · cases h; decide
  · cases h; decide
  · cases h; decide
  · cases h; decide
  · split at h
    · cases h; decide
    · cases h; decide
    · cases h; decide
    · cases h
  · cases h
theorem call_vType {X : Cx} : CallR X (.type "type") cType := by
  intro pins s σ H xs us Q I r h
  unfold cType at h
  split at h
  · split at h
    · rename_i T e
      exact call_type1 pins s σ H _ us Q I r ⟨_, T, rfl, tyB_of e, h⟩
    · exact h.elim
  · exact h.elim
/-- isinstance(x, T), T a built-in type -/
def isT (A T : String) : Bool := A == T || (A == "bool" && T == "int")
theorem kit_isT : ∀ A ∈ ["NoneType", "bool", "int", "str", "list", "tuple", "dict"], ∀ T ∈ ["bool", "int", "str", "list", "tuple", "dict"], kitB A T = some (isT A T) := by decide +kernel
def cIs : List V → Hp → VK → Prop := fun xs H Q => match xs with
  | [x, .ty T] => T ∈ ["bool", "int", "str", "list", "tuple", "dict"] ∧ (match tyOf H x with
    | some A => Q (.bl (isT A T)) H
    | none => False)
  | _ => False
theorem call_vIs {X : Cx} : CallR X (.builtin "isinstance") cIs := by
  intro pins s σ H xs us Q I r h
  unfold cIs at h
  split at h
  · rename_i x T
    obtain ⟨hT, h⟩ := h
    split at h
    · rename_i A e
      exact call_isi pins s σ H _ us Q I r ⟨x, .ty T, .type A, .type T, isT A T, rfl, .ty T, .base (tyOf_of e), kit_ty (kit_isT A (tyOf_in e) T hT), h⟩
    · exact h.elim
  · exact h.elim
/-! ### the module's defs by their names -/
structure Fn (P : Program) (w : World) (K : PySem.W.Frag) (mg : Str → Option Value) (base : Heap) (k : Nat) (x : Str) (ps : List Str) (sp : Sp) : Prop where
  ex : ∃ (f : Addr) (fd : FuncData), FnOk P w K mg base CX0 k f fd ps sp ∧ mg x = some (.ref f) ∧ PySem.W.keepIn K (.ref f) = true ∧ Binds K fd ps [] ∧ ∃ oc od osl, K.lookup f = some ⟨oc, od, .func fd, osl⟩
/-- one that may raise -/
structure FnX (P : Program) (w : World) (K : PySem.W.Frag) (mg : Str → Option Value) (base : Heap) (k : Nat) (x : Str) (ps : List Str) (sp : Sp) : Prop where
  ex : ∃ (f : Addr) (fd : FuncData), FnOk P w K mg base (L2.CX P w) k f fd ps sp ∧ mg x = some (.ref f) ∧ PySem.W.keepIn K (.ref f) = true ∧ Binds K fd ps []
/-- a def of the text as the top has left it -/
structure Src (K : PySem.W.Frag) (mg : Str → Option Value) (x : Str) (ps : List Str) (st : Stmt) : Prop where
  ex : ∃ (f : Addr) (fd : FuncData), Fun K x x st f fd ∧ mg x = some (.ref f) ∧ ∀ us : List Value, us.length = ps.length → bindArgs fd ⟨us, []⟩ = pure (ps.zip us)
theorem src_mk {K : PySem.W.Frag} {mg : Str → Option Value} {h : Heap} {x : Str} {ps : List Str} {st : Stmt} {f : Addr} {oc : Value} {od an : Option Addr} {osl : Array (Option Value)} {kV doc pm cd ct : Value}
    (X : K.In h) (G : h.Ns mainGlobals mg) (a : PySem.W.nsIn K mainGlobals x = some (some (.ref f)))
    (l : K.lookup f = some ⟨oc, od, .func (PySem.W.fnOf x x (defArgs st) (defBody st) (defScope st) .none kV doc pm an cd ct), osl⟩) (c : PySem.W.codeIn K cd x = true) (k : PySem.W.keepIn K (.ref f) = true)
    (hb : ∀ us : List Value, us.length = ps.length → bindArgs (PySem.W.fnOf x x (defArgs st) (defBody st) (defScope st) .none kV doc pm an cd ct) ⟨us, []⟩ = pure (ps.zip us)) : Src K mg x ps st :=
  ⟨f, _, fun_mk l c k, PySem.W.mg_of X G a, hb⟩
section
variable {P : Program} {w : World} {K : PySem.W.Frag} {mg : Str → Option Value} {base : Heap}
theorem fn_mk {x : Str} {st : Stmt} {N ps : List Str} {k : Nat} {sp : Sp} (S : Src K mg x ps st) (sc : FnScope N ps (defScope st)) (len : ∀ vs H Q E, sp vs H Q E → vs.length = ps.length)
    (hbody : ∀ (f : Addr) (cdv : Value) (A : Around) (outer : List Env) (s : Shared) (H : Hp) (vs : List V) (Q : VK) (E : XK), Room k (A.deeper (envOfC x (defScope st) s.heap.objs.size f cdv)) → sp vs H Q E →
      ∃ t, PSs (cxOf CX0 P w K mg base N x (defScope st) f cdv A outer s H E).nox (defBody st) t ∧ t { nx := fun _ H' => Q .non H', rt := Q } (start N vs) H) : Fn P w K mg base (k + 1) x ps sp := by
  obtain ⟨f, fd, F, hm, hb⟩ := S.ex
  obtain ⟨oc, od, kV, doc, pm, an, cdv, ct, osl, e, lk, hcd⟩ := id F.ex
  exact ⟨f, fd, F.ok sc len (hbody f), hm, F.kp, .all hb, oc, od, osl, lk⟩
theorem fnx_mk {x : Str} {st : Stmt} {N ps : List Str} {k : Nat} {sp : Sp} (S : Src K mg x ps st) (sc : FnScope N ps (defScope st)) (len : ∀ vs H Q E, sp vs H Q E → vs.length = ps.length)
    (hbody : ∀ (f : Addr) (cdv : Value) (A : Around) (outer : List Env) (s : Shared) (H : Hp) (vs : List V) (Q : VK) (E : XK), Room k (A.deeper (envOfC x (defScope st) s.heap.objs.size f cdv)) → sp vs H Q E →
      ∃ t, PSs (cxOf (L2.CX P w) P w K mg base N x (defScope st) f cdv A outer s H E) (defBody st) t ∧ t { nx := fun _ H' => Q .non H', rt := Q } (start N vs) H) : FnX P w K mg base (k + 1) x ps sp := by
  obtain ⟨f, fd, F, hm, hb⟩ := S.ex
  exact ⟨f, fd, F.okX sc len (hbody f), hm, F.kp, .all hb⟩
end
/-- f(..) of such a def -/
def tFn (sp : Sp) (t : TA) : TE := fun σ H Q => t σ H fun vs H1 => sp vs H1 Q E0
/-- .. that may raise: E what is wished of it, at the slots -/
def tFnX (sp : Sp) (E : L2.St → XK) (t : TA) : TE := fun σ H Q => t σ H fun vs H1 => sp vs H1 Q (E σ)
section
variable {X : Cx} {k : Nat} {ps : List Str} {sp : Sp} {x : Str} {p pos : Pos} {e : Expr} {es : List Expr} {t : TA}
theorem pe_fn (G : Fn X.prog X.w X.K X.mg X.base k x ps sp) (hr : Room k X.A) (hg : Gl X x) (ha : PA X (e :: es) t) (hdb : (x == ("__debug__" : Str)) = false := by decide)
    (he : starEach (e :: es) X.env = (false, eval e X.env) :: starEach es X.env := by rfl) (hpl : (backTo pos (starEach es X.env)).any (·.1) = false := by rfl) :
    PE X (.Call (.Name x p) (e :: es) [] pos) (tFn sp t) := by
  obtain ⟨f, fd, F, hm, hk, hb, _⟩ := G.ex
  have h := pe_call (pos := pos) (p := p) F hr hg hm hk hb .nil pass0 ha hdb he hpl
  refine ⟨fun pins s σ H Q I q => h.run pins s σ H Q I ?_⟩
  have q' : t σ H fun vs H1 => sp vs H1 Q E0 := q
  show t σ H fun vs H1 => sp (vs ++ []) H1 Q E0
  simp only [List.append_nil]
  exact q'
theorem pe_fnX {W : WX} (G : FnX X.prog X.w X.K X.mg X.base k x ps sp) (tk : Takes X W) (hr : Room k X.A) (hg : Gl X x) (ha : PA X (e :: es) t) (hdb : (x == ("__debug__" : Str)) = false := by decide)
    (he : starEach (e :: es) X.env = (false, eval e X.env) :: starEach es X.env := by rfl) (hpl : (backTo pos (starEach es X.env)).any (·.1) = false := by rfl) :
    PE X (.Call (.Name x p) (e :: es) [] pos) (tFnX sp (WE W) t) := by
  obtain ⟨f, fd, F, hm, hk, hb⟩ := G.ex
  exact pe_callS (pos := pos) (p := p) F hr hg hm hk hb (fun σ => passAt tk σ) ha hdb he hpl
end

/-! ### subscripts, in, stores -/
/-- x[y] -/
def vIx : R2 := fun x y H Q => match x with
  | .ref a => (match lstOf H a with
    | some xs => (match y with
      | .int i => ∃ v, atI xs i = some v ∧ Q v H
      | _ => False)
    | none => (match tupOf H a with
      | some xs => (match y with
        | .int i => ∃ v, atI xs i = some v ∧ Q v H
        | _ => False)
      | none => (match dicOf H a with
        | some kvs => (match keyOf y with
          | some k => ∃ v, valV kvs k = some v ∧ Q v H
          | none => False)
        | none => False)))
  | .str z => (match y with
    | .int i => z.length ≤ sizeLine ∧ ∃ c, atI z.cps.toList i = some c ∧ Q (.str ⟨#[c]⟩) H
    | _ => False)
  | _ => False
theorem dget_of {H : Hp} {a : Addr} {kvs : List (Key × V)} {y : V} {k : Key} (h : dicOf H a = some kvs) (e : keyOf y = some k) : DGet H a y (valV kvs k) :=
  .inl ⟨kvs, k, rd_dic h, keyOf_kV e, rfl⟩
theorem ix_v {X : Cx} (hu : X.A.units + 1 < cLine) : IxR X vIx := by
  intro value slice pins s σ H x y v u Q I rx ry h hs
  unfold vIx at h
  split at h
  · rename_i a
    split at h
    · rename_i xs e
      split at h
      · rename_i i
        obtain ⟨z, h1, q⟩ := h
        exact ix_list value slice pins s σ H _ _ v u Q I rx ry ⟨a, xs, i, z, rfl, rfl, sq_lst e, h1, q⟩ hs
      · exact h.elim
    · split at h
      · rename_i xs e
        split at h
        · rename_i i
          obtain ⟨z, h1, q⟩ := h
          exact ix_tup value slice pins s σ H _ _ v u Q I rx ry ⟨a, xs, i, z, rfl, rfl, sq_tup e, h1, q⟩ hs
        · exact h.elim
      · split at h
        · rename_i kvs e
          split at h
          · rename_i k ek
            obtain ⟨z, h1, q⟩ := h
            cases (show v = Value.ref a from rx)
            have g : DGet H a y (some z) := by
              rw [← h1]
              exact dget_of e ek
            exact tail_any (dict_typeIs I g) PySem.F.slot_dict_getitem.lookup (d_getItem hu I g ry fun w' s3 I3 r3 => ⟨z, H, I3, r3, q⟩) hs
          · exact h.elim
        · exact h.elim
  · rename_i z
    split at h
    · rename_i i
      obtain ⟨h1, c, h2, q⟩ := h
      exact ix_str value slice pins s σ H _ _ v u Q I rx ry ⟨z, i, c, rfl, rfl, h1, h2, q⟩ hs
    · exact h.elim
  · exact h.elim
/-- x in y -/
def vInB (neg : Bool) : R2 := fun x y H Q => match y with
  | .ref a => (match lstOf H a with
    | some xs => flatV x = true ∧ xs.all flatV = true ∧ Q (.bl (inV x xs ^^ neg)) H
    | none => (match tupOf H a with
      | some xs => flatV x = true ∧ xs.all flatV = true ∧ Q (.bl (inV x xs ^^ neg)) H
      | none => (match dicOf H a with
        | some kvs => (match keyOf x with
          | some k => Q (.bl ((valV kvs k).isSome ^^ neg)) H
          | none => False)
        | none => False)))
  | .str z => (match x with
    | .str ⟨⟨[c]⟩⟩ => Q (.bl (decide (c ∈ z.cps.toList) ^^ neg)) H
    | _ => False)
  | _ => False
theorem op_vIn {X : Cx} (hu : X.A.units + 1 < cLine) : OpR X (compareOp .In) (vInB false) := by
  intro pins s σ H x y u v Q I rx ry h
  unfold vInB at h
  split at h
  · rename_i a
    split at h
    · rename_i xs e
      exact op_in_seq pins s σ H _ _ u v Q I rx ry ⟨a, xs, rfl, .inl (sq_lst e), h.1, h.2.1, by simpa using h.2.2⟩
    · split at h
      · rename_i xs e
        exact op_in_seq pins s σ H _ _ u v Q I rx ry ⟨a, xs, rfl, .inr (sq_tup e), h.1, h.2.1, by simpa using h.2.2⟩
      · split at h
        · rename_i kvs e
          split at h
          · rename_i k ek
            cases (show v = Value.ref a from ry)
            refine d_in hu I (dget_of e ek) rx fun s3 I3 => ⟨.bl (valV kvs k).isSome, H, I3, rfl, ?_⟩
            simpa using h
          · exact h.elim
        · exact h.elim
  · rename_i z
    split at h
    · rename_i c
      exact op_in_sign pins s σ H _ _ u v Q I rx ry ⟨c, z, rfl, rfl, by simpa using h⟩
    · exact h.elim
  · exact h.elim
theorem op_vNotIn {X : Cx} (hu : X.A.units + 1 < cLine) : OpR X (compareOp .NotIn) (vInB true) := by
  intro pins s σ H x y u v Q I rx ry h
  unfold vInB at h
  split at h
  · rename_i a
    split at h
    · rename_i xs e
      exact op_notIn_seq pins s σ H _ _ u v Q I rx ry ⟨a, xs, rfl, .inl (sq_lst e), h.1, h.2.1, by simpa using h.2.2⟩
    · split at h
      · rename_i xs e
        exact op_notIn_seq pins s σ H _ _ u v Q I rx ry ⟨a, xs, rfl, .inr (sq_tup e), h.1, h.2.1, by simpa using h.2.2⟩
      · split at h
        · rename_i kvs e
          split at h
          · rename_i k ek
            cases (show v = Value.ref a from ry)
            refine d_notIn hu I (dget_of e ek) rx fun s3 I3 => ⟨.bl (!(valV kvs k).isSome), H, I3, rfl, ?_⟩
            simpa using h
          · exact h.elim
        · exact h.elim
  · rename_i z
    split at h
    · rename_i c
      exact op_notIn_sign pins s σ H _ _ u v Q I rx ry ⟨c, z, rfl, rfl, by simpa using h⟩
    · exact h.elim
  · exact h.elim
/-- o[i] = v -/
def vSet : TSet := fun o i v H Q => match o with
  | .ref a => (match H a with
    | some (.lst xs) => (match i with
      | .int k => ∃ j, ixN xs.length k = some j ∧ Q (upd H a (.lst (xs.set j v)))
      | _ => False)
    | some (.dK kvs) => (match keyOf i with
      | some k => kvs.length < sizeLine ∧ Q (upd H a (.dK (putK kvs k v)))
      | none => False)
    | _ => False)
  | _ => False
theorem set_v {X : Cx} (hu : X.A.units + 1 < cLine) : PSet X vSet := by
  intro pins s σ H o i v ov iv u Q I ro ri rv h
  unfold vSet at h
  split at h
  · rename_i a
    split at h
    · rename_i xs e
      split at h
      · rename_i k
        obtain ⟨j, h1, q⟩ := h
        exact set_list pins s σ H _ _ v ov iv u Q I ro ri rv ⟨a, xs, k, j, rfl, rfl, e, h1, q⟩
      · exact h.elim
    · rename_i kvs e
      split at h
      · rename_i k ek
        cases (show ov = Value.ref a from ro)
        have g : DPut H a i v (upd H a (.dK (putK kvs k v))) := by
          rw [keyOf_kV ek]
          exact DPut.k e h.1
        exact d_setItem hu I g ri rv fun s3 I3 => ⟨_, I3, h.2⟩
      · exact h.elim
    · exact h.elim
  · exact h.elim
/-- len(x) -/
def cLen : List V → Hp → VK → Prop := fun vs H Q => match vs with
  | [.str z] => z.length ≤ sizeLine ∧ Q (.int z.length) H
  | [.ref a] => (match lstOf H a with
    | some xs => Q (.int xs.length) H
    | none => (match tupOf H a with
      | some xs => Q (.int xs.length) H
      | none => (match dicOf H a with
        | some kvs => Q (.int kvs.length) H
        | none => False)))
  | _ => False
theorem call_vLen {X : Cx} : CallR X (.builtin "len") cLen := by
  intro pins s σ H xs us Q I r h
  unfold cLen at h
  split at h
  · exact call_len_str pins s σ H _ us Q I r ⟨_, rfl, h.1, h.2⟩
  · rename_i a
    split at h
    · rename_i xs e
      exact call_len_seq pins s σ H _ us Q I r ⟨a, xs, rfl, .inl (sq_lst e), h⟩
    · split at h
      · rename_i xs e
        exact call_len_seq pins s σ H _ us Q I r ⟨a, xs, rfl, .inr (sq_tup e), h⟩
      · split at h
        · rename_i kvs e
          obtain ⟨u, rfl, ru⟩ := vals1 r
          cases (show u = Value.ref a from ru)
          exact d_len I (rd_dic e) fun t s3 I3 => ⟨.int kvs.length, H, I3, ⟨_, rfl⟩, h⟩
        · exact h.elim
  · exact h.elim
/-- list(x) -/
def cList : List V → Hp → VK → Prop := fun vs H Q => match vs with
  | [.ref a] => (match lstOf H a with
    | some xs => ∀ p, H p = none → Q (.ref p) (upd H p (.lst xs))
    | none => (match tupOf H a with
      | some xs => ∀ p, H p = none → Q (.ref p) (upd H p (.lst xs))
      | none => False))
  | _ => False
theorem call_vList {X : Cx} : CallR X (.type "list") cList := by
  intro pins s σ H xs us Q I r h
  unfold cList at h
  split at h
  · rename_i a
    split at h
    · rename_i xs e
      exact call_list_of pins s σ H _ us Q I r ⟨a, xs, rfl, .inl (sq_lst e), h⟩
    · split at h
      · rename_i xs e
        exact call_list_of pins s σ H _ us Q I r ⟨a, xs, rfl, .inr (sq_tup e), h⟩
      · exact h.elim
  · exact h.elim
/-- int(x) of a bool or an int -/
def cInt : List V → Hp → VK → Prop := fun vs H Q => match vs with
  | [.int i] => Q (.int i) H
  | [.bl k] => Q (.int (if k = true then 1 else 0)) H
  | _ => False
theorem call_vInt {X : Cx} : CallR X (.type "int") cInt := by
  intro pins s σ H xs us Q I r h
  unfold cInt at h
  split at h
  · exact call_int1 pins s σ H _ us Q I r (.inl ⟨_, rfl, h⟩)
  · exact call_int1 pins s σ H _ us Q I r (.inr ⟨_, rfl, h⟩)
  · exact h.elim

/-! ### exceptions -/
abbrev veMro : List Value := [.type "ValueError", .type "Exception", .type "BaseException", .type "object"]
/-- an own class over ValueError, without an __init__ of its own, as the top has left it -/
structure Exn (K : PySem.W.Frag) (mg : Str → Option Value) (x : Str) (C : Addr) : Prop where
  gC : mg x = some (.ref C)
  ex : PySem.W.excIn K C veMro "ValueError.__new__" = true
  kp : PySem.W.keepIn K (.ref C) = true
  sb : PySem.W.subIn K (.ref C) (.type "BaseException") = some true
  ty : PySem.W.typeIn K (.ref C) = some (.type "type")
theorem Exn.mk_ {X : Cx} {x m : Str} {C : Addr} {j : Nat} {p p2 pos : Pos} (T : Exn X.K X.mg x C) (hg : Gl X x) (hdb : (x == ("__debug__" : Str)) = false := by decide) :
    PMk X (.Call (.Name x p) [.Constant (.str m) j p2] [] pos) (fun _ H Q => Q (.ref C) none H) :=
  pmk_own PySem.F.excBase_ValueError T.ex T.gC T.kp (raises_own T.sb T.ty) hg hdb
/-- isinstance(e, c) within the suite that holds e -/
def cIsE (K : PySem.W.Frag) (cls : Value) (d : Option Addr) (a : Addr) : List V → Hp → VK → Prop := fun xs H Q =>
  ∃ (D : Addr) (c : V) (cv : Value) (b : Bool), cls = .ref D ∧ d = none ∧ ExcC K D ∧ xs = [.ref a, c] ∧ (∀ u, RelV c u → u = cv) ∧ PySem.W.kitOne K (.ref D) cv = some b ∧ Q (.bl b) H
theorem pe_isE {X : Cx} {a : Addr} {oe : Obj} {cls : Value} {d : Option Addr} {pn : List (Addr × Obj)} {p pos : Pos} {e : Expr} {es : List Expr} {t : TA} (hz : Zc cls d oe) (hf : ∃ vs, oe.data = .fields vs)
    (hg : Gl (X.suite a ((a, oe) :: pn)) "isinstance") (hm : X.mg "isinstance" = none) (ha : PA (X.suite a ((a, oe) :: pn)) (e :: es) t)
    (he : starEach (e :: es) (X.suite a ((a, oe) :: pn)).env = (false, eval e (X.suite a ((a, oe) :: pn)).env) :: starEach es (X.suite a ((a, oe) :: pn)).env := by rfl)
    (hpl : (backTo pos (starEach es (X.suite a ((a, oe) :: pn)).env)).any (·.1) = false := by rfl) :
    PE (X.suite a ((a, oe) :: pn)) (.Call (.Name "isinstance" p) (e :: es) [] pos) (tCB (cIsE X.K cls d a) t) := by
  refine pe_callB (id := "isinstance") ?_ hg hm (by decide +kernel) ha (by decide) (by decide) he hpl
  intro pins s σ H xs us Q I r h
  obtain ⟨D, c, cv, b, rfl, rfl, C, rfl, h1, h2, q⟩ := h
  exact call_isE C hz hf pins s σ H _ us Q I r ⟨c, cv, b, rfl, h1, h2, q⟩

/-- a module's whole number -/
theorem pe_gint {X : Cx} {x : Str} {i : Int} {pos : Pos} (h : ∃ t, X.mg x = some (.int i t)) (hg : Gl X x) (hd : (x == ("__debug__" : Str)) = false := by decide) : PE X (.Name x pos) (tC (.int i)) := by
  obtain ⟨t, h⟩ := h
  exact pe_glob hg h ⟨t, rfl⟩ hd

theorem cx_K {CX : CXT} {P : Program} {w : World} {K : PySem.W.Frag} {mg : Str → Option Value} {base : Heap} {N : List Str} {qual : Str} {scope : Scope} {f : Addr} {cd : Value} {A : Around} {outer : List Env} {s : Shared} {H : Hp} {E : XK} :
    (cxOf CX P w K mg base N qual scope f cd A outer s H E).K = K := rfl
theorem map_int_get {ns : List Int} {j : Nat} {v : Int} (h : ns[j]? = some v) : (ns.map V.int)[j]? = some (.int v) := by
  rw [List.getElem?_map, h]
  rfl

theorem ty_ref {H : Hp} {a : Addr} {T : String} (h : tyOf H (.ref a) = some T) : T = "list" ∨ T = "tuple" ∨ T = "dict" := by
  have e : tyOf H (.ref a) = (match H a with
    | some (.lst _) => some "list"
    | some (.tup _) => some "tuple"
    | some (.dK _) => some "dict"
    | _ => none) := rfl
  rw [e] at h
  split at h
  · exact .inl (Option.some.inj h).symm
  · exact .inr (.inl (Option.some.inj h).symm)
  · exact .inr (.inr (Option.some.inj h).symm)
  · cases h
/-- the kinds of a value with a type -/
theorem ty_cases {H : Hp} {v : V} {T : String} (h : tyOf H v = some T) :
    (v = .non ∧ T = "NoneType") ∨ (∃ b, v = .bl b ∧ T = "bool") ∨ (∃ i, v = .int i ∧ T = "int") ∨ (∃ x, v = .str x ∧ T = "str") ∨ (∃ a, v = .ref a ∧ (T = "list" ∨ T = "tuple" ∨ T = "dict")) := by
  cases v with
  | non => exact .inl ⟨rfl, (Option.some.inj h).symm⟩
  | bl b => exact .inr (.inl ⟨b, rfl, (Option.some.inj h).symm⟩)
  | int i => exact .inr (.inr (.inl ⟨i, rfl, (Option.some.inj h).symm⟩))
  | str x => exact .inr (.inr (.inr (.inl ⟨x, rfl, (Option.some.inj h).symm⟩)))
  | ref a => exact .inr (.inr (.inr (.inr ⟨a, rfl, ty_ref h⟩)))
  | byt b => cases h
  | flt b => cases h
  | ty n => cases h
theorem isT_NoneType_bool : isT "NoneType" "bool" = false := by decide
theorem isT_NoneType_int : isT "NoneType" "int" = false := by decide
theorem isT_NoneType_str : isT "NoneType" "str" = false := by decide
theorem isT_NoneType_list : isT "NoneType" "list" = false := by decide
theorem isT_NoneType_tuple : isT "NoneType" "tuple" = false := by decide
theorem isT_NoneType_dict : isT "NoneType" "dict" = false := by decide
theorem isT_bool_bool : isT "bool" "bool" = true := by decide
theorem isT_bool_int : isT "bool" "int" = true := by decide
theorem isT_bool_str : isT "bool" "str" = false := by decide
theorem isT_bool_list : isT "bool" "list" = false := by decide
theorem isT_bool_tuple : isT "bool" "tuple" = false := by decide
theorem isT_bool_dict : isT "bool" "dict" = false := by decide
theorem isT_int_bool : isT "int" "bool" = false := by decide
theorem isT_int_int : isT "int" "int" = true := by decide
theorem isT_int_str : isT "int" "str" = false := by decide
theorem isT_int_list : isT "int" "list" = false := by decide
theorem isT_int_tuple : isT "int" "tuple" = false := by decide
theorem isT_int_dict : isT "int" "dict" = false := by decide
theorem isT_str_bool : isT "str" "bool" = false := by decide
theorem isT_str_int : isT "str" "int" = false := by decide
theorem isT_str_str : isT "str" "str" = true := by decide
theorem isT_str_list : isT "str" "list" = false := by decide
theorem isT_str_tuple : isT "str" "tuple" = false := by decide
theorem isT_str_dict : isT "str" "dict" = false := by decide
theorem isT_list_bool : isT "list" "bool" = false := by decide
theorem isT_list_int : isT "list" "int" = false := by decide
theorem isT_list_str : isT "list" "str" = false := by decide
theorem isT_list_list : isT "list" "list" = true := by decide
theorem isT_list_tuple : isT "list" "tuple" = false := by decide
theorem isT_list_dict : isT "list" "dict" = false := by decide
theorem isT_tuple_bool : isT "tuple" "bool" = false := by decide
theorem isT_tuple_int : isT "tuple" "int" = false := by decide
theorem isT_tuple_str : isT "tuple" "str" = false := by decide
theorem isT_tuple_list : isT "tuple" "list" = false := by decide
theorem isT_tuple_tuple : isT "tuple" "tuple" = true := by decide
theorem isT_tuple_dict : isT "tuple" "dict" = false := by decide
theorem isT_dict_bool : isT "dict" "bool" = false := by decide
theorem isT_dict_int : isT "dict" "int" = false := by decide
theorem isT_dict_str : isT "dict" "str" = false := by decide
theorem isT_dict_list : isT "dict" "list" = false := by decide
theorem isT_dict_tuple : isT "dict" "tuple" = false := by decide
theorem isT_dict_dict : isT "dict" "dict" = true := by decide

/-- what walk_of asks of the law's own def -/
theorem fin_of {P : Program} {w : World} {K : PySem.W.Frag} {mg : Str → Option Value} {x p : Str} {st : Stmt} {fa : Addr} {k : Nat} {sp : Sp} (S : Src K mg x [p] st) (hfa : mg x = some (.ref fa))
    (h : ∀ base : Heap, Fn P w K mg base k x [p] sp) : ∃ fd : FuncData, (∀ (s : Shared) (u : Value), BindsTo s fd ⟨[u], []⟩ [(p, u)]) ∧
      ∀ base : Heap, K.In base → base.Ns mainGlobals mg → FnOk P w K mg base CX0 k fa fd [p] sp := by
  obtain ⟨f, fd, F, hm, hb⟩ := S.ex
  obtain ⟨oc, od, kV, doc, pm, an, cdv, ct, osl, e, lk, hcd⟩ := id F.ex
  have e1 : f = fa := by
    rw [hm] at hfa
    cases hfa
    rfl
  subst e1
  refine ⟨fd, fun s u => .of_eq (hb [u] rfl), fun base _ _ => ?_⟩
  obtain ⟨f2, fd2, ok, hm2, _, _, oc2, od2, osl2, lk2⟩ := (h base).ex
  have e2 : f2 = f := by
    rw [hm2] at hm
    cases hm
    rfl
  subst e2
  have e3 : fd2 = fd := by
    rw [lk] at lk2
    cases lk2
    rfl
  rw [← e3]
  exact ok

theorem kit_sub {K : PySem.W.Frag} {C : Addr} {T : String} {b : Bool} (hm : PySem.W.kitMeta T = true) (h : PySem.W.subIn K (.ref C) (.type T) = some b) : PySem.W.kitOne K (.ref C) (.type T) = some b := by
  unfold PySem.W.kitOne
  rw [if_neg (by simp)]
  unfold PySem.W.kitCls
  simp only [hm, if_true]
  exact h
theorem meta_VE : PySem.W.kitMeta "ValueError" = true := by decide +kernel

/-! ### the readings, applied: what the walk rewrites with -/
section
variable {K : PySem.W.Frag} {σ : L2.St} {H : Hp} {D : Ends} {Q : VK} {QB : Bool → Hp → Prop} {QA : List V → Hp → Prop} {QS : L2.St → Hp → Prop} {ta tb te tc : TE} {t u : TT} {tA uA : TA} {tS uS : TS} {g : TG} {gs : TGs} {i n : Nat} {v x y o : V} {vs : List V} {r : R2}
  {rU : V → Hp → VK → Prop} {rC : List V → Hp → VK → Prop} {sp : Sp} {E : L2.St → XK} {st : TSet}
theorem a_seq : tSeq tS uS D σ H = tS { D with nx := uS D } σ H := rfl
theorem a_next : tNext D σ H = D.nx σ H := rfl
theorem a_brk : tBreak D σ H = D.bk σ H := rfl
theorem a_cont : tCont D σ H = D.ct σ H := rfl
theorem a_asg : tAsg te g D σ H = te σ H fun z H1 => g z σ H1 D.nx := rfl
theorem a_name : gName i v σ H QS = QS (σ.set i (some v)) H := rfl
theorem a_gnil : gNil vs σ H QS = (vs = [] ∧ QS σ H) := rfl
theorem a_gcons : gCons g gs vs σ H QS = ∃ z q, vs = z :: q ∧ g z σ H fun σ' H' => gs q σ' H' QS := rfl
theorem a_gsub : gSub ta tb st v σ H QS = ta σ H fun z H1 => tb σ H1 fun j H2 => st z j v H2 fun H3 => QS σ H3 := rfl
theorem a_var : tVar i σ H Q = ∃ z, σ[i]? = some (some z) ∧ Q z H := rfl
theorem a_c : tC v σ H Q = Q v H := rfl
theorem a_op : tOp r ta tb σ H Q = ta σ H fun z H1 => tb σ H1 fun j H2 => r z j H2 Q := rfl
theorem a_un : tUn rU ta σ H Q = ta σ H fun z H1 => rU z H1 Q := rfl
theorem a_cons : tCons te tA σ H QA = te σ H fun z H1 => tA σ H1 fun zs H2 => QA (z :: zs) H2 := rfl
theorem a_nil : tNil σ H QA = QA [] H := rfl
theorem a_ret : tRet te D σ H = te σ H D.rt := rfl
theorem a_retN : tRetN D σ H = D.rt .non H := rfl
theorem a_drop : tDrop te D σ H = te σ H fun _ H1 => D.nx σ H1 := rfl
theorem a_if : tIfS t tS uS D σ H = t σ H fun b H1 => if b = true then tS D σ H1 else uS D σ H1 := rfl
theorem a_test : tTest te σ H QB = te σ H fun z H' => ∃ k, z = .bl k ∧ QB k H' := rfl
theorem a_B : tB te σ H QB = te σ H fun z H1 => ∃ c, z = .bl c ∧ QB c H1 := rfl
theorem a_and : tAnd t u σ H QB = t σ H fun c H1 => if c = true then u σ H1 QB else QB false H1 := rfl
theorem a_or : tOr t u σ H QB = t σ H fun c H1 => if c = true then QB true H1 else u σ H1 QB := rfl
theorem a_not : tNot t σ H QB = t σ H fun c H1 => QB (!c) H1 := rfl
theorem a_andV : tAndV ta tb σ H Q = ta σ H fun z H1 => ∃ c, z = .bl c ∧ if c = true then tb σ H1 Q else Q (.bl false) H1 := rfl
theorem a_orV : tOrV ta tb σ H Q = ta σ H fun z H1 => ∃ c, z = .bl c ∧ if c = true then Q (.bl true) H1 else tb σ H1 Q := rfl
theorem a_notV : tNotV ta σ H Q = ta σ H fun z H1 => ∃ c, z = .bl c ∧ Q (.bl (!c)) H1 := rfl
theorem a_ifE : tIf t ta tb σ H Q = t σ H fun c H1 => if c = true then ta σ H1 Q else tb σ H1 Q := rfl
theorem a_fn : tFn sp tA σ H Q = tA σ H fun zs H1 => sp zs H1 Q E0 := rfl
theorem a_fnX : tFnX sp E tA σ H Q = tA σ H fun zs H1 => sp zs H1 Q (E σ) := rfl
theorem a_cb : tCB rC tA σ H Q = tA σ H fun zs H1 => rC zs H1 Q := rfl
theorem a_lst : tLst tA σ H Q = tA σ H fun xs H1 => xs.length ≤ sizeLine ∧ ∀ p, H1 p = none → Q (.ref p) (upd H1 p (.lst xs)) := rfl
theorem a_tup : tTup tA σ H Q = tA σ H fun xs H1 => xs.length ≤ sizeLine ∧ ∀ p, H1 p = none → Q (.ref p) (upd H1 p (.tup xs)) := rfl
theorem a_chain {r' : R2} : tChain r r' ta tb tc σ H Q = ta σ H fun x1 H1 => tb σ H1 fun y1 H2 => r x1 y1 H2 fun z H3 => ∃ k, z = .bl k ∧ if k = true then tc σ H3 fun w1 H4 => r' y1 w1 H4 Q else Q (.bl false) H3 := rfl
theorem a_dnew : tDNewK σ H Q = ∀ p, H p = none → Q (.ref p) (upd H p (.dK [])) := rfl
theorem a_start {N : List Str} : L2.start N vs = vs.map some ++ List.replicate (N.length - vs.length) none := rfl
-- operations by constructors
theorem v_add_ii {i j : Int} : vAdd (.int i) (.int j) H Q = Q (.int (i + j)) H := rfl
theorem v_add_ss {i j : Str} : vAdd (.str i) (.str j) H Q = (i.length + j.length ≤ sizeLine ∧ Q (.str (i ++ j)) H) := rfl
theorem v_sub_ii {i j : Int} : vSub (.int i) (.int j) H Q = Q (.int (i - j)) H := rfl
theorem v_mul_ii {i j : Int} : vMul (.int i) (.int j) H Q = (CMul i j ∧ Q (.int (i * j)) H) := rfl
theorem v_div_ii {i j : Int} : vDiv (.int i) (.int j) H Q = (CDiv i j ∧ Q (.int (i / j)) H) := rfl
theorem v_mod_ii {i j : Int} : vMod (.int i) (.int j) H Q = (0 < j ∧ Q (.int (i % j)) H) := rfl
theorem v_pow_ii {i j : Int} : vPow (.int i) (.int j) H Q = (CPow i j ∧ Q (.int (i ^ j.toNat)) H) := rfl
theorem v_lt_ii {i j : Int} : vLt (.int i) (.int j) H Q = Q (.bl (decide (i < j))) H := rfl
theorem v_gt_ii {i j : Int} : vGt (.int i) (.int j) H Q = Q (.bl (decide (j < i))) H := rfl
theorem v_le_ii {i j : Int} : vLe (.int i) (.int j) H Q = Q (.bl (decide (i ≤ j))) H := rfl
theorem v_ge_ii {i j : Int} : vGe (.int i) (.int j) H Q = Q (.bl (decide (j ≤ i))) H := rfl
theorem v_le_ss {i j : Str} : vLe (.str i) (.str j) H Q = Q (.bl (!decide (j.cps.toList < i.cps.toList))) H := rfl
theorem v_eq_ii {i j : Int} : vEq K (.int i) (.int j) H Q = Q (.bl (decide (i = j))) H := by
  show (scal (.int i) (.int j) = true ∧ Q (.bl (decide (V.int i = V.int j))) H) = _
  simp [scal]
theorem v_eq_ss {i j : Str} : vEq K (.str i) (.str j) H Q = Q (.bl (decide (i = j))) H := by
  show (scal (.str i) (.str j) = true ∧ Q (.bl (decide (V.str i = V.str j))) H) = _
  simp [scal]
theorem v_eq_bb {i j : Bool} : vEq K (.bl i) (.bl j) H Q = Q (.bl (decide (i = j))) H := by
  show (scal (.bl i) (.bl j) = true ∧ Q (.bl (decide (V.bl i = V.bl j))) H) = _
  simp [scal]
theorem v_ne_ii {i j : Int} : vNe K (.int i) (.int j) H Q = Q (.bl (!decide (i = j))) H := by
  show (scal (.int i) (.int j) = true ∧ Q (.bl (!decide (V.int i = V.int j))) H) = _
  simp [scal]
theorem v_ne_ss {i j : Str} : vNe K (.str i) (.str j) H Q = Q (.bl (!decide (i = j))) H := by
  show (scal (.str i) (.str j) = true ∧ Q (.bl (!decide (V.str i = V.str j))) H) = _
  simp [scal]
theorem v_ne_bb {i j : Bool} : vNe K (.bl i) (.bl j) H Q = Q (.bl (!decide (i = j))) H := by
  show (scal (.bl i) (.bl j) = true ∧ Q (.bl (!decide (V.bl i = V.bl j))) H) = _
  simp [scal]
theorem v_ne_tt {a b : String} : vNe K (.ty a) (.ty b) H Q = (tyOk a = true ∧ tyOk b = true ∧ Q (.bl (!decide (a = b))) H) := rfl
theorem v_eq_tt {a b : String} : vEq K (.ty a) (.ty b) H Q = (tyOk a = true ∧ tyOk b = true ∧ Q (.bl (decide (a = b))) H) := rfl
theorem v_in_sc {neg : Bool} {c : Nat} {z : Str} : vInB neg (.str ⟨⟨[c]⟩⟩) (.str z) H Q = Q (.bl (decide (c ∈ z.cps.toList) ^^ neg)) H := rfl
theorem v_ix_s {z : Str} {i : Int} : vIx (.str z) (.int i) H Q = (z.length ≤ sizeLine ∧ ∃ c, atI z.cps.toList i = some c ∧ Q (.str ⟨#[c]⟩) H) := rfl
theorem v_len_s {z : Str} : cLen [.str z] H Q = (z.length ≤ sizeLine ∧ Q (.int z.length) H) := rfl
theorem v_type : cType [v] H Q = (match tyOf H v with
    | some T => Q (.ty T) H
    | none => False) := rfl
theorem v_is {T : String} : cIs [v, .ty T] H Q = (T ∈ ["bool", "int", "str", "list", "tuple", "dict"] ∧ (match tyOf H v with
    | some A => Q (.bl (isT A T)) H
    | none => False)) := rfl
end
/-! ### loops -/
/-- over a text, sign by sign -/
theorem f_str {j : Nat} {x : Str} {g : TG} {tb : TS} {D : Ends} {σ : L2.St} {H : Hp} (hx : σ[j]? = some (some (.str x))) (Pv : Nat → L2.St → Hp → Prop) (h0 : Pv 0 σ H)
    (hs : ∀ i c σ H (N : L2.St → Hp → Prop), x.cps.toList[i]? = some c → Pv i σ H → (∀ σ' H', Pv (i + 1) σ' H' → N σ' H') → g (.str ⟨⟨[c]⟩⟩) σ H fun σ2 H2 => tb { D with nx := N, ct := N, bk := D.nx } σ2 H2) (hd : ∀ σ H, Pv x.length σ H → D.nx σ H) :
    tFor (iStr (tVar j)) g tb D σ H := by
  have sz : x.cps.size = x.length := rfl
  refine ⟨.str x, hx, x, rfl, fun i m σ H => m = x.cps.size - i ∧ i ≤ x.cps.size ∧ Pv i σ H, ⟨x.cps.size, by simp, Nat.zero_le _, h0⟩, ?_⟩
  rintro i m σ H ⟨rfl, hi, p⟩
  by_cases hlt : i < x.cps.size
  · refine .inr ⟨hlt, Pv (i + 1), fun σ' H' p' => ⟨x.cps.size - (i + 1), by omega, rfl, hlt, p'⟩, fun v H' y => ?_⟩
    obtain ⟨e, c, hc, ev⟩ := y
    subst e ev
    refine hs i c σ _ _ ?_ p fun _ _ z => z
    rw [Array.getElem?_toList]
    exact hc
  · have e : i = x.cps.size := by omega
    subst e
    exact .inl ⟨Nat.le_refl _, hd σ H (by rw [← sz]; exact p)⟩
/-- over range(n) -/
theorem f_rng {ta : TA} {g : TG} {tb : TS} {D : Ends} {σ : L2.St} {H : Hp} (n : Nat) (hn : n ≤ 1000000000) (ht : ∀ Q : List V → Hp → Prop, Q [.int (n : Int)] H → ta σ H Q) (Pv : Nat → L2.St → Hp → Prop) (h0 : Pv 0 σ H)
    (hs : ∀ (i : Nat) σ H (N : L2.St → Hp → Prop), i < n → Pv i σ H → (∀ σ' H', Pv (i + 1) σ' H' → N σ' H') → g (.int (i : Int)) σ H fun σ2 H2 => tb { D with nx := N, ct := N, bk := D.nx } σ2 H2) (hd : ∀ σ H, Pv n σ H → D.nx σ H) :
    tFor (iRng1 ta) g tb D σ H := by
  refine ht _ ⟨(n : Int), rfl, by omega, by omega, ?_⟩
  refine for_range (lo := 0) (n := (n : Int).toNat) Pv h0 (fun i σ H hi p => ?_) fun σ H p => hd σ H (by simpa using p)
  have e0 : (0 : Int) + (i : Int) = (i : Int) := Int.zero_add _
  rw [e0]
  exact hs i σ H _ (by simpa using hi) p fun _ _ z => z

/-! ### a block cut in two by what stands between -/
def tCut (t u : TS) : TS := tSeq t u
theorem pss_cut {X : Cx} {st : Stmt} {rest : List Stmt} {t u : TS} (h1 : PS X st t) (h2 : PSs X rest u) : PSs X (st :: rest) (tCut t u) := pss_cons h1 h2
theorem cut {t u : TS} {D : Ends} {σ : L2.St} {H : Hp} (P : L2.St → Hp → Prop) (h1 : ∀ N : L2.St → Hp → Prop, (∀ σ' H', P σ' H' → N σ' H') → t { D with nx := N } σ H) (h2 : ∀ σ' H', P σ' H' → u D σ' H') : tCut t u D σ H := h1 (u D) h2
theorem at_ex {α : Type} {xs : List α} {i : Int} (h0 : 0 ≤ i) (h1 : i < xs.length) : ∃ c, atI xs i = some c ∧ xs[i.toNat]? = some c := by
  obtain ⟨j, rfl⟩ : ∃ j : Nat, i = (j : Int) := ⟨i.toNat, by omega⟩
  have h2 : j < xs.length := by omega
  exact ⟨xs[j], atI_nat (List.getElem?_eq_getElem h2), List.getElem?_eq_getElem h2⟩
theorem sgn {c : Nat} : (⟨⟨[c]⟩⟩ : Str) = ⟨#[c]⟩ := rfl
theorem len_app (a b : Str) : (a ++ b).length = a.length + b.length := by
  show (a.cps ++ b.cps).size = _
  rw [Array.size_append]
  rfl
theorem len_sg {c : Nat} : (⟨#[c]⟩ : Str).length = 1 := rfl
theorem lt1 (a b : Nat) : decide ([a] < [b]) = decide (a < b) := by
  by_cases h : a < b
  · rw [decide_eq_true h]
    exact decide_eq_true (List.Lex.rel h)
  · rw [decide_eq_false h]
    refine decide_eq_false fun q => ?_
    cases q with
    | rel q => exact h q
    | cons q => cases q
end Fw
set_option Elab.async false
set_option linter.all false
set_option maxRecDepth 100000
set_option maxHeartbeats 4000000
namespace Pf
open PySem PySem.Spec PyProof.Rows L2 Fw
/-! ### the text by places -/
def topS (i : Nat) : Stmt := PySem.Challenge.pw_escrowbook_k01_names.main.body.getD i (.Pass ⟨0, 0, 0, 0⟩)
abbrev s_is_name : Stmt := topS 6
theorem sc_is_name : FnScope ["thing", "sign"] ["thing"] (defScope s_is_name) := ⟨rfl, rfl, rfl, by decide +kernel, rfl, by decide +kernel, by decide +kernel⟩
abbrev s_name_of : Stmt := topS 5
theorem sc_name_of : FnScope ["thing"] ["thing"] (defScope s_name_of) := ⟨rfl, rfl, rfl, by decide +kernel, rfl, by decide +kernel, by decide +kernel⟩
abbrev s_cell_at : Stmt := topS 8
theorem sc_cell_at : FnScope ["_law_script", "_law_k"] ["_law_script", "_law_k"] (defScope s_cell_at) := ⟨rfl, rfl, rfl, by decide +kernel, rfl, by decide +kernel, by decide +kernel⟩
abbrev s_sign_by : Stmt := topS 9
theorem sc_sign_by : FnScope ["_law_cell", "_law_some"] ["_law_cell"] (defScope s_sign_by) := ⟨rfl, rfl, rfl, by decide +kernel, rfl, by decide +kernel, by decide +kernel⟩
abbrev s_text_by : Stmt := topS 10
theorem sc_text_by : FnScope ["_law_script", "_law_size", "_law_way", "_law_word", "_law_k", "_law_cell"] ["_law_script"] (defScope s_text_by) := ⟨rfl, rfl, rfl, by decide +kernel, rfl, by decide +kernel, by decide +kernel⟩
abbrev s_thing_by : Stmt := topS 11
theorem sc_thing_by : FnScope ["_law_script", "_law_way"] ["_law_script"] (defScope s_thing_by) := ⟨rfl, rfl, rfl, by decide +kernel, rfl, by decide +kernel, by decide +kernel⟩
abbrev s_lis_name : Stmt := topS 12
theorem sc_lis_name : FnScope ["_law_thing", "_law_sign"] ["_law_thing"] (defScope s_lis_name) := ⟨rfl, rfl, rfl, by decide +kernel, rfl, by decide +kernel, by decide +kernel⟩
abbrev s_refused_by_any : Stmt := topS 13
theorem sc_refused_by_any : FnScope ["_law_thing", "e"] ["_law_thing"] (defScope s_refused_by_any) := ⟨rfl, rfl, rfl, by decide +kernel, rfl, by decide +kernel, by decide +kernel⟩
abbrev s_law : Stmt := topS 14
theorem sc_law : FnScope ["_law_script", "_law_thing", "_law_refused", "_law_found"] ["_law_script"] (defScope s_law) := ⟨rfl, rfl, rfl, by decide +kernel, rfl, by decide +kernel, by decide +kernel⟩
/-! ### what the top says -/
structure Blt (mg : Str → Option Value) : Prop where
  n_type : mg "type" = none
  n_str : mg "str" = none
  n_isinstance : mg "isinstance" = none
  n_len : mg "len" = none
  n_ValueError : mg "ValueError" = none
  n_range : mg "range" = none

/-- a name: one to twelve of a .. z -/
def okSign (c : Nat) : Bool := decide (97 ≤ c) && decide (c ≤ 122)
def okName (x : Str) : Bool := decide (1 ≤ x.length) && decide (x.length ≤ 12) && x.cps.toList.all okSign
def isN : V → Bool
  | .str x => okName x
  | _ => false
/-- a value that a law may hand in: its type, and that a text is not too long -/
def fits (H : Hp) (v : V) : Prop := (∃ T, tyOf H v = some T) ∧ ∀ x, v = .str x → x.length ≤ 100

section
variable {P : Program} {w : World} {K : PySem.W.Frag} {mg : Str → Option Value} {base : Heap}
variable {CA CB : Addr}

def sp_is_name : Sp := fun vs H Q _ => match vs with
  | [v] => fits H v ∧ Q (.bl (isN v)) H
  | _ => False

def sp_name_of (CA : Addr) : Sp := fun vs H Q E => match vs with
  | [v] => fits H v ∧ if isN v = true then Q v H else E (.ref CA) none H
  | _ => False

def cellAt (ns : List Int) (k : Nat) : Int := (ns[k]?).getD 0
def sp_cell_at (K : PySem.W.Frag) : Sp := fun vs H Q _ => match vs with
  | [.ref a, .int k] => ∃ (ns : List Int) (j : Nat), SqL K H a (ns.map V.int) ∧ k = (j : Int) ∧ Q (.int (cellAt ns j)) H
  | _ => False
theorem cell_use {K : PySem.W.Frag} {a : Addr} {ns : List Int} (j : Nat) {k : Int} {H : Hp} {Q : VK} {E : XK} (hS : SqL K H a (ns.map V.int)) (e : k = (j : Int)) (q : Q (.int (cellAt ns j)) H) : sp_cell_at K [.ref a, .int k] H Q E := ⟨ns, j, hS, e, q⟩

def sp_sign_by : Sp := fun vs H Q _ => match vs with
  | [.int _] => ∀ c : Nat, Q (.str ⟨⟨[c]⟩⟩) H
  | _ => False

def sp_text_by (K : PySem.W.Frag) : Sp := fun vs H Q _ => match vs with
  | [.ref a] => (∃ ns : List Int, SqL K H a (ns.map V.int)) ∧ ∀ x : Str, x.length ≤ 100 → Q (.str x) H
  | _ => False

def sp_thing_by (K : PySem.W.Frag) : Sp := fun vs H Q _ => match vs with
  | [.ref a] => (∃ ns : List Int, SqL K H a (ns.map V.int)) ∧ ∀ v H', Same H H' → fits H' v → Q v H'
  | _ => False

def sp_lis_name : Sp := fun vs H Q _ => match vs with
  | [v] => fits H v ∧ Q (.bl (isN v)) H
  | _ => False

def sp_refused_by_any : Sp := fun vs H Q _ => match vs with
  | [v] => fits H v ∧ Q (.bl (!isN v)) H
  | _ => False

def sp_law (K : PySem.W.Frag) : Sp := fun vs H Q _ => match vs with
  | [.ref a] => (∃ ns : List Int, SqL K H a (ns.map V.int)) ∧ ∀ H', Q (.bl true) H'
  | _ => False
/-! ### _is_name -/
theorem ok_is_name (S : Src K mg "is_name" ["thing"] s_is_name) (B : Blt mg) (C_LONGEST_NAME : ∃ t, mg "LONGEST_NAME" = some (.int 12 t)) : Fn P w K mg base 1 "is_name" ["thing"] (sp_is_name) := by
  have sc := sc_is_name
  refine fn_mk S sc (fun vs H Q E h => ?_) (fun f cdv A outer s H vs Q E hr h => ⟨_, (pss_cons (ps_if (pt_cmpR (op_vNe hr.units) (pe_callTy call_vType rfl B.n_type (by decide +kernel) (pa_cons (pv 0) pa_nil)) (pe_bltn (v := .ty "str") rfl B.n_str (by decide +kernel) rfl) (nomark _))
     (pss_one (ps_ret pe_bl))
     pss_nil)
     (pss_cons (ps_if (pt_not (pt_chain op_vLe op_vLe pe_int (pe_callB call_vLen rfl B.n_len (by decide +kernel) (pa_cons (pv 0) pa_nil)) (pe_gint C_LONGEST_NAME rfl)))
     (pss_one (ps_ret pe_bl))
     pss_nil)
     (pss_cons (ps_for PassesOwn.never rfl (pi_str (pv 0)) (pg_name (i := 1) sc.nd rfl (Or.inl rfl))
     (pss_one (ps_if (pt_not (pt_chain op_vLe op_vLe pe_str (pv 1) pe_str))
     (pss_one (ps_ret pe_bl))
     pss_nil)))
     (pss_one (ps_ret pe_bl))))), ?_⟩)
  · unfold sp_is_name at h; split at h <;> first | rfl | exact h.elim
  · unfold sp_is_name at h
    split at h
    · rename_i v
      obtain ⟨⟨⟨T, e⟩, hl⟩, h⟩ := h
      simp only [Fw.a_seq, Fw.a_next, Fw.a_brk, Fw.a_cont, Fw.a_asg, Fw.a_name, Fw.a_gnil, Fw.a_gcons, Fw.a_gsub, Fw.a_var, Fw.a_c, Fw.a_op, Fw.a_un, Fw.a_cons, Fw.a_nil, Fw.a_ret, Fw.a_retN, Fw.a_drop, Fw.a_if, Fw.a_test, Fw.a_B, Fw.a_and, Fw.a_or, Fw.a_not, Fw.a_andV, Fw.a_orV, Fw.a_notV, Fw.a_ifE, Fw.a_fn, Fw.a_fnX, Fw.a_cb, Fw.a_lst, Fw.a_tup, Fw.a_chain, Fw.a_dnew, Fw.a_start, Fw.v_add_ii, Fw.v_add_ss, Fw.v_sub_ii, Fw.v_mul_ii, Fw.v_div_ii, Fw.v_mod_ii, Fw.v_pow_ii, Fw.v_lt_ii, Fw.v_gt_ii, Fw.v_le_ii, Fw.v_ge_ii, Fw.v_le_ss, Fw.v_eq_ii, Fw.v_eq_ss, Fw.v_eq_bb, Fw.v_ne_ii, Fw.v_ne_ss, Fw.v_ne_bb, Fw.v_ne_tt, Fw.v_eq_tt, Fw.v_in_sc, Fw.v_ix_s, Fw.v_len_s, Fw.v_type, Fw.v_is, Fw.cx_K, Int.reduceToNat, List.length_replicate, Nat.sub_self, Nat.reduceSub, Nat.reduceAdd, List.replicate_zero, List.replicate_succ, List.append_nil, List.length_cons, List.length_nil, List.map_cons, List.map_nil, List.cons_append, List.nil_append, List.getElem?_cons_zero, List.getElem?_cons_succ, List.set_cons_zero, List.set_cons_succ, Option.some.injEq, V.int.injEq, V.bl.injEq, V.ref.injEq, V.str.injEq, exists_eq_left', exists_eq_left, exists_eq_right, true_and, and_true, decide_eq_true_eq, ite_true, ite_false, Bool.not_true, Bool.not_false, Bool.false_eq_true, reduceCtorEq]
      rw [e]
      simp only [Fw.a_seq, Fw.a_next, Fw.a_brk, Fw.a_cont, Fw.a_asg, Fw.a_name, Fw.a_gnil, Fw.a_gcons, Fw.a_gsub, Fw.a_var, Fw.a_c, Fw.a_op, Fw.a_un, Fw.a_cons, Fw.a_nil, Fw.a_ret, Fw.a_retN, Fw.a_drop, Fw.a_if, Fw.a_test, Fw.a_B, Fw.a_and, Fw.a_or, Fw.a_not, Fw.a_andV, Fw.a_orV, Fw.a_notV, Fw.a_ifE, Fw.a_fn, Fw.a_fnX, Fw.a_cb, Fw.a_lst, Fw.a_tup, Fw.a_chain, Fw.a_dnew, Fw.a_start, Fw.v_add_ii, Fw.v_add_ss, Fw.v_sub_ii, Fw.v_mul_ii, Fw.v_div_ii, Fw.v_mod_ii, Fw.v_pow_ii, Fw.v_lt_ii, Fw.v_gt_ii, Fw.v_le_ii, Fw.v_ge_ii, Fw.v_le_ss, Fw.v_eq_ii, Fw.v_eq_ss, Fw.v_eq_bb, Fw.v_ne_ii, Fw.v_ne_ss, Fw.v_ne_bb, Fw.v_ne_tt, Fw.v_eq_tt, Fw.v_in_sc, Fw.v_ix_s, Fw.v_len_s, Fw.v_type, Fw.v_is, Fw.cx_K, Int.reduceToNat, List.length_replicate, Nat.sub_self, Nat.reduceSub, Nat.reduceAdd, List.replicate_zero, List.replicate_succ, List.append_nil, List.length_cons, List.length_nil, List.map_cons, List.map_nil, List.cons_append, List.nil_append, List.getElem?_cons_zero, List.getElem?_cons_succ, List.set_cons_zero, List.set_cons_succ, Option.some.injEq, V.int.injEq, V.bl.injEq, V.ref.injEq, V.str.injEq, exists_eq_left', exists_eq_left, exists_eq_right, true_and, and_true, decide_eq_true_eq, ite_true, ite_false, Bool.not_true, Bool.not_false, Bool.false_eq_true, reduceCtorEq]
      rcases ty_cases e with ⟨rfl, rfl⟩ | ⟨b, rfl, rfl⟩ | ⟨i, rfl, rfl⟩ | ⟨x, rfl, rfl⟩ | ⟨a, rfl, rfl | rfl | rfl⟩
      case inr.inr.inr.inl =>
        refine ⟨by decide, by decide, ?_⟩
        rw [if_neg (by decide)]
        simp only [Fw.a_seq, Fw.a_next, Fw.a_brk, Fw.a_cont, Fw.a_asg, Fw.a_name, Fw.a_gnil, Fw.a_gcons, Fw.a_gsub, Fw.a_var, Fw.a_c, Fw.a_op, Fw.a_un, Fw.a_cons, Fw.a_nil, Fw.a_ret, Fw.a_retN, Fw.a_drop, Fw.a_if, Fw.a_test, Fw.a_B, Fw.a_and, Fw.a_or, Fw.a_not, Fw.a_andV, Fw.a_orV, Fw.a_notV, Fw.a_ifE, Fw.a_fn, Fw.a_fnX, Fw.a_cb, Fw.a_lst, Fw.a_tup, Fw.a_chain, Fw.a_dnew, Fw.a_start, Fw.v_add_ii, Fw.v_add_ss, Fw.v_sub_ii, Fw.v_mul_ii, Fw.v_div_ii, Fw.v_mod_ii, Fw.v_pow_ii, Fw.v_lt_ii, Fw.v_gt_ii, Fw.v_le_ii, Fw.v_ge_ii, Fw.v_le_ss, Fw.v_eq_ii, Fw.v_eq_ss, Fw.v_eq_bb, Fw.v_ne_ii, Fw.v_ne_ss, Fw.v_ne_bb, Fw.v_ne_tt, Fw.v_eq_tt, Fw.v_in_sc, Fw.v_ix_s, Fw.v_len_s, Fw.v_type, Fw.v_is, Fw.cx_K, Int.reduceToNat, List.length_replicate, Nat.sub_self, Nat.reduceSub, Nat.reduceAdd, List.replicate_zero, List.replicate_succ, List.append_nil, List.length_cons, List.length_nil, List.map_cons, List.map_nil, List.cons_append, List.nil_append, List.getElem?_cons_zero, List.getElem?_cons_succ, List.set_cons_zero, List.set_cons_succ, Option.some.injEq, V.int.injEq, V.bl.injEq, V.ref.injEq, V.str.injEq, exists_eq_left', exists_eq_left, exists_eq_right, true_and, and_true, decide_eq_true_eq, ite_true, ite_false, Bool.not_true, Bool.not_false, Bool.false_eq_true, reduceCtorEq]
        have hx := hl x rfl
        refine ⟨Nat.le_trans hx (by decide), ?_⟩
        have N0 : ∀ z : Bool, okName x = z → Q (.bl z) H := fun z hz => by
          rw [← hz]
          exact h
        refine ite2 (fun c1 => ?_) fun c1 => N0 false (by simp only [okName]; rw [decide_eq_false (p := 1 ≤ x.length) (by omega)]; rfl)
        refine ite2 (fun c2 => N0 false ?_) fun c2 => ?_
        · simp only [Bool.not_eq_true', decide_eq_false_iff_not] at c2
          simp only [okName]
          rw [decide_eq_false (p := x.length ≤ 12) (by omega), Bool.and_false]
          rfl
        simp only [Bool.not_eq_true', decide_eq_false_iff_not, Decidable.not_not] at c2
        refine f_str rfl (fun i σ' H' => H' = H ∧ (∃ v1, σ' = [some (.str x), v1]) ∧ ∀ j, j < i → ∀ c, x.cps.toList[j]? = some c → okSign c = true) ⟨rfl, ⟨_, rfl⟩, fun j hj => absurd hj (Nat.not_lt_zero _)⟩ ?_ ?_
        · rintro i c σ' H' N hc ⟨rfl, ⟨v1, rfl⟩, hi⟩ hN
          simp only [Fw.a_seq, Fw.a_next, Fw.a_brk, Fw.a_cont, Fw.a_asg, Fw.a_name, Fw.a_gnil, Fw.a_gcons, Fw.a_gsub, Fw.a_var, Fw.a_c, Fw.a_op, Fw.a_un, Fw.a_cons, Fw.a_nil, Fw.a_ret, Fw.a_retN, Fw.a_drop, Fw.a_if, Fw.a_test, Fw.a_B, Fw.a_and, Fw.a_or, Fw.a_not, Fw.a_andV, Fw.a_orV, Fw.a_notV, Fw.a_ifE, Fw.a_fn, Fw.a_fnX, Fw.a_cb, Fw.a_lst, Fw.a_tup, Fw.a_chain, Fw.a_dnew, Fw.a_start, Fw.v_add_ii, Fw.v_add_ss, Fw.v_sub_ii, Fw.v_mul_ii, Fw.v_div_ii, Fw.v_mod_ii, Fw.v_pow_ii, Fw.v_lt_ii, Fw.v_gt_ii, Fw.v_le_ii, Fw.v_ge_ii, Fw.v_le_ss, Fw.v_eq_ii, Fw.v_eq_ss, Fw.v_eq_bb, Fw.v_ne_ii, Fw.v_ne_ss, Fw.v_ne_bb, Fw.v_ne_tt, Fw.v_eq_tt, Fw.v_in_sc, Fw.v_ix_s, Fw.v_len_s, Fw.v_type, Fw.v_is, Fw.cx_K, Int.reduceToNat, List.length_replicate, Nat.sub_self, Nat.reduceSub, Nat.reduceAdd, List.replicate_zero, List.replicate_succ, List.append_nil, List.length_cons, List.length_nil, List.map_cons, List.map_nil, List.cons_append, List.nil_append, List.getElem?_cons_zero, List.getElem?_cons_succ, List.set_cons_zero, List.set_cons_succ, Option.some.injEq, V.int.injEq, V.bl.injEq, V.ref.injEq, V.str.injEq, exists_eq_left', exists_eq_left, exists_eq_right, true_and, and_true, decide_eq_true_eq, ite_true, ite_false, Bool.not_true, Bool.not_false, Bool.false_eq_true, reduceCtorEq]
          have e1 : (Str.ofString "a").cps.toList = [97] := by decide +kernel
          have e2 : (Str.ofString "z").cps.toList = [122] := by decide +kernel
          rw [e1, e2, lt1, lt1]
          have F : okSign c = false → Q (.bl false) H' := fun hb => N0 false (by
            simp only [okName]
            have : x.cps.toList.all okSign = false := by
              rw [List.all_eq_false]
              exact ⟨c, List.mem_of_getElem? hc, by rw [hb]; decide⟩
            rw [this, Bool.and_false])
          refine ite2 (fun c3 => ite2 (fun c4 => F ?_) fun c4 => ?_) fun c3 => F ?_
          · simp only [Bool.not_not, decide_eq_true_eq] at c4
            simp only [okSign]
            rw [decide_eq_false (p := c ≤ 122) (by omega), Bool.and_false]
          · simp only [Bool.not_eq_true', decide_eq_false_iff_not] at c3
            simp only [Bool.not_not, decide_eq_true_eq] at c4
            refine hN _ _ ⟨rfl, ⟨_, rfl⟩, fun j hj d hd => ?_⟩
            by_cases ej : j = i
            · subst ej
              rw [hc] at hd
              cases hd
              simp only [okSign]
              rw [decide_eq_true (p := 97 ≤ c) (by omega), decide_eq_true (p := c ≤ 122) (by omega)]
              rfl
            · exact hi j (by omega) d hd
          · simp only [Bool.not_eq_true', decide_eq_false_iff_not, Decidable.not_not] at c3
            simp only [okSign]
            rw [decide_eq_false (p := 97 ≤ c) (by omega), Bool.false_and]
        · rintro σ' H' ⟨rfl, ⟨v1, rfl⟩, hi⟩
          simp only [Fw.a_seq, Fw.a_next, Fw.a_brk, Fw.a_cont, Fw.a_asg, Fw.a_name, Fw.a_gnil, Fw.a_gcons, Fw.a_gsub, Fw.a_var, Fw.a_c, Fw.a_op, Fw.a_un, Fw.a_cons, Fw.a_nil, Fw.a_ret, Fw.a_retN, Fw.a_drop, Fw.a_if, Fw.a_test, Fw.a_B, Fw.a_and, Fw.a_or, Fw.a_not, Fw.a_andV, Fw.a_orV, Fw.a_notV, Fw.a_ifE, Fw.a_fn, Fw.a_fnX, Fw.a_cb, Fw.a_lst, Fw.a_tup, Fw.a_chain, Fw.a_dnew, Fw.a_start, Fw.v_add_ii, Fw.v_add_ss, Fw.v_sub_ii, Fw.v_mul_ii, Fw.v_div_ii, Fw.v_mod_ii, Fw.v_pow_ii, Fw.v_lt_ii, Fw.v_gt_ii, Fw.v_le_ii, Fw.v_ge_ii, Fw.v_le_ss, Fw.v_eq_ii, Fw.v_eq_ss, Fw.v_eq_bb, Fw.v_ne_ii, Fw.v_ne_ss, Fw.v_ne_bb, Fw.v_ne_tt, Fw.v_eq_tt, Fw.v_in_sc, Fw.v_ix_s, Fw.v_len_s, Fw.v_type, Fw.v_is, Fw.cx_K, Int.reduceToNat, List.length_replicate, Nat.sub_self, Nat.reduceSub, Nat.reduceAdd, List.replicate_zero, List.replicate_succ, List.append_nil, List.length_cons, List.length_nil, List.map_cons, List.map_nil, List.cons_append, List.nil_append, List.getElem?_cons_zero, List.getElem?_cons_succ, List.set_cons_zero, List.set_cons_succ, Option.some.injEq, V.int.injEq, V.bl.injEq, V.ref.injEq, V.str.injEq, exists_eq_left', exists_eq_left, exists_eq_right, true_and, and_true, decide_eq_true_eq, ite_true, ite_false, Bool.not_true, Bool.not_false, Bool.false_eq_true, reduceCtorEq]
          refine N0 true ?_
          simp only [okName]
          have c1' : 1 ≤ x.length := by omega
          have c2' : x.length ≤ 12 := by omega
          rw [decide_eq_true c1', decide_eq_true c2', Bool.true_and, Bool.true_and, List.all_eq_true]
          intro c hc
          obtain ⟨j, hj⟩ := List.getElem?_of_mem hc
          exact hi j (List.getElem?_eq_some_iff.mp hj).1 c hj
      all_goals
        refine ⟨by decide, by decide, ?_⟩
        rw [if_pos (by decide)]
        exact h
    · exact h.elim
/-! ### name_of -/
theorem ok_name_of (S : Src K mg "name_of" ["thing"] s_name_of) (B : Blt mg) (G__is_name : Fn P w K mg base 1 "is_name" ["thing"] (sp_is_name)) (X_NoName : Exn K mg "NoName" CA) : FnX P w K mg base 2 "name_of" ["thing"] (sp_name_of CA) := by
  have sc := sc_name_of
  refine fnx_mk S sc (fun vs H Q E h => ?_) (fun f cdv A outer s H vs Q E hr h => ⟨_, (pss_cons (ps_if (pt_not (pt_val (pe_fn G__is_name (hr.mono (by decide)) rfl (pa_cons (pv 0) pa_nil))))
     (pss_one (ps_raise rfl (takes_of rfl rfl rfl rfl) (X_NoName.mk_ rfl)))
     pss_nil)
     (pss_one (ps_ret (pv 0)))), ?_⟩)
  · unfold sp_name_of at h; split at h <;> first | rfl | exact h.elim
  · unfold sp_name_of at h
    split at h
    · rename_i v
      obtain ⟨hf, h⟩ := h
      simp only [Fw.a_seq, Fw.a_next, Fw.a_brk, Fw.a_cont, Fw.a_asg, Fw.a_name, Fw.a_gnil, Fw.a_gcons, Fw.a_gsub, Fw.a_var, Fw.a_c, Fw.a_op, Fw.a_un, Fw.a_cons, Fw.a_nil, Fw.a_ret, Fw.a_retN, Fw.a_drop, Fw.a_if, Fw.a_test, Fw.a_B, Fw.a_and, Fw.a_or, Fw.a_not, Fw.a_andV, Fw.a_orV, Fw.a_notV, Fw.a_ifE, Fw.a_fn, Fw.a_fnX, Fw.a_cb, Fw.a_lst, Fw.a_tup, Fw.a_chain, Fw.a_dnew, Fw.a_start, Fw.v_add_ii, Fw.v_add_ss, Fw.v_sub_ii, Fw.v_mul_ii, Fw.v_div_ii, Fw.v_mod_ii, Fw.v_pow_ii, Fw.v_lt_ii, Fw.v_gt_ii, Fw.v_le_ii, Fw.v_ge_ii, Fw.v_le_ss, Fw.v_eq_ii, Fw.v_eq_ss, Fw.v_eq_bb, Fw.v_ne_ii, Fw.v_ne_ss, Fw.v_ne_bb, Fw.v_ne_tt, Fw.v_eq_tt, Fw.v_in_sc, Fw.v_ix_s, Fw.v_len_s, Fw.v_type, Fw.v_is, Fw.cx_K, Int.reduceToNat, List.length_replicate, Nat.sub_self, Nat.reduceSub, Nat.reduceAdd, List.replicate_zero, List.replicate_succ, List.append_nil, List.length_cons, List.length_nil, List.map_cons, List.map_nil, List.cons_append, List.nil_append, List.getElem?_cons_zero, List.getElem?_cons_succ, List.set_cons_zero, List.set_cons_succ, Option.some.injEq, V.int.injEq, V.bl.injEq, V.ref.injEq, V.str.injEq, exists_eq_left', exists_eq_left, exists_eq_right, true_and, and_true, decide_eq_true_eq, ite_true, ite_false, Bool.not_true, Bool.not_false, Bool.false_eq_true, reduceCtorEq]
      refine ⟨hf, ?_⟩
      cases hb : isN v with
      | true =>
        rw [hb] at h
        exact ⟨_, rfl, h⟩
      | false =>
        rw [hb] at h
        exact ⟨_, rfl, h⟩
    · exact h.elim
/-! ### _law_cell_at -/
theorem ok_cell_at (S : Src K mg "_law_cell_at" ["_law_script", "_law_k"] s_cell_at) (B : Blt mg) : Fn P w K mg base 1 "_law_cell_at" ["_law_script", "_law_k"] (sp_cell_at K) := by
  have sc := sc_cell_at
  refine fn_mk S sc (fun vs H Q E h => ?_) (fun f cdv A outer s H vs Q E hr h => ⟨_, (pss_cons (ps_if (pt_cmpR op_vLt (pv 1) (pe_callB call_len_seq rfl B.n_len (by decide +kernel) (pa_cons (pv 0) pa_nil)) (nomark _))
     (pss_one (ps_ret (pe_ix ix_list (pv 0) (pv 1) (fun _ _ => rfl))))
     pss_nil)
     (pss_one (ps_ret pe_int))), ?_⟩)
  · unfold sp_cell_at at h; split at h <;> first | rfl | exact h.elim
  · unfold sp_cell_at at h
    split at h
    · rename_i a k
      obtain ⟨ns, j, hS, rfl, q⟩ := h
      simp only [Fw.a_seq, Fw.a_next, Fw.a_brk, Fw.a_cont, Fw.a_asg, Fw.a_name, Fw.a_gnil, Fw.a_gcons, Fw.a_gsub, Fw.a_var, Fw.a_c, Fw.a_op, Fw.a_un, Fw.a_cons, Fw.a_nil, Fw.a_ret, Fw.a_retN, Fw.a_drop, Fw.a_if, Fw.a_test, Fw.a_B, Fw.a_and, Fw.a_or, Fw.a_not, Fw.a_andV, Fw.a_orV, Fw.a_notV, Fw.a_ifE, Fw.a_fn, Fw.a_fnX, Fw.a_cb, Fw.a_lst, Fw.a_tup, Fw.a_chain, Fw.a_dnew, Fw.a_start, Fw.v_add_ii, Fw.v_add_ss, Fw.v_sub_ii, Fw.v_mul_ii, Fw.v_div_ii, Fw.v_mod_ii, Fw.v_pow_ii, Fw.v_lt_ii, Fw.v_gt_ii, Fw.v_le_ii, Fw.v_ge_ii, Fw.v_le_ss, Fw.v_eq_ii, Fw.v_eq_ss, Fw.v_eq_bb, Fw.v_ne_ii, Fw.v_ne_ss, Fw.v_ne_bb, Fw.v_ne_tt, Fw.v_eq_tt, Fw.v_in_sc, Fw.v_ix_s, Fw.v_len_s, Fw.v_type, Fw.v_is, Fw.cx_K, Int.reduceToNat, List.length_replicate, Nat.sub_self, Nat.reduceSub, Nat.reduceAdd, List.replicate_zero, List.replicate_succ, List.append_nil, List.length_cons, List.length_nil, List.map_cons, List.map_nil, List.cons_append, List.nil_append, List.getElem?_cons_zero, List.getElem?_cons_succ, List.set_cons_zero, List.set_cons_succ, Option.some.injEq, V.int.injEq, V.bl.injEq, V.ref.injEq, V.str.injEq, exists_eq_left', exists_eq_left, exists_eq_right, true_and, and_true, decide_eq_true_eq, ite_true, ite_false, Bool.not_true, Bool.not_false, Bool.false_eq_true, reduceCtorEq]
      refine ⟨a, _, rfl, .inl hS, ?_⟩
      try simp only [Fw.a_seq, Fw.a_next, Fw.a_brk, Fw.a_cont, Fw.a_asg, Fw.a_name, Fw.a_gnil, Fw.a_gcons, Fw.a_gsub, Fw.a_var, Fw.a_c, Fw.a_op, Fw.a_un, Fw.a_cons, Fw.a_nil, Fw.a_ret, Fw.a_retN, Fw.a_drop, Fw.a_if, Fw.a_test, Fw.a_B, Fw.a_and, Fw.a_or, Fw.a_not, Fw.a_andV, Fw.a_orV, Fw.a_notV, Fw.a_ifE, Fw.a_fn, Fw.a_fnX, Fw.a_cb, Fw.a_lst, Fw.a_tup, Fw.a_chain, Fw.a_dnew, Fw.a_start, Fw.v_add_ii, Fw.v_add_ss, Fw.v_sub_ii, Fw.v_mul_ii, Fw.v_div_ii, Fw.v_mod_ii, Fw.v_pow_ii, Fw.v_lt_ii, Fw.v_gt_ii, Fw.v_le_ii, Fw.v_ge_ii, Fw.v_le_ss, Fw.v_eq_ii, Fw.v_eq_ss, Fw.v_eq_bb, Fw.v_ne_ii, Fw.v_ne_ss, Fw.v_ne_bb, Fw.v_ne_tt, Fw.v_eq_tt, Fw.v_in_sc, Fw.v_ix_s, Fw.v_len_s, Fw.v_type, Fw.v_is, Fw.cx_K, Int.reduceToNat, List.length_replicate, Nat.sub_self, Nat.reduceSub, Nat.reduceAdd, List.replicate_zero, List.replicate_succ, List.append_nil, List.length_cons, List.length_nil, List.map_cons, List.map_nil, List.cons_append, List.nil_append, List.getElem?_cons_zero, List.getElem?_cons_succ, List.set_cons_zero, List.set_cons_succ, Option.some.injEq, V.int.injEq, V.bl.injEq, V.ref.injEq, V.str.injEq, exists_eq_left', exists_eq_left, exists_eq_right, true_and, and_true, decide_eq_true_eq, ite_true, ite_false, Bool.not_true, Bool.not_false, Bool.false_eq_true, reduceCtorEq]
      rw [List.length_map]
      by_cases c : j < ns.length
      · rw [if_pos (by omega)]
        refine ⟨a, _, (j : Int), _, rfl, rfl, hS, atI_nat (map_int_get (List.getElem?_eq_getElem c)), ?_⟩
        have : cellAt ns j = ns[j] := by simp [cellAt, c]
        rw [← this]
        exact q
      · rw [if_neg (by omega)]
        have : cellAt ns j = 0 := by simp [cellAt, Nat.le_of_not_lt c]
        rw [← this]
        exact q
    · exact h.elim
/-! ### _law_sign_by -/
theorem ok_sign_by (S : Src K mg "_law_sign_by" ["_law_cell"] s_sign_by) (B : Blt mg) : Fn P w K mg base 1 "_law_sign_by" ["_law_cell"] (sp_sign_by) := by
  have sc := sc_sign_by
  refine fn_mk S sc (fun vs H Q E h => ?_) (fun f cdv A outer s H vs Q E hr h => ⟨_, (pss_cons (ps_set (i := 1) sc.nd rfl (Or.inl rfl) pe_str)
     (pss_cons (ps_set (i := 1) sc.nd rfl (Or.inl rfl) (pe_op op_vAdd (pv 1) pe_str))
     (pss_one (ps_ret (pe_ix (ix_v (hu_of hr)) (pv 1) (pe_op op_vMod (pv 0) pe_int) (fun _ _ => rfl)))))), ?_⟩)
  · unfold sp_sign_by at h; split at h <;> first | rfl | exact h.elim
  · unfold sp_sign_by at h
    split at h
    · rename_i i
      simp only [Fw.a_seq, Fw.a_next, Fw.a_brk, Fw.a_cont, Fw.a_asg, Fw.a_name, Fw.a_gnil, Fw.a_gcons, Fw.a_gsub, Fw.a_var, Fw.a_c, Fw.a_op, Fw.a_un, Fw.a_cons, Fw.a_nil, Fw.a_ret, Fw.a_retN, Fw.a_drop, Fw.a_if, Fw.a_test, Fw.a_B, Fw.a_and, Fw.a_or, Fw.a_not, Fw.a_andV, Fw.a_orV, Fw.a_notV, Fw.a_ifE, Fw.a_fn, Fw.a_fnX, Fw.a_cb, Fw.a_lst, Fw.a_tup, Fw.a_chain, Fw.a_dnew, Fw.a_start, Fw.v_add_ii, Fw.v_add_ss, Fw.v_sub_ii, Fw.v_mul_ii, Fw.v_div_ii, Fw.v_mod_ii, Fw.v_pow_ii, Fw.v_lt_ii, Fw.v_gt_ii, Fw.v_le_ii, Fw.v_ge_ii, Fw.v_le_ss, Fw.v_eq_ii, Fw.v_eq_ss, Fw.v_eq_bb, Fw.v_ne_ii, Fw.v_ne_ss, Fw.v_ne_bb, Fw.v_ne_tt, Fw.v_eq_tt, Fw.v_in_sc, Fw.v_ix_s, Fw.v_len_s, Fw.v_type, Fw.v_is, Fw.cx_K, Int.reduceToNat, List.length_replicate, Nat.sub_self, Nat.reduceSub, Nat.reduceAdd, List.replicate_zero, List.replicate_succ, List.append_nil, List.length_cons, List.length_nil, List.map_cons, List.map_nil, List.cons_append, List.nil_append, List.getElem?_cons_zero, List.getElem?_cons_succ, List.set_cons_zero, List.set_cons_succ, Option.some.injEq, V.int.injEq, V.bl.injEq, V.ref.injEq, V.str.injEq, exists_eq_left', exists_eq_left, exists_eq_right, true_and, and_true, decide_eq_true_eq, ite_true, ite_false, Bool.not_true, Bool.not_false, Bool.false_eq_true, reduceCtorEq]
      refine ⟨by decide +kernel, by decide, by decide +kernel, ?_⟩
      obtain ⟨c, h1, _⟩ := at_ex (xs := (Str.ofString " !\"#$&'()*+,-./0123456789:;<=>?@ABCDEFGHIJKLMNOPQRSTUVWXYZ[\\]^_`" ++ Str.ofString "abcdefghijklmnopqrstuvwxyz{|}~\n\t").cps.toList) (i := i % 96) (by omega) (by
        have e : (Str.ofString " !\"#$&'()*+,-./0123456789:;<=>?@ABCDEFGHIJKLMNOPQRSTUVWXYZ[\\]^_`" ++ Str.ofString "abcdefghijklmnopqrstuvwxyz{|}~\n\t").cps.toList.length = 96 := by decide +kernel
        rw [e]
        omega)
      exact ⟨c, h1, h c⟩
    · exact h.elim
/-! ### _law_text_by -/
theorem ok_text_by (S : Src K mg "_law_text_by" ["_law_script"] s_text_by) (B : Blt mg) (G__law_cell_at : Fn P w K mg base 1 "_law_cell_at" ["_law_script", "_law_k"] (sp_cell_at K)) (G__law_sign_by : Fn P w K mg base 1 "_law_sign_by" ["_law_cell"] (sp_sign_by)) : Fn P w K mg base 2 "_law_text_by" ["_law_script"] (sp_text_by K) := by
  have sc := sc_text_by
  refine fn_mk S sc (fun vs H Q E h => ?_) (fun f cdv A outer s H vs Q E hr h => ⟨_, (pss_cons (ps_set (i := 1) sc.nd rfl (Or.inl rfl) (pe_op op_vMod (pe_fn G__law_cell_at (hr.mono (by decide)) rfl (pa_cons (pv 0) (pa_cons pe_int pa_nil))) pe_int))
     (pss_cut (ps_if (pt_cmpR (op_vEq hr.units) (pe_op op_vMod (pe_op op_vDiv (pe_fn G__law_cell_at (hr.mono (by decide)) rfl (pa_cons (pv 0) (pa_cons pe_int pa_nil))) pe_int) pe_int) pe_int (nomark _))
     (pss_one (ps_set (i := 1) sc.nd rfl (Or.inl rfl) (pe_op op_vMod (pe_op op_vDiv (pe_fn G__law_cell_at (hr.mono (by decide)) rfl (pa_cons (pv 0) (pa_cons pe_int pa_nil))) pe_int) pe_int)))
     pss_nil)
     (pss_cons (ps_set (i := 2) sc.nd rfl (Or.inl rfl) (pe_op op_vMod (pe_fn G__law_cell_at (hr.mono (by decide)) rfl (pa_cons (pv 0) (pa_cons pe_int pa_nil))) pe_int))
     (pss_cons (ps_set (i := 3) sc.nd rfl (Or.inl rfl) pe_str)
     (pss_cons (ps_for PassesOwn.never rfl (pi_range1 rfl B.n_range (pa_cons (pv 1) pa_nil)) (pg_name (i := 4) sc.nd rfl (Or.inl rfl))
     (pss_cons (ps_set (i := 5) sc.nd rfl (Or.inl rfl) (pe_fn G__law_cell_at (hr.mono (by decide)) rfl (pa_cons (pv 0) (pa_cons (pe_op op_vAdd pe_int (pv 4)) pa_nil))))
     (pss_one (ps_if (PW.pt (pw_or (pt_cmpR (op_vEq hr.units) (pv 2) pe_int (nomark _)) (pw_or1 (PW.pt (pw_and (pt_cmpR (op_vEq hr.units) (pv 2) pe_int (nomark _)) (pw_and1 (pt_cmpR (op_vEq hr.units) (pv 4) (pe_op op_vMod (pe_fn G__law_cell_at (hr.mono (by decide)) rfl (pa_cons (pv 0) (pa_cons pe_int pa_nil))) (pv 1)) (nomark _))))))))
     (pss_one (ps_set (i := 3) sc.nd rfl (Or.inl rfl) (pe_op op_vAdd (pv 3) (pe_fn G__law_sign_by (hr.mono (by decide)) rfl (pa_cons (pv 5) pa_nil)))))
     (pss_one (ps_set (i := 3) sc.nd rfl (Or.inl rfl) (pe_op op_vAdd (pv 3) (pe_ix (ix_v (hu_of hr)) pe_str (pe_op op_vMod (pv 5) pe_int) (fun _ _ => rfl)))))))))
     (pss_one (ps_ret (pv 3)))))))), ?_⟩)
  · unfold sp_text_by at h; split at h <;> first | rfl | exact h.elim
  · unfold sp_text_by at h
    split at h
    · rename_i a
      obtain ⟨⟨ns, hS⟩, q⟩ := h
      simp only [Fw.a_seq, Fw.a_next, Fw.a_brk, Fw.a_cont, Fw.a_asg, Fw.a_name, Fw.a_gnil, Fw.a_gcons, Fw.a_gsub, Fw.a_var, Fw.a_c, Fw.a_op, Fw.a_un, Fw.a_cons, Fw.a_nil, Fw.a_ret, Fw.a_retN, Fw.a_drop, Fw.a_if, Fw.a_test, Fw.a_B, Fw.a_and, Fw.a_or, Fw.a_not, Fw.a_andV, Fw.a_orV, Fw.a_notV, Fw.a_ifE, Fw.a_fn, Fw.a_fnX, Fw.a_cb, Fw.a_lst, Fw.a_tup, Fw.a_chain, Fw.a_dnew, Fw.a_start, Fw.v_add_ii, Fw.v_add_ss, Fw.v_sub_ii, Fw.v_mul_ii, Fw.v_div_ii, Fw.v_mod_ii, Fw.v_pow_ii, Fw.v_lt_ii, Fw.v_gt_ii, Fw.v_le_ii, Fw.v_ge_ii, Fw.v_le_ss, Fw.v_eq_ii, Fw.v_eq_ss, Fw.v_eq_bb, Fw.v_ne_ii, Fw.v_ne_ss, Fw.v_ne_bb, Fw.v_ne_tt, Fw.v_eq_tt, Fw.v_in_sc, Fw.v_ix_s, Fw.v_len_s, Fw.v_type, Fw.v_is, Fw.cx_K, Int.reduceToNat, List.length_replicate, Nat.sub_self, Nat.reduceSub, Nat.reduceAdd, List.replicate_zero, List.replicate_succ, List.append_nil, List.length_cons, List.length_nil, List.map_cons, List.map_nil, List.cons_append, List.nil_append, List.getElem?_cons_zero, List.getElem?_cons_succ, List.set_cons_zero, List.set_cons_succ, Option.some.injEq, V.int.injEq, V.bl.injEq, V.ref.injEq, V.str.injEq, exists_eq_left', exists_eq_left, exists_eq_right, true_and, and_true, decide_eq_true_eq, ite_true, ite_false, Bool.not_true, Bool.not_false, Bool.false_eq_true, reduceCtorEq]
      refine cell_use 1 hS rfl ?_
      simp only [Fw.a_seq, Fw.a_next, Fw.a_brk, Fw.a_cont, Fw.a_asg, Fw.a_name, Fw.a_gnil, Fw.a_gcons, Fw.a_gsub, Fw.a_var, Fw.a_c, Fw.a_op, Fw.a_un, Fw.a_cons, Fw.a_nil, Fw.a_ret, Fw.a_retN, Fw.a_drop, Fw.a_if, Fw.a_test, Fw.a_B, Fw.a_and, Fw.a_or, Fw.a_not, Fw.a_andV, Fw.a_orV, Fw.a_notV, Fw.a_ifE, Fw.a_fn, Fw.a_fnX, Fw.a_cb, Fw.a_lst, Fw.a_tup, Fw.a_chain, Fw.a_dnew, Fw.a_start, Fw.v_add_ii, Fw.v_add_ss, Fw.v_sub_ii, Fw.v_mul_ii, Fw.v_div_ii, Fw.v_mod_ii, Fw.v_pow_ii, Fw.v_lt_ii, Fw.v_gt_ii, Fw.v_le_ii, Fw.v_ge_ii, Fw.v_le_ss, Fw.v_eq_ii, Fw.v_eq_ss, Fw.v_eq_bb, Fw.v_ne_ii, Fw.v_ne_ss, Fw.v_ne_bb, Fw.v_ne_tt, Fw.v_eq_tt, Fw.v_in_sc, Fw.v_ix_s, Fw.v_len_s, Fw.v_type, Fw.v_is, Fw.cx_K, Int.reduceToNat, List.length_replicate, Nat.sub_self, Nat.reduceSub, Nat.reduceAdd, List.replicate_zero, List.replicate_succ, List.append_nil, List.length_cons, List.length_nil, List.map_cons, List.map_nil, List.cons_append, List.nil_append, List.getElem?_cons_zero, List.getElem?_cons_succ, List.set_cons_zero, List.set_cons_succ, Option.some.injEq, V.int.injEq, V.bl.injEq, V.ref.injEq, V.str.injEq, exists_eq_left', exists_eq_left, exists_eq_right, true_and, and_true, decide_eq_true_eq, ite_true, ite_false, Bool.not_true, Bool.not_false, Bool.false_eq_true, reduceCtorEq]
      refine ⟨by decide, ?_⟩
      refine cut (fun σ' H' => ∃ sz : Nat, sz ≤ 80 ∧ σ' = [some (.ref a), some (.int sz), none, none, none, none] ∧ H' = H) (fun N hN => ?_) ?_
      · simp only [Fw.a_seq, Fw.a_next, Fw.a_brk, Fw.a_cont, Fw.a_asg, Fw.a_name, Fw.a_gnil, Fw.a_gcons, Fw.a_gsub, Fw.a_var, Fw.a_c, Fw.a_op, Fw.a_un, Fw.a_cons, Fw.a_nil, Fw.a_ret, Fw.a_retN, Fw.a_drop, Fw.a_if, Fw.a_test, Fw.a_B, Fw.a_and, Fw.a_or, Fw.a_not, Fw.a_andV, Fw.a_orV, Fw.a_notV, Fw.a_ifE, Fw.a_fn, Fw.a_fnX, Fw.a_cb, Fw.a_lst, Fw.a_tup, Fw.a_chain, Fw.a_dnew, Fw.a_start, Fw.v_add_ii, Fw.v_add_ss, Fw.v_sub_ii, Fw.v_mul_ii, Fw.v_div_ii, Fw.v_mod_ii, Fw.v_pow_ii, Fw.v_lt_ii, Fw.v_gt_ii, Fw.v_le_ii, Fw.v_ge_ii, Fw.v_le_ss, Fw.v_eq_ii, Fw.v_eq_ss, Fw.v_eq_bb, Fw.v_ne_ii, Fw.v_ne_ss, Fw.v_ne_bb, Fw.v_ne_tt, Fw.v_eq_tt, Fw.v_in_sc, Fw.v_ix_s, Fw.v_len_s, Fw.v_type, Fw.v_is, Fw.cx_K, Int.reduceToNat, List.length_replicate, Nat.sub_self, Nat.reduceSub, Nat.reduceAdd, List.replicate_zero, List.replicate_succ, List.append_nil, List.length_cons, List.length_nil, List.map_cons, List.map_nil, List.cons_append, List.nil_append, List.getElem?_cons_zero, List.getElem?_cons_succ, List.set_cons_zero, List.set_cons_succ, Option.some.injEq, V.int.injEq, V.bl.injEq, V.ref.injEq, V.str.injEq, exists_eq_left', exists_eq_left, exists_eq_right, true_and, and_true, decide_eq_true_eq, ite_true, ite_false, Bool.not_true, Bool.not_false, Bool.false_eq_true, reduceCtorEq]
        refine cell_use 1 hS rfl ?_
        simp only [Fw.a_seq, Fw.a_next, Fw.a_brk, Fw.a_cont, Fw.a_asg, Fw.a_name, Fw.a_gnil, Fw.a_gcons, Fw.a_gsub, Fw.a_var, Fw.a_c, Fw.a_op, Fw.a_un, Fw.a_cons, Fw.a_nil, Fw.a_ret, Fw.a_retN, Fw.a_drop, Fw.a_if, Fw.a_test, Fw.a_B, Fw.a_and, Fw.a_or, Fw.a_not, Fw.a_andV, Fw.a_orV, Fw.a_notV, Fw.a_ifE, Fw.a_fn, Fw.a_fnX, Fw.a_cb, Fw.a_lst, Fw.a_tup, Fw.a_chain, Fw.a_dnew, Fw.a_start, Fw.v_add_ii, Fw.v_add_ss, Fw.v_sub_ii, Fw.v_mul_ii, Fw.v_div_ii, Fw.v_mod_ii, Fw.v_pow_ii, Fw.v_lt_ii, Fw.v_gt_ii, Fw.v_le_ii, Fw.v_ge_ii, Fw.v_le_ss, Fw.v_eq_ii, Fw.v_eq_ss, Fw.v_eq_bb, Fw.v_ne_ii, Fw.v_ne_ss, Fw.v_ne_bb, Fw.v_ne_tt, Fw.v_eq_tt, Fw.v_in_sc, Fw.v_ix_s, Fw.v_len_s, Fw.v_type, Fw.v_is, Fw.cx_K, Int.reduceToNat, List.length_replicate, Nat.sub_self, Nat.reduceSub, Nat.reduceAdd, List.replicate_zero, List.replicate_succ, List.append_nil, List.length_cons, List.length_nil, List.map_cons, List.map_nil, List.cons_append, List.nil_append, List.getElem?_cons_zero, List.getElem?_cons_succ, List.set_cons_zero, List.set_cons_succ, Option.some.injEq, V.int.injEq, V.bl.injEq, V.ref.injEq, V.str.injEq, exists_eq_left', exists_eq_left, exists_eq_right, true_and, and_true, decide_eq_true_eq, ite_true, ite_false, Bool.not_true, Bool.not_false, Bool.false_eq_true, reduceCtorEq]
        refine ⟨⟨by decide, by decide⟩, by decide, ite2 (fun _ => ?_) fun _ => ?_⟩
        · refine cell_use 1 hS rfl ?_
          simp only [Fw.a_seq, Fw.a_next, Fw.a_brk, Fw.a_cont, Fw.a_asg, Fw.a_name, Fw.a_gnil, Fw.a_gcons, Fw.a_gsub, Fw.a_var, Fw.a_c, Fw.a_op, Fw.a_un, Fw.a_cons, Fw.a_nil, Fw.a_ret, Fw.a_retN, Fw.a_drop, Fw.a_if, Fw.a_test, Fw.a_B, Fw.a_and, Fw.a_or, Fw.a_not, Fw.a_andV, Fw.a_orV, Fw.a_notV, Fw.a_ifE, Fw.a_fn, Fw.a_fnX, Fw.a_cb, Fw.a_lst, Fw.a_tup, Fw.a_chain, Fw.a_dnew, Fw.a_start, Fw.v_add_ii, Fw.v_add_ss, Fw.v_sub_ii, Fw.v_mul_ii, Fw.v_div_ii, Fw.v_mod_ii, Fw.v_pow_ii, Fw.v_lt_ii, Fw.v_gt_ii, Fw.v_le_ii, Fw.v_ge_ii, Fw.v_le_ss, Fw.v_eq_ii, Fw.v_eq_ss, Fw.v_eq_bb, Fw.v_ne_ii, Fw.v_ne_ss, Fw.v_ne_bb, Fw.v_ne_tt, Fw.v_eq_tt, Fw.v_in_sc, Fw.v_ix_s, Fw.v_len_s, Fw.v_type, Fw.v_is, Fw.cx_K, Int.reduceToNat, List.length_replicate, Nat.sub_self, Nat.reduceSub, Nat.reduceAdd, List.replicate_zero, List.replicate_succ, List.append_nil, List.length_cons, List.length_nil, List.map_cons, List.map_nil, List.cons_append, List.nil_append, List.getElem?_cons_zero, List.getElem?_cons_succ, List.set_cons_zero, List.set_cons_succ, Option.some.injEq, V.int.injEq, V.bl.injEq, V.ref.injEq, V.str.injEq, exists_eq_left', exists_eq_left, exists_eq_right, true_and, and_true, decide_eq_true_eq, ite_true, ite_false, Bool.not_true, Bool.not_false, Bool.false_eq_true, reduceCtorEq]
          refine ⟨⟨by decide, by decide⟩, by decide, hN _ _ ⟨(cellAt ns 1 / 75 % 81).toNat, by omega, ?_, rfl⟩⟩
          rw [Int.toNat_of_nonneg (by omega)]
        · refine hN _ _ ⟨(cellAt ns 1 % 15).toNat, by omega, ?_, rfl⟩
          rw [Int.toNat_of_nonneg (by omega)]
      · rintro σ' H' ⟨sz, hz, rfl, rfl⟩
        simp only [Fw.a_seq, Fw.a_next, Fw.a_brk, Fw.a_cont, Fw.a_asg, Fw.a_name, Fw.a_gnil, Fw.a_gcons, Fw.a_gsub, Fw.a_var, Fw.a_c, Fw.a_op, Fw.a_un, Fw.a_cons, Fw.a_nil, Fw.a_ret, Fw.a_retN, Fw.a_drop, Fw.a_if, Fw.a_test, Fw.a_B, Fw.a_and, Fw.a_or, Fw.a_not, Fw.a_andV, Fw.a_orV, Fw.a_notV, Fw.a_ifE, Fw.a_fn, Fw.a_fnX, Fw.a_cb, Fw.a_lst, Fw.a_tup, Fw.a_chain, Fw.a_dnew, Fw.a_start, Fw.v_add_ii, Fw.v_add_ss, Fw.v_sub_ii, Fw.v_mul_ii, Fw.v_div_ii, Fw.v_mod_ii, Fw.v_pow_ii, Fw.v_lt_ii, Fw.v_gt_ii, Fw.v_le_ii, Fw.v_ge_ii, Fw.v_le_ss, Fw.v_eq_ii, Fw.v_eq_ss, Fw.v_eq_bb, Fw.v_ne_ii, Fw.v_ne_ss, Fw.v_ne_bb, Fw.v_ne_tt, Fw.v_eq_tt, Fw.v_in_sc, Fw.v_ix_s, Fw.v_len_s, Fw.v_type, Fw.v_is, Fw.cx_K, Int.reduceToNat, List.length_replicate, Nat.sub_self, Nat.reduceSub, Nat.reduceAdd, List.replicate_zero, List.replicate_succ, List.append_nil, List.length_cons, List.length_nil, List.map_cons, List.map_nil, List.cons_append, List.nil_append, List.getElem?_cons_zero, List.getElem?_cons_succ, List.set_cons_zero, List.set_cons_succ, Option.some.injEq, V.int.injEq, V.bl.injEq, V.ref.injEq, V.str.injEq, exists_eq_left', exists_eq_left, exists_eq_right, true_and, and_true, decide_eq_true_eq, ite_true, ite_false, Bool.not_true, Bool.not_false, Bool.false_eq_true, reduceCtorEq]
        refine cell_use 2 hS rfl ?_
        simp only [Fw.a_seq, Fw.a_next, Fw.a_brk, Fw.a_cont, Fw.a_asg, Fw.a_name, Fw.a_gnil, Fw.a_gcons, Fw.a_gsub, Fw.a_var, Fw.a_c, Fw.a_op, Fw.a_un, Fw.a_cons, Fw.a_nil, Fw.a_ret, Fw.a_retN, Fw.a_drop, Fw.a_if, Fw.a_test, Fw.a_B, Fw.a_and, Fw.a_or, Fw.a_not, Fw.a_andV, Fw.a_orV, Fw.a_notV, Fw.a_ifE, Fw.a_fn, Fw.a_fnX, Fw.a_cb, Fw.a_lst, Fw.a_tup, Fw.a_chain, Fw.a_dnew, Fw.a_start, Fw.v_add_ii, Fw.v_add_ss, Fw.v_sub_ii, Fw.v_mul_ii, Fw.v_div_ii, Fw.v_mod_ii, Fw.v_pow_ii, Fw.v_lt_ii, Fw.v_gt_ii, Fw.v_le_ii, Fw.v_ge_ii, Fw.v_le_ss, Fw.v_eq_ii, Fw.v_eq_ss, Fw.v_eq_bb, Fw.v_ne_ii, Fw.v_ne_ss, Fw.v_ne_bb, Fw.v_ne_tt, Fw.v_eq_tt, Fw.v_in_sc, Fw.v_ix_s, Fw.v_len_s, Fw.v_type, Fw.v_is, Fw.cx_K, Int.reduceToNat, List.length_replicate, Nat.sub_self, Nat.reduceSub, Nat.reduceAdd, List.replicate_zero, List.replicate_succ, List.append_nil, List.length_cons, List.length_nil, List.map_cons, List.map_nil, List.cons_append, List.nil_append, List.getElem?_cons_zero, List.getElem?_cons_succ, List.set_cons_zero, List.set_cons_succ, Option.some.injEq, V.int.injEq, V.bl.injEq, V.ref.injEq, V.str.injEq, exists_eq_left', exists_eq_left, exists_eq_right, true_and, and_true, decide_eq_true_eq, ite_true, ite_false, Bool.not_true, Bool.not_false, Bool.false_eq_true, reduceCtorEq]
        refine ⟨by decide, ?_⟩
        refine f_rng sz (by omega) (fun Q q => by (simp only [Fw.a_seq, Fw.a_next, Fw.a_brk, Fw.a_cont, Fw.a_asg, Fw.a_name, Fw.a_gnil, Fw.a_gcons, Fw.a_gsub, Fw.a_var, Fw.a_c, Fw.a_op, Fw.a_un, Fw.a_cons, Fw.a_nil, Fw.a_ret, Fw.a_retN, Fw.a_drop, Fw.a_if, Fw.a_test, Fw.a_B, Fw.a_and, Fw.a_or, Fw.a_not, Fw.a_andV, Fw.a_orV, Fw.a_notV, Fw.a_ifE, Fw.a_fn, Fw.a_fnX, Fw.a_cb, Fw.a_lst, Fw.a_tup, Fw.a_chain, Fw.a_dnew, Fw.a_start, Fw.v_add_ii, Fw.v_add_ss, Fw.v_sub_ii, Fw.v_mul_ii, Fw.v_div_ii, Fw.v_mod_ii, Fw.v_pow_ii, Fw.v_lt_ii, Fw.v_gt_ii, Fw.v_le_ii, Fw.v_ge_ii, Fw.v_le_ss, Fw.v_eq_ii, Fw.v_eq_ss, Fw.v_eq_bb, Fw.v_ne_ii, Fw.v_ne_ss, Fw.v_ne_bb, Fw.v_ne_tt, Fw.v_eq_tt, Fw.v_in_sc, Fw.v_ix_s, Fw.v_len_s, Fw.v_type, Fw.v_is, Fw.cx_K, Int.reduceToNat, List.length_replicate, Nat.sub_self, Nat.reduceSub, Nat.reduceAdd, List.replicate_zero, List.replicate_succ, List.append_nil, List.length_cons, List.length_nil, List.map_cons, List.map_nil, List.cons_append, List.nil_append, List.getElem?_cons_zero, List.getElem?_cons_succ, List.set_cons_zero, List.set_cons_succ, Option.some.injEq, V.int.injEq, V.bl.injEq, V.ref.injEq, V.str.injEq, exists_eq_left', exists_eq_left, exists_eq_right, true_and, and_true, decide_eq_true_eq, ite_true, ite_false, Bool.not_true, Bool.not_false, Bool.false_eq_true, reduceCtorEq]; exact q)) (fun i σ' H1 => H1 = H' ∧ ∃ v4 v5 x, σ' = [some (.ref a), some (.int sz), some (.int (cellAt ns 2 % 3)), some (.str x), v4, v5] ∧ x.length = i) ⟨rfl, _, _, _, rfl, rfl⟩ ?_ ?_
        · rintro i σ' H1 N hi ⟨rfl, v4, v5, x, rfl, hx⟩ hN
          simp only [Fw.a_seq, Fw.a_next, Fw.a_brk, Fw.a_cont, Fw.a_asg, Fw.a_name, Fw.a_gnil, Fw.a_gcons, Fw.a_gsub, Fw.a_var, Fw.a_c, Fw.a_op, Fw.a_un, Fw.a_cons, Fw.a_nil, Fw.a_ret, Fw.a_retN, Fw.a_drop, Fw.a_if, Fw.a_test, Fw.a_B, Fw.a_and, Fw.a_or, Fw.a_not, Fw.a_andV, Fw.a_orV, Fw.a_notV, Fw.a_ifE, Fw.a_fn, Fw.a_fnX, Fw.a_cb, Fw.a_lst, Fw.a_tup, Fw.a_chain, Fw.a_dnew, Fw.a_start, Fw.v_add_ii, Fw.v_add_ss, Fw.v_sub_ii, Fw.v_mul_ii, Fw.v_div_ii, Fw.v_mod_ii, Fw.v_pow_ii, Fw.v_lt_ii, Fw.v_gt_ii, Fw.v_le_ii, Fw.v_ge_ii, Fw.v_le_ss, Fw.v_eq_ii, Fw.v_eq_ss, Fw.v_eq_bb, Fw.v_ne_ii, Fw.v_ne_ss, Fw.v_ne_bb, Fw.v_ne_tt, Fw.v_eq_tt, Fw.v_in_sc, Fw.v_ix_s, Fw.v_len_s, Fw.v_type, Fw.v_is, Fw.cx_K, Int.reduceToNat, List.length_replicate, Nat.sub_self, Nat.reduceSub, Nat.reduceAdd, List.replicate_zero, List.replicate_succ, List.append_nil, List.length_cons, List.length_nil, List.map_cons, List.map_nil, List.cons_append, List.nil_append, List.getElem?_cons_zero, List.getElem?_cons_succ, List.set_cons_zero, List.set_cons_succ, Option.some.injEq, V.int.injEq, V.bl.injEq, V.ref.injEq, V.str.injEq, exists_eq_left', exists_eq_left, exists_eq_right, true_and, and_true, decide_eq_true_eq, ite_true, ite_false, Bool.not_true, Bool.not_false, Bool.false_eq_true, reduceCtorEq]
          refine cell_use (4 + i) hS (by omega) ?_
          simp only [Fw.a_seq, Fw.a_next, Fw.a_brk, Fw.a_cont, Fw.a_asg, Fw.a_name, Fw.a_gnil, Fw.a_gcons, Fw.a_gsub, Fw.a_var, Fw.a_c, Fw.a_op, Fw.a_un, Fw.a_cons, Fw.a_nil, Fw.a_ret, Fw.a_retN, Fw.a_drop, Fw.a_if, Fw.a_test, Fw.a_B, Fw.a_and, Fw.a_or, Fw.a_not, Fw.a_andV, Fw.a_orV, Fw.a_notV, Fw.a_ifE, Fw.a_fn, Fw.a_fnX, Fw.a_cb, Fw.a_lst, Fw.a_tup, Fw.a_chain, Fw.a_dnew, Fw.a_start, Fw.v_add_ii, Fw.v_add_ss, Fw.v_sub_ii, Fw.v_mul_ii, Fw.v_div_ii, Fw.v_mod_ii, Fw.v_pow_ii, Fw.v_lt_ii, Fw.v_gt_ii, Fw.v_le_ii, Fw.v_ge_ii, Fw.v_le_ss, Fw.v_eq_ii, Fw.v_eq_ss, Fw.v_eq_bb, Fw.v_ne_ii, Fw.v_ne_ss, Fw.v_ne_bb, Fw.v_ne_tt, Fw.v_eq_tt, Fw.v_in_sc, Fw.v_ix_s, Fw.v_len_s, Fw.v_type, Fw.v_is, Fw.cx_K, Int.reduceToNat, List.length_replicate, Nat.sub_self, Nat.reduceSub, Nat.reduceAdd, List.replicate_zero, List.replicate_succ, List.append_nil, List.length_cons, List.length_nil, List.map_cons, List.map_nil, List.cons_append, List.nil_append, List.getElem?_cons_zero, List.getElem?_cons_succ, List.set_cons_zero, List.set_cons_succ, Option.some.injEq, V.int.injEq, V.bl.injEq, V.ref.injEq, V.str.injEq, exists_eq_left', exists_eq_left, exists_eq_right, true_and, and_true, decide_eq_true_eq, ite_true, ite_false, Bool.not_true, Bool.not_false, Bool.false_eq_true, reduceCtorEq]
          have U : x.length + 1 ≤ sizeLine := Nat.le_trans (show x.length + 1 ≤ 100 by omega) (by decide)
          have A : ∀ c : Nat, vAdd (.str x) (.str ⟨⟨[c]⟩⟩) H1 fun z H2 => N [some (.ref a), some (.int sz), some (.int (cellAt ns 2 % 3)), some z, some (.int i), some (.int (cellAt ns (4 + i)))] H2 := fun c => by
            simp only [Fw.a_seq, Fw.a_next, Fw.a_brk, Fw.a_cont, Fw.a_asg, Fw.a_name, Fw.a_gnil, Fw.a_gcons, Fw.a_gsub, Fw.a_var, Fw.a_c, Fw.a_op, Fw.a_un, Fw.a_cons, Fw.a_nil, Fw.a_ret, Fw.a_retN, Fw.a_drop, Fw.a_if, Fw.a_test, Fw.a_B, Fw.a_and, Fw.a_or, Fw.a_not, Fw.a_andV, Fw.a_orV, Fw.a_notV, Fw.a_ifE, Fw.a_fn, Fw.a_fnX, Fw.a_cb, Fw.a_lst, Fw.a_tup, Fw.a_chain, Fw.a_dnew, Fw.a_start, Fw.v_add_ii, Fw.v_add_ss, Fw.v_sub_ii, Fw.v_mul_ii, Fw.v_div_ii, Fw.v_mod_ii, Fw.v_pow_ii, Fw.v_lt_ii, Fw.v_gt_ii, Fw.v_le_ii, Fw.v_ge_ii, Fw.v_le_ss, Fw.v_eq_ii, Fw.v_eq_ss, Fw.v_eq_bb, Fw.v_ne_ii, Fw.v_ne_ss, Fw.v_ne_bb, Fw.v_ne_tt, Fw.v_eq_tt, Fw.v_in_sc, Fw.v_ix_s, Fw.v_len_s, Fw.v_type, Fw.v_is, Fw.cx_K, Int.reduceToNat, List.length_replicate, Nat.sub_self, Nat.reduceSub, Nat.reduceAdd, List.replicate_zero, List.replicate_succ, List.append_nil, List.length_cons, List.length_nil, List.map_cons, List.map_nil, List.cons_append, List.nil_append, List.getElem?_cons_zero, List.getElem?_cons_succ, List.set_cons_zero, List.set_cons_succ, Option.some.injEq, V.int.injEq, V.bl.injEq, V.ref.injEq, V.str.injEq, exists_eq_left', exists_eq_left, exists_eq_right, true_and, and_true, decide_eq_true_eq, ite_true, ite_false, Bool.not_true, Bool.not_false, Bool.false_eq_true, reduceCtorEq]
            exact ⟨U, hN _ _ ⟨rfl, _, _, _, rfl, by rw [len_app, hx]; rfl⟩⟩
          have B : (0 : Int) < 26 ∧ (Str.ofString "abcdefghijklmnopqrstuvwxyz").length ≤ sizeLine ∧ ∃ c, atI (Str.ofString "abcdefghijklmnopqrstuvwxyz").cps.toList (cellAt ns (4 + i) % 26) = some c ∧
              x.length + (⟨#[c]⟩ : Str).length ≤ sizeLine ∧ N [some (.ref a), some (.int sz), some (.int (cellAt ns 2 % 3)), some (.str (x ++ ⟨#[c]⟩)), some (.int i), some (.int (cellAt ns (4 + i)))] H1 := by
            refine ⟨by decide, by decide +kernel, ?_⟩
            obtain ⟨c, h1, _⟩ := at_ex (xs := (Str.ofString "abcdefghijklmnopqrstuvwxyz").cps.toList) (i := cellAt ns (4 + i) % 26) (by omega) (by
              have e : (Str.ofString "abcdefghijklmnopqrstuvwxyz").cps.toList.length = 26 := by decide +kernel
              rw [e]
              omega)
            exact ⟨c, h1, (A c).1, (A c).2⟩
          refine ite2 (fun _ => ?_) fun _ => ?_
          · exact A
          refine ite2 (fun _ => ?_) fun _ => ?_
          case refine_2 => exact B
          refine cell_use 3 hS rfl ?_
          simp only [Fw.a_seq, Fw.a_next, Fw.a_brk, Fw.a_cont, Fw.a_asg, Fw.a_name, Fw.a_gnil, Fw.a_gcons, Fw.a_gsub, Fw.a_var, Fw.a_c, Fw.a_op, Fw.a_un, Fw.a_cons, Fw.a_nil, Fw.a_ret, Fw.a_retN, Fw.a_drop, Fw.a_if, Fw.a_test, Fw.a_B, Fw.a_and, Fw.a_or, Fw.a_not, Fw.a_andV, Fw.a_orV, Fw.a_notV, Fw.a_ifE, Fw.a_fn, Fw.a_fnX, Fw.a_cb, Fw.a_lst, Fw.a_tup, Fw.a_chain, Fw.a_dnew, Fw.a_start, Fw.v_add_ii, Fw.v_add_ss, Fw.v_sub_ii, Fw.v_mul_ii, Fw.v_div_ii, Fw.v_mod_ii, Fw.v_pow_ii, Fw.v_lt_ii, Fw.v_gt_ii, Fw.v_le_ii, Fw.v_ge_ii, Fw.v_le_ss, Fw.v_eq_ii, Fw.v_eq_ss, Fw.v_eq_bb, Fw.v_ne_ii, Fw.v_ne_ss, Fw.v_ne_bb, Fw.v_ne_tt, Fw.v_eq_tt, Fw.v_in_sc, Fw.v_ix_s, Fw.v_len_s, Fw.v_type, Fw.v_is, Fw.cx_K, Int.reduceToNat, List.length_replicate, Nat.sub_self, Nat.reduceSub, Nat.reduceAdd, List.replicate_zero, List.replicate_succ, List.append_nil, List.length_cons, List.length_nil, List.map_cons, List.map_nil, List.cons_append, List.nil_append, List.getElem?_cons_zero, List.getElem?_cons_succ, List.set_cons_zero, List.set_cons_succ, Option.some.injEq, V.int.injEq, V.bl.injEq, V.ref.injEq, V.str.injEq, exists_eq_left', exists_eq_left, exists_eq_right, true_and, and_true, decide_eq_true_eq, ite_true, ite_false, Bool.not_true, Bool.not_false, Bool.false_eq_true, reduceCtorEq]
          refine ⟨by omega, ite2 (fun _ => ?_) fun _ => ?_⟩
          · exact A
          · exact B
        · rintro σ' H1 ⟨rfl, v4, v5, x, rfl, hx⟩
          simp only [Fw.a_seq, Fw.a_next, Fw.a_brk, Fw.a_cont, Fw.a_asg, Fw.a_name, Fw.a_gnil, Fw.a_gcons, Fw.a_gsub, Fw.a_var, Fw.a_c, Fw.a_op, Fw.a_un, Fw.a_cons, Fw.a_nil, Fw.a_ret, Fw.a_retN, Fw.a_drop, Fw.a_if, Fw.a_test, Fw.a_B, Fw.a_and, Fw.a_or, Fw.a_not, Fw.a_andV, Fw.a_orV, Fw.a_notV, Fw.a_ifE, Fw.a_fn, Fw.a_fnX, Fw.a_cb, Fw.a_lst, Fw.a_tup, Fw.a_chain, Fw.a_dnew, Fw.a_start, Fw.v_add_ii, Fw.v_add_ss, Fw.v_sub_ii, Fw.v_mul_ii, Fw.v_div_ii, Fw.v_mod_ii, Fw.v_pow_ii, Fw.v_lt_ii, Fw.v_gt_ii, Fw.v_le_ii, Fw.v_ge_ii, Fw.v_le_ss, Fw.v_eq_ii, Fw.v_eq_ss, Fw.v_eq_bb, Fw.v_ne_ii, Fw.v_ne_ss, Fw.v_ne_bb, Fw.v_ne_tt, Fw.v_eq_tt, Fw.v_in_sc, Fw.v_ix_s, Fw.v_len_s, Fw.v_type, Fw.v_is, Fw.cx_K, Int.reduceToNat, List.length_replicate, Nat.sub_self, Nat.reduceSub, Nat.reduceAdd, List.replicate_zero, List.replicate_succ, List.append_nil, List.length_cons, List.length_nil, List.map_cons, List.map_nil, List.cons_append, List.nil_append, List.getElem?_cons_zero, List.getElem?_cons_succ, List.set_cons_zero, List.set_cons_succ, Option.some.injEq, V.int.injEq, V.bl.injEq, V.ref.injEq, V.str.injEq, exists_eq_left', exists_eq_left, exists_eq_right, true_and, and_true, decide_eq_true_eq, ite_true, ite_false, Bool.not_true, Bool.not_false, Bool.false_eq_true, reduceCtorEq]
          exact q x (by omega)
    · exact h.elim
/-! ### _law_thing_by -/
theorem ok_thing_by (S : Src K mg "_law_thing_by" ["_law_script"] s_thing_by) (B : Blt mg) (G__law_cell_at : Fn P w K mg base 1 "_law_cell_at" ["_law_script", "_law_k"] (sp_cell_at K)) (G__law_text_by : Fn P w K mg base 2 "_law_text_by" ["_law_script"] (sp_text_by K)) : Fn P w K mg base 3 "_law_thing_by" ["_law_script"] (sp_thing_by K) := by
  have sc := sc_thing_by
  refine fn_mk S sc (fun vs H Q E h => ?_) (fun f cdv A outer s H vs Q E hr h => ⟨_, (pss_cons (ps_set (i := 1) sc.nd rfl (Or.inl rfl) (pe_op op_vMod (pe_fn G__law_cell_at (hr.mono (by decide)) rfl (pa_cons (pv 0) (pa_cons pe_int pa_nil))) pe_int))
     (pss_cons (ps_if (pt_cmpR op_vLt (pv 1) pe_int (nomark _))
     (pss_one (ps_ret (pe_fn G__law_text_by (hr.mono (by decide)) rfl (pa_cons (pv 0) pa_nil))))
     pss_nil)
     (pss_cons (ps_if (pt_cmpR (op_vEq hr.units) (pv 1) pe_int (nomark _))
     (pss_one (ps_ret (pe_op op_vSub (pe_op op_vMod (pe_fn G__law_cell_at (hr.mono (by decide)) rfl (pa_cons (pv 0) (pa_cons pe_int pa_nil))) (pe_op op_vMul pe_int (pe_op op_vPow pe_int pe_int))) (pe_op op_vPow pe_int pe_int))))
     pss_nil)
     (pss_one (ps_ret (pe_ix (ix_v (hu_of hr)) (pe_lst (pa_cons pe_bl (pa_cons pe_bl (pa_cons pe_non (pa_cons (pe_lst (pa_cons pe_str pa_nil)) (pa_cons (pe_tup (pa_cons pe_str pa_nil)) pa_nil)))))) (pe_op op_vMod (pe_fn G__law_cell_at (hr.mono (by decide)) rfl (pa_cons (pv 0) (pa_cons pe_int pa_nil))) pe_int) (fun _ _ => rfl))))))), ?_⟩)
  · unfold sp_thing_by at h; split at h <;> first | rfl | exact h.elim
  · unfold sp_thing_by at h
    split at h
    · rename_i a
      obtain ⟨⟨ns, hS⟩, q⟩ := h
      simp only [Fw.a_seq, Fw.a_next, Fw.a_brk, Fw.a_cont, Fw.a_asg, Fw.a_name, Fw.a_gnil, Fw.a_gcons, Fw.a_gsub, Fw.a_var, Fw.a_c, Fw.a_op, Fw.a_un, Fw.a_cons, Fw.a_nil, Fw.a_ret, Fw.a_retN, Fw.a_drop, Fw.a_if, Fw.a_test, Fw.a_B, Fw.a_and, Fw.a_or, Fw.a_not, Fw.a_andV, Fw.a_orV, Fw.a_notV, Fw.a_ifE, Fw.a_fn, Fw.a_fnX, Fw.a_cb, Fw.a_lst, Fw.a_tup, Fw.a_chain, Fw.a_dnew, Fw.a_start, Fw.v_add_ii, Fw.v_add_ss, Fw.v_sub_ii, Fw.v_mul_ii, Fw.v_div_ii, Fw.v_mod_ii, Fw.v_pow_ii, Fw.v_lt_ii, Fw.v_gt_ii, Fw.v_le_ii, Fw.v_ge_ii, Fw.v_le_ss, Fw.v_eq_ii, Fw.v_eq_ss, Fw.v_eq_bb, Fw.v_ne_ii, Fw.v_ne_ss, Fw.v_ne_bb, Fw.v_ne_tt, Fw.v_eq_tt, Fw.v_in_sc, Fw.v_ix_s, Fw.v_len_s, Fw.v_type, Fw.v_is, Fw.cx_K, Int.reduceToNat, List.length_replicate, Nat.sub_self, Nat.reduceSub, Nat.reduceAdd, List.replicate_zero, List.replicate_succ, List.append_nil, List.length_cons, List.length_nil, List.map_cons, List.map_nil, List.cons_append, List.nil_append, List.getElem?_cons_zero, List.getElem?_cons_succ, List.set_cons_zero, List.set_cons_succ, Option.some.injEq, V.int.injEq, V.bl.injEq, V.ref.injEq, V.str.injEq, exists_eq_left', exists_eq_left, exists_eq_right, true_and, and_true, decide_eq_true_eq, ite_true, ite_false, Bool.not_true, Bool.not_false, Bool.false_eq_true, reduceCtorEq]
      refine cell_use 0 hS rfl ?_
      simp only [Fw.a_seq, Fw.a_next, Fw.a_brk, Fw.a_cont, Fw.a_asg, Fw.a_name, Fw.a_gnil, Fw.a_gcons, Fw.a_gsub, Fw.a_var, Fw.a_c, Fw.a_op, Fw.a_un, Fw.a_cons, Fw.a_nil, Fw.a_ret, Fw.a_retN, Fw.a_drop, Fw.a_if, Fw.a_test, Fw.a_B, Fw.a_and, Fw.a_or, Fw.a_not, Fw.a_andV, Fw.a_orV, Fw.a_notV, Fw.a_ifE, Fw.a_fn, Fw.a_fnX, Fw.a_cb, Fw.a_lst, Fw.a_tup, Fw.a_chain, Fw.a_dnew, Fw.a_start, Fw.v_add_ii, Fw.v_add_ss, Fw.v_sub_ii, Fw.v_mul_ii, Fw.v_div_ii, Fw.v_mod_ii, Fw.v_pow_ii, Fw.v_lt_ii, Fw.v_gt_ii, Fw.v_le_ii, Fw.v_ge_ii, Fw.v_le_ss, Fw.v_eq_ii, Fw.v_eq_ss, Fw.v_eq_bb, Fw.v_ne_ii, Fw.v_ne_ss, Fw.v_ne_bb, Fw.v_ne_tt, Fw.v_eq_tt, Fw.v_in_sc, Fw.v_ix_s, Fw.v_len_s, Fw.v_type, Fw.v_is, Fw.cx_K, Int.reduceToNat, List.length_replicate, Nat.sub_self, Nat.reduceSub, Nat.reduceAdd, List.replicate_zero, List.replicate_succ, List.append_nil, List.length_cons, List.length_nil, List.map_cons, List.map_nil, List.cons_append, List.nil_append, List.getElem?_cons_zero, List.getElem?_cons_succ, List.set_cons_zero, List.set_cons_succ, Option.some.injEq, V.int.injEq, V.bl.injEq, V.ref.injEq, V.str.injEq, exists_eq_left', exists_eq_left, exists_eq_right, true_and, and_true, decide_eq_true_eq, ite_true, ite_false, Bool.not_true, Bool.not_false, Bool.false_eq_true, reduceCtorEq]
      refine ⟨by decide, ?_⟩
      refine ite2 (fun _ => ⟨⟨ns, hS⟩, fun x hx => q _ _ (Same.refl H) ⟨⟨_, rfl⟩, fun y e => by cases e; exact hx⟩⟩) fun _ => ?_
      refine ite2 (fun _ => ?_) fun _ => ?_
      · refine cell_use 1 hS rfl ?_
        simp only [Fw.a_seq, Fw.a_next, Fw.a_brk, Fw.a_cont, Fw.a_asg, Fw.a_name, Fw.a_gnil, Fw.a_gcons, Fw.a_gsub, Fw.a_var, Fw.a_c, Fw.a_op, Fw.a_un, Fw.a_cons, Fw.a_nil, Fw.a_ret, Fw.a_retN, Fw.a_drop, Fw.a_if, Fw.a_test, Fw.a_B, Fw.a_and, Fw.a_or, Fw.a_not, Fw.a_andV, Fw.a_orV, Fw.a_notV, Fw.a_ifE, Fw.a_fn, Fw.a_fnX, Fw.a_cb, Fw.a_lst, Fw.a_tup, Fw.a_chain, Fw.a_dnew, Fw.a_start, Fw.v_add_ii, Fw.v_add_ss, Fw.v_sub_ii, Fw.v_mul_ii, Fw.v_div_ii, Fw.v_mod_ii, Fw.v_pow_ii, Fw.v_lt_ii, Fw.v_gt_ii, Fw.v_le_ii, Fw.v_ge_ii, Fw.v_le_ss, Fw.v_eq_ii, Fw.v_eq_ss, Fw.v_eq_bb, Fw.v_ne_ii, Fw.v_ne_ss, Fw.v_ne_bb, Fw.v_ne_tt, Fw.v_eq_tt, Fw.v_in_sc, Fw.v_ix_s, Fw.v_len_s, Fw.v_type, Fw.v_is, Fw.cx_K, Int.reduceToNat, List.length_replicate, Nat.sub_self, Nat.reduceSub, Nat.reduceAdd, List.replicate_zero, List.replicate_succ, List.append_nil, List.length_cons, List.length_nil, List.map_cons, List.map_nil, List.cons_append, List.nil_append, List.getElem?_cons_zero, List.getElem?_cons_succ, List.set_cons_zero, List.set_cons_succ, Option.some.injEq, V.int.injEq, V.bl.injEq, V.ref.injEq, V.str.injEq, exists_eq_left', exists_eq_left, exists_eq_right, true_and, and_true, decide_eq_true_eq, ite_true, ite_false, Bool.not_true, Bool.not_false, Bool.false_eq_true, reduceCtorEq]
        exact ⟨⟨by decide, by decide, by decide⟩, .inl ⟨by decide, by decide⟩, by decide, ⟨by decide, by decide, by decide⟩, q _ _ (Same.refl H) ⟨⟨_, rfl⟩, fun y e => by cases e⟩⟩
      refine ⟨by decide, fun p hp => ⟨by decide, fun p1 hp1 => ⟨by decide, fun p2 hp2 => ?_⟩⟩⟩
      have s2 : Same H (upd (upd (upd H p (.lst [.str "ab"])) p1 (.tup [.str "ab"])) p2 (.lst [.bl true, .bl false, .non, .ref p, .ref p1])) := fun b o e => by
        have e1 : upd H p (.lst [.str "ab"]) b = some o := by
          rw [upd_ne (ne_of_none e hp)]
          exact e
        have e2 : upd (upd H p (.lst [.str "ab"])) p1 (.tup [.str "ab"]) b = some o := by
          rw [upd_ne (ne_of_none e1 hp1)]
          exact e1
        rw [upd_ne (ne_of_none e2 hp2)]
        exact e2
      have h1 : upd (upd H p (.lst [.str "ab"])) p1 (.tup [.str "ab"]) p = some (.lst [.str "ab"]) := by
        rw [upd_ne (ne_of_none upd_same hp1), upd_same]
      have h2 : upd (upd (upd H p (.lst [.str "ab"])) p1 (.tup [.str "ab"])) p2 (.lst [.bl true, .bl false, .non, .ref p, .ref p1]) p = some (.lst [.str "ab"]) := by
        rw [upd_ne (ne_of_none h1 hp2), h1]
      have h3 : upd (upd (upd H p (.lst [.str "ab"])) p1 (.tup [.str "ab"])) p2 (.lst [.bl true, .bl false, .non, .ref p, .ref p1]) p1 = some (.tup [.str "ab"]) := by
        rw [upd_ne (ne_of_none upd_same hp2), upd_same]
      have h4 : lstOf (upd (upd (upd H p (.lst [.str "ab"])) p1 (.tup [.str "ab"])) p2 (.lst [.bl true, .bl false, .non, .ref p, .ref p1])) p2 = some [.bl true, .bl false, .non, .ref p, .ref p1] := by
        unfold lstOf
        rw [upd_same]
      generalize upd (upd (upd H p (.lst [.str "ab"])) p1 (.tup [.str "ab"])) p2 (.lst [.bl true, .bl false, .non, .ref p, .ref p1]) = H3 at s2 h2 h3 h4 ⊢
      refine cell_use 1 (s2.seq hS) rfl ?_
      simp only [Fw.a_seq, Fw.a_next, Fw.a_brk, Fw.a_cont, Fw.a_asg, Fw.a_name, Fw.a_gnil, Fw.a_gcons, Fw.a_gsub, Fw.a_var, Fw.a_c, Fw.a_op, Fw.a_un, Fw.a_cons, Fw.a_nil, Fw.a_ret, Fw.a_retN, Fw.a_drop, Fw.a_if, Fw.a_test, Fw.a_B, Fw.a_and, Fw.a_or, Fw.a_not, Fw.a_andV, Fw.a_orV, Fw.a_notV, Fw.a_ifE, Fw.a_fn, Fw.a_fnX, Fw.a_cb, Fw.a_lst, Fw.a_tup, Fw.a_chain, Fw.a_dnew, Fw.a_start, Fw.v_add_ii, Fw.v_add_ss, Fw.v_sub_ii, Fw.v_mul_ii, Fw.v_div_ii, Fw.v_mod_ii, Fw.v_pow_ii, Fw.v_lt_ii, Fw.v_gt_ii, Fw.v_le_ii, Fw.v_ge_ii, Fw.v_le_ss, Fw.v_eq_ii, Fw.v_eq_ss, Fw.v_eq_bb, Fw.v_ne_ii, Fw.v_ne_ss, Fw.v_ne_bb, Fw.v_ne_tt, Fw.v_eq_tt, Fw.v_in_sc, Fw.v_ix_s, Fw.v_len_s, Fw.v_type, Fw.v_is, Fw.cx_K, Int.reduceToNat, List.length_replicate, Nat.sub_self, Nat.reduceSub, Nat.reduceAdd, List.replicate_zero, List.replicate_succ, List.append_nil, List.length_cons, List.length_nil, List.map_cons, List.map_nil, List.cons_append, List.nil_append, List.getElem?_cons_zero, List.getElem?_cons_succ, List.set_cons_zero, List.set_cons_succ, Option.some.injEq, V.int.injEq, V.bl.injEq, V.ref.injEq, V.str.injEq, exists_eq_left', exists_eq_left, exists_eq_right, true_and, and_true, decide_eq_true_eq, ite_true, ite_false, Bool.not_true, Bool.not_false, Bool.false_eq_true, reduceCtorEq]
      refine ⟨by decide, ?_⟩
      unfold vIx
      simp only [h4]
      have a1 := Int.emod_nonneg (cellAt ns 1) (b := 5) (by decide)
      have a2 := Int.emod_lt_of_pos (cellAt ns 1) (b := 5) (by decide)
      generalize cellAt ns 1 % 5 = z at a1 a2 ⊢
      have hz : z = 0 ∨ z = 1 ∨ z = 2 ∨ z = 3 ∨ z = 4 := by omega
      rcases hz with rfl | rfl | rfl | rfl | rfl
      · exact ⟨_, rfl, q _ _ s2 ⟨⟨_, rfl⟩, fun y e => by cases e⟩⟩
      · exact ⟨_, rfl, q _ _ s2 ⟨⟨_, rfl⟩, fun y e => by cases e⟩⟩
      · exact ⟨_, rfl, q _ _ s2 ⟨⟨_, rfl⟩, fun y e => by cases e⟩⟩
      · refine ⟨_, rfl, q _ _ s2 ⟨⟨"list", ?_⟩, fun y e => by cases e⟩⟩
        show (match H3 p with
          | some (.lst _) => some "list"
          | some (.tup _) => some "tuple"
          | some (.dK _) => some "dict"
          | _ => none) = some "list"
        rw [h2]
      · refine ⟨_, rfl, q _ _ s2 ⟨⟨"tuple", ?_⟩, fun y e => by cases e⟩⟩
        show (match H3 p1 with
          | some (.lst _) => some "list"
          | some (.tup _) => some "tuple"
          | some (.dK _) => some "dict"
          | _ => none) = some "tuple"
        rw [h3]
    · exact h.elim
/-! ### _law_is_name -/
theorem ok_lis_name (S : Src K mg "_law_is_name" ["_law_thing"] s_lis_name) (B : Blt mg) : Fn P w K mg base 1 "_law_is_name" ["_law_thing"] (sp_lis_name) := by
  have sc := sc_lis_name
  refine fn_mk S sc (fun vs H Q E h => ?_) (fun f cdv A outer s H vs Q E hr h => ⟨_, (pss_cons (ps_if (PW.pt (pw_or (pt_not (pt_val (pe_callB call_vIs rfl B.n_isinstance (by decide +kernel) (pa_cons (pv 0) (pa_cons (pe_bltn (v := .ty "str") rfl B.n_str (by decide +kernel) rfl) pa_nil))))) (pw_or (pt_cmpR (op_vEq hr.units) (pv 0) pe_str (nomark _)) (pw_or1 (pt_cmpR op_vGt (pe_callB call_vLen rfl B.n_len (by decide +kernel) (pa_cons (pv 0) pa_nil)) pe_int (nomark _))))))
     (pss_one (ps_ret pe_bl))
     pss_nil)
     (pss_cons (ps_for PassesOwn.never rfl (pi_str (pv 0)) (pg_name (i := 1) sc.nd rfl (Or.inl rfl))
     (pss_one (ps_if (pt_cmpR (op_vNotIn (hu_of hr)) (pv 1) pe_str (by rfl))
     (pss_one (ps_ret pe_bl))
     pss_nil)))
     (pss_one (ps_ret pe_bl)))), ?_⟩)
  · unfold sp_lis_name at h; split at h <;> first | rfl | exact h.elim
  · unfold sp_lis_name at h
    split at h
    · rename_i v
      obtain ⟨⟨⟨T, e⟩, hl⟩, h⟩ := h
      simp only [Fw.a_seq, Fw.a_next, Fw.a_brk, Fw.a_cont, Fw.a_asg, Fw.a_name, Fw.a_gnil, Fw.a_gcons, Fw.a_gsub, Fw.a_var, Fw.a_c, Fw.a_op, Fw.a_un, Fw.a_cons, Fw.a_nil, Fw.a_ret, Fw.a_retN, Fw.a_drop, Fw.a_if, Fw.a_test, Fw.a_B, Fw.a_and, Fw.a_or, Fw.a_not, Fw.a_andV, Fw.a_orV, Fw.a_notV, Fw.a_ifE, Fw.a_fn, Fw.a_fnX, Fw.a_cb, Fw.a_lst, Fw.a_tup, Fw.a_chain, Fw.a_dnew, Fw.a_start, Fw.v_add_ii, Fw.v_add_ss, Fw.v_sub_ii, Fw.v_mul_ii, Fw.v_div_ii, Fw.v_mod_ii, Fw.v_pow_ii, Fw.v_lt_ii, Fw.v_gt_ii, Fw.v_le_ii, Fw.v_ge_ii, Fw.v_le_ss, Fw.v_eq_ii, Fw.v_eq_ss, Fw.v_eq_bb, Fw.v_ne_ii, Fw.v_ne_ss, Fw.v_ne_bb, Fw.v_ne_tt, Fw.v_eq_tt, Fw.v_in_sc, Fw.v_ix_s, Fw.v_len_s, Fw.v_type, Fw.v_is, Fw.cx_K, Int.reduceToNat, List.length_replicate, Nat.sub_self, Nat.reduceSub, Nat.reduceAdd, List.replicate_zero, List.replicate_succ, List.append_nil, List.length_cons, List.length_nil, List.map_cons, List.map_nil, List.cons_append, List.nil_append, List.getElem?_cons_zero, List.getElem?_cons_succ, List.set_cons_zero, List.set_cons_succ, Option.some.injEq, V.int.injEq, V.bl.injEq, V.ref.injEq, V.str.injEq, exists_eq_left', exists_eq_left, exists_eq_right, true_and, and_true, decide_eq_true_eq, ite_true, ite_false, Bool.not_true, Bool.not_false, Bool.false_eq_true, reduceCtorEq]
      rw [e]
      simp only [Fw.a_seq, Fw.a_next, Fw.a_brk, Fw.a_cont, Fw.a_asg, Fw.a_name, Fw.a_gnil, Fw.a_gcons, Fw.a_gsub, Fw.a_var, Fw.a_c, Fw.a_op, Fw.a_un, Fw.a_cons, Fw.a_nil, Fw.a_ret, Fw.a_retN, Fw.a_drop, Fw.a_if, Fw.a_test, Fw.a_B, Fw.a_and, Fw.a_or, Fw.a_not, Fw.a_andV, Fw.a_orV, Fw.a_notV, Fw.a_ifE, Fw.a_fn, Fw.a_fnX, Fw.a_cb, Fw.a_lst, Fw.a_tup, Fw.a_chain, Fw.a_dnew, Fw.a_start, Fw.v_add_ii, Fw.v_add_ss, Fw.v_sub_ii, Fw.v_mul_ii, Fw.v_div_ii, Fw.v_mod_ii, Fw.v_pow_ii, Fw.v_lt_ii, Fw.v_gt_ii, Fw.v_le_ii, Fw.v_ge_ii, Fw.v_le_ss, Fw.v_eq_ii, Fw.v_eq_ss, Fw.v_eq_bb, Fw.v_ne_ii, Fw.v_ne_ss, Fw.v_ne_bb, Fw.v_ne_tt, Fw.v_eq_tt, Fw.v_in_sc, Fw.v_ix_s, Fw.v_len_s, Fw.v_type, Fw.v_is, Fw.cx_K, Int.reduceToNat, List.length_replicate, Nat.sub_self, Nat.reduceSub, Nat.reduceAdd, List.replicate_zero, List.replicate_succ, List.append_nil, List.length_cons, List.length_nil, List.map_cons, List.map_nil, List.cons_append, List.nil_append, List.getElem?_cons_zero, List.getElem?_cons_succ, List.set_cons_zero, List.set_cons_succ, Option.some.injEq, V.int.injEq, V.bl.injEq, V.ref.injEq, V.str.injEq, exists_eq_left', exists_eq_left, exists_eq_right, true_and, and_true, decide_eq_true_eq, ite_true, ite_false, Bool.not_true, Bool.not_false, Bool.false_eq_true, reduceCtorEq]
      rcases ty_cases e with ⟨rfl, rfl⟩ | ⟨b, rfl, rfl⟩ | ⟨i, rfl, rfl⟩ | ⟨x, rfl, rfl⟩ | ⟨a, rfl, rfl | rfl | rfl⟩
      case inr.inr.inr.inl =>
        refine ⟨by decide, ?_⟩
        rw [if_neg (by decide)]
        simp only [Fw.a_seq, Fw.a_next, Fw.a_brk, Fw.a_cont, Fw.a_asg, Fw.a_name, Fw.a_gnil, Fw.a_gcons, Fw.a_gsub, Fw.a_var, Fw.a_c, Fw.a_op, Fw.a_un, Fw.a_cons, Fw.a_nil, Fw.a_ret, Fw.a_retN, Fw.a_drop, Fw.a_if, Fw.a_test, Fw.a_B, Fw.a_and, Fw.a_or, Fw.a_not, Fw.a_andV, Fw.a_orV, Fw.a_notV, Fw.a_ifE, Fw.a_fn, Fw.a_fnX, Fw.a_cb, Fw.a_lst, Fw.a_tup, Fw.a_chain, Fw.a_dnew, Fw.a_start, Fw.v_add_ii, Fw.v_add_ss, Fw.v_sub_ii, Fw.v_mul_ii, Fw.v_div_ii, Fw.v_mod_ii, Fw.v_pow_ii, Fw.v_lt_ii, Fw.v_gt_ii, Fw.v_le_ii, Fw.v_ge_ii, Fw.v_le_ss, Fw.v_eq_ii, Fw.v_eq_ss, Fw.v_eq_bb, Fw.v_ne_ii, Fw.v_ne_ss, Fw.v_ne_bb, Fw.v_ne_tt, Fw.v_eq_tt, Fw.v_in_sc, Fw.v_ix_s, Fw.v_len_s, Fw.v_type, Fw.v_is, Fw.cx_K, Int.reduceToNat, List.length_replicate, Nat.sub_self, Nat.reduceSub, Nat.reduceAdd, List.replicate_zero, List.replicate_succ, List.append_nil, List.length_cons, List.length_nil, List.map_cons, List.map_nil, List.cons_append, List.nil_append, List.getElem?_cons_zero, List.getElem?_cons_succ, List.set_cons_zero, List.set_cons_succ, Option.some.injEq, V.int.injEq, V.bl.injEq, V.ref.injEq, V.str.injEq, exists_eq_left', exists_eq_left, exists_eq_right, true_and, and_true, decide_eq_true_eq, ite_true, ite_false, Bool.not_true, Bool.not_false, Bool.false_eq_true, reduceCtorEq]
        have hx := hl x rfl
        have N0 : ∀ z : Bool, okName x = z → Q (.bl z) H := fun z hz => by
          rw [← hz]
          exact h
        refine ite2 (fun c1 => N0 false ?_) fun c1 => ?_
        · subst c1
          decide +kernel
        have c1' : 1 ≤ x.length := by
          rcases Nat.eq_zero_or_pos x.length with z | z
          · refine absurd ?_ c1
            obtain ⟨⟨l⟩⟩ := x
            cases l with
            | nil => rfl
            | cons c r => cases z
          · exact z
        refine ⟨Nat.le_trans hx (by decide), ?_⟩
        refine ite2 (fun c2 => N0 false ?_) fun c2 => ?_
        · simp only [okName]
          rw [decide_eq_false (p := x.length ≤ 12) (by omega), Bool.and_false]
          rfl
        have c2' : x.length ≤ 12 := by omega
        refine f_str rfl (fun i σ' H' => H' = H ∧ (∃ v1, σ' = [some (.str x), v1]) ∧ ∀ j, j < i → ∀ c, x.cps.toList[j]? = some c → okSign c = true) ⟨rfl, ⟨_, rfl⟩, fun j hj => absurd hj (Nat.not_lt_zero _)⟩ ?_ ?_
        · rintro i c σ' H' N hc ⟨rfl, ⟨v1, rfl⟩, hi⟩ hN
          simp only [Fw.a_seq, Fw.a_next, Fw.a_brk, Fw.a_cont, Fw.a_asg, Fw.a_name, Fw.a_gnil, Fw.a_gcons, Fw.a_gsub, Fw.a_var, Fw.a_c, Fw.a_op, Fw.a_un, Fw.a_cons, Fw.a_nil, Fw.a_ret, Fw.a_retN, Fw.a_drop, Fw.a_if, Fw.a_test, Fw.a_B, Fw.a_and, Fw.a_or, Fw.a_not, Fw.a_andV, Fw.a_orV, Fw.a_notV, Fw.a_ifE, Fw.a_fn, Fw.a_fnX, Fw.a_cb, Fw.a_lst, Fw.a_tup, Fw.a_chain, Fw.a_dnew, Fw.a_start, Fw.v_add_ii, Fw.v_add_ss, Fw.v_sub_ii, Fw.v_mul_ii, Fw.v_div_ii, Fw.v_mod_ii, Fw.v_pow_ii, Fw.v_lt_ii, Fw.v_gt_ii, Fw.v_le_ii, Fw.v_ge_ii, Fw.v_le_ss, Fw.v_eq_ii, Fw.v_eq_ss, Fw.v_eq_bb, Fw.v_ne_ii, Fw.v_ne_ss, Fw.v_ne_bb, Fw.v_ne_tt, Fw.v_eq_tt, Fw.v_in_sc, Fw.v_ix_s, Fw.v_len_s, Fw.v_type, Fw.v_is, Fw.cx_K, Int.reduceToNat, List.length_replicate, Nat.sub_self, Nat.reduceSub, Nat.reduceAdd, List.replicate_zero, List.replicate_succ, List.append_nil, List.length_cons, List.length_nil, List.map_cons, List.map_nil, List.cons_append, List.nil_append, List.getElem?_cons_zero, List.getElem?_cons_succ, List.set_cons_zero, List.set_cons_succ, Option.some.injEq, V.int.injEq, V.bl.injEq, V.ref.injEq, V.str.injEq, exists_eq_left', exists_eq_left, exists_eq_right, true_and, and_true, decide_eq_true_eq, ite_true, ite_false, Bool.not_true, Bool.not_false, Bool.false_eq_true, reduceCtorEq]
          have e1 : decide (c ∈ (Str.ofString "abcdefghijklmnopqrstuvwxyz").cps.toList) = okSign c := by
            have e2 : (Str.ofString "abcdefghijklmnopqrstuvwxyz").cps.toList = (List.range 26).map (fun k => 97 + k) := by decide +kernel
            rw [e2]
            simp only [okSign]
            by_cases a1 : 97 ≤ c
            · by_cases a2 : c ≤ 122
              · rw [decide_eq_true a1, decide_eq_true a2]
                exact decide_eq_true (List.mem_map.mpr ⟨c - 97, List.mem_range.mpr (by omega), by omega⟩)
              · rw [decide_eq_true a1, decide_eq_false a2]
                refine decide_eq_false fun q => ?_
                obtain ⟨k, hk, ek⟩ := List.mem_map.mp q
                have := List.mem_range.mp hk
                omega
            · rw [decide_eq_false a1]
              refine decide_eq_false fun q => ?_
              obtain ⟨k, hk, ek⟩ := List.mem_map.mp q
              have := List.mem_range.mp hk
              omega
          rw [e1]
          cases hb : okSign c with
          | false =>
            refine N0 false ?_
            simp only [okName]
            have : x.cps.toList.all okSign = false := by
              rw [List.all_eq_false]
              exact ⟨c, List.mem_of_getElem? hc, by rw [hb]; decide⟩
            rw [this, Bool.and_false]
          | true =>
            refine hN _ _ ⟨rfl, ⟨_, rfl⟩, fun j hj d hd => ?_⟩
            by_cases ej : j = i
            · subst ej
              rw [hc] at hd
              cases hd
              exact hb
            · exact hi j (by omega) d hd
        · rintro σ' H' ⟨rfl, ⟨v1, rfl⟩, hi⟩
          simp only [Fw.a_seq, Fw.a_next, Fw.a_brk, Fw.a_cont, Fw.a_asg, Fw.a_name, Fw.a_gnil, Fw.a_gcons, Fw.a_gsub, Fw.a_var, Fw.a_c, Fw.a_op, Fw.a_un, Fw.a_cons, Fw.a_nil, Fw.a_ret, Fw.a_retN, Fw.a_drop, Fw.a_if, Fw.a_test, Fw.a_B, Fw.a_and, Fw.a_or, Fw.a_not, Fw.a_andV, Fw.a_orV, Fw.a_notV, Fw.a_ifE, Fw.a_fn, Fw.a_fnX, Fw.a_cb, Fw.a_lst, Fw.a_tup, Fw.a_chain, Fw.a_dnew, Fw.a_start, Fw.v_add_ii, Fw.v_add_ss, Fw.v_sub_ii, Fw.v_mul_ii, Fw.v_div_ii, Fw.v_mod_ii, Fw.v_pow_ii, Fw.v_lt_ii, Fw.v_gt_ii, Fw.v_le_ii, Fw.v_ge_ii, Fw.v_le_ss, Fw.v_eq_ii, Fw.v_eq_ss, Fw.v_eq_bb, Fw.v_ne_ii, Fw.v_ne_ss, Fw.v_ne_bb, Fw.v_ne_tt, Fw.v_eq_tt, Fw.v_in_sc, Fw.v_ix_s, Fw.v_len_s, Fw.v_type, Fw.v_is, Fw.cx_K, Int.reduceToNat, List.length_replicate, Nat.sub_self, Nat.reduceSub, Nat.reduceAdd, List.replicate_zero, List.replicate_succ, List.append_nil, List.length_cons, List.length_nil, List.map_cons, List.map_nil, List.cons_append, List.nil_append, List.getElem?_cons_zero, List.getElem?_cons_succ, List.set_cons_zero, List.set_cons_succ, Option.some.injEq, V.int.injEq, V.bl.injEq, V.ref.injEq, V.str.injEq, exists_eq_left', exists_eq_left, exists_eq_right, true_and, and_true, decide_eq_true_eq, ite_true, ite_false, Bool.not_true, Bool.not_false, Bool.false_eq_true, reduceCtorEq]
          refine N0 true ?_
          simp only [okName]
          rw [decide_eq_true c1', decide_eq_true c2', Bool.true_and, Bool.true_and, List.all_eq_true]
          intro c hc
          obtain ⟨j, hj⟩ := List.getElem?_of_mem hc
          exact hi j (List.getElem?_eq_some_iff.mp hj).1 c hj
      all_goals
        refine ⟨by decide, ?_⟩
        rw [if_pos (by decide)]
        exact h
    · exact h.elim
/-! ### _law_refused_by_any -/
theorem ok_refused_by_any (S : Src K mg "_law_refused_by_any" ["_law_thing"] s_refused_by_any) (B : Blt mg) (G_name_of : FnX P w K mg base 2 "name_of" ["thing"] (sp_name_of CA)) (X_BookError : Exn K mg "BookError" CB) (mAB : PySem.W.exmOne K (.ref CA) (.ref CB) = some true) (cA : ExcC K CA) (kA : PySem.W.kitOne K (.ref CA) (.type "ValueError") = some true) : Fn P w K mg base 3 "_law_refused_by_any" ["_law_thing"] (sp_refused_by_any) := by
  have sc := sc_refused_by_any
  refine fn_mk S sc (fun vs H Q E h => ?_) (fun f cdv A outer s H vs Q E hr h => ⟨_, (pss_cons (ps_try_as (i := 1) rfl rfl sc.nd rfl rfl ⟨rfl, by decide, .inl X_BookError.gC⟩ takes0 (fun W pn xe tk _ =>
     (pss_one (ps_expr (pe_fnX G_name_of tk (hr.mono (by decide)) rfl (pa_cons (pv 0) pa_nil)))))
     (fun a oe cls d pn hz hf => (pss_one (ps_ret (pe_isE hz hf rfl B.n_isinstance (pa_cons (pv 1) (pa_cons (pe_bltn (v := .ty "ValueError") rfl B.n_ValueError (by decide +kernel) rfl) pa_nil)))))))
     (pss_one (ps_ret pe_bl))), ?_⟩)
  · unfold sp_refused_by_any at h; split at h <;> first | rfl | exact h.elim
  · unfold sp_refused_by_any at h
    split at h
    · rename_i v
      obtain ⟨hf, h⟩ := h
      simp only [Fw.a_seq, Fw.a_next, Fw.a_brk, Fw.a_cont, Fw.a_asg, Fw.a_name, Fw.a_gnil, Fw.a_gcons, Fw.a_gsub, Fw.a_var, Fw.a_c, Fw.a_op, Fw.a_un, Fw.a_cons, Fw.a_nil, Fw.a_ret, Fw.a_retN, Fw.a_drop, Fw.a_if, Fw.a_test, Fw.a_B, Fw.a_and, Fw.a_or, Fw.a_not, Fw.a_andV, Fw.a_orV, Fw.a_notV, Fw.a_ifE, Fw.a_fn, Fw.a_fnX, Fw.a_cb, Fw.a_lst, Fw.a_tup, Fw.a_chain, Fw.a_dnew, Fw.a_start, Fw.v_add_ii, Fw.v_add_ss, Fw.v_sub_ii, Fw.v_mul_ii, Fw.v_div_ii, Fw.v_mod_ii, Fw.v_pow_ii, Fw.v_lt_ii, Fw.v_gt_ii, Fw.v_le_ii, Fw.v_ge_ii, Fw.v_le_ss, Fw.v_eq_ii, Fw.v_eq_ss, Fw.v_eq_bb, Fw.v_ne_ii, Fw.v_ne_ss, Fw.v_ne_bb, Fw.v_ne_tt, Fw.v_eq_tt, Fw.v_in_sc, Fw.v_ix_s, Fw.v_len_s, Fw.v_type, Fw.v_is, Fw.cx_K, Int.reduceToNat, List.length_replicate, Nat.sub_self, Nat.reduceSub, Nat.reduceAdd, List.replicate_zero, List.replicate_succ, List.append_nil, List.length_cons, List.length_nil, List.map_cons, List.map_nil, List.cons_append, List.nil_append, List.getElem?_cons_zero, List.getElem?_cons_succ, List.set_cons_zero, List.set_cons_succ, Option.some.injEq, V.int.injEq, V.bl.injEq, V.ref.injEq, V.str.injEq, exists_eq_left', exists_eq_left, exists_eq_right, true_and, and_true, decide_eq_true_eq, ite_true, ite_false, Bool.not_true, Bool.not_false, Bool.false_eq_true, reduceCtorEq]
      refine ⟨hf, ?_⟩
      cases hb : isN v with
      | true =>
        rw [hb] at h
        exact h
      | false =>
        rw [hb] at h
        refine ⟨true, mAB, fun _ a na => ?_, fun z => nomatch z⟩
        simp only [Fw.a_seq, Fw.a_next, Fw.a_brk, Fw.a_cont, Fw.a_asg, Fw.a_name, Fw.a_gnil, Fw.a_gcons, Fw.a_gsub, Fw.a_var, Fw.a_c, Fw.a_op, Fw.a_un, Fw.a_cons, Fw.a_nil, Fw.a_ret, Fw.a_retN, Fw.a_drop, Fw.a_if, Fw.a_test, Fw.a_B, Fw.a_and, Fw.a_or, Fw.a_not, Fw.a_andV, Fw.a_orV, Fw.a_notV, Fw.a_ifE, Fw.a_fn, Fw.a_fnX, Fw.a_cb, Fw.a_lst, Fw.a_tup, Fw.a_chain, Fw.a_dnew, Fw.a_start, Fw.v_add_ii, Fw.v_add_ss, Fw.v_sub_ii, Fw.v_mul_ii, Fw.v_div_ii, Fw.v_mod_ii, Fw.v_pow_ii, Fw.v_lt_ii, Fw.v_gt_ii, Fw.v_le_ii, Fw.v_ge_ii, Fw.v_le_ss, Fw.v_eq_ii, Fw.v_eq_ss, Fw.v_eq_bb, Fw.v_ne_ii, Fw.v_ne_ss, Fw.v_ne_bb, Fw.v_ne_tt, Fw.v_eq_tt, Fw.v_in_sc, Fw.v_ix_s, Fw.v_len_s, Fw.v_type, Fw.v_is, Fw.cx_K, Int.reduceToNat, List.length_replicate, Nat.sub_self, Nat.reduceSub, Nat.reduceAdd, List.replicate_zero, List.replicate_succ, List.append_nil, List.length_cons, List.length_nil, List.map_cons, List.map_nil, List.cons_append, List.nil_append, List.getElem?_cons_zero, List.getElem?_cons_succ, List.set_cons_zero, List.set_cons_succ, Option.some.injEq, V.int.injEq, V.bl.injEq, V.ref.injEq, V.str.injEq, exists_eq_left', exists_eq_left, exists_eq_right, true_and, and_true, decide_eq_true_eq, ite_true, ite_false, Bool.not_true, Bool.not_false, Bool.false_eq_true, reduceCtorEq]
        exact ⟨CA, _, _, true, rfl, rfl, cA, rfl, fun u r => r, kA, h⟩
    · exact h.elim
/-! ### law -/
theorem ok_law (S : Src K mg "law" ["_law_script"] s_law) (B : Blt mg) (G_name_of : FnX P w K mg base 2 "name_of" ["thing"] (sp_name_of CA)) (G__law_thing_by : Fn P w K mg base 3 "_law_thing_by" ["_law_script"] (sp_thing_by K)) (G__law_is_name : Fn P w K mg base 1 "_law_is_name" ["_law_thing"] (sp_lis_name)) (G__law_refused_by_any : Fn P w K mg base 3 "_law_refused_by_any" ["_law_thing"] (sp_refused_by_any)) (X_NoName : Exn K mg "NoName" CA) (mAA : PySem.W.exmOne K (.ref CA) (.ref CA) = some true) : Fn P w K mg base 4 "law" ["_law_script"] (sp_law K) := by
  have sc := sc_law
  refine fn_mk S sc (fun vs H Q E h => ?_) (fun f cdv A outer s H vs Q E hr h => ⟨_, (pss_cons (ps_set (i := 1) sc.nd rfl (Or.inl rfl) (pe_fn G__law_thing_by (hr.mono (by decide)) rfl (pa_cons (pv 0) pa_nil)))
     (pss_cons (ps_set (i := 2) sc.nd rfl (Or.inl rfl) pe_bl)
     (pss_cons (ps_set (i := 3) sc.nd rfl (Or.inl rfl) pe_non)
     (pss_cons (ps_try_only rfl rfl ⟨rfl, by decide, .inl X_NoName.gC⟩ takes0 (fun W pn xe tk _ =>
     (pss_one (ps_set (i := 3) sc.nd rfl (Or.inl rfl) (pe_fnX G_name_of tk (hr.mono (by decide)) rfl (pa_cons (pv 1) pa_nil)))))
     (fun a oe cls d pn hz hf => (pss_one (ps_set (i := 2) sc.nd rfl (Or.inl rfl) pe_bl))))
     (pss_cons (ps_if (pt_not (pt_val (pe_fn G__law_is_name (hr.mono (by decide)) rfl (pa_cons (pv 1) pa_nil))))
     (pss_one (ps_ret (pe_and (pv 2) (pe_one (pe_fn G__law_refused_by_any (hr.mono (by decide)) rfl (pa_cons (pv 1) pa_nil))))))
     pss_nil)
     (pss_one (ps_ret (pe_and (pe_not (pv 2)) (pe_and (pe_callB call_vIs rfl B.n_isinstance (by decide +kernel) (pa_cons (pv 3) (pa_cons (pe_bltn (v := .ty "str") rfl B.n_str (by decide +kernel) rfl) pa_nil))) (pe_one (pe_cmpR (op_vEq hr.units) (pv 3) (pv 1) (nomark _)))))))))))), ?_⟩)
  · unfold sp_law at h; split at h <;> first | rfl | exact h.elim
  · unfold sp_law at h
    split at h
    · rename_i a
      obtain ⟨hS, q⟩ := h
      simp only [Fw.a_seq, Fw.a_next, Fw.a_brk, Fw.a_cont, Fw.a_asg, Fw.a_name, Fw.a_gnil, Fw.a_gcons, Fw.a_gsub, Fw.a_var, Fw.a_c, Fw.a_op, Fw.a_un, Fw.a_cons, Fw.a_nil, Fw.a_ret, Fw.a_retN, Fw.a_drop, Fw.a_if, Fw.a_test, Fw.a_B, Fw.a_and, Fw.a_or, Fw.a_not, Fw.a_andV, Fw.a_orV, Fw.a_notV, Fw.a_ifE, Fw.a_fn, Fw.a_fnX, Fw.a_cb, Fw.a_lst, Fw.a_tup, Fw.a_chain, Fw.a_dnew, Fw.a_start, Fw.v_add_ii, Fw.v_add_ss, Fw.v_sub_ii, Fw.v_mul_ii, Fw.v_div_ii, Fw.v_mod_ii, Fw.v_pow_ii, Fw.v_lt_ii, Fw.v_gt_ii, Fw.v_le_ii, Fw.v_ge_ii, Fw.v_le_ss, Fw.v_eq_ii, Fw.v_eq_ss, Fw.v_eq_bb, Fw.v_ne_ii, Fw.v_ne_ss, Fw.v_ne_bb, Fw.v_ne_tt, Fw.v_eq_tt, Fw.v_in_sc, Fw.v_ix_s, Fw.v_len_s, Fw.v_type, Fw.v_is, Fw.cx_K, Int.reduceToNat, List.length_replicate, Nat.sub_self, Nat.reduceSub, Nat.reduceAdd, List.replicate_zero, List.replicate_succ, List.append_nil, List.length_cons, List.length_nil, List.map_cons, List.map_nil, List.cons_append, List.nil_append, List.getElem?_cons_zero, List.getElem?_cons_succ, List.set_cons_zero, List.set_cons_succ, Option.some.injEq, V.int.injEq, V.bl.injEq, V.ref.injEq, V.str.injEq, exists_eq_left', exists_eq_left, exists_eq_right, true_and, and_true, decide_eq_true_eq, ite_true, ite_false, Bool.not_true, Bool.not_false, Bool.false_eq_true, reduceCtorEq]
      refine ⟨hS, fun v H' sm hf => ?_⟩
      simp only [Fw.a_seq, Fw.a_next, Fw.a_brk, Fw.a_cont, Fw.a_asg, Fw.a_name, Fw.a_gnil, Fw.a_gcons, Fw.a_gsub, Fw.a_var, Fw.a_c, Fw.a_op, Fw.a_un, Fw.a_cons, Fw.a_nil, Fw.a_ret, Fw.a_retN, Fw.a_drop, Fw.a_if, Fw.a_test, Fw.a_B, Fw.a_and, Fw.a_or, Fw.a_not, Fw.a_andV, Fw.a_orV, Fw.a_notV, Fw.a_ifE, Fw.a_fn, Fw.a_fnX, Fw.a_cb, Fw.a_lst, Fw.a_tup, Fw.a_chain, Fw.a_dnew, Fw.a_start, Fw.v_add_ii, Fw.v_add_ss, Fw.v_sub_ii, Fw.v_mul_ii, Fw.v_div_ii, Fw.v_mod_ii, Fw.v_pow_ii, Fw.v_lt_ii, Fw.v_gt_ii, Fw.v_le_ii, Fw.v_ge_ii, Fw.v_le_ss, Fw.v_eq_ii, Fw.v_eq_ss, Fw.v_eq_bb, Fw.v_ne_ii, Fw.v_ne_ss, Fw.v_ne_bb, Fw.v_ne_tt, Fw.v_eq_tt, Fw.v_in_sc, Fw.v_ix_s, Fw.v_len_s, Fw.v_type, Fw.v_is, Fw.cx_K, Int.reduceToNat, List.length_replicate, Nat.sub_self, Nat.reduceSub, Nat.reduceAdd, List.replicate_zero, List.replicate_succ, List.append_nil, List.length_cons, List.length_nil, List.map_cons, List.map_nil, List.cons_append, List.nil_append, List.getElem?_cons_zero, List.getElem?_cons_succ, List.set_cons_zero, List.set_cons_succ, Option.some.injEq, V.int.injEq, V.bl.injEq, V.ref.injEq, V.str.injEq, exists_eq_left', exists_eq_left, exists_eq_right, true_and, and_true, decide_eq_true_eq, ite_true, ite_false, Bool.not_true, Bool.not_false, Bool.false_eq_true, reduceCtorEq]
      refine ⟨hf, ?_⟩
      have W : sp_lis_name [v] H' (fun z H1 => ∃ c, z = .bl c ∧ if (!c) = true then Q (.bl false) H1 else Q (.bl true) H1) E0 → True := fun _ => trivial
      cases hb : isN v with
      | true =>
        obtain ⟨x, rfl⟩ : ∃ x, v = .str x := by
          cases v <;> first | exact ⟨_, rfl⟩ | cases hb
        refine ⟨hf, ?_⟩
        rw [hb]
        simp only [Fw.a_seq, Fw.a_next, Fw.a_brk, Fw.a_cont, Fw.a_asg, Fw.a_name, Fw.a_gnil, Fw.a_gcons, Fw.a_gsub, Fw.a_var, Fw.a_c, Fw.a_op, Fw.a_un, Fw.a_cons, Fw.a_nil, Fw.a_ret, Fw.a_retN, Fw.a_drop, Fw.a_if, Fw.a_test, Fw.a_B, Fw.a_and, Fw.a_or, Fw.a_not, Fw.a_andV, Fw.a_orV, Fw.a_notV, Fw.a_ifE, Fw.a_fn, Fw.a_fnX, Fw.a_cb, Fw.a_lst, Fw.a_tup, Fw.a_chain, Fw.a_dnew, Fw.a_start, Fw.v_add_ii, Fw.v_add_ss, Fw.v_sub_ii, Fw.v_mul_ii, Fw.v_div_ii, Fw.v_mod_ii, Fw.v_pow_ii, Fw.v_lt_ii, Fw.v_gt_ii, Fw.v_le_ii, Fw.v_ge_ii, Fw.v_le_ss, Fw.v_eq_ii, Fw.v_eq_ss, Fw.v_eq_bb, Fw.v_ne_ii, Fw.v_ne_ss, Fw.v_ne_bb, Fw.v_ne_tt, Fw.v_eq_tt, Fw.v_in_sc, Fw.v_ix_s, Fw.v_len_s, Fw.v_type, Fw.v_is, Fw.cx_K, Int.reduceToNat, List.length_replicate, Nat.sub_self, Nat.reduceSub, Nat.reduceAdd, List.replicate_zero, List.replicate_succ, List.append_nil, List.length_cons, List.length_nil, List.map_cons, List.map_nil, List.cons_append, List.nil_append, List.getElem?_cons_zero, List.getElem?_cons_succ, List.set_cons_zero, List.set_cons_succ, Option.some.injEq, V.int.injEq, V.bl.injEq, V.ref.injEq, V.str.injEq, exists_eq_left', exists_eq_left, exists_eq_right, true_and, and_true, decide_eq_true_eq, ite_true, ite_false, Bool.not_true, Bool.not_false, Bool.false_eq_true, reduceCtorEq]
        refine ⟨by decide, ?_⟩
        simp only [tyOf]
        try simp only [Fw.a_seq, Fw.a_next, Fw.a_brk, Fw.a_cont, Fw.a_asg, Fw.a_name, Fw.a_gnil, Fw.a_gcons, Fw.a_gsub, Fw.a_var, Fw.a_c, Fw.a_op, Fw.a_un, Fw.a_cons, Fw.a_nil, Fw.a_ret, Fw.a_retN, Fw.a_drop, Fw.a_if, Fw.a_test, Fw.a_B, Fw.a_and, Fw.a_or, Fw.a_not, Fw.a_andV, Fw.a_orV, Fw.a_notV, Fw.a_ifE, Fw.a_fn, Fw.a_fnX, Fw.a_cb, Fw.a_lst, Fw.a_tup, Fw.a_chain, Fw.a_dnew, Fw.a_start, Fw.v_add_ii, Fw.v_add_ss, Fw.v_sub_ii, Fw.v_mul_ii, Fw.v_div_ii, Fw.v_mod_ii, Fw.v_pow_ii, Fw.v_lt_ii, Fw.v_gt_ii, Fw.v_le_ii, Fw.v_ge_ii, Fw.v_le_ss, Fw.v_eq_ii, Fw.v_eq_ss, Fw.v_eq_bb, Fw.v_ne_ii, Fw.v_ne_ss, Fw.v_ne_bb, Fw.v_ne_tt, Fw.v_eq_tt, Fw.v_in_sc, Fw.v_ix_s, Fw.v_len_s, Fw.v_type, Fw.v_is, Fw.cx_K, Int.reduceToNat, List.length_replicate, Nat.sub_self, Nat.reduceSub, Nat.reduceAdd, List.replicate_zero, List.replicate_succ, List.append_nil, List.length_cons, List.length_nil, List.map_cons, List.map_nil, List.cons_append, List.nil_append, List.getElem?_cons_zero, List.getElem?_cons_succ, List.set_cons_zero, List.set_cons_succ, Option.some.injEq, V.int.injEq, V.bl.injEq, V.ref.injEq, V.str.injEq, exists_eq_left', exists_eq_left, exists_eq_right, true_and, and_true, decide_eq_true_eq, ite_true, ite_false, Bool.not_true, Bool.not_false, Bool.false_eq_true, reduceCtorEq]
        rw [if_pos (by decide)]
        try simp only [Fw.a_seq, Fw.a_next, Fw.a_brk, Fw.a_cont, Fw.a_asg, Fw.a_name, Fw.a_gnil, Fw.a_gcons, Fw.a_gsub, Fw.a_var, Fw.a_c, Fw.a_op, Fw.a_un, Fw.a_cons, Fw.a_nil, Fw.a_ret, Fw.a_retN, Fw.a_drop, Fw.a_if, Fw.a_test, Fw.a_B, Fw.a_and, Fw.a_or, Fw.a_not, Fw.a_andV, Fw.a_orV, Fw.a_notV, Fw.a_ifE, Fw.a_fn, Fw.a_fnX, Fw.a_cb, Fw.a_lst, Fw.a_tup, Fw.a_chain, Fw.a_dnew, Fw.a_start, Fw.v_add_ii, Fw.v_add_ss, Fw.v_sub_ii, Fw.v_mul_ii, Fw.v_div_ii, Fw.v_mod_ii, Fw.v_pow_ii, Fw.v_lt_ii, Fw.v_gt_ii, Fw.v_le_ii, Fw.v_ge_ii, Fw.v_le_ss, Fw.v_eq_ii, Fw.v_eq_ss, Fw.v_eq_bb, Fw.v_ne_ii, Fw.v_ne_ss, Fw.v_ne_bb, Fw.v_ne_tt, Fw.v_eq_tt, Fw.v_in_sc, Fw.v_ix_s, Fw.v_len_s, Fw.v_type, Fw.v_is, Fw.cx_K, Int.reduceToNat, List.length_replicate, Nat.sub_self, Nat.reduceSub, Nat.reduceAdd, List.replicate_zero, List.replicate_succ, List.append_nil, List.length_cons, List.length_nil, List.map_cons, List.map_nil, List.cons_append, List.nil_append, List.getElem?_cons_zero, List.getElem?_cons_succ, List.set_cons_zero, List.set_cons_succ, Option.some.injEq, V.int.injEq, V.bl.injEq, V.ref.injEq, V.str.injEq, exists_eq_left', exists_eq_left, exists_eq_right, true_and, and_true, decide_eq_true_eq, ite_true, ite_false, Bool.not_true, Bool.not_false, Bool.false_eq_true, reduceCtorEq]
        exact q _
      | false =>
        refine ⟨true, mAA, fun _ b nb => ?_, fun z => nomatch z⟩
        simp only [Fw.a_seq, Fw.a_next, Fw.a_brk, Fw.a_cont, Fw.a_asg, Fw.a_name, Fw.a_gnil, Fw.a_gcons, Fw.a_gsub, Fw.a_var, Fw.a_c, Fw.a_op, Fw.a_un, Fw.a_cons, Fw.a_nil, Fw.a_ret, Fw.a_retN, Fw.a_drop, Fw.a_if, Fw.a_test, Fw.a_B, Fw.a_and, Fw.a_or, Fw.a_not, Fw.a_andV, Fw.a_orV, Fw.a_notV, Fw.a_ifE, Fw.a_fn, Fw.a_fnX, Fw.a_cb, Fw.a_lst, Fw.a_tup, Fw.a_chain, Fw.a_dnew, Fw.a_start, Fw.v_add_ii, Fw.v_add_ss, Fw.v_sub_ii, Fw.v_mul_ii, Fw.v_div_ii, Fw.v_mod_ii, Fw.v_pow_ii, Fw.v_lt_ii, Fw.v_gt_ii, Fw.v_le_ii, Fw.v_ge_ii, Fw.v_le_ss, Fw.v_eq_ii, Fw.v_eq_ss, Fw.v_eq_bb, Fw.v_ne_ii, Fw.v_ne_ss, Fw.v_ne_bb, Fw.v_ne_tt, Fw.v_eq_tt, Fw.v_in_sc, Fw.v_ix_s, Fw.v_len_s, Fw.v_type, Fw.v_is, Fw.cx_K, Int.reduceToNat, List.length_replicate, Nat.sub_self, Nat.reduceSub, Nat.reduceAdd, List.replicate_zero, List.replicate_succ, List.append_nil, List.length_cons, List.length_nil, List.map_cons, List.map_nil, List.cons_append, List.nil_append, List.getElem?_cons_zero, List.getElem?_cons_succ, List.set_cons_zero, List.set_cons_succ, Option.some.injEq, V.int.injEq, V.bl.injEq, V.ref.injEq, V.str.injEq, exists_eq_left', exists_eq_left, exists_eq_right, true_and, and_true, decide_eq_true_eq, ite_true, ite_false, Bool.not_true, Bool.not_false, Bool.false_eq_true, reduceCtorEq]
        refine ⟨hf, _, rfl, ?_⟩
        rw [hb]
        refine ⟨hf, ?_⟩
        rw [hb]
        exact q _
    · exact h.elim
end

/-- all of it from what the top has left -/
theorem all_ok {P : Program} {w : World} {K : PySem.W.Frag} {mg : Str → Option Value} {CA CB : Addr} (B : Blt mg)
  (S_is_name : Src K mg "is_name" ["thing"] s_is_name) (S_name_of : Src K mg "name_of" ["thing"] s_name_of) (S_cell_at : Src K mg "_law_cell_at" ["_law_script", "_law_k"] s_cell_at) (S_sign_by : Src K mg "_law_sign_by" ["_law_cell"] s_sign_by) (S_text_by : Src K mg "_law_text_by" ["_law_script"] s_text_by) (S_thing_by : Src K mg "_law_thing_by" ["_law_script"] s_thing_by) (S_lis_name : Src K mg "_law_is_name" ["_law_thing"] s_lis_name) (S_refused_by_any : Src K mg "_law_refused_by_any" ["_law_thing"] s_refused_by_any) (S_law : Src K mg "law" ["_law_script"] s_law)
  (X_NoName : Exn K mg "NoName" CA) (X_BookError : Exn K mg "BookError" CB) (cA : ExcC K CA) (kA : PySem.W.kitOne K (.ref CA) (.type "ValueError") = some true)
  (mAA : PySem.W.exmOne K (.ref CA) (.ref CA) = some true) (mAB : PySem.W.exmOne K (.ref CA) (.ref CB) = some true) (C_LONGEST_NAME : ∃ t, mg "LONGEST_NAME" = some (.int 12 t))
  (base : Heap) : Fn P w K mg base 4 "law" ["_law_script"] (sp_law K) :=
  have g1 := ok_is_name (P := P) (w := w) (base := base) S_is_name B C_LONGEST_NAME
  have g2 := ok_name_of S_name_of B g1 X_NoName
  have g4 := ok_cell_at (P := P) (w := w) (base := base) S_cell_at B
  have g5 := ok_sign_by (P := P) (w := w) (base := base) S_sign_by B
  have g6 := ok_text_by S_text_by B g4 g5
  have g7 := ok_thing_by S_thing_by B g4 g6
  have g8 := ok_lis_name (P := P) (w := w) (base := base) S_lis_name B
  have g9 := ok_refused_by_any S_refused_by_any B g2 X_BookError mAB cA kA
  ok_law S_law B g2 g7 g8 g9 X_NoName mAA

theorem all_mk {P : Program} {w : World} {K : PySem.W.Frag} {h : Heap} {mg : Str → Option Value} {fa : Addr} (X : K.In h) (G : h.Ns mainGlobals mg) (hfa : mg "law" = some (.ref fa))
    {f_is_name : Addr} {oc_is_name kV_is_name doc_is_name pm_is_name cd_is_name ct_is_name : Value} {od_is_name an_is_name : Option Addr} {osl_is_name : Array (Option Value)}
    {f_name_of : Addr} {oc_name_of kV_name_of doc_name_of pm_name_of cd_name_of ct_name_of : Value} {od_name_of an_name_of : Option Addr} {osl_name_of : Array (Option Value)}
    {f_cell_at : Addr} {oc_cell_at kV_cell_at doc_cell_at pm_cell_at cd_cell_at ct_cell_at : Value} {od_cell_at an_cell_at : Option Addr} {osl_cell_at : Array (Option Value)}
    {f_sign_by : Addr} {oc_sign_by kV_sign_by doc_sign_by pm_sign_by cd_sign_by ct_sign_by : Value} {od_sign_by an_sign_by : Option Addr} {osl_sign_by : Array (Option Value)}
    {f_text_by : Addr} {oc_text_by kV_text_by doc_text_by pm_text_by cd_text_by ct_text_by : Value} {od_text_by an_text_by : Option Addr} {osl_text_by : Array (Option Value)}
    {f_thing_by : Addr} {oc_thing_by kV_thing_by doc_thing_by pm_thing_by cd_thing_by ct_thing_by : Value} {od_thing_by an_thing_by : Option Addr} {osl_thing_by : Array (Option Value)}
    {f_lis_name : Addr} {oc_lis_name kV_lis_name doc_lis_name pm_lis_name cd_lis_name ct_lis_name : Value} {od_lis_name an_lis_name : Option Addr} {osl_lis_name : Array (Option Value)}
    {f_refused_by_any : Addr} {oc_refused_by_any kV_refused_by_any doc_refused_by_any pm_refused_by_any cd_refused_by_any ct_refused_by_any : Value} {od_refused_by_any an_refused_by_any : Option Addr} {osl_refused_by_any : Array (Option Value)}
    {f_law : Addr} {oc_law kV_law doc_law pm_law cd_law ct_law : Value} {od_law an_law : Option Addr} {osl_law : Array (Option Value)}
    {CA : Addr}
    {CB : Addr}
    (a_is_name : PySem.W.nsIn K mainGlobals "is_name" = some (some (.ref f_is_name)))
    (l_is_name : K.lookup f_is_name = some ⟨oc_is_name, od_is_name, .func (PySem.W.fnOf "is_name" "is_name" (defArgs s_is_name) (defBody s_is_name) (defScope s_is_name) .none kV_is_name doc_is_name pm_is_name an_is_name cd_is_name ct_is_name), osl_is_name⟩)
    (c_is_name : PySem.W.codeIn K cd_is_name "is_name" = true)
    (k_is_name : PySem.W.keepIn K (.ref f_is_name) = true)
    (a_name_of : PySem.W.nsIn K mainGlobals "name_of" = some (some (.ref f_name_of)))
    (l_name_of : K.lookup f_name_of = some ⟨oc_name_of, od_name_of, .func (PySem.W.fnOf "name_of" "name_of" (defArgs s_name_of) (defBody s_name_of) (defScope s_name_of) .none kV_name_of doc_name_of pm_name_of an_name_of cd_name_of ct_name_of), osl_name_of⟩)
    (c_name_of : PySem.W.codeIn K cd_name_of "name_of" = true)
    (k_name_of : PySem.W.keepIn K (.ref f_name_of) = true)
    (a_cell_at : PySem.W.nsIn K mainGlobals "_law_cell_at" = some (some (.ref f_cell_at)))
    (l_cell_at : K.lookup f_cell_at = some ⟨oc_cell_at, od_cell_at, .func (PySem.W.fnOf "_law_cell_at" "_law_cell_at" (defArgs s_cell_at) (defBody s_cell_at) (defScope s_cell_at) .none kV_cell_at doc_cell_at pm_cell_at an_cell_at cd_cell_at ct_cell_at), osl_cell_at⟩)
    (c_cell_at : PySem.W.codeIn K cd_cell_at "_law_cell_at" = true)
    (k_cell_at : PySem.W.keepIn K (.ref f_cell_at) = true)
    (a_sign_by : PySem.W.nsIn K mainGlobals "_law_sign_by" = some (some (.ref f_sign_by)))
    (l_sign_by : K.lookup f_sign_by = some ⟨oc_sign_by, od_sign_by, .func (PySem.W.fnOf "_law_sign_by" "_law_sign_by" (defArgs s_sign_by) (defBody s_sign_by) (defScope s_sign_by) .none kV_sign_by doc_sign_by pm_sign_by an_sign_by cd_sign_by ct_sign_by), osl_sign_by⟩)
    (c_sign_by : PySem.W.codeIn K cd_sign_by "_law_sign_by" = true)
    (k_sign_by : PySem.W.keepIn K (.ref f_sign_by) = true)
    (a_text_by : PySem.W.nsIn K mainGlobals "_law_text_by" = some (some (.ref f_text_by)))
    (l_text_by : K.lookup f_text_by = some ⟨oc_text_by, od_text_by, .func (PySem.W.fnOf "_law_text_by" "_law_text_by" (defArgs s_text_by) (defBody s_text_by) (defScope s_text_by) .none kV_text_by doc_text_by pm_text_by an_text_by cd_text_by ct_text_by), osl_text_by⟩)
    (c_text_by : PySem.W.codeIn K cd_text_by "_law_text_by" = true)
    (k_text_by : PySem.W.keepIn K (.ref f_text_by) = true)
    (a_thing_by : PySem.W.nsIn K mainGlobals "_law_thing_by" = some (some (.ref f_thing_by)))
    (l_thing_by : K.lookup f_thing_by = some ⟨oc_thing_by, od_thing_by, .func (PySem.W.fnOf "_law_thing_by" "_law_thing_by" (defArgs s_thing_by) (defBody s_thing_by) (defScope s_thing_by) .none kV_thing_by doc_thing_by pm_thing_by an_thing_by cd_thing_by ct_thing_by), osl_thing_by⟩)
    (c_thing_by : PySem.W.codeIn K cd_thing_by "_law_thing_by" = true)
    (k_thing_by : PySem.W.keepIn K (.ref f_thing_by) = true)
    (a_lis_name : PySem.W.nsIn K mainGlobals "_law_is_name" = some (some (.ref f_lis_name)))
    (l_lis_name : K.lookup f_lis_name = some ⟨oc_lis_name, od_lis_name, .func (PySem.W.fnOf "_law_is_name" "_law_is_name" (defArgs s_lis_name) (defBody s_lis_name) (defScope s_lis_name) .none kV_lis_name doc_lis_name pm_lis_name an_lis_name cd_lis_name ct_lis_name), osl_lis_name⟩)
    (c_lis_name : PySem.W.codeIn K cd_lis_name "_law_is_name" = true)
    (k_lis_name : PySem.W.keepIn K (.ref f_lis_name) = true)
    (a_refused_by_any : PySem.W.nsIn K mainGlobals "_law_refused_by_any" = some (some (.ref f_refused_by_any)))
    (l_refused_by_any : K.lookup f_refused_by_any = some ⟨oc_refused_by_any, od_refused_by_any, .func (PySem.W.fnOf "_law_refused_by_any" "_law_refused_by_any" (defArgs s_refused_by_any) (defBody s_refused_by_any) (defScope s_refused_by_any) .none kV_refused_by_any doc_refused_by_any pm_refused_by_any an_refused_by_any cd_refused_by_any ct_refused_by_any), osl_refused_by_any⟩)
    (c_refused_by_any : PySem.W.codeIn K cd_refused_by_any "_law_refused_by_any" = true)
    (k_refused_by_any : PySem.W.keepIn K (.ref f_refused_by_any) = true)
    (a_law : PySem.W.nsIn K mainGlobals "law" = some (some (.ref f_law)))
    (l_law : K.lookup f_law = some ⟨oc_law, od_law, .func (PySem.W.fnOf "law" "law" (defArgs s_law) (defBody s_law) (defScope s_law) .none kV_law doc_law pm_law an_law cd_law ct_law), osl_law⟩)
    (c_law : PySem.W.codeIn K cd_law "law" = true)
    (k_law : PySem.W.keepIn K (.ref f_law) = true)
    (z_type : PySem.W.nsIn K mainGlobals "type" = some none)
    (z_str : PySem.W.nsIn K mainGlobals "str" = some none)
    (z_isinstance : PySem.W.nsIn K mainGlobals "isinstance" = some none)
    (z_len : PySem.W.nsIn K mainGlobals "len" = some none)
    (z_ValueError : PySem.W.nsIn K mainGlobals "ValueError" = some none)
    (z_range : PySem.W.nsIn K mainGlobals "range" = some none)
    (e1_NoName : PySem.W.nsIn K mainGlobals "NoName" = some (some (.ref CA)))
    (e2_NoName : PySem.W.excIn K CA veMro "ValueError.__new__" = true)
    (e3_NoName : PySem.W.keepIn K (.ref CA) = true)
    (e4_NoName : PySem.W.subIn K (.ref CA) (.type "BaseException") = some true)
    (e5_NoName : PySem.W.typeIn K (.ref CA) = some (.type "type"))
    (e1_BookError : PySem.W.nsIn K mainGlobals "BookError" = some (some (.ref CB)))
    (e2_BookError : PySem.W.excIn K CB veMro "ValueError.__new__" = true)
    (e3_BookError : PySem.W.keepIn K (.ref CB) = true)
    (e4_BookError : PySem.W.subIn K (.ref CB) (.type "BaseException") = some true)
    (e5_BookError : PySem.W.typeIn K (.ref CB) = some (.type "type"))
    (h1 : PySem.W.findIn K (.ref CA) "__getattribute__" = some (some (.builtin "BaseException.__getattribute__")))
    (h2 : PySem.W.findIn K (.ref CA) "__getattr__" = some none)
    (h4 : PySem.W.hasDictIn K CA = true)
    (h5 : PySem.W.findIn K (.ref CA) "__class__" = some (some (.builtin "object.__class__")))
    (h6 : PySem.W.specialIn K (.builtin "object.__class__") "__get__" = some (some (.builtin "getset_descriptor.__get__")))
    (h7 : PySem.W.takesIn K (.builtin "object.__class__") = some true)
    (h8 : PySem.W.mroIn K CA (.type "object") = some true)
    (kA : PySem.W.subIn K (.ref CA) (.type "ValueError") = some true)
    (hdB : PySem.W.hasDictIn K CB = true)
    (sAA : PySem.W.subIn K (.ref CA) (.ref CA) = some true)
    (sAB : PySem.W.subIn K (.ref CA) (.ref CB) = some true)
    (gA : ∃ t, mg "LONGEST_NAME" = some (.int 12 t))
    : ∃ fd : FuncData, (∀ (s : Shared) (v : Value), BindsTo s fd ⟨[v], []⟩ [("_law_script", v)]) ∧ ∀ base : Heap, K.In base → base.Ns mainGlobals mg → FnOk P w K mg base CX0 4 fa fd ["_law_script"] (sp_law K) := by
  have B : Blt mg := ⟨PySem.W.mg_none_of X G z_type, PySem.W.mg_none_of X G z_str, PySem.W.mg_none_of X G z_isinstance, PySem.W.mg_none_of X G z_len, PySem.W.mg_none_of X G z_ValueError, PySem.W.mg_none_of X G z_range⟩
  have S_is_name : Src K mg "is_name" ["thing"] s_is_name := src_mk X G a_is_name l_is_name c_is_name k_is_name fun us hl => match us, hl with | [_], _ => rfl
  have S_name_of : Src K mg "name_of" ["thing"] s_name_of := src_mk X G a_name_of l_name_of c_name_of k_name_of fun us hl => match us, hl with | [_], _ => rfl
  have S_cell_at : Src K mg "_law_cell_at" ["_law_script", "_law_k"] s_cell_at := src_mk X G a_cell_at l_cell_at c_cell_at k_cell_at fun us hl => match us, hl with | [_, _], _ => rfl
  have S_sign_by : Src K mg "_law_sign_by" ["_law_cell"] s_sign_by := src_mk X G a_sign_by l_sign_by c_sign_by k_sign_by fun us hl => match us, hl with | [_], _ => rfl
  have S_text_by : Src K mg "_law_text_by" ["_law_script"] s_text_by := src_mk X G a_text_by l_text_by c_text_by k_text_by fun us hl => match us, hl with | [_], _ => rfl
  have S_thing_by : Src K mg "_law_thing_by" ["_law_script"] s_thing_by := src_mk X G a_thing_by l_thing_by c_thing_by k_thing_by fun us hl => match us, hl with | [_], _ => rfl
  have S_lis_name : Src K mg "_law_is_name" ["_law_thing"] s_lis_name := src_mk X G a_lis_name l_lis_name c_lis_name k_lis_name fun us hl => match us, hl with | [_], _ => rfl
  have S_refused_by_any : Src K mg "_law_refused_by_any" ["_law_thing"] s_refused_by_any := src_mk X G a_refused_by_any l_refused_by_any c_refused_by_any k_refused_by_any fun us hl => match us, hl with | [_], _ => rfl
  have S_law : Src K mg "law" ["_law_script"] s_law := src_mk X G a_law l_law c_law k_law fun us hl => match us, hl with | [_], _ => rfl
  have X_NoName : Exn K mg "NoName" CA := ⟨PySem.W.mg_of X G e1_NoName, e2_NoName, e3_NoName, e4_NoName, e5_NoName⟩
  have X_BookError : Exn K mg "BookError" CB := ⟨PySem.W.mg_of X G e1_BookError, e2_BookError, e3_BookError, e4_BookError, e5_BookError⟩
  exact fin_of S_law hfa fun base => all_ok B S_is_name S_name_of S_cell_at S_sign_by S_text_by S_thing_by S_lis_name S_refused_by_any S_law X_NoName X_BookError ⟨h1, h2, e4_NoName, h4, h5, h6, h7, h8⟩ (kit_sub meta_VE kA) (PySem.W.exm_ref e4_NoName h4 e5_NoName sAA) (PySem.W.exm_ref e4_BookError hdB e5_BookError sAB) gA base
end Pf
open PySem PySem.W PyProof.Rows
set_option maxHeartbeats 0 in
theorem PySem.Challenge.cw_escrowbook_k01_names_holds : PySem.Challenge.rw_escrowbook_k01_names.Holds := by
  w_on; o_law; k_head; (case hw => w_witness2)
  k_fill
  refine L2.walk_of (l := PySem.Challenge.rw_escrowbook_k01_names) (n := 63) (k := 4) (x := "_law_script") (CX := fun _ => L2.CX0) (sp := fun w => Pf.sp_law _) rfl (by decide) rfl ⟨rfl, by decide, by decide⟩ (fun w h Y => PySem.W.kIn_of Y) ?F (fun _ _ a ns hl _ hS => ⟨⟨ns, hS⟩, fun _ => rfl⟩) (fun _ _ _ _ _ h => h)
  case F =>
    intro w mg fa h KX G hmg
    refine' Pf.all_mk KX G hmg ?a_is_name ?l_is_name ?c_is_name ?k_is_name ?a_name_of ?l_name_of ?c_name_of ?k_name_of ?a_cell_at ?l_cell_at ?c_cell_at ?k_cell_at ?a_sign_by ?l_sign_by ?c_sign_by ?k_sign_by ?a_text_by ?l_text_by ?c_text_by ?k_text_by ?a_thing_by ?l_thing_by ?c_thing_by ?k_thing_by ?a_lis_name ?l_lis_name ?c_lis_name ?k_lis_name ?a_refused_by_any ?l_refused_by_any ?c_refused_by_any ?k_refused_by_any ?a_law ?l_law ?c_law ?k_law ?z_type ?z_str ?z_isinstance ?z_len ?z_ValueError ?z_range ?e1_NoName ?e2_NoName ?e3_NoName ?e4_NoName ?e5_NoName ?e1_BookError ?e2_BookError ?e3_BookError ?e4_BookError ?e5_BookError ?h1 ?h2 ?h4 ?h5 ?h6 ?h7 ?h8 ?kA ?hdB ?sAA ?sAB ?gA
    (case a_is_name => k_is)
    (case l_is_name => k_is)
    (case c_is_name => k_is)
    (case k_is_name => k_is)
    (case a_name_of => k_is)
    (case l_name_of => k_is)
    (case c_name_of => k_is)
    (case k_name_of => k_is)
    (case a_cell_at => k_is)
    (case l_cell_at => k_is)
    (case c_cell_at => k_is)
    (case k_cell_at => k_is)
    (case a_sign_by => k_is)
    (case l_sign_by => k_is)
    (case c_sign_by => k_is)
    (case k_sign_by => k_is)
    (case a_text_by => k_is)
    (case l_text_by => k_is)
    (case c_text_by => k_is)
    (case k_text_by => k_is)
    (case a_thing_by => k_is)
    (case l_thing_by => k_is)
    (case c_thing_by => k_is)
    (case k_thing_by => k_is)
    (case a_lis_name => k_is)
    (case l_lis_name => k_is)
    (case c_lis_name => k_is)
    (case k_lis_name => k_is)
    (case a_refused_by_any => k_is)
    (case l_refused_by_any => k_is)
    (case c_refused_by_any => k_is)
    (case k_refused_by_any => k_is)
    (case a_law => k_is)
    (case l_law => k_is)
    (case c_law => k_is)
    (case k_law => k_is)
    (case z_type => k_is)
    (case z_str => k_is)
    (case z_isinstance => k_is)
    (case z_len => k_is)
    (case z_ValueError => k_is)
    (case z_range => k_is)
    (case e1_NoName => k_is)
    (case e2_NoName => k_exc)
    (case e3_NoName => k_is)
    (case e4_NoName => k_is)
    (case e5_NoName => k_is)
    (case e1_BookError => k_is)
    (case e2_BookError => k_exc)
    (case e3_BookError => k_is)
    (case e4_BookError => k_is)
    (case e5_BookError => k_is)
    (case h1 => k_is)
    (case h2 => k_is)
    (case h4 => k_is)
    (case h5 => k_is)
    (case h6 => k_is)
    (case h7 => k_is)
    (case h8 => k_is)
    (case kA => k_is)
    (case hdB => k_is)
    (case sAA => k_is)
    (case sAB => k_is)
    (case gA => exact ⟨_, PySem.W.mg_of KX G (by k_is)⟩)
