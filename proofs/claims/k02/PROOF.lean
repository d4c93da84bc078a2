import PyProof.Rows.All
import Wide.All
import OpenK.AllK
import Wide.FinOn
import PyProof.FactsAll.object
import HandS.ForMost
import HandS.Exc
import HandS.TryOnly
import HandS.TryMany
import HandS.ExcOwn
import HandS.CallSlots
import HandS.WordsExc
import HandS.More
import HandS.IsInst
import HandS.ExcIs
import HandS.Conv
import HandS.DeepEq
import HandS.DictEq
import HandS.Style
import HandS.SetFor
import HandS.Walk
import HandS.Star
import HandS.SetKeys
import HandS.DictComp
import HandS.Records
import PySem.Challenge.RW_escrowbook_k02_amounts
set_option Elab.async false
set_option maxRecDepth 100000
namespace NeTy
open PySem PySem.TypeEq
theorem sl_ne : Slot "type" (cmpInfo .NotEq).2.1 "object.__ne__" :=
  Slot.of (n := "__ne__") (owner := "object") (by
      rw [typeLookup_type, builtinLookup_eq_fast]
      kernel_rfl) (by decide +kernel) (by decide +kernel) (by decide +kernel)
    (by first | exact .inl (by decide +kernel) | exact .inr (by decide +kernel)) (by
      rw [isSubtype_type]
      kernel_rfl)
theorem sl_ne2 : Slot "type" (cmpInfo .NotEq).2.2 "object.__ne__" :=
  Slot.of (n := "__ne__") (owner := "object") (by
      rw [typeLookup_type, builtinLookup_eq_fast]
      kernel_rfl) (by decide +kernel) (by decide +kernel) (by decide +kernel)
    (by first | exact .inl (by decide +kernel) | exact .inr (by decide +kernel)) (by
      rw [isSubtype_type]
      kernel_rfl)
section
variable {prog : Program} {w : World} {A : Around} {E : Value → Shared → Prop} {s : Shared}
/-- object's own != of two types: by == -/
theorem obj_ne {X Y : String} {R : Value} {Q : Fin → Shared → Prop} (hX : ∀ z : Shared, z.TypeIs (.type X) "type")
    (hc : wpAny (model prog w) A (call (.builtin "object.__eq__") [.type X, .type Y]) (fun v z => v = R ∧ z = s) E s)
    (hR : (R = .notImplemented ∧ Q (.done (.ret .notImplemented)) s) ∨ (∃ b, R = .bool b ∧ Q (.done (.ret (.bool (!b)))) s)) :
    wpAny (model prog w) A (Builtin.«object.__ne__» ⟨[.type X, .type Y], []⟩) Q E s := by
  unfold Builtin.«object.__ne__»
  rcases hR with ⟨rfl, hq⟩ | ⟨b, rfl, hq⟩
  all_goals
    repeat (first
      | (fail_if_success (with_reducible show wpAny _ _ (callSpecialIfBound? _ _ _) _ _ _)
         wp_step))
    refine wpAny_callSpecialIfBound?_slot (hX s) slot_type_eq (wpAny_mono hc (fun v z hv => ?_) fun _ _ e => e)
    obtain ⟨rfl, rfl⟩ := hv
  · exact wpAny_pure hq
  · exact wpAny_bind (wpAny_truthy_bool (wpAny_pure hq))
theorem call_ne {X Y : String} {R : Value} {Q : Value → Shared → Prop} (hX : ∀ z : Shared, z.TypeIs (.type X) "type")
    (hc : wpAny (model prog w) A.in1 (call (.builtin "object.__eq__") [.type X, .type Y]) (fun v z => v = R ∧ z = s) E s)
    (hR : (R = .notImplemented ∧ Q .notImplemented s) ∨ (∃ b, R = .bool b ∧ Q (.bool (!b)) s)) :
    wpAny (model prog w) A (call (.builtin "object.__ne__") [.type X, .type Y]) Q E s := by
  refine wpAny_call_entry sl_ne (hX s) F.entry_object_ne ?_ (F.args_object_ne_2 _ _)
  refine obj_ne hX hc ?_
  rcases hR with ⟨rfl, hq⟩ | ⟨b, rfl, hq⟩
  · exact .inl ⟨rfl, _, rfl, hq⟩
  · exact .inr ⟨b, rfl, _, rfl, hq⟩
/-- T != T -/
theorem ne_same {X : String} {Q : Value → Shared → Prop} (hX : ∀ z : Shared, z.TypeIs (.type X) "type") (h : Q (.bool false) s) :
    wpAny (model prog w) A (compareOp .NotEq (.type X) (.type X)) Q E s := by
  show wpAny _ A (richCompare .NotEq _ _) Q E s
  exact wpAny_richCompare_same (T := "type") (hX s) (hX s) sl_ne
    (call_ne hX (call_gives slot_type_eq (hX s) F.entry_object_eq (F.args_object_eq_2 _ _) (object_eq_same rfl (by simp)) ⟨rfl, rfl⟩)
      (.inr ⟨true, rfl, (by intro e; cases e), h⟩))
/-- T != U -/
theorem ne_other {X Y : String} {Q : Value → Shared → Prop} (hX : ∀ z : Shared, z.TypeIs (.type X) "type") (hY : ∀ z : Shared, z.TypeIs (.type Y) "type")
    (hd : X ≠ Y) (h : Q (.bool true) s) : wpAny (model prog w) A (compareOp .NotEq (.type X) (.type Y)) Q E s := by
  have d1 : (Value.type X == Value.type Y) = false := by
    rw [beq_eq_false_iff_ne]
    intro e
    exact hd (Value.type.inj e)
  have d2 : (Value.type Y == Value.type X) = false := by
    rw [beq_eq_false_iff_ne]
    intro e
    exact hd (Value.type.inj e).symm
  show wpAny _ A (richCompare .NotEq _ _) Q E s
  rcases hi : cmpInfo CmpOp.NotEq with ⟨sy, f, r⟩
  have n1 : Slot "type" f "object.__ne__" := by
    have q := sl_ne
    rw [hi] at q
    exact q
  have n2 : Slot "type" r "object.__ne__" := by
    have q := sl_ne2
    rw [hi] at q
    exact q
  simp only [richCompare, hi, (hX s).oneThing_none]
  try with_reducible refine wpAny_holding ?_
  refine wpAny_bind (wpAny_cRoomFor_or (.inl rfl) ?_)
  refine wpAny_bind (wpAny_typeOf (hX s) ?_)
  refine wpAny_bind (wpAny_typeOf (hY s) ?_)
  simp only [bne_self_eq_false, Bool.false_eq_true, if_false, pure_bind, Bool.not_false, if_true]
  refine wpAny_bind (m := tryCompare (.type X) _ (.type Y)) (wpAny_tryCompare_declines (hX s) n1 ?_)
  refine call_ne hX (call_gives slot_type_eq (hX s) F.entry_object_eq (F.args_object_eq_2 _ _) (object_eq_other rfl d1) ⟨rfl, rfl⟩) (.inl ⟨rfl, rfl, ?_⟩)
  refine wpAny_bind (m := tryCompare (.type Y) _ (.type X)) (wpAny_tryCompare_declines (hY s) n2 ?_)
  refine call_ne hY (call_gives slot_type_eq (hY s) F.entry_object_eq (F.args_object_eq_2 _ _) (object_eq_other rfl d2) ⟨rfl, rfl⟩) (.inl ⟨rfl, rfl, ?_⟩)
  refine wpAny_bind (wpAny_rule (wpAny_bind (wpAny_of_eq (isSame_plain rfl) ?_)))
  rw [d1]
  exact wpAny_pure h
end
end NeTy
set_option Elab.async false
set_option linter.all false
set_option maxRecDepth 100000
set_option maxHeartbeats 4000000
namespace Fw
open PySem PySem.Spec PyProof.Rows L2
/-! ### what is read at an address, as a function -/
def lstOf (H : Hp) (a : Addr) : Option (List V) := match H a with
  | some (.lst xs) => some xs
  | some (.frz _ (.lst xs)) => some xs
  | _ => none
def tupOf (H : Hp) (a : Addr) : Option (List V) := match H a with
  | some (.tup xs) => some xs
  | some (.frz _ (.tup xs)) => some xs
  | _ => none
def dicOf (H : Hp) (a : Addr) : Option (List (Key × V)) := match H a with
  | some (.dK kvs) => some kvs
  | some (.frz _ (.dK kvs)) => some kvs
  | _ => none
theorem sq_lst {K : PySem.W.Frag} {H : Hp} {a : Addr} {xs : List V} (h : lstOf H a = some xs) : SqL K H a xs := by
  unfold lstOf at h
  split at h
  · rename_i e; cases h; exact .inl (.inl e)
  · rename_i e; cases h; exact .inl (.inr ⟨_, e⟩)
  · cases h
theorem sq_tup {K : PySem.W.Frag} {H : Hp} {a : Addr} {xs : List V} (h : tupOf H a = some xs) : SqT K H a xs := by
  unfold tupOf at h
  split at h
  · rename_i e; cases h; exact .inl (.inl e)
  · rename_i e; cases h; exact .inl (.inr ⟨_, e⟩)
  · cases h
theorem rd_dic {H : Hp} {a : Addr} {kvs : List (Key × V)} (h : dicOf H a = some kvs) : Rd H a (.dK kvs) := by
  unfold dicOf at h
  split at h
  · rename_i e; cases h; exact .inl e
  · rename_i e; cases h; exact .inr ⟨_, e⟩
  · cases h
/-- a value as a key -/
def keyOf : V → Option Key
  | .int i => some (.inl i)
  | .str x => some (.inr x)
  | _ => none
theorem keyOf_kV {v : V} {k : Key} (h : keyOf v = some k) : v = kV k := by
  cases v <;> simp [keyOf] at h <;> subst h <;> rfl

/-! ### operations by the values' kinds -/
def vAdd : R2 := fun x y H Q => match x, y with
  | .int i, .int j => Q (.int (i + j)) H
  | .str i, .str j => i.length + j.length ≤ sizeLine ∧ Q (.str (i ++ j)) H
  | .ref a, .ref b => ∃ xs ys, H a = some (.lst xs) ∧ H b = some (.lst ys) ∧ xs.length + ys.length ≤ sizeLine ∧ ∀ p, H p = none → Q (.ref p) (upd H p (.lst (xs ++ ys)))
  | _, _ => False
def vSub : R2 := fun x y H Q => match x, y with
  | .int i, .int j => Q (.int (i - j)) H
  | _, _ => False
def vMul : R2 := fun x y H Q => match x, y with
  | .int i, .int j => CMul i j ∧ Q (.int (i * j)) H
  | .ref a, .int k => ∃ xs, H a = some (.lst xs) ∧ -(2 ^ 63) ≤ k ∧ k < 2 ^ 63 ∧ xs.length * k.toNat ≤ sizeLine ∧ ∀ p, H p = none → Q (.ref p) (upd H p (.lst ((List.replicate k.toNat xs).flatten)))
  | _, _ => False
def vDiv : R2 := fun x y H Q => match x, y with
  | .int i, .int j => CDiv i j ∧ Q (.int (i / j)) H
  | _, _ => False
def vMod : R2 := fun x y H Q => match x, y with
  | .int i, .int j => 0 < j ∧ Q (.int (i % j)) H
  | _, _ => False
def vPow : R2 := fun x y H Q => match x, y with
  | .int i, .int j => CPow i j ∧ Q (.int (i ^ j.toNat)) H
  | _, _ => False
def vLt : R2 := fun x y H Q => match x, y with
  | .int i, .int j => Q (.bl (decide (i < j))) H
  | _, _ => False
def vGt : R2 := fun x y H Q => match x, y with
  | .int i, .int j => Q (.bl (decide (j < i))) H
  | _, _ => False
def vLe : R2 := fun x y H Q => match x, y with
  | .int i, .int j => Q (.bl (decide (i ≤ j))) H
  | .str i, .str j => Q (.bl (!decide (j.cps.toList < i.cps.toList))) H
  | _, _ => False
def vGe : R2 := fun x y H Q => match x, y with
  | .int i, .int j => Q (.bl (decide (j ≤ i))) H
  | _, _ => False
/-- the built-in types that the rules for types know -/
def tyOk (a : String) : Bool := a == "int" || a == "str" || a == "bool" || a == "NoneType" || a == "list" || a == "tuple" || a == "dict"
section
variable {X : Cx}
theorem op_vAdd : OpR X (binaryOp .Add) vAdd := by
  intro pins s σ H x y u v Q I rx ry h
  unfold vAdd at h
  split at h
  · exact op_add pins s σ H _ _ u v Q I rx ry ⟨_, _, rfl, rfl, h⟩
  · exact op_add_str pins s σ H _ _ u v Q I rx ry ⟨_, _, rfl, rfl, h.1, h.2⟩
  · obtain ⟨xs, ys, ha, hb, hl, q⟩ := h
    exact op_cat pins s σ H _ _ u v Q I rx ry ⟨_, _, _, _, rfl, rfl, ha, hb, hl, q⟩
  · exact h.elim
theorem op_vSub : OpR X (binaryOp .Sub) vSub := by
  intro pins s σ H x y u v Q I rx ry h
  unfold vSub at h
  split at h
  · exact op_sub pins s σ H _ _ u v Q I rx ry ⟨_, _, rfl, rfl, h⟩
  · exact h.elim
theorem op_vMul : OpR X (binaryOp .Mult) vMul := by
  intro pins s σ H x y u v Q I rx ry h
  unfold vMul at h
  split at h
  · exact op_mul pins s σ H _ _ u v Q I rx ry ⟨_, _, rfl, rfl, h.1, h.2⟩
  · obtain ⟨xs, ha, h1, h2, h3, q⟩ := h
    exact op_rep pins s σ H _ _ u v Q I rx ry ⟨_, _, _, rfl, rfl, ha, h1, h2, h3, q⟩
  · exact h.elim
theorem op_vDiv : OpR X (binaryOp .FloorDiv) vDiv := by
  intro pins s σ H x y u v Q I rx ry h
  unfold vDiv at h
  split at h
  · exact op_fdiv pins s σ H _ _ u v Q I rx ry ⟨_, _, rfl, rfl, h.1, h.2⟩
  · exact h.elim
theorem op_vMod : OpR X (binaryOp .Mod) vMod := by
  intro pins s σ H x y u v Q I rx ry h
  unfold vMod at h
  split at h
  · exact op_mod pins s σ H _ _ u v Q I rx ry ⟨_, _, rfl, rfl, h.1, h.2⟩
  · exact h.elim
theorem op_vPow : OpR X (binaryOp .Pow) vPow := by
  intro pins s σ H x y u v Q I rx ry h
  unfold vPow at h
  split at h
  · exact op_pow pins s σ H _ _ u v Q I rx ry ⟨_, _, rfl, rfl, h.1, h.2⟩
  · exact h.elim
theorem op_vLt : OpR X (compareOp .Lt) vLt := by
  intro pins s σ H x y u v Q I rx ry h
  unfold vLt at h
  split at h
  · exact op_lt pins s σ H _ _ u v Q I rx ry ⟨_, _, rfl, rfl, h⟩
  · exact h.elim
theorem op_vGt : OpR X (compareOp .Gt) vGt := by
  intro pins s σ H x y u v Q I rx ry h
  unfold vGt at h
  split at h
  · exact op_gt pins s σ H _ _ u v Q I rx ry ⟨_, _, rfl, rfl, h⟩
  · exact h.elim
theorem op_vLe : OpR X (compareOp .LtE) vLe := by
  intro pins s σ H x y u v Q I rx ry h
  unfold vLe at h
  split at h
  · exact op_le pins s σ H _ _ u v Q I rx ry ⟨_, _, rfl, rfl, h⟩
  · exact op_le_str pins s σ H _ _ u v Q I rx ry ⟨_, _, rfl, rfl, h⟩
  · exact h.elim
theorem op_vGe : OpR X (compareOp .GtE) vGe := by
  intro pins s σ H x y u v Q I rx ry h
  unfold vGe at h
  split at h
  · exact op_ge pins s σ H _ _ u v Q I rx ry ⟨_, _, rfl, rfl, h⟩
  · exact h.elim
theorem meta_of {a : String} (h : tyOk a = true) : ∀ z : Shared, z.TypeIs (.type a) "type" := by
  simp only [tyOk, Bool.or_eq_true, beq_iff_eq] at h
  rcases h with (((((h | h) | h) | h) | h) | h) | h <;> subst h
  · exact TypeEq.meta_int
  · exact TypeEq.meta_str
  · exact TypeEq.meta_bool
  · exact TypeEq.meta_NoneType
  · exact TypeEq.meta_list
  · exact TypeEq.meta_tuple
  · exact TypeEq.meta_dict
theorem op_neTy : OpR X (compareOp .NotEq) (fun x y H Q => ∃ a b, x = .ty a ∧ y = .ty b ∧ tyOk a = true ∧ tyOk b = true ∧ Q (.bl (!decide (a = b))) H) := by
  intro pins s σ H x y u v Q I rx ry h
  obtain ⟨a, b, rfl, rfl, h1, h2, q⟩ := h
  cases (show u = Value.type a from rx)
  cases (show v = Value.type b from ry)
  by_cases e : a = b
  · subst e
    exact NeTy.ne_same (meta_of h1) (fin_bl I q (by simp))
  · exact NeTy.ne_other (meta_of h1) (meta_of h2) e (fin_bl I q (by simp [e]))
theorem op_eqTy : OpR X (compareOp .Eq) (fun x y H Q => ∃ a b, x = .ty a ∧ y = .ty b ∧ tyOk a = true ∧ tyOk b = true ∧ Q (.bl (decide (a = b))) H) := by
  intro pins s σ H x y u v Q I rx ry h
  obtain ⟨a, b, rfl, rfl, h1, h2, q⟩ := h
  cases (show u = Value.type a from rx)
  cases (show v = Value.type b from ry)
  by_cases e : a = b
  · subst e
    exact TypeEq.eq_type_same (meta_of h1) (fin_bl I q (by simp))
  · exact TypeEq.eq_type_other (meta_of h1) (meta_of h2) (by
      rw [beq_eq_false_iff_ne]
      intro z
      exact e (Value.type.inj z)) (fin_bl I q (by simp [e]))
end
/-- ==, !=: scalars by value; built-in types; all else as data -/
def vEq (K : PySem.W.Frag) : R2 := fun x y H Q => match x, y with
  | .ty a, .ty b => tyOk a = true ∧ tyOk b = true ∧ Q (.bl (decide (a = b))) H
  | .ref a, y => rEqD K (.ref a) y H Q ∨ rEqV K (.ref a) y H Q
  | x, .ref b => rEqD K x (.ref b) H Q
  | x, y => scal x y = true ∧ Q (.bl (decide (x = y))) H
/-- != of two dicts of the same keys, their values equal -/
def rNeV (K : PySem.W.Frag) : R2 := fun x y H Q => ∃ a b ks ls, x = .ref a ∧ y = .ref b ∧ H a = some (.dK ks) ∧ H b = some (.dK ls) ∧ ks.length = ls.length ∧ (∀ p ∈ ks, ∃ u, valV ls p.1 = some u ∧ EqV K H 3 p.2 u) ∧ Q (.bl false) H
theorem op_neV {X : Cx} (hu : X.A.units + 64 < cLine) : OpR X (compareOp .NotEq) (rNeV X.K) := by
  intro pins s σ H x y v u Q I rx ry h
  obtain ⟨a, b, ks, ls, rfl, rfl, ea, eb, hl, hp, q⟩ := h
  cases (show v = Value.ref a from rx)
  cases (show u = Value.ref b from ry)
  obtain ⟨_, ya, va, ra, da⟩ := (show ObjOk X.prog X.w H s.heap a (.dK ks) from I.hok a _ ea)
  obtain ⟨_, yb, vb, rb, db⟩ := (show ObjOk X.prog X.w H s.heap b (.dK ls) from I.hok b _ eb)
  have hits := hits_run (A := X.A.in1) (fun x y v u h rx ry => eqV_run I 3 X.A.in1 (by show X.A.units + 1 + 3 < cLine; omega) x y v u h rx ry) rb ra hp
  have hlen : va.length = vb.length := by rw [← ra.length, ← rb.length]; exact hl
  refine PySem.wpAny_richCompare_same_room (op := .NotEq) da.typeIs db.typeIs PySem.F.slot_dict_ne (wpAny_call_entry PySem.F.slot_dict_ne da.typeIs PySem.F.entry_dict_ne ?_ (PySem.F.args_dict_ne_2 _ _)) (by omega)
  show wpAny _ _ (Builtin.Dict.dictSlotArgs "__ne__" ⟨[.ref a, .ref b], []⟩ >>= _) _ _ s
  refine wpAny_bind ?_
  unfold Builtin.Dict.dictSlotArgs
  refine wpAny_bind (wpAny_notOrdered_dict da.typeIs ?_)
  show wpAny _ _ (pure (Value.ref a, Value.ref b)) _ _ s
  refine wpAny_pure ?_
  refine wpAny_bind (wpAny_isInstance (T := "dict") db.typeIs PySem.F.sub_dict_dict ?_)
  simp only [Bool.not_true, Bool.false_eq_true, if_false]
  refine wpAny_bind (wpAny_pure (wpAny_bind (wpAny_pure ?_)))
  refine wpAny_bind (PySem.W.samePairsP (r := true) ya yb da db (fun _ => hits) ?_)
  refine wpAny_pure ⟨_, rfl, ?_, ?_⟩
  · exact fun x => nomatch x
  · rw [show (va.length == vb.length && true) = true from by rw [hlen]; simp]
    exact ⟨.bl false, H, I, rfl, q⟩
def vNe (K : PySem.W.Frag) : R2 := fun x y H Q => match x, y with
  | .ty a, .ty b => tyOk a = true ∧ tyOk b = true ∧ Q (.bl (!decide (a = b))) H
  | .ref a, y => rNeD K (.ref a) y H Q ∨ rNeV K (.ref a) y H Q
  | x, .ref b => rNeD K x (.ref b) H Q
  | x, y => scal x y = true ∧ Q (.bl (!decide (x = y))) H
theorem op_vEq {X : Cx} (hu : X.A.units + 64 < cLine) : OpR X (compareOp .Eq) (vEq X.K) := by
  intro pins s σ H x y u v Q I rx ry h
  unfold vEq at h
  split at h
  · exact op_eqTy pins s σ H _ _ u v Q I rx ry ⟨_, _, rfl, rfl, h.1, h.2.1, h.2.2⟩
  · exact h.elim (op_eqD hu pins s σ H _ _ u v Q I rx ry) (op_eqV hu pins s σ H _ _ u v Q I rx ry)
  · exact op_eqD hu pins s σ H _ _ u v Q I rx ry h
  · exact op_eq pins s σ H _ _ u v Q I rx ry h
theorem op_vNe {X : Cx} (hu : X.A.units + 64 < cLine) : OpR X (compareOp .NotEq) (vNe X.K) := by
  intro pins s σ H x y u v Q I rx ry h
  unfold vNe at h
  split at h
  · exact op_neTy pins s σ H _ _ u v Q I rx ry ⟨_, _, rfl, rfl, h.1, h.2.1, h.2.2⟩
  · exact h.elim (op_neD hu pins s σ H _ _ u v Q I rx ry) (op_neV hu pins s σ H _ _ u v Q I rx ry)
  · exact op_neD hu pins s σ H _ _ u v Q I rx ry h
  · exact op_ne pins s σ H _ _ u v Q I rx ry h
/-- type(x) -/
def tyOf (H : Hp) : V → Option String
  | .non => some "NoneType"
  | .bl _ => some "bool"
  | .int _ => some "int"
  | .str _ => some "str"
  | .ref a => match H a with
    | some (.lst _) => some "list"
    | some (.tup _) => some "tuple"
    | some (.dK _) => some "dict"
    | _ => none
  | _ => none
def cType : List V → Hp → VK → Prop := fun xs H Q => match xs with
  | [x] => (match tyOf H x with
    | some T => Q (.ty T) H
    | none => False)
  | _ => False

theorem tyB_of {K : PySem.W.Frag} {H : Hp} {x : V} {T : String} (h : tyOf H x = some T) : TyB K H x T := by
  unfold tyOf at h
  split at h
  · cases h; exact .non
  · cases h; exact .bl _
  · cases h; exact .int _
  · cases h; exact .str _
  · split at h
    · rename_i e; cases h; exact .lst (.inl (.inl e))
    · rename_i e; cases h; exact .tup (.inl (.inl e))
    · rename_i e; cases h; exact .dK e
    · cases h
  · cases h
theorem tyOf_of {K : PySem.W.Frag} {H : Hp} {x : V} {T : String} (h : tyOf H x = some T) : TyOf K H x (.type T) := by
  unfold tyOf at h
  split at h
  · cases h; exact .non
  · cases h; exact .bl _
  · cases h; exact .int _
  · cases h; exact .str _
  · split at h
    · rename_i e; cases h; exact .lst e
    · rename_i e; cases h; exact .tup e
    · rename_i e; cases h; exact .dK e
    · cases h
  · cases h
theorem tyOf_in {H : Hp} {x : V} {T : String} (h : tyOf H x = some T) : T ∈ ["NoneType", "bool", "int", "str", "list", "tuple", "dict"] := by
  unfold tyOf at h
  split at h
  · cases h; decide
  · cases h; decide
  · cases h; decide
  · cases h; decide
  · split at h
    · cases h; decide
    · cases h; decide
    · cases h; decide
    · cases h
  · cases h
theorem call_vType {X : Cx} : CallR X (.type "type") cType := by
  intro pins s σ H xs us Q I r h
  unfold cType at h
  split at h
  · split at h
    · rename_i T e
      exact call_type1 pins s σ H _ us Q I r ⟨_, T, rfl, tyB_of e, h⟩
    · exact h.elim
  · exact h.elim
/-- isinstance(x, T), T a built-in type -/
def isT (A T : String) : Bool := A == T || (A == "bool" && T == "int")
theorem kit_isT : ∀ A ∈ ["NoneType", "bool", "int", "str", "list", "tuple", "dict"], ∀ T ∈ ["bool", "int", "str", "list", "tuple", "dict"], kitB A T = some (isT A T) := by decide +kernel
def cIs : List V → Hp → VK → Prop := fun xs H Q => match xs with
  | [x, .ty T] => T ∈ ["bool", "int", "str", "list", "tuple", "dict"] ∧ (match tyOf H x with
    | some A => Q (.bl (isT A T)) H
    | none => False)
  | _ => False
theorem call_vIs {X : Cx} : CallR X (.builtin "isinstance") cIs := by
  intro pins s σ H xs us Q I r h
  unfold cIs at h
  split at h
  · rename_i x T
    obtain ⟨hT, h⟩ := h
    split at h
    · rename_i A e
      exact call_isi pins s σ H _ us Q I r ⟨x, .ty T, .type A, .type T, isT A T, rfl, .ty T, .base (tyOf_of e), kit_ty (kit_isT A (tyOf_in e) T hT), h⟩
    · exact h.elim
  · exact h.elim
/-! ### the module's defs by their names -/
structure Fn (P : Program) (w : World) (K : PySem.W.Frag) (mg : Str → Option Value) (base : Heap) (k : Nat) (x : Str) (ps : List Str) (sp : Sp) : Prop where
  ex : ∃ (f : Addr) (fd : FuncData), FnOk P w K mg base CX0 k f fd ps sp ∧ mg x = some (.ref f) ∧ PySem.W.keepIn K (.ref f) = true ∧ Binds K fd ps [] ∧ ∃ oc od osl, K.lookup f = some ⟨oc, od, .func fd, osl⟩
/-- one that may raise -/
structure FnX (P : Program) (w : World) (K : PySem.W.Frag) (mg : Str → Option Value) (base : Heap) (k : Nat) (x : Str) (ps : List Str) (sp : Sp) : Prop where
  ex : ∃ (f : Addr) (fd : FuncData), FnOk P w K mg base (L2.CX P w) k f fd ps sp ∧ mg x = some (.ref f) ∧ PySem.W.keepIn K (.ref f) = true ∧ Binds K fd ps []
/-- a def of the text as the top has left it -/
structure Src (K : PySem.W.Frag) (mg : Str → Option Value) (x : Str) (ps : List Str) (st : Stmt) : Prop where
  ex : ∃ (f : Addr) (fd : FuncData), Fun K x x st f fd ∧ mg x = some (.ref f) ∧ ∀ us : List Value, us.length = ps.length → bindArgs fd ⟨us, []⟩ = pure (ps.zip us)
theorem src_mk {K : PySem.W.Frag} {mg : Str → Option Value} {h : Heap} {x : Str} {ps : List Str} {st : Stmt} {f : Addr} {oc : Value} {od an : Option Addr} {osl : Array (Option Value)} {kV doc pm cd ct : Value}
    (X : K.In h) (G : h.Ns mainGlobals mg) (a : PySem.W.nsIn K mainGlobals x = some (some (.ref f)))
    (l : K.lookup f = some ⟨oc, od, .func (PySem.W.fnOf x x (defArgs st) (defBody st) (defScope st) .none kV doc pm an cd ct), osl⟩) (c : PySem.W.codeIn K cd x = true) (k : PySem.W.keepIn K (.ref f) = true)
    (hb : ∀ us : List Value, us.length = ps.length → bindArgs (PySem.W.fnOf x x (defArgs st) (defBody st) (defScope st) .none kV doc pm an cd ct) ⟨us, []⟩ = pure (ps.zip us)) : Src K mg x ps st :=
  ⟨f, _, fun_mk l c k, PySem.W.mg_of X G a, hb⟩
section
variable {P : Program} {w : World} {K : PySem.W.Frag} {mg : Str → Option Value} {base : Heap}
theorem fn_mk {x : Str} {st : Stmt} {N ps : List Str} {k : Nat} {sp : Sp} (S : Src K mg x ps st) (sc : FnScope N ps (defScope st)) (len : ∀ vs H Q E, sp vs H Q E → vs.length = ps.length)
    (hbody : ∀ (f : Addr) (cdv : Value) (A : Around) (outer : List Env) (s : Shared) (H : Hp) (vs : List V) (Q : VK) (E : XK), Room k (A.deeper (envOfC x (defScope st) s.heap.objs.size f cdv)) → sp vs H Q E →
      ∃ t, PSs (cxOf CX0 P w K mg base N x (defScope st) f cdv A outer s H E).nox (defBody st) t ∧ t { nx := fun _ H' => Q .non H', rt := Q } (start N vs) H) : Fn P w K mg base (k + 1) x ps sp := by
  obtain ⟨f, fd, F, hm, hb⟩ := S.ex
  obtain ⟨oc, od, kV, doc, pm, an, cdv, ct, osl, e, lk, hcd⟩ := id F.ex
  exact ⟨f, fd, F.ok sc len (hbody f), hm, F.kp, .all hb, oc, od, osl, lk⟩
theorem fnx_mk {x : Str} {st : Stmt} {N ps : List Str} {k : Nat} {sp : Sp} (S : Src K mg x ps st) (sc : FnScope N ps (defScope st)) (len : ∀ vs H Q E, sp vs H Q E → vs.length = ps.length)
    (hbody : ∀ (f : Addr) (cdv : Value) (A : Around) (outer : List Env) (s : Shared) (H : Hp) (vs : List V) (Q : VK) (E : XK), Room k (A.deeper (envOfC x (defScope st) s.heap.objs.size f cdv)) → sp vs H Q E →
      ∃ t, PSs (cxOf (L2.CX P w) P w K mg base N x (defScope st) f cdv A outer s H E) (defBody st) t ∧ t { nx := fun _ H' => Q .non H', rt := Q } (start N vs) H) : FnX P w K mg base (k + 1) x ps sp := by
  obtain ⟨f, fd, F, hm, hb⟩ := S.ex
  exact ⟨f, fd, F.okX sc len (hbody f), hm, F.kp, .all hb⟩
end
/-- what comes behind a call: not looked at before the call has answered. (Tag, of a type that speaks of Q, keeps simp's congruences out.) -/
structure Tag (Q : VK) : Type where
  u : Unit
structure TagX (E : XK) : Type where
  u : Unit
def hold (Q : VK) (_ : Tag Q) : VK := Q
def holdX (E : XK) (_ : TagX E) : XK := E
/-- f(..) of such a def -/
def tFn (sp : Sp) (t : TA) : TE := fun σ H Q => t σ H fun vs H1 => sp vs H1 Q E0
/-- .. that may raise: E what is wished of it, at the slots -/
def tFnX (sp : Sp) (E : L2.St → XK) (t : TA) : TE := fun σ H Q => t σ H fun vs H1 => sp vs H1 Q (E σ)
section
variable {X : Cx} {k : Nat} {ps : List Str} {sp : Sp} {x : Str} {p pos : Pos} {e : Expr} {es : List Expr} {t : TA}
theorem pe_fn (G : Fn X.prog X.w X.K X.mg X.base k x ps sp) (hr : Room k X.A) (hg : Gl X x) (ha : PA X (e :: es) t) (hdb : (x == ("__debug__" : Str)) = false := by decide)
    (he : starEach (e :: es) X.env = (false, eval e X.env) :: starEach es X.env := by rfl) (hpl : (backTo pos (starEach es X.env)).any (·.1) = false := by rfl) :
    PE X (.Call (.Name x p) (e :: es) [] pos) (tFn sp t) := by
  obtain ⟨f, fd, F, hm, hk, hb, _⟩ := G.ex
  have h := pe_call (pos := pos) (p := p) F hr hg hm hk hb .nil pass0 ha hdb he hpl
  refine ⟨fun pins s σ H Q I q => h.run pins s σ H Q I ?_⟩
  have q' : t σ H fun vs H1 => sp vs H1 Q E0 := q
  show t σ H fun vs H1 => sp (vs ++ []) H1 Q E0
  simp only [List.append_nil]
  exact q'
theorem pe_fnX {W : WX} (G : FnX X.prog X.w X.K X.mg X.base k x ps sp) (tk : Takes X W) (hr : Room k X.A) (hg : Gl X x) (ha : PA X (e :: es) t) (hdb : (x == ("__debug__" : Str)) = false := by decide)
    (he : starEach (e :: es) X.env = (false, eval e X.env) :: starEach es X.env := by rfl) (hpl : (backTo pos (starEach es X.env)).any (·.1) = false := by rfl) :
    PE X (.Call (.Name x p) (e :: es) [] pos) (tFnX sp (WE W) t) := by
  obtain ⟨f, fd, F, hm, hk, hb⟩ := G.ex
  exact pe_callS (pos := pos) (p := p) F hr hg hm hk hb (fun σ => passAt tk σ) ha hdb he hpl
end

/-! ### subscripts, in, stores -/
/-- x[y] -/
def vIx : R2 := fun x y H Q => match x with
  | .ref a => (match lstOf H a with
    | some xs => (match y with
      | .int i => ∃ v, atI xs i = some v ∧ Q v H
      | _ => False)
    | none => (match tupOf H a with
      | some xs => (match y with
        | .int i => ∃ v, atI xs i = some v ∧ Q v H
        | _ => False)
      | none => (match dicOf H a with
        | some kvs => (match keyOf y with
          | some k => ∃ v, valV kvs k = some v ∧ Q v H
          | none => False)
        | none => False)))
  | .str z => (match y with
    | .int i => z.length ≤ sizeLine ∧ ∃ c, atI z.cps.toList i = some c ∧ Q (.str ⟨#[c]⟩) H
    | _ => False)
  | _ => False
theorem dget_of {H : Hp} {a : Addr} {kvs : List (Key × V)} {y : V} {k : Key} (h : dicOf H a = some kvs) (e : keyOf y = some k) : DGet H a y (valV kvs k) :=
  .inl ⟨kvs, k, rd_dic h, keyOf_kV e, rfl⟩
theorem ix_v {X : Cx} (hu : X.A.units + 1 < cLine) : IxR X vIx := by
  intro value slice pins s σ H x y v u Q I rx ry h hs
  unfold vIx at h
  split at h
  · rename_i a
    split at h
    · rename_i xs e
      split at h
      · rename_i i
        obtain ⟨z, h1, q⟩ := h
        exact ix_list value slice pins s σ H _ _ v u Q I rx ry ⟨a, xs, i, z, rfl, rfl, sq_lst e, h1, q⟩ hs
      · exact h.elim
    · split at h
      · rename_i xs e
        split at h
        · rename_i i
          obtain ⟨z, h1, q⟩ := h
          exact ix_tup value slice pins s σ H _ _ v u Q I rx ry ⟨a, xs, i, z, rfl, rfl, sq_tup e, h1, q⟩ hs
        · exact h.elim
      · split at h
        · rename_i kvs e
          split at h
          · rename_i k ek
            obtain ⟨z, h1, q⟩ := h
            cases (show v = Value.ref a from rx)
            have g : DGet H a y (some z) := by
              rw [← h1]
              exact dget_of e ek
            exact tail_any (dict_typeIs I g) PySem.F.slot_dict_getitem.lookup (d_getItem hu I g ry fun w' s3 I3 r3 => ⟨z, H, I3, r3, q⟩) hs
          · exact h.elim
        · exact h.elim
  · rename_i z
    split at h
    · rename_i i
      obtain ⟨h1, c, h2, q⟩ := h
      exact ix_str value slice pins s σ H _ _ v u Q I rx ry ⟨z, i, c, rfl, rfl, h1, h2, q⟩ hs
    · exact h.elim
  · exact h.elim
/-- x in y -/
def vInB (neg : Bool) : R2 := fun x y H Q => match y with
  | .ref a => (match lstOf H a with
    | some xs => flatV x = true ∧ xs.all flatV = true ∧ Q (.bl (inV x xs ^^ neg)) H
    | none => (match tupOf H a with
      | some xs => flatV x = true ∧ xs.all flatV = true ∧ Q (.bl (inV x xs ^^ neg)) H
      | none => (match dicOf H a with
        | some kvs => (match keyOf x with
          | some k => Q (.bl ((valV kvs k).isSome ^^ neg)) H
          | none => False)
        | none => False)))
  | .str z => (match x with
    | .str ⟨⟨[c]⟩⟩ => Q (.bl (decide (c ∈ z.cps.toList) ^^ neg)) H
    | _ => False)
  | _ => False
theorem op_vIn {X : Cx} (hu : X.A.units + 1 < cLine) : OpR X (compareOp .In) (vInB false) := by
  intro pins s σ H x y u v Q I rx ry h
  unfold vInB at h
  split at h
  · rename_i a
    split at h
    · rename_i xs e
      exact op_in_seq pins s σ H _ _ u v Q I rx ry ⟨a, xs, rfl, .inl (sq_lst e), h.1, h.2.1, by simpa using h.2.2⟩
    · split at h
      · rename_i xs e
        exact op_in_seq pins s σ H _ _ u v Q I rx ry ⟨a, xs, rfl, .inr (sq_tup e), h.1, h.2.1, by simpa using h.2.2⟩
      · split at h
        · rename_i kvs e
          split at h
          · rename_i k ek
            cases (show v = Value.ref a from ry)
            refine d_in hu I (dget_of e ek) rx fun s3 I3 => ⟨.bl (valV kvs k).isSome, H, I3, rfl, ?_⟩
            simpa using h
          · exact h.elim
        · exact h.elim
  · rename_i z
    split at h
    · rename_i c
      exact op_in_sign pins s σ H _ _ u v Q I rx ry ⟨c, z, rfl, rfl, by simpa using h⟩
    · exact h.elim
  · exact h.elim
theorem op_vNotIn {X : Cx} (hu : X.A.units + 1 < cLine) : OpR X (compareOp .NotIn) (vInB true) := by
  intro pins s σ H x y u v Q I rx ry h
  unfold vInB at h
  split at h
  · rename_i a
    split at h
    · rename_i xs e
      exact op_notIn_seq pins s σ H _ _ u v Q I rx ry ⟨a, xs, rfl, .inl (sq_lst e), h.1, h.2.1, by simpa using h.2.2⟩
    · split at h
      · rename_i xs e
        exact op_notIn_seq pins s σ H _ _ u v Q I rx ry ⟨a, xs, rfl, .inr (sq_tup e), h.1, h.2.1, by simpa using h.2.2⟩
      · split at h
        · rename_i kvs e
          split at h
          · rename_i k ek
            cases (show v = Value.ref a from ry)
            refine d_notIn hu I (dget_of e ek) rx fun s3 I3 => ⟨.bl (!(valV kvs k).isSome), H, I3, rfl, ?_⟩
            simpa using h
          · exact h.elim
        · exact h.elim
  · rename_i z
    split at h
    · rename_i c
      exact op_notIn_sign pins s σ H _ _ u v Q I rx ry ⟨c, z, rfl, rfl, by simpa using h⟩
    · exact h.elim
  · exact h.elim
/-- o[i] = v -/
def vSet : TSet := fun o i v H Q => match o with
  | .ref a => (match H a with
    | some (.lst xs) => (match i with
      | .int k => ∃ j, ixN xs.length k = some j ∧ Q (upd H a (.lst (xs.set j v)))
      | _ => False)
    | some (.dK kvs) => (match keyOf i with
      | some k => kvs.length < sizeLine ∧ Q (upd H a (.dK (putK kvs k v)))
      | none => False)
    | _ => False)
  | _ => False
theorem set_v {X : Cx} (hu : X.A.units + 1 < cLine) : PSet X vSet := by
  intro pins s σ H o i v ov iv u Q I ro ri rv h
  unfold vSet at h
  split at h
  · rename_i a
    split at h
    · rename_i xs e
      split at h
      · rename_i k
        obtain ⟨j, h1, q⟩ := h
        exact set_list pins s σ H _ _ v ov iv u Q I ro ri rv ⟨a, xs, k, j, rfl, rfl, e, h1, q⟩
      · exact h.elim
    · rename_i kvs e
      split at h
      · rename_i k ek
        cases (show ov = Value.ref a from ro)
        have g : DPut H a i v (upd H a (.dK (putK kvs k v))) := by
          rw [keyOf_kV ek]
          exact DPut.k e h.1
        exact d_setItem hu I g ri rv fun s3 I3 => ⟨_, I3, h.2⟩
      · exact h.elim
    · exact h.elim
  · exact h.elim
/-- len(x) -/
def cLen : List V → Hp → VK → Prop := fun vs H Q => match vs with
  | [.str z] => z.length ≤ sizeLine ∧ Q (.int z.length) H
  | [.ref a] => (match lstOf H a with
    | some xs => Q (.int xs.length) H
    | none => (match tupOf H a with
      | some xs => Q (.int xs.length) H
      | none => (match dicOf H a with
        | some kvs => Q (.int kvs.length) H
        | none => False)))
  | _ => False
theorem call_vLen {X : Cx} : CallR X (.builtin "len") cLen := by
  intro pins s σ H xs us Q I r h
  unfold cLen at h
  split at h
  · exact call_len_str pins s σ H _ us Q I r ⟨_, rfl, h.1, h.2⟩
  · rename_i a
    split at h
    · rename_i xs e
      exact call_len_seq pins s σ H _ us Q I r ⟨a, xs, rfl, .inl (sq_lst e), h⟩
    · split at h
      · rename_i xs e
        exact call_len_seq pins s σ H _ us Q I r ⟨a, xs, rfl, .inr (sq_tup e), h⟩
      · split at h
        · rename_i kvs e
          obtain ⟨u, rfl, ru⟩ := vals1 r
          cases (show u = Value.ref a from ru)
          exact d_len I (rd_dic e) fun t s3 I3 => ⟨.int kvs.length, H, I3, ⟨_, rfl⟩, h⟩
        · exact h.elim
  · exact h.elim
/-- list(x) -/
def cList : List V → Hp → VK → Prop := fun vs H Q => match vs with
  | [.ref a] => (match lstOf H a with
    | some xs => ∀ p, H p = none → Q (.ref p) (upd H p (.lst xs))
    | none => (match tupOf H a with
      | some xs => ∀ p, H p = none → Q (.ref p) (upd H p (.lst xs))
      | none => False))
  | _ => False
theorem call_vList {X : Cx} : CallR X (.type "list") cList := by
  intro pins s σ H xs us Q I r h
  unfold cList at h
  split at h
  · rename_i a
    split at h
    · rename_i xs e
      exact call_list_of pins s σ H _ us Q I r ⟨a, xs, rfl, .inl (sq_lst e), h⟩
    · split at h
      · rename_i xs e
        exact call_list_of pins s σ H _ us Q I r ⟨a, xs, rfl, .inr (sq_tup e), h⟩
      · exact h.elim
  · exact h.elim
/-- int(x) of a bool or an int -/
def cInt : List V → Hp → VK → Prop := fun vs H Q => match vs with
  | [.int i] => Q (.int i) H
  | [.bl k] => Q (.int (if k = true then 1 else 0)) H
  | _ => False
theorem call_vInt {X : Cx} : CallR X (.type "int") cInt := by
  intro pins s σ H xs us Q I r h
  unfold cInt at h
  split at h
  · exact call_int1 pins s σ H _ us Q I r (.inl ⟨_, rfl, h⟩)
  · exact call_int1 pins s σ H _ us Q I r (.inr ⟨_, rfl, h⟩)
  · exact h.elim

/-! ### exceptions -/
abbrev veMro : List Value := [.type "ValueError", .type "Exception", .type "BaseException", .type "object"]
/-- an own class over ValueError, without an __init__ of its own, as the top has left it -/
structure Exn (K : PySem.W.Frag) (mg : Str → Option Value) (x : Str) (C : Addr) : Prop where
  gC : mg x = some (.ref C)
  ex : PySem.W.excIn K C veMro "ValueError.__new__" = true
  kp : PySem.W.keepIn K (.ref C) = true
  sb : PySem.W.subIn K (.ref C) (.type "BaseException") = some true
  ty : PySem.W.typeIn K (.ref C) = some (.type "type")
theorem Exn.mk_ {X : Cx} {x m : Str} {C : Addr} {j : Nat} {p p2 pos : Pos} (T : Exn X.K X.mg x C) (hg : Gl X x) (hdb : (x == ("__debug__" : Str)) = false := by decide) :
    PMk X (.Call (.Name x p) [.Constant (.str m) j p2] [] pos) (fun _ H Q => Q (.ref C) none H) :=
  pmk_own PySem.F.excBase_ValueError T.ex T.gC T.kp (raises_own T.sb T.ty) hg hdb
/-- isinstance(e, c) within the suite that holds e -/
def cIsE (K : PySem.W.Frag) (cls : Value) (d : Option Addr) (a : Addr) : List V → Hp → VK → Prop := fun xs H Q =>
  ∃ (D : Addr) (c : V) (cv : Value) (b : Bool), cls = .ref D ∧ d = none ∧ ExcC K D ∧ xs = [.ref a, c] ∧ (∀ u, RelV c u → u = cv) ∧ PySem.W.kitOne K (.ref D) cv = some b ∧ Q (.bl b) H
theorem pe_isE {X : Cx} {a : Addr} {oe : Obj} {cls : Value} {d : Option Addr} {pn : List (Addr × Obj)} {p pos : Pos} {e : Expr} {es : List Expr} {t : TA} (hz : Zc cls d oe) (hf : ∃ vs, oe.data = .fields vs)
    (hg : Gl (X.suite a ((a, oe) :: pn)) "isinstance") (hm : X.mg "isinstance" = none) (ha : PA (X.suite a ((a, oe) :: pn)) (e :: es) t)
    (he : starEach (e :: es) (X.suite a ((a, oe) :: pn)).env = (false, eval e (X.suite a ((a, oe) :: pn)).env) :: starEach es (X.suite a ((a, oe) :: pn)).env := by rfl)
    (hpl : (backTo pos (starEach es (X.suite a ((a, oe) :: pn)).env)).any (·.1) = false := by rfl) :
    PE (X.suite a ((a, oe) :: pn)) (.Call (.Name "isinstance" p) (e :: es) [] pos) (tCB (cIsE X.K cls d a) t) := by
  refine pe_callB (id := "isinstance") ?_ hg hm (by decide +kernel) ha (by decide) (by decide) he hpl
  intro pins s σ H xs us Q I r h
  obtain ⟨D, c, cv, b, rfl, rfl, C, rfl, h1, h2, q⟩ := h
  exact call_isE C hz hf pins s σ H _ us Q I r ⟨c, cv, b, rfl, h1, h2, q⟩

/-- a module's whole number -/
theorem pe_gint {X : Cx} {x : Str} {i : Int} {pos : Pos} (h : ∃ t, X.mg x = some (.int i t)) (hg : Gl X x) (hd : (x == ("__debug__" : Str)) = false := by decide) : PE X (.Name x pos) (tC (.int i)) := by
  obtain ⟨t, h⟩ := h
  exact pe_glob hg h ⟨t, rfl⟩ hd

theorem cx_K {CX : CXT} {P : Program} {w : World} {K : PySem.W.Frag} {mg : Str → Option Value} {base : Heap} {N : List Str} {qual : Str} {scope : Scope} {f : Addr} {cd : Value} {A : Around} {outer : List Env} {s : Shared} {H : Hp} {E : XK} :
    (cxOf CX P w K mg base N qual scope f cd A outer s H E).K = K := rfl
theorem map_int_get {ns : List Int} {j : Nat} {v : Int} (h : ns[j]? = some v) : (ns.map V.int)[j]? = some (.int v) := by
  rw [List.getElem?_map, h]
  rfl

theorem ty_ref {H : Hp} {a : Addr} {T : String} (h : tyOf H (.ref a) = some T) : T = "list" ∨ T = "tuple" ∨ T = "dict" := by
  have e : tyOf H (.ref a) = (match H a with
    | some (.lst _) => some "list"
    | some (.tup _) => some "tuple"
    | some (.dK _) => some "dict"
    | _ => none) := rfl
  rw [e] at h
  split at h
  · exact .inl (Option.some.inj h).symm
  · exact .inr (.inl (Option.some.inj h).symm)
  · exact .inr (.inr (Option.some.inj h).symm)
  · cases h
/-- the kinds of a value with a type -/
theorem ty_cases {H : Hp} {v : V} {T : String} (h : tyOf H v = some T) :
    (v = .non ∧ T = "NoneType") ∨ (∃ b, v = .bl b ∧ T = "bool") ∨ (∃ i, v = .int i ∧ T = "int") ∨ (∃ x, v = .str x ∧ T = "str") ∨ (∃ a, v = .ref a ∧ (T = "list" ∨ T = "tuple" ∨ T = "dict")) := by
  cases v with
  | non => exact .inl ⟨rfl, (Option.some.inj h).symm⟩
  | bl b => exact .inr (.inl ⟨b, rfl, (Option.some.inj h).symm⟩)
  | int i => exact .inr (.inr (.inl ⟨i, rfl, (Option.some.inj h).symm⟩))
  | str x => exact .inr (.inr (.inr (.inl ⟨x, rfl, (Option.some.inj h).symm⟩)))
  | ref a => exact .inr (.inr (.inr (.inr ⟨a, rfl, ty_ref h⟩)))
  | byt b => cases h
  | flt b => cases h
  | ty n => cases h
theorem isT_NoneType_bool : isT "NoneType" "bool" = false := by decide
theorem isT_NoneType_int : isT "NoneType" "int" = false := by decide
theorem isT_NoneType_str : isT "NoneType" "str" = false := by decide
theorem isT_NoneType_list : isT "NoneType" "list" = false := by decide
theorem isT_NoneType_tuple : isT "NoneType" "tuple" = false := by decide
theorem isT_NoneType_dict : isT "NoneType" "dict" = false := by decide
theorem isT_bool_bool : isT "bool" "bool" = true := by decide
theorem isT_bool_int : isT "bool" "int" = true := by decide
theorem isT_bool_str : isT "bool" "str" = false := by decide
theorem isT_bool_list : isT "bool" "list" = false := by decide
theorem isT_bool_tuple : isT "bool" "tuple" = false := by decide
theorem isT_bool_dict : isT "bool" "dict" = false := by decide
theorem isT_int_bool : isT "int" "bool" = false := by decide
theorem isT_int_int : isT "int" "int" = true := by decide
theorem isT_int_str : isT "int" "str" = false := by decide
theorem isT_int_list : isT "int" "list" = false := by decide
theorem isT_int_tuple : isT "int" "tuple" = false := by decide
theorem isT_int_dict : isT "int" "dict" = false := by decide
theorem isT_str_bool : isT "str" "bool" = false := by decide
theorem isT_str_int : isT "str" "int" = false := by decide
theorem isT_str_str : isT "str" "str" = true := by decide
theorem isT_str_list : isT "str" "list" = false := by decide
theorem isT_str_tuple : isT "str" "tuple" = false := by decide
theorem isT_str_dict : isT "str" "dict" = false := by decide
theorem isT_list_bool : isT "list" "bool" = false := by decide
theorem isT_list_int : isT "list" "int" = false := by decide
theorem isT_list_str : isT "list" "str" = false := by decide
theorem isT_list_list : isT "list" "list" = true := by decide
theorem isT_list_tuple : isT "list" "tuple" = false := by decide
theorem isT_list_dict : isT "list" "dict" = false := by decide
theorem isT_tuple_bool : isT "tuple" "bool" = false := by decide
theorem isT_tuple_int : isT "tuple" "int" = false := by decide
theorem isT_tuple_str : isT "tuple" "str" = false := by decide
theorem isT_tuple_list : isT "tuple" "list" = false := by decide
theorem isT_tuple_tuple : isT "tuple" "tuple" = true := by decide
theorem isT_tuple_dict : isT "tuple" "dict" = false := by decide
theorem isT_dict_bool : isT "dict" "bool" = false := by decide
theorem isT_dict_int : isT "dict" "int" = false := by decide
theorem isT_dict_str : isT "dict" "str" = false := by decide
theorem isT_dict_list : isT "dict" "list" = false := by decide
theorem isT_dict_tuple : isT "dict" "tuple" = false := by decide
theorem isT_dict_dict : isT "dict" "dict" = true := by decide

/-- what walk_of asks of the law's own def -/
theorem fin_of {P : Program} {w : World} {K : PySem.W.Frag} {mg : Str → Option Value} {x p : Str} {st : Stmt} {fa : Addr} {k : Nat} {sp : Sp} (S : Src K mg x [p] st) (hfa : mg x = some (.ref fa))
    (h : ∀ base : Heap, Fn P w K mg base k x [p] sp) : ∃ fd : FuncData, (∀ (s : Shared) (u : Value), BindsTo s fd ⟨[u], []⟩ [(p, u)]) ∧
      ∀ base : Heap, K.In base → base.Ns mainGlobals mg → FnOk P w K mg base CX0 k fa fd [p] sp := by
  obtain ⟨f, fd, F, hm, hb⟩ := S.ex
  obtain ⟨oc, od, kV, doc, pm, an, cdv, ct, osl, e, lk, hcd⟩ := id F.ex
  have e1 : f = fa := by
    rw [hm] at hfa
    cases hfa
    rfl
  subst e1
  refine ⟨fd, fun s u => .of_eq (hb [u] rfl), fun base _ _ => ?_⟩
  obtain ⟨f2, fd2, ok, hm2, _, _, oc2, od2, osl2, lk2⟩ := (h base).ex
  have e2 : f2 = f := by
    rw [hm2] at hm
    cases hm
    rfl
  subst e2
  have e3 : fd2 = fd := by
    rw [lk] at lk2
    cases lk2
    rfl
  rw [← e3]
  exact ok

theorem kit_sub {K : PySem.W.Frag} {C : Addr} {T : String} {b : Bool} (hm : PySem.W.kitMeta T = true) (h : PySem.W.subIn K (.ref C) (.type T) = some b) : PySem.W.kitOne K (.ref C) (.type T) = some b := by
  unfold PySem.W.kitOne
  rw [if_neg (by simp)]
  unfold PySem.W.kitCls
  simp only [hm, if_true]
  exact h
theorem meta_VE : PySem.W.kitMeta "ValueError" = true := by decide +kernel

/-! ### the readings, applied: what the walk rewrites with -/
section
variable {K : PySem.W.Frag} {σ : L2.St} {H : Hp} {D : Ends} {Q : VK} {QB : Bool → Hp → Prop} {QA : List V → Hp → Prop} {QS : L2.St → Hp → Prop} {ta tb te tc : TE} {t u : TT} {tA uA : TA} {tS uS : TS} {g : TG} {gs : TGs} {i n : Nat} {v x y o : V} {vs : List V} {r : R2}
  {rU : V → Hp → VK → Prop} {rC : List V → Hp → VK → Prop} {sp : Sp} {E : L2.St → XK} {st : TSet}
theorem a_seq : tSeq tS uS D σ H = tS { D with nx := uS D } σ H := rfl
theorem a_next : tNext D σ H = D.nx σ H := rfl
theorem a_brk : tBreak D σ H = D.bk σ H := rfl
theorem a_cont : tCont D σ H = D.ct σ H := rfl
theorem a_asg : tAsg te g D σ H = te σ H fun z H1 => g z σ H1 D.nx := rfl
theorem a_name : gName i v σ H QS = QS (σ.set i (some v)) H := rfl
theorem a_gnil : gNil vs σ H QS = (vs = [] ∧ QS σ H) := rfl
theorem a_gcons : gCons g gs vs σ H QS = ∃ z q, vs = z :: q ∧ g z σ H fun σ' H' => gs q σ' H' QS := rfl
theorem a_gsub : gSub ta tb st v σ H QS = ta σ H fun z H1 => tb σ H1 fun j H2 => st z j v H2 fun H3 => QS σ H3 := rfl
theorem a_var : tVar i σ H Q = ∃ z, σ[i]? = some (some z) ∧ Q z H := rfl
theorem a_c : tC v σ H Q = Q v H := rfl
theorem a_op : tOp r ta tb σ H Q = ta σ H fun z H1 => tb σ H1 fun j H2 => r z j H2 Q := rfl
theorem a_un : tUn rU ta σ H Q = ta σ H fun z H1 => rU z H1 Q := rfl
theorem a_cons : tCons te tA σ H QA = te σ H fun z H1 => tA σ H1 fun zs H2 => QA (z :: zs) H2 := rfl
theorem a_nil : tNil σ H QA = QA [] H := rfl
theorem a_ret : tRet te D σ H = te σ H D.rt := rfl
theorem a_retN : tRetN D σ H = D.rt .non H := rfl
theorem a_drop : tDrop te D σ H = te σ H fun _ H1 => D.nx σ H1 := rfl
theorem a_if : tIfS t tS uS D σ H = t σ H fun b H1 => if b = true then tS D σ H1 else uS D σ H1 := rfl
theorem a_test : tTest te σ H QB = te σ H fun z H' => ∃ k, z = .bl k ∧ QB k H' := rfl
theorem a_B : tB te σ H QB = te σ H fun z H1 => ∃ c, z = .bl c ∧ QB c H1 := rfl
theorem a_and : tAnd t u σ H QB = t σ H fun c H1 => if c = true then u σ H1 QB else QB false H1 := rfl
theorem a_or : tOr t u σ H QB = t σ H fun c H1 => if c = true then QB true H1 else u σ H1 QB := rfl
theorem a_not : tNot t σ H QB = t σ H fun c H1 => QB (!c) H1 := rfl
theorem a_andV : tAndV ta tb σ H Q = ta σ H fun z H1 => ∃ c, z = .bl c ∧ if c = true then tb σ H1 Q else Q (.bl false) H1 := rfl
theorem a_orV : tOrV ta tb σ H Q = ta σ H fun z H1 => ∃ c, z = .bl c ∧ if c = true then Q (.bl true) H1 else tb σ H1 Q := rfl
theorem a_notV : tNotV ta σ H Q = ta σ H fun z H1 => ∃ c, z = .bl c ∧ Q (.bl (!c)) H1 := rfl
theorem a_ifE : tIf t ta tb σ H Q = t σ H fun c H1 => if c = true then ta σ H1 Q else tb σ H1 Q := rfl
theorem a_fn : tFn sp tA σ H Q = tA σ H fun zs H1 => sp zs H1 (hold Q ⟨()⟩) E0 := rfl
theorem a_fnX : tFnX sp E tA σ H Q = tA σ H fun zs H1 => sp zs H1 (hold Q ⟨()⟩) (holdX (E σ) ⟨()⟩) := rfl
theorem a_hold {t : Tag Q} : hold Q t v H = Q v H := rfl
theorem a_holdX {Ex : XK} {t : TagX Ex} {u : Value} {ao : Option Addr} : holdX Ex t u ao H = Ex u ao H := rfl
theorem a_cb : tCB rC tA σ H Q = tA σ H fun zs H1 => rC zs H1 Q := rfl
theorem a_lst : tLst tA σ H Q = tA σ H fun xs H1 => xs.length ≤ sizeLine ∧ ∀ p, H1 p = none → Q (.ref p) (upd H1 p (.lst xs)) := rfl
theorem a_tup : tTup tA σ H Q = tA σ H fun xs H1 => xs.length ≤ sizeLine ∧ ∀ p, H1 p = none → Q (.ref p) (upd H1 p (.tup xs)) := rfl
theorem a_chain {r' : R2} : tChain r r' ta tb tc σ H Q = ta σ H fun x1 H1 => tb σ H1 fun y1 H2 => r x1 y1 H2 fun z H3 => ∃ k, z = .bl k ∧ if k = true then tc σ H3 fun w1 H4 => r' y1 w1 H4 Q else Q (.bl false) H3 := rfl
theorem a_dnew : tDNewK σ H Q = ∀ p, H p = none → Q (.ref p) (upd H p (.dK [])) := rfl
theorem a_start {N : List Str} : L2.start N vs = vs.map some ++ List.replicate (N.length - vs.length) none := rfl
-- operations by constructors
theorem v_add_ii {i j : Int} : vAdd (.int i) (.int j) H Q = Q (.int (i + j)) H := rfl
theorem v_add_ss {i j : Str} : vAdd (.str i) (.str j) H Q = (i.length + j.length ≤ sizeLine ∧ Q (.str (i ++ j)) H) := rfl
theorem v_sub_ii {i j : Int} : vSub (.int i) (.int j) H Q = Q (.int (i - j)) H := rfl
theorem v_mul_ii {i j : Int} : vMul (.int i) (.int j) H Q = (CMul i j ∧ Q (.int (i * j)) H) := rfl
theorem v_div_ii {i j : Int} : vDiv (.int i) (.int j) H Q = (CDiv i j ∧ Q (.int (i / j)) H) := rfl
theorem v_mod_ii {i j : Int} : vMod (.int i) (.int j) H Q = (0 < j ∧ Q (.int (i % j)) H) := rfl
theorem v_pow_ii {i j : Int} : vPow (.int i) (.int j) H Q = (CPow i j ∧ Q (.int (i ^ j.toNat)) H) := rfl
theorem v_lt_ii {i j : Int} : vLt (.int i) (.int j) H Q = Q (.bl (decide (i < j))) H := rfl
theorem v_gt_ii {i j : Int} : vGt (.int i) (.int j) H Q = Q (.bl (decide (j < i))) H := rfl
theorem v_le_ii {i j : Int} : vLe (.int i) (.int j) H Q = Q (.bl (decide (i ≤ j))) H := rfl
theorem v_ge_ii {i j : Int} : vGe (.int i) (.int j) H Q = Q (.bl (decide (j ≤ i))) H := rfl
theorem v_le_ss {i j : Str} : vLe (.str i) (.str j) H Q = Q (.bl (!decide (j.cps.toList < i.cps.toList))) H := rfl
theorem v_eq_ii {i j : Int} : vEq K (.int i) (.int j) H Q = Q (.bl (decide (i = j))) H := by
  show (scal (.int i) (.int j) = true ∧ Q (.bl (decide (V.int i = V.int j))) H) = _
  simp [scal]
theorem v_eq_ss {i j : Str} : vEq K (.str i) (.str j) H Q = Q (.bl (decide (i = j))) H := by
  show (scal (.str i) (.str j) = true ∧ Q (.bl (decide (V.str i = V.str j))) H) = _
  simp [scal]
theorem v_eq_bb {i j : Bool} : vEq K (.bl i) (.bl j) H Q = Q (.bl (decide (i = j))) H := by
  show (scal (.bl i) (.bl j) = true ∧ Q (.bl (decide (V.bl i = V.bl j))) H) = _
  simp [scal]
theorem v_ne_ii {i j : Int} : vNe K (.int i) (.int j) H Q = Q (.bl (!decide (i = j))) H := by
  show (scal (.int i) (.int j) = true ∧ Q (.bl (!decide (V.int i = V.int j))) H) = _
  simp [scal]
theorem v_ne_ss {i j : Str} : vNe K (.str i) (.str j) H Q = Q (.bl (!decide (i = j))) H := by
  show (scal (.str i) (.str j) = true ∧ Q (.bl (!decide (V.str i = V.str j))) H) = _
  simp [scal]
theorem v_ne_bb {i j : Bool} : vNe K (.bl i) (.bl j) H Q = Q (.bl (!decide (i = j))) H := by
  show (scal (.bl i) (.bl j) = true ∧ Q (.bl (!decide (V.bl i = V.bl j))) H) = _
  simp [scal]
theorem v_ne_tt {a b : String} : vNe K (.ty a) (.ty b) H Q = (tyOk a = true ∧ tyOk b = true ∧ Q (.bl (!decide (a = b))) H) := rfl
theorem v_eq_tt {a b : String} : vEq K (.ty a) (.ty b) H Q = (tyOk a = true ∧ tyOk b = true ∧ Q (.bl (decide (a = b))) H) := rfl
theorem v_in_sc {neg : Bool} {c : Nat} {z : Str} : vInB neg (.str ⟨⟨[c]⟩⟩) (.str z) H Q = Q (.bl (decide (c ∈ z.cps.toList) ^^ neg)) H := rfl
theorem v_ix_s {z : Str} {i : Int} : vIx (.str z) (.int i) H Q = (z.length ≤ sizeLine ∧ ∃ c, atI z.cps.toList i = some c ∧ Q (.str ⟨#[c]⟩) H) := rfl
theorem v_len_s {z : Str} : cLen [.str z] H Q = (z.length ≤ sizeLine ∧ Q (.int z.length) H) := rfl
theorem v_type : cType [v] H Q = (match tyOf H v with
    | some T => Q (.ty T) H
    | none => False) := rfl
theorem v_is {T : String} : cIs [v, .ty T] H Q = (T ∈ ["bool", "int", "str", "list", "tuple", "dict"] ∧ (match tyOf H v with
    | some A => Q (.bl (isT A T)) H
    | none => False)) := rfl
end
/-! ### loops -/
/-- over a text, sign by sign -/
theorem f_str {j : Nat} {x : Str} {g : TG} {tb : TS} {D : Ends} {σ : L2.St} {H : Hp} (hx : σ[j]? = some (some (.str x))) (Pv : Nat → L2.St → Hp → Prop) (h0 : Pv 0 σ H)
    (hs : ∀ i c σ H (N : L2.St → Hp → Prop), x.cps.toList[i]? = some c → Pv i σ H → (∀ σ' H', Pv (i + 1) σ' H' → N σ' H') → g (.str ⟨⟨[c]⟩⟩) σ H fun σ2 H2 => tb { D with nx := N, ct := N, bk := D.nx } σ2 H2) (hd : ∀ σ H, Pv x.length σ H → D.nx σ H) :
    tFor (iStr (tVar j)) g tb D σ H := by
  have sz : x.cps.size = x.length := rfl
  refine ⟨.str x, hx, x, rfl, fun i m σ H => m = x.cps.size - i ∧ i ≤ x.cps.size ∧ Pv i σ H, ⟨x.cps.size, by simp, Nat.zero_le _, h0⟩, ?_⟩
  rintro i m σ H ⟨rfl, hi, p⟩
  by_cases hlt : i < x.cps.size
  · refine .inr ⟨hlt, Pv (i + 1), fun σ' H' p' => ⟨x.cps.size - (i + 1), by omega, rfl, hlt, p'⟩, fun v H' y => ?_⟩
    obtain ⟨e, c, hc, ev⟩ := y
    subst e ev
    refine hs i c σ _ _ ?_ p fun _ _ z => z
    rw [Array.getElem?_toList]
    exact hc
  · have e : i = x.cps.size := by omega
    subst e
    exact .inl ⟨Nat.le_refl _, hd σ H (by rw [← sz]; exact p)⟩
/-- over range(n) -/
theorem f_rng {ta : TA} {g : TG} {tb : TS} {D : Ends} {σ : L2.St} {H : Hp} (n : Nat) (hn : n ≤ 1000000000) (ht : ∀ Q : List V → Hp → Prop, Q [.int (n : Int)] H → ta σ H Q) (Pv : Nat → L2.St → Hp → Prop) (h0 : Pv 0 σ H)
    (hs : ∀ (i : Nat) σ H (N : L2.St → Hp → Prop), i < n → Pv i σ H → (∀ σ' H', Pv (i + 1) σ' H' → N σ' H') → g (.int (i : Int)) σ H fun σ2 H2 => tb { D with nx := N, ct := N, bk := D.nx } σ2 H2) (hd : ∀ σ H, Pv n σ H → D.nx σ H) :
    tFor (iRng1 ta) g tb D σ H := by
  refine ht _ ⟨(n : Int), rfl, by omega, by omega, ?_⟩
  refine for_range (lo := 0) (n := (n : Int).toNat) Pv h0 (fun i σ H hi p => ?_) fun σ H p => hd σ H (by simpa using p)
  have e0 : (0 : Int) + (i : Int) = (i : Int) := Int.zero_add _
  rw [e0]
  exact hs i σ H _ (by simpa using hi) p fun _ _ z => z

/-! ### a block cut in two by what stands between -/
def tCut (t u : TS) : TS := tSeq t u
theorem pss_cut {X : Cx} {st : Stmt} {rest : List Stmt} {t u : TS} (h1 : PS X st t) (h2 : PSs X rest u) : PSs X (st :: rest) (tCut t u) := pss_cons h1 h2
theorem cut {t u : TS} {D : Ends} {σ : L2.St} {H : Hp} (P : L2.St → Hp → Prop) (h1 : ∀ N : L2.St → Hp → Prop, (∀ σ' H', P σ' H' → N σ' H') → t { D with nx := N } σ H) (h2 : ∀ σ' H', P σ' H' → u D σ' H') : tCut t u D σ H := h1 (u D) h2
theorem at_ex {α : Type} {xs : List α} {i : Int} (h0 : 0 ≤ i) (h1 : i < xs.length) : ∃ c, atI xs i = some c ∧ xs[i.toNat]? = some c := by
  obtain ⟨j, rfl⟩ : ∃ j : Nat, i = (j : Int) := ⟨i.toNat, by omega⟩
  have h2 : j < xs.length := by omega
  exact ⟨xs[j], atI_nat (List.getElem?_eq_getElem h2), List.getElem?_eq_getElem h2⟩
theorem sgn {c : Nat} : (⟨⟨[c]⟩⟩ : Str) = ⟨#[c]⟩ := rfl
theorem len_app (a b : Str) : (a ++ b).length = a.length + b.length := by
  show (a.cps ++ b.cps).size = _
  rw [Array.size_append]
  rfl
theorem len_sg {c : Nat} : (⟨#[c]⟩ : Str).length = 1 := rfl
theorem lt1 (a b : Nat) : decide ([a] < [b]) = decide (a < b) := by
  by_cases h : a < b
  · rw [decide_eq_true h]
    exact decide_eq_true (List.Lex.rel h)
  · rw [decide_eq_false h]
    refine decide_eq_false fun q => ?_
    cases q with
    | rel q => exact h q
    | cons q => cases q

/-! ### slices, methods, comprehensions -/
def vSl : V → Option Int → Option Int → Hp → VK → Prop := fun x lo hi H Q => match x with
  | .str z => z.length ≤ sizeLine ∧ Q (.str (cutS z lo hi)) H
  | .ref a => (match lstOf H a with
    | some xs => ∀ p, H p = none → Q (.ref p) (upd H p (.lst (cutV xs lo hi)))
    | none => False)
  | _ => False
theorem sl_v {X : Cx} : SlR X vSl := by
  intro pins s σ H x v vl vu lo hi sl Q I rx hs pl pu h
  unfold vSl at h
  split at h
  · exact sl_str pins s σ H _ v vl vu lo hi sl Q I rx hs pl pu ⟨_, rfl, h.1, h.2⟩
  · split at h
    · rename_i xs e
      exact sl_list pins s σ H _ v vl vu lo hi sl Q I rx hs pl pu ⟨_, xs, rfl, sq_lst e, h⟩
    · exact h.elim
  · exact h.elim
section
variable {K : PySem.W.Frag} {σ : L2.St} {H : Hp} {D : Ends} {Q : VK} {QA : List V → Hp → Prop} {QO : Option Int → Hp → Prop} {ta te : TE} {tA : TA} {tl th : TO} {a b p : Addr} {y v : V} {vs : List V} {T : String} {o u : HO}
theorem a_bm {r : V → List V → Hp → VK → Prop} : tBM K T r ta tA σ H Q = ta σ H fun x H1 => tyV K T x H1 ∧ tA σ H1 fun xs H2 => r x xs H2 Q := rfl
theorem a_bm0 {r : V → List V → Hp → VK → Prop} : tBM0 K T r ta σ H Q = ta σ H fun x H1 => tyV K T x H1 ∧ r x [] H1 Q := rfl
theorem a_sl {r : V → Option Int → Option Int → Hp → VK → Prop} : tSl r te tl th σ H Q = te σ H fun x H1 => tl σ H1 fun l H2 => th σ H2 fun w H3 => r x l w H3 Q := rfl
theorem a_nopart : tNoPart σ H QO = QO none H := rfl
theorem a_part : tPart te σ H QO = te σ H fun x H1 => ∃ i, x = .int i ∧ QO (some i) H1 := rfl
theorem v_sl_s {z : Str} {lo hi : Option Int} : vSl (.str z) lo hi H Q = (z.length ≤ sizeLine ∧ Q (.str (cutS z lo hi)) H) := rfl
theorem v_sl_r {lo hi : Option Int} : vSl (.ref a) lo hi H Q = (match lstOf H a with
    | some xs => ∀ p, H p = none → Q (.ref p) (upd H p (.lst (cutV xs lo hi)))
    | none => False) := rfl
theorem v_app : rAppend (.ref a) [y] H Q = ∃ xs, H a = some (.lst xs) ∧ xs.length < sizeLine ∧ Q .non (upd H a (.lst (xs ++ [y]))) := propext
  ⟨fun ⟨l, xs, z, e1, e2, h, hl, q⟩ => by cases e1; cases e2; exact ⟨xs, h, hl, q⟩, fun ⟨xs, h, hl, q⟩ => ⟨a, xs, y, rfl, rfl, h, hl, q⟩⟩
theorem v_add_rr : vAdd (.ref a) (.ref b) H Q = ∃ xs ys, H a = some (.lst xs) ∧ H b = some (.lst ys) ∧ xs.length + ys.length ≤ sizeLine ∧ ∀ p, H p = none → Q (.ref p) (upd H p (.lst (xs ++ ys))) := rfl
theorem v_ix_r : vIx (.ref a) y H Q = (match lstOf H a with
    | some xs => (match y with
      | .int i => ∃ v, atI xs i = some v ∧ Q v H
      | _ => False)
    | none => (match tupOf H a with
      | some xs => (match y with
        | .int i => ∃ v, atI xs i = some v ∧ Q v H
        | _ => False)
      | none => (match dicOf H a with
        | some kvs => (match keyOf y with
          | some k => ∃ v, valV kvs k = some v ∧ Q v H
          | none => False)
        | none => False))) := rfl
theorem v_in_r {neg : Bool} : vInB neg y (.ref a) H Q = (match lstOf H a with
    | some xs => flatV y = true ∧ xs.all flatV = true ∧ Q (.bl (inV y xs ^^ neg)) H
    | none => (match tupOf H a with
      | some xs => flatV y = true ∧ xs.all flatV = true ∧ Q (.bl (inV y xs ^^ neg)) H
      | none => (match dicOf H a with
        | some kvs => (match keyOf y with
          | some k => Q (.bl ((valV kvs k).isSome ^^ neg)) H
          | none => False)
        | none => False))) := rfl
theorem v_set_r {i : V} {QH : Hp → Prop} : vSet (.ref a) i v H QH = (match H a with
    | some (.lst xs) => (match i with
      | .int k => ∃ j, ixN xs.length k = some j ∧ QH (upd H a (.lst (xs.set j v)))
      | _ => False)
    | some (.dK kvs) => (match keyOf i with
      | some k => kvs.length < sizeLine ∧ QH (upd H a (.dK (putK kvs k v)))
      | none => False)
    | _ => False) := rfl
theorem v_len_r : cLen [.ref a] H Q = (match lstOf H a with
    | some xs => Q (.int xs.length) H
    | none => (match tupOf H a with
      | some xs => Q (.int xs.length) H
      | none => (match dicOf H a with
        | some kvs => Q (.int kvs.length) H
        | none => False))) := rfl
theorem v_list_r : cList [.ref a] H Q = (match lstOf H a with
    | some xs => ∀ p, H p = none → Q (.ref p) (upd H p (.lst xs))
    | none => (match tupOf H a with
      | some xs => ∀ p, H p = none → Q (.ref p) (upd H p (.lst xs))
      | none => False)) := rfl
theorem v_int_i {i : Int} : cInt [.int i] H Q = Q (.int i) H := rfl
theorem v_int_b {k : Bool} : cInt [.bl k] H Q = Q (.int (if k = true then 1 else 0)) H := rfl
theorem v_key_i {i : Int} : keyOf (.int i) = some (.inl i) := rfl
theorem v_key_s {x : Str} : keyOf (.str x) = some (.inr x) := rfl
-- what stands at an address
theorem v_lst : lstOf H a = (match H a with
  | some (.lst xs) => some xs
  | some (.frz _ (.lst xs)) => some xs
  | _ => none) := rfl
theorem v_tup : tupOf H a = (match H a with
  | some (.tup xs) => some xs
  | some (.frz _ (.tup xs)) => some xs
  | _ => none) := rfl
theorem v_dic : dicOf H a = (match H a with
  | some (.dK kvs) => some kvs
  | some (.frz _ (.dK kvs)) => some kvs
  | _ => none) := rfl
theorem v_ty_r : tyOf H (.ref a) = (match H a with
    | some (.lst _) => some "list"
    | some (.tup _) => some "tuple"
    | some (.dK _) => some "dict"
    | _ => none) := rfl
theorem v_ty_s {x : Str} : tyOf H (.str x) = some "str" := rfl
theorem v_ty_i {i : Int} : tyOf H (.int i) = some "int" := rfl
theorem v_ty_b {k : Bool} : tyOf H (.bl k) = some "bool" := rfl
theorem v_ty_n : tyOf H .non = some "NoneType" := rfl
theorem v_tyL (h : (lstOf H a).isSome = true) : tyV K "list" (.ref a) H = True := by
  obtain ⟨xs, e⟩ := Option.isSome_iff_exists.mp h
  exact eq_true (.inl ⟨rfl, xs, sq_lst e⟩)
theorem v_same : upd H a o a = some o := upd_same
theorem v_old (h1 : (H a).isSome = true) (h2 : H p = none) : upd H p o a = H a := by
  obtain ⟨q, e⟩ := Option.isSome_iff_exists.mp h1
  exact upd_ne (ne_of_none e h2)
theorem v_ne (h : a ≠ b) : upd H b o a = H a := upd_ne h
theorem v_upd : upd (upd H a o) a u = upd H a u := upd_upd
theorem flat_strs {xs : List Str} : (xs.map V.str).all flatV = true := by
  rw [List.all_eq_true]
  intro v hv
  obtain ⟨x, _, rfl⟩ := List.mem_map.mp hv
  rfl
theorem v_flat_s {x : Str} : flatV (.str x) = true := rfl
theorem v_inStrs {x : Str} {xs : List Str} : inV (.str x) (xs.map V.str) = decide (x ∈ xs) := by
  unfold inV
  rw [List.any_map]
  by_cases h : x ∈ xs
  · rw [decide_eq_true h, List.any_eq_true]
    exact ⟨x, h, by show (x == x) = true; simp⟩
  · rw [decide_eq_false h, List.any_eq_false]
    intro z hz e
    have e' : (z == x) = true := e
    rw [beq_iff_eq] at e'
    exact h (e' ▸ hz)
end
/-- over a list that stands still -/
theorem f_lst {K : PySem.W.Frag} {tl : TE} {a : Addr} {xs : List V} {g : TG} {tb : TS} {D : Ends} {σ : L2.St} {H : Hp} (ht : ∀ Q : VK, Q (.ref a) H → tl σ H Q) (hq : SqL K H a xs) (Pv : Nat → L2.St → Hp → Prop) (h0 : Pv 0 σ H)
    (hl : ∀ i σ H, i ≤ xs.length → Pv i σ H → SqL K H a xs)
    (hs : ∀ i x σ H (N : L2.St → Hp → Prop), xs[i]? = some x → Pv i σ H → (∀ σ' H', Pv (i + 1) σ' H' → N σ' H') → g x σ H fun σ2 H2 => tb { D with nx := N, ct := N, bk := D.nx } σ2 H2) (hd : ∀ σ H, Pv xs.length σ H → D.nx σ H) :
    tFor (iList K tl) g tb D σ H := by
  refine ht _ ⟨a, rfl, ⟨xs, hq⟩, ?_⟩
  exact for_list Pv h0 hl (fun i x σ H hx p => hs i x σ H _ hx p fun _ _ z => z) hd
/-- [e for k in range(n)] -/
theorem c_rng {ta : TA} {g : TG} {tt : TT} {te : TE} {vs : List Nat} {σ : L2.St} {H : Hp} {Q : VK} (n : Nat) (hn : n ≤ 1000000000) (ht : ∀ R : List V → Hp → Prop, R [.int (n : Int)] H → ta σ H R) (Pv : Addr → Nat → Hp → Prop)
    (h0 : ∀ d, H d = none → Pv d 0 (upd H d (.lst [])))
    (hs : ∀ d (i : Nat) H' (N : Hp → Prop), H d = none → i < n → Pv d i H' → (∀ H2, Pv d (i + 1) H2 → N H2) → g (.int (i : Int)) (wipe σ vs) H' fun σ2 H2 => wipe σ2 vs = wipe σ vs ∧ tt σ2 H2 fun b H3 =>
      if b = true then te σ2 H3 fun y H4 => ∃ acc, H4 d = some (.lst acc) ∧ acc.length < sizeLine ∧ N (upd H4 d (.lst (acc ++ [y]))) else N H3)
    (hd : ∀ d H', H d = none → Pv d n H' → Q (.ref d) H') : tLc (iRng1 ta) g tt te vs σ H Q := by
  refine ht _ ⟨(n : Int), rfl, by omega, by omega, fun d hdn => ?_⟩
  have e0 : ((n : Int).toNat) = n := Int.toNat_natCast n
  rw [e0]
  refine lc_range (lo := 0) (n := n) (Pv d) (h0 d hdn) (fun i H' hi p => ?_) fun H' p => hd d H' hdn p
  rw [Int.zero_add]
  exact hs d i H' _ hdn hi p fun _ z => z

theorem cutS_hi (l : List Nat) (k : Nat) (h : k ≤ l.length) : cutS ⟨l.toArray⟩ none (some (k : Int)) = ⟨(l.take k).toArray⟩ := by
  unfold cutS
  have e : (⟨l.toArray⟩ : Str).length = l.length := rfl
  rw [e, HT.sIx_none, HT.sIx_nat, Nat.min_eq_left h]
  rfl
theorem cutS_lo (l : List Nat) (k : Nat) (h : k ≤ l.length) : cutS ⟨l.toArray⟩ (some (k : Int)) none = ⟨(l.drop k).toArray⟩ := by
  unfold cutS
  have e : (⟨l.toArray⟩ : Str).length = l.length := rfl
  rw [e, HT.sIx_none, HT.sIx_nat, Nat.min_eq_left h]
  have e2 : (l.drop k).take (l.length - k) = l.drop k := List.take_of_length_le (by rw [List.length_drop]; omega)
  show (⟨((l.drop k).take (l.length - k)).toArray⟩ : Str) = _
  rw [e2]
theorem str_app (a b : List Nat) : (⟨a.toArray⟩ : Str) ++ ⟨b.toArray⟩ = ⟨(a ++ b).toArray⟩ := by
  show (⟨a.toArray ++ b.toArray⟩ : Str) = _
  congr 1
  simp
theorem str_len (a : List Nat) : (⟨a.toArray⟩ : Str).length = a.length := rfl
theorem sz100 {n : Nat} (h : n ≤ 100) : n ≤ sizeLine := Nat.le_trans h (by decide)

theorem a_yes {σ : L2.St} {H : Hp} {Q : Bool → Hp → Prop} : tYes σ H Q = Q true H := rfl
theorem v_wipe0 {σ : L2.St} : wipe σ [] = σ := rfl
theorem v_wipe1 {σ : L2.St} {i : Nat} {l : List Nat} : wipe σ (i :: l) = (wipe σ l).set i none := rfl
theorem same_new {H : Hp} {p : Addr} {o : HO} (h : H p = none) : Same H (upd H p o) := fun b u e => by
  rw [upd_ne (ne_of_none e h)]
  exact e
/-- an object that H does not have may change -/
theorem same_mut {H H' : Hp} {p : Addr} {o : HO} (s : Same H H') (h : H p = none) : Same H (upd H' p o) := fun b u e => by
  rw [upd_ne (ne_of_none e h)]
  exact s b u e

theorem same_lst {H H' : Hp} {a : Addr} {xs : List V} (s : Same H H') (h : lstOf H a = some xs) : lstOf H' a = some xs := by
  unfold lstOf at h ⊢
  split at h
  · rename_i e; rw [s _ _ e]; exact h
  · rename_i e; rw [s _ _ e]; exact h
  · cases h
theorem same_dic {H H' : Hp} {a : Addr} {xs : List (Key × V)} (s : Same H H') (h : dicOf H a = some xs) : dicOf H' a = some xs := by
  unfold dicOf at h ⊢
  split at h
  · rename_i e; rw [s _ _ e]; exact h
  · rename_i e; rw [s _ _ e]; exact h
  · cases h
theorem same_tup {H H' : Hp} {a : Addr} {xs : List V} (s : Same H H') (h : tupOf H a = some xs) : tupOf H' a = some xs := by
  unfold tupOf at h ⊢
  split at h
  · rename_i e; rw [s _ _ e]; exact h
  · rename_i e; rw [s _ _ e]; exact h
  · cases h
theorem lst_of {H : Hp} {a : Addr} {xs : List V} (h : H a = some (.lst xs)) : lstOf H a = some xs := by
  rw [v_lst, h]
theorem dic_of {H : Hp} {a : Addr} {xs : List (Key × V)} (h : H a = some (.dK xs)) : dicOf H a = some xs := by
  rw [v_dic, h]
/-! ### lists of texts compared -/
theorem dp_strs {K : PySem.W.Frag} {H : Hp} : ∀ xs : List Str, DpAll K H (xs.map V.str) (xs.map PyData.str)
  | [] => .nil
  | x :: xs => .cons (.str x) (dp_strs xs)
theorem strs_canLay : ∀ ns : List Str, (∀ x ∈ ns, PyData.strOk x = true) → PyData.canLayAll0 (ns.map PyData.str) = true
  | [], _ => rfl
  | x :: r, h => by simp [PyData.canLayAll0, PyData.canLay0, strs_canLay r fun y hy => h y (List.mem_cons_of_mem _ hy), h x List.mem_cons_self]
theorem strs_depth : ∀ ns : List Str, PyData.depthAll (ns.map PyData.str) = 0
  | [] => rfl
  | _ :: r => by simp [PyData.depthAll, PyData.depth, strs_depth r]
theorem strs_shaped (ns : List Str) (h : ∀ x ∈ ns, PyData.strOk x = true) : SeqAt.shaped (.list (ns.map PyData.str)) = true := by
  simp [SeqAt.shaped, PyData.canLay0, PyData.depth, strs_canLay ns h, strs_depth]
theorem strs_eqvAll : ∀ ns ms : List Str, PyData.eqvAll (ns.map PyData.str) (ms.map PyData.str) = decide (ns = ms)
  | [], [] => by simp [PyData.eqvAll]
  | [], _ :: _ => by simp [PyData.eqvAll]
  | _ :: _, [] => by simp [PyData.eqvAll]
  | a :: r, b :: t => by
    simp only [List.map_cons, PyData.eqvAll, PyData.eqv, strs_eqvAll r t]
    by_cases h : a = b <;> by_cases h' : r = t <;> simp [h, h']
theorem strs_eqv (ns ms : List Str) : PyData.eqv (.list (ns.map PyData.str)) (.list (ms.map PyData.str)) = decide (ns = ms) := by
  simp only [PyData.eqv]; exact strs_eqvAll ns ms
theorem ne_strs {K : PySem.W.Frag} {H : Hp} {a b : Addr} {xs ys : List Str} {Q : VK} (ha : lstOf H a = some (xs.map V.str)) (hb : lstOf H b = some (ys.map V.str)) (ox : ∀ x ∈ xs, PyData.strOk x = true) (oy : ∀ x ∈ ys, PyData.strOk x = true) (q : Q (.bl (!decide (xs = ys))) H) : vNe K (.ref a) (.ref b) H Q :=
  .inl ⟨_, _, .lst (sq_lst ha) (dp_strs xs), .lst (sq_lst hb) (dp_strs ys), strs_shaped _ ox, strs_shaped _ oy, by rw [strs_eqv]; exact q⟩
theorem eq_strs {K : PySem.W.Frag} {H : Hp} {a b : Addr} {xs ys : List Str} {Q : VK} (ha : lstOf H a = some (xs.map V.str)) (hb : lstOf H b = some (ys.map V.str)) (ox : ∀ x ∈ xs, PyData.strOk x = true) (oy : ∀ x ∈ ys, PyData.strOk x = true) (q : Q (.bl (decide (xs = ys))) H) : vEq K (.ref a) (.ref b) H Q :=
  .inl ⟨_, _, .lst (sq_lst ha) (dp_strs xs), .lst (sq_lst hb) (dp_strs ys), strs_shaped _ ox, strs_shaped _ oy, by rw [strs_eqv]; exact q⟩
theorem cutV_drop (xs : List V) (k : Nat) (h : k ≤ xs.length) : cutV xs (some (k : Int)) none = xs.drop k := by
  unfold cutV
  rw [HT.sIx_none, HT.sIx_nat, Nat.min_eq_left h]
  exact List.take_of_length_le (by rw [List.length_drop]; omega)
theorem cutV_take (xs : List V) (k : Nat) (h : k ≤ xs.length) : cutV xs none (some (k : Int)) = xs.take k := by
  unfold cutV
  rw [HT.sIx_none, HT.sIx_nat, Nat.min_eq_left h]
  rfl
theorem eqV_str {a b : Str} : L2.eqV (.str a) (.str b) = (a == b) := rfl
theorem index_strs {K : PySem.W.Frag} {H : Hp} {a : Addr} {xs : List Str} {x : Str} {Q : VK} (ha : lstOf H a = some (xs.map V.str)) (hx : x ∈ xs) (q : Q (.int (xs.idxOf x : Nat)) H) : rIndex K (.ref a) [.str x] H Q := by
  have lt := List.idxOf_lt_length_of_mem hx
  refine ⟨a, _, .str x, xs.idxOf x, .str x, rfl, rfl, sq_lst ha, rfl, flat_strs, ?_, ?_, ?_, q⟩
  · rw [List.getElem?_map, List.getElem?_eq_getElem lt, List.getElem_idxOf lt]
    rfl
  · rw [eqV_str]
    exact beq_self_eq_true x
  · intro m z' hm hz
    rw [List.getElem?_map, List.getElem?_eq_getElem (Nat.lt_trans hm lt)] at hz
    cases hz
    rw [eqV_str]
    exact beq_eq_false_iff_ne.mpr (List.not_of_lt_findIdx hm |> fun z => by simpa using z)
theorem v_m_bool : ("bool" ∈ ["bool", "int", "str", "list", "tuple", "dict"]) = True := eq_true (by decide)
theorem v_m_int : ("int" ∈ ["bool", "int", "str", "list", "tuple", "dict"]) = True := eq_true (by decide)
theorem v_m_str : ("str" ∈ ["bool", "int", "str", "list", "tuple", "dict"]) = True := eq_true (by decide)
theorem v_m_list : ("list" ∈ ["bool", "int", "str", "list", "tuple", "dict"]) = True := eq_true (by decide)
theorem v_m_tuple : ("tuple" ∈ ["bool", "int", "str", "list", "tuple", "dict"]) = True := eq_true (by decide)
theorem v_m_dict : ("dict" ∈ ["bool", "int", "str", "list", "tuple", "dict"]) = True := eq_true (by decide)
theorem v_flats {xs : List Str} : ((xs.map V.str).all flatV = true) = True := eq_true flat_strs
/-- data compared: what comes behind waits -/
def heapNe (K : PySem.W.Frag) (a b : Addr) : Hp → VK → Prop := fun H Q => vNe K (.ref a) (.ref b) H Q
def heapEq (K : PySem.W.Frag) (a b : Addr) : Hp → VK → Prop := fun H Q => vEq K (.ref a) (.ref b) H Q
theorem a_ne_rr {K : PySem.W.Frag} {a b : Addr} {H : Hp} {Q : VK} : vNe K (.ref a) (.ref b) H Q = heapNe K a b H (hold Q ⟨()⟩) := rfl
theorem a_eq_rr {K : PySem.W.Frag} {a b : Addr} {H : Hp} {Q : VK} : vEq K (.ref a) (.ref b) H Q = heapEq K a b H (hold Q ⟨()⟩) := rfl
/-! ### the readings once more, by cases: what is not known yet is not looked through -/
section
variable {K : PySem.W.Frag} {σ : L2.St} {H : Hp} {D : Ends} {Q : VK} {QB : Bool → Hp → Prop} {ta tb te tc : TE} {t u : TT} {i : Nat} {r : R2} {a : Addr} {y : V}
theorem ex_opt {α : Type} {o : Option α} {P : α → Prop} : (∃ v, o = some v ∧ P v) = (match o with
    | some v => P v
    | none => False) := by
  cases o with
  | none => exact propext ⟨fun ⟨_, e, _⟩ => (by cases e), fun h => h.elim⟩
  | some v => exact propext ⟨fun ⟨_, e, h⟩ => by cases e; exact h, fun h => ⟨v, rfl, h⟩⟩
theorem ex_bl {z : V} {P : Bool → Prop} : (∃ k, z = .bl k ∧ P k) = (match z with
    | .bl k => P k
    | _ => False) := by
  refine propext ⟨fun ⟨_, e, h⟩ => by subst e; exact h, fun h => ?_⟩
  split at h
  · exact ⟨_, rfl, h⟩
  · exact h.elim
theorem b_var : tVar i σ H Q = (match σ[i]? with
    | some o => (match o with
      | some z => Q z H
      | none => False)
    | none => False) := by
  unfold tVar
  cases σ[i]? with
  | none => exact propext ⟨fun ⟨_, e, _⟩ => (by cases e), fun h => h.elim⟩
  | some o =>
    cases o with
    | none => exact propext ⟨fun ⟨_, e, _⟩ => (by cases e), fun h => h.elim⟩
    | some z => exact propext ⟨fun ⟨_, e, h⟩ => by cases e; exact h, fun h => ⟨z, rfl, h⟩⟩
theorem b_test : tTest te σ H QB = te σ H fun z H' => (match z with
    | .bl k => QB k H'
    | _ => False) := congrArg (te σ H) (funext fun z => funext fun H' => ex_bl)
theorem b_B : tB te σ H QB = te σ H fun z H' => (match z with
    | .bl k => QB k H'
    | _ => False) := congrArg (te σ H) (funext fun z => funext fun H' => ex_bl)
theorem b_andV : tAndV ta tb σ H Q = ta σ H fun z H1 => (match z with
    | .bl c => if c = true then tb σ H1 Q else Q (.bl false) H1
    | _ => False) := congrArg (ta σ H) (funext fun z => funext fun H' => ex_bl)
theorem b_orV : tOrV ta tb σ H Q = ta σ H fun z H1 => (match z with
    | .bl c => if c = true then Q (.bl true) H1 else tb σ H1 Q
    | _ => False) := congrArg (ta σ H) (funext fun z => funext fun H' => ex_bl)
theorem b_notV : tNotV ta σ H Q = ta σ H fun z H1 => (match z with
    | .bl c => Q (.bl (!c)) H1
    | _ => False) := congrArg (ta σ H) (funext fun z => funext fun H' => ex_bl)
theorem b_ix_r : vIx (.ref a) y H Q = (match lstOf H a with
    | some xs => (match y with
      | .int i => (match atI xs i with
        | some v => Q v H
        | none => False)
      | _ => False)
    | none => (match tupOf H a with
      | some xs => (match y with
        | .int i => (match atI xs i with
          | some v => Q v H
          | none => False)
        | _ => False)
      | none => (match dicOf H a with
        | some kvs => (match keyOf y with
          | some k => (match valV kvs k with
            | some v => Q v H
            | none => False)
          | none => False)
        | none => False))) := by
  rw [v_ix_r]
  cases lstOf H a with
  | some xs => cases y <;> dsimp only <;> exact propext ⟨fun ⟨v, e, q⟩ => (by rw [e]; exact q), fun q => (by split at q; exact ⟨_, ‹_›, q⟩; exact q.elim)⟩
  | none =>
    cases tupOf H a with
    | some xs => cases y <;> dsimp only <;> exact propext ⟨fun ⟨v, e, q⟩ => (by rw [e]; exact q), fun q => (by split at q; exact ⟨_, ‹_›, q⟩; exact q.elim)⟩
    | none =>
      cases dicOf H a with
      | some kvs => cases keyOf y <;> dsimp only <;> exact propext ⟨fun ⟨v, e, q⟩ => (by rw [e]; exact q), fun q => (by split at q; exact ⟨_, ‹_›, q⟩; exact q.elim)⟩
      | none => rfl
end
/-- over range(lo, lo + n) -/
theorem f_rng2 {ta : TA} {g : TG} {tb : TS} {D : Ends} {σ : L2.St} {H : Hp} (lo : Int) (n : Nat) (hlo : -1000000000 ≤ lo ∧ lo ≤ 1000000000) (hn : n ≤ 1000000000) (ht : ∀ Q : List V → Hp → Prop, (∀ hi : Int, (hi - lo).toNat = n → hi = lo + n ∨ (n = 0 ∧ hi ≤ lo ∧ -1000000000 ≤ hi) → Q [.int lo, .int hi] H) → ta σ H Q) (Pv : Nat → L2.St → Hp → Prop) (h0 : Pv 0 σ H)
    (hs : ∀ (i : Nat) σ H (N : L2.St → Hp → Prop), i < n → Pv i σ H → (∀ σ' H', Pv (i + 1) σ' H' → N σ' H') → g (.int (lo + (i : Int))) σ H fun σ2 H2 => tb { D with nx := N, ct := N, bk := D.nx } σ2 H2) (hd : ∀ σ H, Pv n σ H → D.nx σ H) :
    tFor (iRng2 ta) g tb D σ H := by
  refine ht _ fun hi e h => ⟨lo, hi, rfl, by omega, ?_⟩
  rw [e]
  exact for_range (lo := lo) (n := n) Pv h0 (fun i σ H hi p => hs i σ H _ hi p fun _ _ z => z) hd
theorem atI_last {α : Type} {xs : List α} {v : α} (h : xs[xs.length - 1]? = some v) : atI xs (-1) = some v := by
  have hl : xs.length - 1 < xs.length := (List.getElem?_eq_some_iff.mp h).1
  unfold atI ixN
  rw [if_neg (by omega), if_pos (by omega)]
  show xs[(-1 + (xs.length : Int)).toNat]? = some v
  rw [show (-1 + (xs.length : Int)).toNat = xs.length - 1 from by omega]
  exact h
theorem v_rU {f : Int → V} {i : Int} {H : Hp} {Q : VK} : L2.rU f (.int i) H Q = Q (f i) H := propext ⟨fun ⟨_, e, q⟩ => (by cases e; exact q), fun q => ⟨i, rfl, q⟩⟩
/-- two objects made, one behind the other -/
theorem two_new {H : Hp} {p q : Addr} {o u : HO} (hp : H p = none) (hq : upd H p o q = none) : Same H (upd (upd H p o) q u) ∧ upd (upd H p o) q u p = some o ∧ upd (upd H p o) q u q = some u := by
  have ne : q ≠ p := fun e => by
    rw [e, upd_same] at hq
    cases hq
  have hq' : H q = none := by
    rw [upd_ne ne] at hq
    exact hq
  exact ⟨same_mut (same_new hp) hq', by rw [upd_ne (Ne.symm ne), upd_same], upd_same⟩
theorem map_str_get {xs : List Str} {i : Nat} {v : V} (h : (xs.map V.str)[i]? = some v) : ∃ f, xs[i]? = some f ∧ v = .str f := by
  rw [List.getElem?_map] at h
  obtain ⟨f, h1, h2⟩ := Option.map_eq_some_iff.mp h
  exact ⟨f, h1, h2.symm⟩
/-- [e for x in l if t] -/
theorem c_lst {K : PySem.W.Frag} {tl : TE} {a : Addr} {xs : List V} {g : TG} {tt : TT} {te : TE} {vs : List Nat} {σ : L2.St} {H : Hp} {Q : VK} (ht : ∀ R : VK, R (.ref a) H → tl σ H R) (hq : SqL K H a xs) (Pv : Addr → Nat → Hp → Prop)
    (h0 : ∀ d, H d = none → Pv d 0 (upd H d (.lst []))) (hl : ∀ d (i : Nat) H', H d = none → i ≤ xs.length → Pv d i H' → SqL K H' a xs)
    (hs : ∀ d (i : Nat) x H' (N : Hp → Prop), H d = none → xs[i]? = some x → Pv d i H' → (∀ H2, Pv d (i + 1) H2 → N H2) → g x (wipe σ vs) H' fun σ2 H2 => wipe σ2 vs = wipe σ vs ∧ tt σ2 H2 fun b H3 =>
      if b = true then te σ2 H3 fun y H4 => ∃ acc, H4 d = some (.lst acc) ∧ acc.length < sizeLine ∧ N (upd H4 d (.lst (acc ++ [y]))) else N H3)
    (hd : ∀ d H', H d = none → Pv d xs.length H' → Q (.ref d) H') : tLc (iList K tl) g tt te vs σ H Q := by
  refine ht _ ⟨a, rfl, ⟨xs, hq⟩, fun d hdn => ?_⟩
  exact lc_list (Pv d) (h0 d hdn) (fun i H' hi p => hl d i H' hdn hi p) (fun i x H' hx p => hs d i x H' _ hdn hx p fun _ z => z) fun H' p => hd d H' hdn p
/-- ==, != of scalars -/
def vEqS : R2 := fun x y H Q => scal x y = true ∧ Q (.bl (decide (x = y))) H
def vNeS : R2 := fun x y H Q => scal x y = true ∧ Q (.bl (!decide (x = y))) H
theorem op_vEqS {X : Cx} : OpR X (compareOp .Eq) vEqS := fun pins s σ H x y u v Q I rx ry h => op_eq pins s σ H x y u v Q I rx ry h
theorem op_vNeS {X : Cx} : OpR X (compareOp .NotEq) vNeS := fun pins s σ H x y u v Q I rx ry h => op_ne pins s σ H x y u v Q I rx ry h
section
variable {H : Hp} {Q : VK}
theorem v_eqS_ii {i j : Int} : vEqS (.int i) (.int j) H Q = Q (.bl (decide (i = j))) H := by
  show (scal (.int i) (.int j) = true ∧ Q (.bl (decide (V.int i = V.int j))) H) = _
  simp [scal]
theorem v_eqS_ss {i j : Str} : vEqS (.str i) (.str j) H Q = Q (.bl (decide (i = j))) H := by
  show (scal (.str i) (.str j) = true ∧ Q (.bl (decide (V.str i = V.str j))) H) = _
  simp [scal]
theorem v_neS_ii {i j : Int} : vNeS (.int i) (.int j) H Q = Q (.bl (!decide (i = j))) H := by
  show (scal (.int i) (.int j) = true ∧ Q (.bl (!decide (V.int i = V.int j))) H) = _
  simp [scal]
theorem v_neS_ss {i j : Str} : vNeS (.str i) (.str j) H Q = Q (.bl (!decide (i = j))) H := by
  show (scal (.str i) (.str j) = true ∧ Q (.bl (!decide (V.str i = V.str j))) H) = _
  simp [scal]
end
end Fw
set_option Elab.async false
set_option linter.all false
set_option maxRecDepth 100000
set_option maxHeartbeats 4000000
/-! own classes: attributes, methods, the making of an instance, by values -/
namespace Fw
open PySem PySem.Spec PyProof.Rows L2
/-- a class of the text: C its address -/
structure Kl (K : PySem.W.Frag) (mg : Str → Option Value) (x : Str) (C : Addr) : Prop where
  cl : Cls K C
  g : mg x = some (.ref C)
/-- a method of it by what it promises -/
structure Mth (P : Program) (w : World) (K : PySem.W.Frag) (mg : Str → Option Value) (base : Heap) (k : Nat) (C : Addr) (m : Str) (ps : List Str) (sp : Sp) : Prop where
  ex : ∃ (f : Addr) (fd : FuncData), FnOk P w K mg base CX0 k f fd ps sp ∧ Meth K C m f ∧ Binds K fd ps []
/-- .. that may raise -/
structure MthX (P : Program) (w : World) (K : PySem.W.Frag) (mg : Str → Option Value) (base : Heap) (k : Nat) (C : Addr) (m : Str) (ps : List Str) (sp : Sp) : Prop where
  ex : ∃ (f : Addr) (fd : FuncData), FnOk P w K mg base (L2.CX P w) k f fd ps sp ∧ Meth K C m f ∧ Binds K fd ps []
/-- __init__, and that the class makes -/
structure MkC (P : Program) (w : World) (K : PySem.W.Frag) (mg : Str → Option Value) (base : Heap) (k : Nat) (C : Addr) (ps : List Str) (sp : Sp) : Prop where
  ex : ∃ (f : Addr) (fd : FuncData), FnOk P w K mg base CX0 k f fd ps sp ∧ Mk K C f ∧ Binds K fd ps []
/-- a def of the class as the top has left it -/
structure SrcM (K : PySem.W.Frag) (C : Addr) (x qual : Str) (ps : List Str) (st : Stmt) : Prop where
  ex : ∃ (f : Addr) (fd : FuncData), Fun K x qual st f fd ∧ Meth K C x f ∧ ∀ us : List Value, us.length = ps.length → bindArgs fd ⟨us, []⟩ = pure (ps.zip us)
structure SrcI (K : PySem.W.Frag) (C : Addr) (qual : Str) (ps : List Str) (st : Stmt) : Prop where
  ex : ∃ (f : Addr) (fd : FuncData), Fun K "__init__" qual st f fd ∧ Mk K C f ∧ ∀ us : List Value, us.length = ps.length → bindArgs fd ⟨us, []⟩ = pure (ps.zip us)
theorem srcM_mk {K : PySem.W.Frag} {C : Addr} {x qual : Str} {ps : List Str} {st : Stmt} {f : Addr} {oc : Value} {od an : Option Addr} {osl : Array (Option Value)} {kV doc pm cd ct : Value}
    (a : PySem.W.findIn K (.ref C) x = some (some (.ref f))) (i : PySem.W.isFn K (.ref f) = true)
    (l : K.lookup f = some ⟨oc, od, .func (PySem.W.fnOf x qual (defArgs st) (defBody st) (defScope st) .none kV doc pm an cd ct), osl⟩) (c : PySem.W.codeIn K cd qual = true) (k : PySem.W.keepIn K (.ref f) = true)
    (hb : ∀ us : List Value, us.length = ps.length → bindArgs (PySem.W.fnOf x qual (defArgs st) (defBody st) (defScope st) .none kV doc pm an cd ct) ⟨us, []⟩ = pure (ps.zip us)) : SrcM K C x qual ps st :=
  ⟨f, _, fun_mk l c k, ⟨a, i, k⟩, hb⟩
theorem srcI_mk {K : PySem.W.Frag} {C : Addr} {qual : Str} {ps : List Str} {st : Stmt} {f : Addr} {oc : Value} {od an : Option Addr} {osl : Array (Option Value)} {kV doc pm cd ct : Value}
    (mk : PySem.W.makesIn K C = true) (kc : PySem.W.keepIn K (.ref C) = true) (a : PySem.W.findIn K (.ref C) "__init__" = some (some (.ref f))) (i : PySem.W.isFn K (.ref f) = true)
    (l : K.lookup f = some ⟨oc, od, .func (PySem.W.fnOf "__init__" qual (defArgs st) (defBody st) (defScope st) .none kV doc pm an cd ct), osl⟩) (c : PySem.W.codeIn K cd qual = true) (k : PySem.W.keepIn K (.ref f) = true)
    (hb : ∀ us : List Value, us.length = ps.length → bindArgs (PySem.W.fnOf "__init__" qual (defArgs st) (defBody st) (defScope st) .none kV doc pm an cd ct) ⟨us, []⟩ = pure (ps.zip us)) : SrcI K C qual ps st :=
  ⟨f, _, fun_mk l c k, ⟨mk, a, i, kc⟩, hb⟩
section
variable {P : Program} {w : World} {K : PySem.W.Frag} {mg : Str → Option Value} {base : Heap} {C : Addr}
theorem mth_mk {x qual : Str} {st : Stmt} {N ps : List Str} {k : Nat} {sp : Sp} (S : SrcM K C x qual ps st) (sc : FnScope N ps (defScope st)) (len : ∀ vs H Q E, sp vs H Q E → vs.length = ps.length)
    (hbody : ∀ (f : Addr) (cdv : Value) (A : Around) (outer : List Env) (s : Shared) (H : Hp) (vs : List V) (Q : VK) (E : XK), Room k (A.deeper (envOfC qual (defScope st) s.heap.objs.size f cdv)) → sp vs H Q E →
      ∃ t, PSs (cxOf CX0 P w K mg base N qual (defScope st) f cdv A outer s H E).nox (defBody st) t ∧ t { nx := fun _ H' => Q .non H', rt := Q } (start N vs) H) : Mth P w K mg base (k + 1) C x ps sp := by
  obtain ⟨f, fd, F, hm, hb⟩ := S.ex
  exact ⟨f, fd, F.ok sc len (hbody f), hm, .all hb⟩
theorem mthx_mk {x qual : Str} {st : Stmt} {N ps : List Str} {k : Nat} {sp : Sp} (S : SrcM K C x qual ps st) (sc : FnScope N ps (defScope st)) (len : ∀ vs H Q E, sp vs H Q E → vs.length = ps.length)
    (hbody : ∀ (f : Addr) (cdv : Value) (A : Around) (outer : List Env) (s : Shared) (H : Hp) (vs : List V) (Q : VK) (E : XK), Room k (A.deeper (envOfC qual (defScope st) s.heap.objs.size f cdv)) → sp vs H Q E →
      ∃ t, PSs (cxOf (L2.CX P w) P w K mg base N qual (defScope st) f cdv A outer s H E) (defBody st) t ∧ t { nx := fun _ H' => Q .non H', rt := Q } (start N vs) H) : MthX P w K mg base (k + 1) C x ps sp := by
  obtain ⟨f, fd, F, hm, hb⟩ := S.ex
  exact ⟨f, fd, F.okX sc len (hbody f), hm, .all hb⟩
theorem mkc_mk {qual : Str} {st : Stmt} {N ps : List Str} {k : Nat} {sp : Sp} (S : SrcI K C qual ps st) (sc : FnScope N ps (defScope st)) (len : ∀ vs H Q E, sp vs H Q E → vs.length = ps.length)
    (hbody : ∀ (f : Addr) (cdv : Value) (A : Around) (outer : List Env) (s : Shared) (H : Hp) (vs : List V) (Q : VK) (E : XK), Room k (A.deeper (envOfC qual (defScope st) s.heap.objs.size f cdv)) → sp vs H Q E →
      ∃ t, PSs (cxOf CX0 P w K mg base N qual (defScope st) f cdv A outer s H E).nox (defBody st) t ∧ t { nx := fun _ H' => Q .non H', rt := Q } (start N vs) H) : MkC P w K mg base (k + 1) C ps sp := by
  obtain ⟨f, fd, F, hm, hb⟩ := S.ex
  exact ⟨f, fd, F.ok sc len (hbody f), hm, .all hb⟩
end
/-- e.f -/
def tAt (C : Addr) (f : Str) (ta : TE) : TE := fun σ H Q => ta σ H fun x H1 => (match x with
  | .ref a => (match H1 a with
    | some (.ins C' _ fs) => C' = C ∧ (match fs.lookup f with
      | some v => Q v H1
      | none => False)
    | _ => False)
  | _ => False)
/-- e.f = v -/
def tAtS (C : Addr) (f : Str) (ta tv : TE) : TS := fun D σ H => tv σ H fun y H1 => ta σ H1 fun x H2 => (match x with
  | .ref a => (match H2 a with
    | some (.ins C' dx fs) => C' = C ∧ fs.length < 1000 ∧ D.nx σ (upd H2 a (.ins C' dx (putF f y fs)))
    | _ => False)
  | _ => False)
/-- o.m(..) -/
def tMt (C : Addr) (m : Str) (sp : Sp) (ta : TE) (t : TA) : TE := fun σ H Q => ta σ H fun x H1 => (match x with
  | .ref a => (match H1 a with
    | some (.ins C' _ fs) => C' = C ∧ fs.lookup m = none ∧ t σ H1 fun vs H2 => sp (.ref a :: vs) H2 Q E0
    | _ => False)
  | _ => False)
/-- o.m(..), which may raise -/
def tMtX (C : Addr) (m : Str) (sp : Sp) (E : L2.St → XK) (ta : TE) (t : TA) : TE := fun σ H Q => ta σ H fun x H1 => (match x with
  | .ref a => (match H1 a with
    | some (.ins C' _ fs) => C' = C ∧ fs.lookup m = none ∧ t σ H1 fun vs H2 => sp (.ref a :: vs) H2 Q (E σ)
    | _ => False)
  | _ => False)
/-- C() -/
def tMk (C : Addr) (sp : Sp) (t : TA) : TE := fun σ H Q => t σ H fun vs H1 => ∀ x dx, H1 x = none → H1 dx = none → dx ≠ x →
  sp (.ref x :: vs) (upd (upd H1 dx (.own x)) x (.ins C dx [])) (fun v H2 => v = .non ∧ Q (.ref x) H2) E0
section
variable {X : Cx} {k : Nat} {C : Addr} {ps : List Str} {sp : Sp} {x m f : Str} {p pos pos' apos : Pos} {e o value : Expr} {es : List Expr} {t : TA} {ta tv : TE}
theorem pe_at (he : PE X e ta) (c : Cls X.K C) (n : NoAttr X.K C f) (hb : attributeBase e f X.env (eval e X.env) = eval e X.env := by rfl) : PE X (.Attribute e f pos) (tAt C f ta) := by
  refine ⟨fun pins s σ H Q I h => ?_⟩
  refine attr_of hb (thn (he.run pins s σ H _ I h) fun u s1 ⟨x, H1, I1, rx, q⟩ => ?_)
  dsimp only at q
  split at q
  · rename_i a
    split at q
    · rename_i C' dx fs ea
      obtain ⟨rfl, q⟩ := q
      split at q
      · rename_i v l
        obtain rfl : u = Value.ref a := rx
        exact getattr_ok I1 ea c n l fun u' s2 I2 ru => ⟨v, H1, I2, ru, q⟩
      · exact q.elim
    · exact q.elim
  · exact q.elim
theorem ps_atS (ha : PE X o ta) (hv : PE X value tv) (c : Cls X.K C) (n : NoAttr X.K C f) (hs : swapsWith value (some (.Attribute o f pos')) pos.line X.env = pure false := by rfl) : PS X (.Assign [.Attribute o f pos'] value pos) (tAtS C f ta tv) := by
  refine ⟨fun pins s σ H D I h => ?_⟩
  refine plainObj_wpAny_Assign_Attribute (thn (hv.run pins s σ H _ I h) fun u s1 ⟨y, H1, I1, ry, q⟩ => thn (ha.run pins s1 σ H1 _ I1 q) fun ov s2 ⟨x, H2, I2, rx, q2⟩ => ?_) hs
  dsimp only at q2
  split at q2
  · rename_i a
    split at q2
    · rename_i C' dx fs ea
      obtain ⟨rfl, l, q3⟩ := q2
      obtain rfl : ov = Value.ref a := rx
      exact setattr_ok I2 ea c n l ry fun s3 I3 => ⟨σ, _, I3, q3⟩
    · exact q2.elim
  · exact q2.elim
theorem pe_mt {pl : Sem Bool} (he : PE X o ta) (c : Cls X.K C) (G : Mth X.prog X.w X.K X.mg X.base k C m ps sp) (hr : Room k X.A) (ha : PA X (e :: es) t)
    (hst : starEach (e :: es) X.env = (false, eval e X.env) :: starEach es X.env := by rfl) (hpl : (backTo pos (starEach es X.env)).any (·.1) = false := by rfl)
    (ht : eval (.Call (.Attribute o m apos) (e :: es) [] pos) X.env = (do
      let ov ← eval o X.env
      standAt apos.atName
      let (f, first) ← holding [ov] (getMethod ov m pl)
      callWith pos f first (backTo pos (starEach (e :: es) X.env)) (backToKw pos (keywordEach [] X.env))) := by rfl) :
    PE X (.Call (.Attribute o m apos) (e :: es) [] pos) (tMt C m sp ta t) := by
  obtain ⟨f, fd, F, hm, hb⟩ := G.ex
  refine ⟨fun pins s σ H Q I h => ?_⟩
  refine PySem.W.methodCall_KW (pl := pl) (thn (he.run pins s σ H _ I h) fun u s1 ⟨x, H1, I1, rx, q⟩ => ?_) ht
  dsimp only at q
  split at q
  · rename_i a
    split at q
    · rename_i C' dx fs ea
      obtain ⟨rfl, l, q⟩ := q
      obtain rfl : u = Value.ref a := rx
      refine getmeth_ok I1 ea c hm l ?_
      refine PySem.W.callWith_K (first := [.ref a]) (h₀ := X.base) I.ok.mod.kin hm.kp (thn (ha.run pos pins s1 σ H1 _ I1 q) fun us s2 ⟨vs, H2, I2, r, q2⟩ => ⟨I2.kIn, ?_⟩) hst hpl
      exact run_fn (us := .ref a :: us) (vs := .ref a :: vs) F hr hb .nil pass0 I2 (.cons rfl r) (by rw [List.append_nil]; exact q2)
    · exact q.elim
  · exact q.elim
theorem pe_mt0 {pl : Sem Bool} (he : PE X o ta) (c : Cls X.K C) (G : Mth X.prog X.w X.K X.mg X.base k C m ps sp) (hr : Room k X.A)
    (ht : eval (.Call (.Attribute o m apos) [] [] pos) X.env = (do
      let ov ← eval o X.env
      standAt apos.atName
      let (f, first) ← holding [ov] (getMethod ov m pl)
      callWith pos f first (backTo pos (starEach [] X.env)) (backToKw pos (keywordEach [] X.env))) := by rfl) :
    PE X (.Call (.Attribute o m apos) [] [] pos) (tMt C m sp ta tNil) := by
  obtain ⟨f, fd, F, hm, hb⟩ := G.ex
  refine ⟨fun pins s σ H Q I h => ?_⟩
  refine PySem.W.methodCall_KW (pl := pl) (thn (he.run pins s σ H _ I h) fun u s1 ⟨x, H1, I1, rx, q⟩ => ?_) ht
  dsimp only at q
  split at q
  · rename_i a
    split at q
    · rename_i C' dx fs ea
      obtain ⟨rfl, l, q⟩ := q
      obtain rfl : u = Value.ref a := rx
      refine getmeth_ok I1 ea c hm l ?_
      exact PySem.W.callWith_K0 (first := [.ref a]) I1.kIn hm.kp (run_fn (us := [.ref a]) (vs := [.ref a]) F hr hb .nil pass0 I1 (.cons rfl .nil) q)
    · exact q.elim
  · exact q.elim
theorem pe_mtX {pl : Sem Bool} {W : WX} (he : PE X o ta) (c : Cls X.K C) (G : MthX X.prog X.w X.K X.mg X.base k C m ps sp) (tk : Takes X W) (hr : Room k X.A) (ha : PA X (e :: es) t)
    (hst : starEach (e :: es) X.env = (false, eval e X.env) :: starEach es X.env := by rfl) (hpl : (backTo pos (starEach es X.env)).any (·.1) = false := by rfl)
    (ht : eval (.Call (.Attribute o m apos) (e :: es) [] pos) X.env = (do
      let ov ← eval o X.env
      standAt apos.atName
      let (f, first) ← holding [ov] (getMethod ov m pl)
      callWith pos f first (backTo pos (starEach (e :: es) X.env)) (backToKw pos (keywordEach [] X.env))) := by rfl) :
    PE X (.Call (.Attribute o m apos) (e :: es) [] pos) (tMtX C m sp (WE W) ta t) := by
  obtain ⟨f, fd, F, hm, hb⟩ := G.ex
  refine ⟨fun pins s σ H Q I h => ?_⟩
  refine PySem.W.methodCall_KW (pl := pl) (thn (he.run pins s σ H _ I h) fun u s1 ⟨x, H1, I1, rx, q⟩ => ?_) ht
  dsimp only at q
  split at q
  · rename_i a
    split at q
    · rename_i C' dx fs ea
      obtain ⟨rfl, l, q⟩ := q
      obtain rfl : u = Value.ref a := rx
      refine getmeth_ok I1 ea c hm l ?_
      refine PySem.W.callWith_K (first := [.ref a]) (h₀ := X.base) I.ok.mod.kin hm.kp (thn (ha.run pos pins s1 σ H1 _ I1 q) fun us s2 ⟨vs, H2, I2, r, q2⟩ => ⟨I2.kIn, ?_⟩) hst hpl
      exact run_fnS (us := .ref a :: us) (vs := .ref a :: vs) F hr hb (passAt tk σ) I2 (.cons rfl r) q2
    · exact q.elim
  · exact q.elim
theorem pe_mtX0 {pl : Sem Bool} {W : WX} (he : PE X o ta) (c : Cls X.K C) (G : MthX X.prog X.w X.K X.mg X.base k C m ps sp) (tk : Takes X W) (hr : Room k X.A)
    (ht : eval (.Call (.Attribute o m apos) [] [] pos) X.env = (do
      let ov ← eval o X.env
      standAt apos.atName
      let (f, first) ← holding [ov] (getMethod ov m pl)
      callWith pos f first (backTo pos (starEach [] X.env)) (backToKw pos (keywordEach [] X.env))) := by rfl) :
    PE X (.Call (.Attribute o m apos) [] [] pos) (tMtX C m sp (WE W) ta tNil) := by
  obtain ⟨f, fd, F, hm, hb⟩ := G.ex
  refine ⟨fun pins s σ H Q I h => ?_⟩
  refine PySem.W.methodCall_KW (pl := pl) (thn (he.run pins s σ H _ I h) fun u s1 ⟨x, H1, I1, rx, q⟩ => ?_) ht
  dsimp only at q
  split at q
  · rename_i a
    split at q
    · rename_i C' dx fs ea
      obtain ⟨rfl, l, q⟩ := q
      obtain rfl : u = Value.ref a := rx
      refine getmeth_ok I1 ea c hm l ?_
      exact PySem.W.callWith_K0 (first := [.ref a]) I1.kIn hm.kp (run_fnS (us := [.ref a]) (vs := [.ref a]) F hr hb (passAt tk σ) I1 (.cons rfl .nil) q)
    · exact q.elim
  · exact q.elim
theorem pe_mk0 (c : Kl X.K X.mg x C) (G : MkC X.prog X.w X.K X.mg X.base k C ps sp) (hr : Room (k + 1) X.A) (hg : Gl X x) (hdb : (x == ("__debug__" : Str)) = false := by decide) : PE X (.Call (.Name x p) [] [] pos) (tMk C sp tNil) := by
  obtain ⟨f, fd, F, M, hb⟩ := G.ex
  have h := pe_make0 (p := p) (pos := pos) M F hr hg c.g hb .nil pass0 hdb
  exact ⟨fun pins s σ H Q I q => h.run pins s σ H Q I q⟩
end
-- applied
section
variable {σ : L2.St} {H : Hp} {D : Ends} {Q : VK} {ta tv : TE} {t : TA} {C : Addr} {f m : Str} {sp : Sp} {E : L2.St → XK}
theorem a_at : tAt C f ta σ H Q = ta σ H fun x H1 => (match x with
  | .ref a => (match H1 a with
    | some (.ins C' _ fs) => C' = C ∧ (match fs.lookup f with
      | some v => Q v H1
      | none => False)
    | _ => False)
  | _ => False) := rfl
theorem a_atS : tAtS C f ta tv D σ H = tv σ H fun y H1 => ta σ H1 fun x H2 => (match x with
  | .ref a => (match H2 a with
    | some (.ins C' dx fs) => C' = C ∧ fs.length < 1000 ∧ D.nx σ (upd H2 a (.ins C' dx (putF f y fs)))
    | _ => False)
  | _ => False) := rfl
theorem a_mt : tMt C m sp ta t σ H Q = ta σ H fun x H1 => (match x with
  | .ref a => (match H1 a with
    | some (.ins C' _ fs) => C' = C ∧ fs.lookup m = none ∧ t σ H1 fun vs H2 => sp (.ref a :: vs) H2 (hold Q ⟨()⟩) E0
    | _ => False)
  | _ => False) := rfl
theorem a_mtX : tMtX C m sp E ta t σ H Q = ta σ H fun x H1 => (match x with
  | .ref a => (match H1 a with
    | some (.ins C' _ fs) => C' = C ∧ fs.lookup m = none ∧ t σ H1 fun vs H2 => sp (.ref a :: vs) H2 (hold Q ⟨()⟩) (holdX (E σ) ⟨()⟩)
    | _ => False)
  | _ => False) := rfl
theorem a_mk : tMk C sp t σ H Q = t σ H fun vs H1 => ∀ x dx, H1 x = none → H1 dx = none → dx ≠ x →
  sp (.ref x :: vs) (upd (upd H1 dx (.own x)) x (.ins C dx [])) (hold (fun v H2 => v = .non ∧ Q (.ref x) H2) ⟨()⟩) E0 := rfl
end
end Fw
set_option Elab.async false
set_option linter.all false
set_option maxRecDepth 100000
set_option maxHeartbeats 4000000
/-! e[::s], s of 1 or -1 as it is computed; min, max, sum, all by values -/
namespace Fw
open PySem PySem.Spec PyProof.Rows L2
/-- e[::s] -/
def vStep (x : V) (i : Int) (H : Hp) (Q : VK) : Prop := match x with
  | .ref a => (match lstOf H a with
    | some xs => (i = 1 ∧ ∀ p, H p = none → Q (.ref p) (upd H p (.lst xs))) ∨ (i = -1 ∧ ∀ p, H p = none → Q (.ref p) (upd H p (.lst xs.reverse)))
    | none => False)
  | _ => False
def tStep (te : TE) (ts : TE) : TE := fun σ H Q => te σ H fun x H1 => tPart ts σ H1 fun o H2 => ∃ i, o = some i ∧ vStep x i H2 Q
theorem pick_one (its : Array Value) : slicePick its none none (some 1) = its := by
  have e : slicePick its none none (some 1) = slicePick its none none none := rfl
  obtain ⟨l⟩ := its
  rw [e, slicePick_cut]
  show ((l.drop 0).take (l.length - 0)).toArray = _
  rw [List.drop_zero, Nat.sub_zero, List.take_length]
section
variable {X : Cx} {e st : Expr} {te ts : TE} {p3 pos : Pos}
theorem pe_step (he : PE X e te) (hs : PE X st ts) : PE X (.Subscript e (.Slice none none (some st) p3) pos) (tStep te ts) := by
  refine ⟨fun pins s σ H Q I h => ?_⟩
  refine Subscript_ (thn (he.run pins s σ H _ I h) fun v s1 ⟨x, H1, I1, r1, q1⟩ => ?_)
  have hst : PO X (some st) (tPart ts) := po_some hs
  refine wpAny_Slice (thn (po_none.run pins s1 σ H1 (fun o H2 => o = none ∧ H2 = H1) I1 ⟨rfl, rfl⟩) fun vl s2 ⟨l, H2, I2, pl, el, e2⟩ => ?_)
  subst el e2
  refine thn (po_none.run pins s2 σ H2 (fun o H3 => o = none ∧ H3 = H2) I2 ⟨rfl, rfl⟩) fun vu s3 ⟨u, H3, I3, pu, eu, e3⟩ => ?_
  subst eu e3
  refine thn (hst.run pins s3 σ H3 _ I3 q1) fun vs s4 ⟨o, H4, I4, ps, i, eo, q⟩ => ?_
  subst eo
  have I5 : Inv X pins σ H4 { s4 with heap := s4.heap.push { cls := .type "slice", data := .fields #[vl, vu, vs] } } := I4.kept (t' := s4.toks) fun b ob q => Heap.get?_push_of_some _ q
  unfold vStep at q
  split at q
  · rename_i a _
    split at q
    · rename_i xs hx
      cases r1
      obtain ⟨its, r, ht, hz⟩ := I5.list (sq_lst (K := X.K) hx)
      have hlen := r.length
      show wpAny (model X.prog X.w) X.A (subscriptTail e (.Slice none none (some st) p3) (.ref a) (.ref s4.heap.objs.size)) (EP X pins σ Q) X.xe { s4 with heap := s4.heap.push { cls := .type "slice", data := .fields #[vl, vu, vs] } }
      refine tail_any (ops := [.ref a, .ref s4.heap.objs.size]) ht.isList.typeIs (PySem.slot_list_getitem.lookup) ?_ (by with_unfolding_all rfl)
      rcases q with ⟨rfl, q⟩ | ⟨rfl, q⟩
      · refine wpAny_getItem_list_slice ht.isList (Heap.IsSliceOf.new _ vl vu vs) pl pu ps (by decide) ?_ (by rw [List.size_toArray]; omega)
        rw [pick_one]
        refine ⟨.ref _, _, I5.laid (t' := s4.toks) (o := .lst xs) (fun b ob q => Heap.get?_push_of_some _ q) (Nat.le_refl _) ?_, rfl, q _ (I5.hok.fresh (Nat.le_refl _))⟩
        exact ⟨hz, _, 0, r, Heap.get?_push_size _ rfl⟩
      · refine wpAny_getItem_list_slice ht.isList (Heap.IsSliceOf.new _ vl vu vs) pl pu ps (by decide) ?_ (by rw [List.size_toArray]; omega)
        rw [PySem.W.krv_pick]
        refine ⟨.ref _, _, I5.laid (t' := s4.toks) (o := .lst xs.reverse) (fun b ob q => Heap.get?_push_of_some _ q) (Nat.le_refl _) ?_, rfl, q _ (I5.hok.fresh (Nat.le_refl _))⟩
        exact ⟨by rw [List.length_reverse]; exact hz, _, 0, r.reverse, Heap.get?_push_size _ rfl⟩
    · exact q.elim
  · exact q.elim
end
/-- min, max of two ints -/
def cMin2 : List V → Hp → VK → Prop := fun xs H Q => match xs with
  | [.int i, .int j] => Q (.int (if j < i then j else i)) H
  | _ => False
def cMax2 : List V → Hp → VK → Prop := fun xs H Q => match xs with
  | [.int i, .int j] => Q (.int (if j > i then j else i)) H
  | _ => False
theorem call_vMin2 {X : Cx} (hc : X.calm = true) : CallR X (.builtin "min") cMin2 := by
  intro pins s σ H xs us Q I r h
  unfold cMin2 at h
  split at h
  · exact call_min2 hc pins s σ H _ us Q I r ⟨_, _, rfl, h⟩
  · exact h.elim
theorem call_vMax2 {X : Cx} (hc : X.calm = true) : CallR X (.builtin "max") cMax2 := by
  intro pins s σ H xs us Q I r h
  unfold cMax2 at h
  split at h
  · exact call_max2 hc pins s σ H _ us Q I r ⟨_, _, rfl, h⟩
  · exact h.elim
section
variable {σ : L2.St} {H : Hp} {Q : VK} {te ts : TE} {a : Addr} {i j : Int} {K : PySem.W.Frag}
theorem a_step : tStep te ts σ H Q = te σ H fun x H1 => tPart ts σ H1 fun o H2 => ∃ i, o = some i ∧ vStep x i H2 Q := rfl
theorem v_step : vStep (.ref a) i H Q = (match lstOf H a with
    | some xs => (i = 1 ∧ ∀ p, H p = none → Q (.ref p) (upd H p (.lst xs))) ∨ (i = -1 ∧ ∀ p, H p = none → Q (.ref p) (upd H p (.lst xs.reverse)))
    | none => False) := rfl
theorem v_min2 : cMin2 [.int i, .int j] H Q = Q (.int (if j < i then j else i)) H := rfl
theorem v_max2 : cMax2 [.int i, .int j] H Q = Q (.int (if j > i then j else i)) H := rfl
/-- what the known answers of sum, all, clear want -/
theorem sum_of {ns : List Int} (h : lstOf H a = some (ns.map V.int)) (q : Q (.int ns.sum) H) : rSum K [.ref a] H Q := ⟨a, ns, rfl, sq_lst h, q⟩
theorem all_of {bs : List Bool} (h : lstOf H a = some (bs.map V.bl)) (q : Q (.bl (bs.all id)) H) : rAll K [.ref a] H Q := ⟨a, bs, rfl, sq_lst h, q⟩
theorem v_clear : rClear (.ref a) [] H Q = ∃ xs, H a = some (.lst xs) ∧ Q .non (upd H a (.lst [])) := propext
  ⟨fun ⟨l, xs, e, _, h, q⟩ => by cases e; exact ⟨xs, h, q⟩, fun ⟨xs, h, q⟩ => ⟨a, xs, rfl, rfl, h, q⟩⟩
end
end Fw
set_option Elab.async false
set_option linter.all false
set_option maxRecDepth 100000
set_option maxHeartbeats 4000000
/-! list.remove of a text, list.count of a flat thing -/
namespace Fw
open PySem PySem.Spec PyProof.Rows L2
theorem str_ext : ∀ {a b : Str}, a.cps.toList = b.cps.toList → a = b := fun {a b} h => match a, b, h with
  | ⟨_⟩, ⟨_⟩, h => congrArg _ (Array.ext' h)
def eqs (x : Str) (v : Value) : Bool := match v with
  | .str y _ => y.cps.toList == x.cps.toList
  | _ => false
theorem eqs_gives {x : Str} {t : Tok} : ∀ {us : List Value} {xs : List Str}, StrsAre us xs → ∀ y ∈ us, MeetsSeq.EqGives y (.str x t) (eqs x y)
  | _, _, .nil => fun y hy => by cases hy
  | _, _, .cons n t' h => fun y hy => by
    rcases List.mem_cons.mp hy with e | e
    · rw [e]
      exact SeqRoads2.EqGives.str n x t' t
    · exact eqs_gives h y e
theorem strs_at : ∀ {us : List Value} {xs : List Str}, StrsAre us xs → ∀ {j : Nat} {x : Str}, xs[j]? = some x → ∃ t, us[j]? = some (.str x t)
  | _, _, .nil, j, x, h => by cases h
  | _, _, .cons n t r, 0, x, h => by
    cases h
    exact ⟨t, rfl⟩
  | _, _, .cons n t r, j + 1, x, h => strs_at r h
theorem erase_mapS (l : List Str) (j : Nat) : (l.map V.str).eraseIdx j = (l.eraseIdx j).map V.str := by
  induction l generalizing j with
  | nil => simp
  | cons a r ih =>
    cases j with
    | zero => simp
    | succ j => simp [ih]
section
variable {X : Cx}
/-- l.remove(x): the first of the texts that are x -/
def rRemS : V → List V → Hp → VK → Prop := fun x xs H Q => ∃ (l : Addr) (ns : List Str) (k : Str), x = .ref l ∧ xs = [.str k] ∧ H l = some (.lst (ns.map V.str)) ∧ k ∈ ns ∧ Q .non (upd H l (.lst ((ns.erase k).map V.str)))
theorem mt_removeS : MtR X "list.remove" rRemS := by
  intro pins s σ H x xs v us Q I rx rxs h
  obtain ⟨l, ns, k, rfl, rfl, hH, hk, q⟩ := h
  cases rx
  obtain ⟨u, rfl, ru⟩ := rxs.one
  obtain ⟨t, rfl⟩ := ru
  obtain ⟨z, its, n, r, hl, e⟩ := I.lstM hH
  have hi := r.strs
  rw [List.length_map] at hl z
  have hjn : ns.idxOf k < ns.length := List.idxOf_lt_length_of_mem hk
  have hjl : ns.idxOf k < its.toArray.size := by rw [List.size_toArray]; omega
  have er : ns.erase k = ns.eraseIdx (ns.idxOf k) := List.erase_eq_eraseIdx_of_idxOf rfl
  rw [er] at q
  refine call_meets PySem.F.slot_list_remove ⟨_, e, rfl⟩ PySem.F.entry_list_remove (PySem.F.args_list_remove_2 _ _)
    (MeetsSeq.list_remove l its.toArray n (.str k t) (eqs k) (fun y hy => eqs_gives hi y (by simpa using hy)) (ns.idxOf k) hjl ?_ ?_ (by rw [List.size_toArray]; omega)) ⟨e, ?_⟩
  · obtain ⟨tj, hjt⟩ := strs_at hi (List.getElem?_eq_getElem hjn)
    rw [List.getElem_idxOf hjn] at hjt
    obtain ⟨h1, h2⟩ := List.getElem?_eq_some_iff.mp hjt
    have e1 : its.toArray[ns.idxOf k] = .str k tj := by simpa using h2
    rw [e1]
    exact beq_self_eq_true _
  · intro m hm hmj
    have hmn : m < ns.length := by omega
    obtain ⟨tm, hmt⟩ := strs_at hi (List.getElem?_eq_getElem hmn)
    obtain ⟨h1, h2⟩ := List.getElem?_eq_some_iff.mp hmt
    have e1 : its.toArray[m] = .str ns[m] tm := by simpa using h2
    rw [e1]
    refine beq_eq_false_iff_ne.mpr fun e2 => ?_
    have e3 : ns[m] = k := str_ext e2
    have := List.not_of_lt_findIdx hmj
    simp [e3] at this
  · have rr := r.eraseIdx (ns.idxOf k)
    rw [erase_mapS] at rr
    refine ⟨.non, _, I.lset (its' := its.eraseIdx (ns.idxOf k)) (t' := s.toks) hH e ?_ rr ?_, rfl, q⟩
    · show its.toArray.eraseIdxIfInBounds (ns.idxOf k) = (its.eraseIdx (ns.idxOf k)).toArray
      rw [List.eraseIdxIfInBounds_toArray]
    · rw [List.length_map]
      exact Nat.le_trans (List.length_eraseIdx_le _ _) z
/-- l.count(y), all flat -/
def rCntF (K : PySem.W.Frag) : V → List V → Hp → VK → Prop := fun x xs H Q => ∃ (p : Addr) (ys : List V) (y : V), x = .ref p ∧ xs = [y] ∧ SqL K H p ys ∧ flatV y = true ∧ ys.all flatV = true ∧ Q (.int (ys.countP fun z => L2.eqV z y : Nat)) H
theorem cnt_eq {y : V} {ys : List V} {us : List Value} (r : Vals ys us) (f : ys.all flatV = true) : us.countP (eqU y) = ys.countP fun z => L2.eqV z y := by
  induction r with
  | nil => rfl
  | cons h t ih =>
    rw [List.all_cons, Bool.and_eq_true] at f
    rw [List.countP_cons, List.countP_cons, ih f.2, eqU_of h f.1]
theorem mt_countF : MtR X "list.count" (rCntF X.K) := by
  intro pins s σ H x xs v us Q I rx rxs h
  obtain ⟨p, ys, y, rfl, rfl, hs, fy, fys, q⟩ := h
  cases rx
  obtain ⟨u, rfl, ru⟩ := rxs.one
  obtain ⟨its, rv, ⟨⟨cls, dd, data, sl⟩, n, ho, hc, hdn, hd⟩, hlen⟩ := I.list hs
  simp only at hc hd
  subst hc hd
  refine call_meets PySem.F.slot_list_count ⟨_, ho, rfl⟩ PySem.F.entry_list_count (PySem.F.args_list_count_2 _ _)
    (SeqAt.list_countAt p its.toArray n dd sl u (eqU y)) ⟨ho, fun z hz => mem_eqAt ru fy rv fys z (by simpa using hz), ?_⟩
  have ec : its.toArray.toList.countP (eqU y) = ys.countP fun z => L2.eqV z y := cnt_eq rv fys
  refine ⟨.int (ys.countP fun z => L2.eqV z y : Nat), H, I.tok _, ⟨s.toks, ?_⟩, q⟩
  show Value.int ((its.toArray.toList.countP (eqU y) : Nat) : Int) s.toks = _
  rw [ec]
end
/-- list(x) of a list, a tuple, a dict -/
def cListA : List V → Hp → VK → Prop := fun vs H Q => match vs with
  | [.ref a] => (match lstOf H a with
    | some xs => ∀ p, H p = none → Q (.ref p) (upd H p (.lst xs))
    | none => (match tupOf H a with
      | some xs => ∀ p, H p = none → Q (.ref p) (upd H p (.lst xs))
      | none => (match dicOf H a with
        | some kvs => ∀ p, H p = none → Q (.ref p) (upd H p (.lst (kvs.map fun kv => kV kv.1)))
        | none => False)))
  | _ => False
theorem call_vListA {X : Cx} (hc : X.calm = true) : CallR X (.type "list") cListA := by
  intro pins s σ H xs us Q I r h
  unfold cListA at h
  split at h
  · rename_i a
    split at h
    · rename_i xs e
      exact call_list_of pins s σ H _ us Q I r ⟨a, xs, rfl, .inl (sq_lst e), h⟩
    · split at h
      · rename_i xs e
        exact call_list_of pins s σ H _ us Q I r ⟨a, xs, rfl, .inr (sq_tup e), h⟩
      · split at h
        · rename_i kvs e
          exact call_listD hc pins s σ H _ us Q I r ⟨a, kvs, rfl, rd_dic e, h⟩
        · exact h.elim
  · exact h.elim
/-- dict(d): a copy -/
def cDictA : List V → Hp → VK → Prop := fun vs H Q => match vs with
  | [.ref a] => (match dicOf H a with
    | some kvs => ∀ p, H p = none → Q (.ref p) (upd H p (.dK kvs))
    | none => False)
  | _ => False
theorem call_vDictA {X : Cx} : CallR X (.type "dict") cDictA := by
  intro pins s σ H xs us Q I r h
  unfold cDictA at h
  split at h
  · rename_i a
    split at h
    · rename_i kvs e
      exact call_dictD pins s σ H _ us Q I r ⟨a, kvs, rfl, rd_dic e, h⟩
    · exact h.elim
  · exact h.elim
section
variable {H : Hp} {Q : VK} {a : Addr}
theorem v_listA : cListA [.ref a] H Q = (match lstOf H a with
    | some xs => ∀ p, H p = none → Q (.ref p) (upd H p (.lst xs))
    | none => (match tupOf H a with
      | some xs => ∀ p, H p = none → Q (.ref p) (upd H p (.lst xs))
      | none => (match dicOf H a with
        | some kvs => ∀ p, H p = none → Q (.ref p) (upd H p (.lst (kvs.map fun kv => kV kv.1)))
        | none => False))) := rfl
theorem v_dictA : cDictA [.ref a] H Q = (match dicOf H a with
    | some kvs => ∀ p, H p = none → Q (.ref p) (upd H p (.dK kvs))
    | none => False) := rfl
end
end Fw
set_option Elab.async false
set_option linter.all false
set_option maxRecDepth 100000
set_option maxHeartbeats 4000000
/-! dicts: setdefault, get, comprehensions, walks (locked); lists: pop, reverse, truth -/
namespace Fw
open PySem PySem.Spec PyProof.Rows L2
section
variable {K : PySem.W.Frag} {σ : L2.St} {H : Hp} {D : Ends} {Q : VK} {QA : List V → Hp → Prop} {td ty tx te : TE} {t : TA} {a d : Addr} {kvs : List (Key × V)}
theorem v_isD (h : (dicOf H a).isSome = true) : IsD H a = True := by
  obtain ⟨kvs, e⟩ := Option.isSome_iff_exists.mp h
  exact eq_true (.inl ⟨kvs, rd_dic e⟩)
/-- d.setdefault(y, z) -/
theorem b_dsetd : tDSetd td ty tx σ H Q = td σ H fun x H1 => (∃ a, x = .ref a ∧ IsD H1 a ∧ ty σ H1 fun y H2 => tx σ H2 fun z H3 => ∃ (kvs : List (Key × V)) (k : Key), H3 a = some (.dK kvs) ∧ y = kV k ∧ kvs.length < sizeLine ∧
  (∀ v, valV kvs k = some v → Q v H3) ∧ (valV kvs k = none → Q z (upd H3 a (.dK (putK kvs k z))))) := rfl
/-- d.get(y, z): d's pairs known -/
def vGet (kvs : List (Key × V)) (y z : V) (H : Hp) (Q : VK) : Prop := match keyOf y with
  | some k => (match valV kvs k with
    | some v => Q v H
    | none => Q z H)
  | none => False
theorem dget_use {y z : V} (h : dicOf H a = some kvs) (q : vGet kvs y z H Q) : ∃ o, DGet H a y o ∧ Q (o.getD z) H := by
  unfold vGet at q
  split at q
  · rename_i k ek
    refine ⟨valV kvs k, dget_of h ek, ?_⟩
    split at q
    · rename_i v ev
      rw [ev]
      exact q
    · rename_i ev
      rw [ev]
      exact q
  · exact q.elim
theorem a_dget2 : tDGet2 td ty tx σ H Q = td σ H fun x H1 => ∃ a, x = .ref a ∧ IsD H1 a ∧ ty σ H1 fun y H2 => tx σ H2 fun z H3 => ∃ o, DGet H3 a y o ∧ Q (o.getD z) H3 := rfl
theorem a_star : StX.tStar K te t σ H QA = te σ H fun x H1 => ∃ p xs, x = V.ref p ∧ (SqT K H1 p xs ∨ SqL K H1 p xs) ∧ t σ H1 fun ys H2 => QA (xs ++ ys) H2 := rfl
theorem v_pop : rPop (.ref a) [] H Q = (∃ xs y, H a = some (.lst xs) ∧ xs[xs.length - 1]? = some y ∧ Q y (upd H a (.lst xs.dropLast))) := propext
  ⟨fun ⟨l, xs, y, e, _, h, hy, q⟩ => by cases e; exact ⟨xs, y, h, hy, q⟩, fun ⟨xs, y, h, hy, q⟩ => ⟨a, xs, y, rfl, rfl, h, hy, q⟩⟩
theorem v_reverse : rReverse (.ref a) [] H Q = (∃ xs, H a = some (.lst xs) ∧ Q .non (upd H a (.lst xs.reverse))) := propext
  ⟨fun ⟨l, xs, e, _, h, q⟩ => by cases e; exact ⟨xs, h, q⟩, fun ⟨xs, h, q⟩ => ⟨a, xs, rfl, rfl, h, q⟩⟩
/-- a list's truth -/
def vTru : V → Hp → (Bool → Hp → Prop) → Prop := fun x H Q => match x with
  | .ref a => (match lstOf H a with
    | some xs => Q (!xs.isEmpty) H
    | none => False)
  | _ => False
def tTru1 (te : TE) : TT := fun σ H Q => te σ H fun x H1 => vTru x H1 Q
theorem tru_v {X : Cx} : TruR X vTru := by
  intro pins s σ H x v Q I r q
  unfold vTru at q
  split at q
  · split at q
    · rename_i xs e
      exact tru_ok pins s σ H _ v Q I r ⟨_, .inl ⟨xs, sq_lst e, rfl⟩, q⟩
    · exact q.elim
  · exact q.elim
theorem pt_tru1 {X : Cx} {e : Expr} (h : PE X e te) (hw : ∀ whole, isTrue e X.env whole = (do let v ← whole; standAt e.pos; holding [v] (truthy v)) := by intro _; rfl) : PT X e (tTru1 te) := pt_truthR h tru_v hw
theorem a_tru1 {QB : Bool → Hp → Prop} : tTru1 te σ H QB = te σ H fun x H1 => vTru x H1 QB := rfl
theorem v_tru_r {QB : Bool → Hp → Prop} : vTru (.ref a) H QB = (match lstOf H a with
    | some xs => QB (!xs.isEmpty) H
    | none => False) := rfl
end
/-! ### walks over a dict: locked -/
section
variable {K : PySem.W.Frag} {tl : TE} {d a : Addr} {kvs : List (Key × V)} {g : TG} {tb : TS} {D : Ends} {σ : L2.St} {H : Hp} {xs : List V}
/-- for k in d -/
theorem f_keys (hd0 : H d = some (.dK kvs)) (ht : ∀ (od : Obj) (Q : VK), Q (.ref d) (upd H d (.frz od (.dK kvs))) → tl σ (upd H d (.frz od (.dK kvs))) Q) (Pv : Obj → Nat → L2.St → Hp → Prop) (h0 : ∀ od, Pv od 0 σ (upd H d (.frz od (.dK kvs))))
    (hl : ∀ od i σ H, Pv od i σ H → H d = some (.frz od (.dK kvs)))
    (hs : ∀ od i k (v : V) σ H' (N : L2.St → Hp → Prop), kvs[i]? = some (k, v) → Pv od i σ H' → (∀ σ' H2, Pv od (i + 1) σ' H2 → N σ' H2) →
      g (kV k) σ H' fun σ2 H2 => tb ⟨N, fun z H' => H' d = some (.frz od (.dK kvs)) ∧ D.rt z (upd H' d (.dK kvs)), fun σ' H' => H' d = some (.frz od (.dK kvs)) ∧ D.nx σ' (upd H' d (.dK kvs)), N⟩ σ2 H2)
    (hd : ∀ od σ H', Pv od kvs.length σ H' → D.nx σ (upd H' d (.dK kvs))) : tLock (tFor (iKeys tl) g tb) D σ H := by
  refine ⟨d, _, hd0, trivial, fun od => ht od _ ⟨d, od, rfl, .inl ⟨kvs, upd_same, ?_⟩⟩⟩
  refine for_it walk_keys (Pv od) (h0 od) (fun i σ H _ p => hl od i σ H p) (fun i x σ H1 H' hi p y => ?_) fun σ H' p => ⟨hl od _ _ _ p, hd od σ H' p⟩
  obtain ⟨e, k, v, hk, rfl⟩ := y
  rw [e]
  exact hs od i k v σ H1 _ hk p fun _ _ z => z
/-- for k, v in d.items() -/
theorem f_items (hd0 : H d = some (.dK kvs)) (ht : ∀ (od : Obj) (Q : VK), Q (.ref d) (upd H d (.frz od (.dK kvs))) → tl σ (upd H d (.frz od (.dK kvs))) Q) (Pv : Obj → Nat → L2.St → Hp → Prop) (h0 : ∀ od, Pv od 0 σ (upd H d (.frz od (.dK kvs))))
    (hl : ∀ od i σ H, Pv od i σ H → H d = some (.frz od (.dK kvs)))
    (hs : ∀ od i k v σ H' T (N : L2.St → Hp → Prop), kvs[i]? = some (k, v) → Pv od i σ H' → H' T = none → (∀ σ' H2, Pv od (i + 1) σ' H2 → N σ' H2) →
      g (.ref T) σ (upd H' T (.tup [kV k, v])) fun σ2 H2 => tb ⟨N, fun z H' => H' d = some (.frz od (.dK kvs)) ∧ D.rt z (upd H' d (.dK kvs)), fun σ' H' => H' d = some (.frz od (.dK kvs)) ∧ D.nx σ' (upd H' d (.dK kvs)), N⟩ σ2 H2)
    (hd : ∀ od σ H', Pv od kvs.length σ H' → D.nx σ (upd H' d (.dK kvs))) : tLock (tFor (iItems tl) g tb) D σ H := by
  refine ⟨d, _, hd0, trivial, fun od => ht od _ ⟨d, od, kvs, rfl, upd_same, ?_⟩⟩
  refine for_it walk_items (Pv od) (h0 od) (fun i σ H _ p => hl od i σ H p) (fun i x σ H1 H' hi p y => ?_) fun σ H' p => ⟨hl od _ _ _ p, hd od σ H' p⟩
  obtain ⟨T, x1, x2, rfl, hT, e, h1, h2⟩ := y
  obtain ⟨⟨k, v⟩, hk, hkv⟩ : ∃ kv, kvs[i]? = some kv ∧ x1 = kV kv.1 ∧ x2 = kv.2 := by
    obtain ⟨kv, e1, e2⟩ := Option.map_eq_some_iff.mp h1
    obtain ⟨kv2, e3, e4⟩ := Option.map_eq_some_iff.mp h2
    rw [e1] at e3
    cases e3
    exact ⟨kv, e1, e2.symm, e4.symm⟩
  obtain ⟨e5, e6⟩ := hkv
  rw [e, e5, e6]
  exact hs od i k v σ H1 T _ hk p hT fun _ _ z => z
/-- for i, x in enumerate(l) -/
theorem f_enum {ta : TA} (ht : ∀ Q : List V → Hp → Prop, Q [.ref a] H → ta σ H Q) (hq : SqL K H a xs) (Pv : Nat → L2.St → Hp → Prop) (h0 : Pv 0 σ H)
    (hl : ∀ i σ H, i ≤ xs.length → Pv i σ H → SqL K H a xs)
    (hs : ∀ i x σ H' T (N : L2.St → Hp → Prop), xs[i]? = some x → Pv i σ H' → H' T = none → (∀ σ' H2, Pv (i + 1) σ' H2 → N σ' H2) →
      g (.ref T) σ (upd H' T (.tup [.int (i : Nat), x])) fun σ2 H2 => tb { D with nx := N, ct := N, bk := D.nx } σ2 H2) (hd : ∀ σ H, Pv xs.length σ H → D.nx σ H) :
    tFor (iEnum K ta) g tb D σ H := by
  refine ht _ ⟨a, xs, rfl, hq, ?_⟩
  refine for_it walk_enum Pv h0 (fun i σ H hi p => hl i σ H hi p) (fun i x σ H1 H' hi p y => ?_) hd
  obtain ⟨T, x1, x2, rfl, hT, e, h1, h2⟩ := y
  cases h1
  rw [e]
  exact hs i x2 σ H1 T _ h2 p hT fun _ _ z => z
/-! ### comprehensions -/
/-- [e for k in d if t] -/
theorem c_keys {tt : TT} {te : TE} {vs : List Nat} {Q : VK} (hd0 : H d = some (.dK kvs)) (ht : ∀ (od : Obj) (Q : VK), Q (.ref d) (upd H d (.frz od (.dK kvs))) → tl σ (upd H d (.frz od (.dK kvs))) Q) (Pv : Obj → Addr → Nat → Hp → Prop)
    (h0 : ∀ od p, upd H d (.frz od (.dK kvs)) p = none → Pv od p 0 (upd (upd H d (.frz od (.dK kvs))) p (.lst []))) (hl : ∀ od p i H', upd H d (.frz od (.dK kvs)) p = none → Pv od p i H' → H' d = some (.frz od (.dK kvs)))
    (hs : ∀ od p i k v H' (N : Hp → Prop), upd H d (.frz od (.dK kvs)) p = none → kvs[i]? = some (k, v) → Pv od p i H' → (∀ H2, Pv od p (i + 1) H2 → N H2) → g (kV k) (wipe σ vs) H' fun σ2 H2 => wipe σ2 vs = wipe σ vs ∧ tt σ2 H2 fun b H3 =>
      if b = true then te σ2 H3 fun y H4 => ∃ acc, H4 p = some (.lst acc) ∧ acc.length < sizeLine ∧ N (upd H4 p (.lst (acc ++ [y]))) else N H3)
    (hd : ∀ od p H', upd H d (.frz od (.dK kvs)) p = none → Pv od p kvs.length H' → Q (.ref p) (upd H' d (.dK kvs))) : tLockE (tLc (iKeys tl) g tt te vs) σ H Q := by
  refine ⟨d, _, hd0, trivial, fun od => ht od _ ⟨d, od, rfl, .inl ⟨kvs, upd_same, fun p hp => ?_⟩⟩⟩
  refine lc_it walk_keys (Pv od p) (h0 od p hp) (fun i H _ q => hl od p i H hp q) (fun i x H1 H' hi q y => ?_) fun H' q => ⟨hl od p _ _ hp q, hd od p H' hp q⟩
  obtain ⟨e, k, v, hk, rfl⟩ := y
  rw [e]
  exact hs od p i k v H1 _ hp hk q fun _ z => z
/-- a dict comprehension over it -/
theorem dc_it {J : It} {n : Nat} {G : Hp → Prop} {Y : Nat → Hp → V → Hp → Prop} (w : Walk J n G Y) {g : TG} {tt : TT} {tk tv : TE} {vs : List Nat} {σ : L2.St} {H1 : Hp} {D : Addr} {Qd : Hp → Prop} (Pv : Nat → Hp → Prop) (h0 : Pv 0 (upd H1 D (.dK []))) (hG : ∀ i H, i ≤ n → Pv i H → G H)
    (hs : ∀ i x H H', i < n → Pv i H → Y i H x H' → g x (wipe σ vs) H' fun σ2 H2 => wipe σ2 vs = wipe σ vs ∧ tt σ2 H2 fun b H3 =>
      if b = true then tk σ2 H3 fun y H4 => tv σ2 H4 fun z H5 => ∃ kvs k, y = kV k ∧ H5 D = some (.dK kvs) ∧ kvs.length < sizeLine ∧ Pv (i + 1) (upd H5 D (.dK (putK kvs k z))) else Pv (i + 1) H3) (hd : ∀ H, Pv n H → Qd H) :
    ∃ W : Nat → Nat → Hp → Prop, (∃ m, W 0 m (upd H1 D (.dK []))) ∧ ∀ i m H, W i m H →
      (J.stop i H ∧ Qd H) ∨ (J.go i H ∧ ∃ Nx : Hp → Prop, (∀ H', Nx H' → ∃ m', m' < m ∧ W (i + 1) m' H') ∧ ∀ x H', J.yld i H x H' → g x (wipe σ vs) H' fun σ2 H2 => wipe σ2 vs = wipe σ vs ∧ tt σ2 H2 fun b H3 =>
        if b = true then tk σ2 H3 fun y H4 => tv σ2 H4 fun z H5 => ∃ kvs k, y = kV k ∧ H5 D = some (.dK kvs) ∧ kvs.length < sizeLine ∧ Nx (upd H5 D (.dK (putK kvs k z))) else Nx H3) := by
  refine ⟨fun i m H => m = n - i ∧ i ≤ n ∧ Pv i H, ⟨n, by simp, Nat.zero_le _, h0⟩, ?_⟩
  rintro i m H ⟨rfl, hi, p⟩
  have q := hG i H hi p
  by_cases hlt : i < n
  · exact .inr ⟨w.goes i H hlt q, Pv (i + 1), fun H' p' => ⟨n - (i + 1), by omega, rfl, hlt, p'⟩, fun x H' y => hs i x H H' hlt p (w.yields i H x H' hlt q y)⟩
  · have e : i = n := by omega
    subst e
    exact .inl ⟨w.stops H q, hd H p⟩
/-- {e: f for x in l} -/
theorem dc_lst {tt : TT} {tk tv : TE} {vs : List Nat} {Q : VK} (Ha : Hp) (ht : ∀ R : VK, R (.ref a) Ha → tl σ H R) (hq : SqL K Ha a xs) (Pv : Addr → Nat → Hp → Prop)
    (h0 : ∀ p, Ha p = none → Pv p 0 (upd Ha p (.dK []))) (hl : ∀ p (i : Nat) H', Ha p = none → i ≤ xs.length → Pv p i H' → SqL K H' a xs)
    (hs : ∀ p (i : Nat) x H' (N : Hp → Prop), Ha p = none → xs[i]? = some x → Pv p i H' → (∀ H2, Pv p (i + 1) H2 → N H2) → g x (wipe σ vs) H' fun σ2 H2 => wipe σ2 vs = wipe σ vs ∧ tt σ2 H2 fun b H3 =>
      if b = true then tk σ2 H3 fun y H4 => tv σ2 H4 fun z H5 => ∃ kvs k, y = kV k ∧ H5 p = some (.dK kvs) ∧ kvs.length < sizeLine ∧ N (upd H5 p (.dK (putK kvs k z))) else N H3)
    (hd : ∀ p H', Ha p = none → Pv p xs.length H' → Q (.ref p) H') : tDc (iList K tl) g tt tk tv vs σ H Q := by
  refine ht _ ⟨a, rfl, ⟨xs, hq⟩, fun p hp => ?_⟩
  refine dc_it walk_list (Pv p) (h0 p hp) (fun i H' hi q => hl p i H' hp hi q) (fun i x H1 H' hi q y => ?_) fun H' q => hd p H' hp q
  obtain ⟨e, hx⟩ := y
  rw [e]
  exact hs p i x H1 _ hp hx q fun _ z => z
/-- {e: f for i, x in enumerate(l)} -/
theorem dc_enum {ta : TA} {tt : TT} {tk tv : TE} {vs : List Nat} {Q : VK} (ht : ∀ R : List V → Hp → Prop, R [.ref a] H → ta σ H R) (hq : SqL K H a xs) (Pv : Addr → Nat → Hp → Prop)
    (h0 : ∀ p, H p = none → Pv p 0 (upd H p (.dK []))) (hl : ∀ p (i : Nat) H', H p = none → i ≤ xs.length → Pv p i H' → SqL K H' a xs)
    (hs : ∀ p (i : Nat) x H' T (N : Hp → Prop), H p = none → xs[i]? = some x → Pv p i H' → H' T = none → (∀ H2, Pv p (i + 1) H2 → N H2) → g (.ref T) (wipe σ vs) (upd H' T (.tup [.int (i : Nat), x])) fun σ2 H2 => wipe σ2 vs = wipe σ vs ∧ tt σ2 H2 fun b H3 =>
      if b = true then tk σ2 H3 fun y H4 => tv σ2 H4 fun z H5 => ∃ kvs k, y = kV k ∧ H5 p = some (.dK kvs) ∧ kvs.length < sizeLine ∧ N (upd H5 p (.dK (putK kvs k z))) else N H3)
    (hd : ∀ p H', H p = none → Pv p xs.length H' → Q (.ref p) H') : tDc (iEnum K ta) g tt tk tv vs σ H Q := by
  refine ht _ ⟨a, xs, rfl, hq, fun p hp => ?_⟩
  refine dc_it walk_enum (Pv p) (h0 p hp) (fun i H' hi q => hl p i H' hp hi q) (fun i x H1 H' hi q y => ?_) fun H' q => hd p H' hp q
  obtain ⟨T, x1, x2, rfl, hT, e, h1, h2⟩ := y
  cases h1
  rw [e]
  exact hs p i x2 H1 T _ hp h2 q hT fun _ z => z
end
/-! ### x = {k: v for ..} -/
section
variable {X : Cx} {i : Nat} {y : Str} {py : Pos} {kx vx tg iter : Expr} {ifs : List Expr} {scope : Scope} {own : List (Str × Nat)} {pos spos : Pos} {wi : TI} {g : TG} {tt : TT} {tk tv : TE}
theorem ps_setDc (hc : X.calm = true) (hN : X.N.Nodup) (hy : X.N[i]? = some y) (hyl : X.env.scope.names.lookup y = some .local)
    (hsw : swapsWith (.DictComp kx vx [⟨tg, iter, ifs, 0⟩] scope pos) (some (.Name y py)) spos.line X.env = pure true) (hi : PI X tg iter wi) (ok : BlkOk X.N X.env.scope scope own)
    (hg : ∀ (s : Shared) (H : Hp) (C : Addr) (cl : List (Str × Addr)) (fp : List Addr), PG (X.blk s H scope (compEnvC scope cl C X.env) fp) tg g)
    (ht : ∀ (s : Shared) (H : Hp) (C : Addr) (cl : List (Str × Addr)) (fp : List Addr), PTs (X.blk s H scope (compEnvC scope cl C X.env) fp) ifs tt)
    (hk : ∀ (s : Shared) (H : Hp) (C : Addr) (cl : List (Str × Addr)) (fp : List Addr), PE (X.blk s H scope (compEnvC scope cl C X.env) fp) kx tk)
    (he : ∀ (s : Shared) (H : Hp) (C : Addr) (cl : List (Str × Addr)) (fp : List Addr), PE (X.blk s H scope (compEnvC scope cl C X.env) fp) vx tv) (hs : ∀ x, foldedSetIterable iter X.env x = pure x := by intro _; rfl) :
    PS X (.Assign [.Name y py] (.DictComp kx vx [⟨tg, iter, ifs, 0⟩] scope pos) spos) (tAsg (tDc wi g tt tk tv (own.map (·.2))) (gName i)) := by
  refine ⟨fun pins s σ H D I w => ?_⟩
  rw [exec_Assign_Name_used _ _ _ _ hsw]
  have w2 : tDc wi g tt tk tv (own.map (·.2)) σ H (fun x H1 => gName i x σ H1 D.nx) := w
  refine wpAny_bind (wpAny_standAt (wpAny_bind (wpAny_bind (thn (dc_core (Qf := fun _ t => SP X pins D .next t) hc hN I hi ok hg ht hk he hs w2 fun L C t m H1 I1 q hn f => ?_) fun _ t z => wpAny_pure (wpAny_pure z)))))
  refine wpAny_assign_Name (store_ok2 (v := V.ref L) I1 hN hy (.inl hyl) rfl (fun t2 I2 ⟨a, sb, ha⟩ => ?_) (.inr hyl))
  obtain ⟨f0, f1, f2, f3, f4, f5⟩ := f
  have ne : C ≠ a := ha.elim (fun z => z ▸ f1) fun z e => f4 y a z e.symm
  exact ⟨m, hn.sameBut sb ne, fun h3 sb3 => ⟨_, H1, I2.turned (t' := t2.toks) (fun b o hb e => (sb3.2 b hb).trans e) f0 f1 f3 f4 f5, q⟩⟩
theorem sw_trueD {gs : List Comprehension} {l : Nat} {env : Env} (hk : env.scope.kind = .function) (hy : env.scope.names.lookup y = some .local) (hl : (py.line == pos.line) = true)
    (ha : (scope.names.any fun (n, k) => n == y && (k == .local || k == .cell)) = false) : swapsWith (.DictComp kx vx gs scope pos) (some (.Name y py)) l env = pure true := by
  have k1 : env.kindOf y = some .local := hy
  have k2 : env.blockKind = .function := by unfold Env.blockKind; rw [hk]; rfl
  unfold swapsWith
  simp only [k1, k2, ha, Expr.pos, hl]
  rfl
end
/-! ### (a, b) = a list or a tuple -/
def gSeq (n : Nat) (t : TGs) : TG := fun v σ H Q => match v with
  | .ref a => (match lstOf H a with
    | some xs => xs.length = n ∧ t xs σ H Q
    | none => (match tupOf H a with
      | some xs => xs.length = n ∧ t xs σ H Q
      | none => False))
  | _ => False
theorem pg_seq {X : Cx} {es : List Expr} {k : Nat} {t : TGs} {n : Nat} {pos : Pos} (hc : X.calm = true) (h : PGs X es t)
    (hn : (assignEach es X.env).length = n := by rfl) (hst : (assignEach es X.env).findIdx? (·.1) = none := by rfl) : PG X (.Tuple es k pos) (gSeq n t) := by
  refine ⟨fun pins s σ H v u Q I r w => ?_⟩
  unfold gSeq at w
  split at w
  · rename_i a
    split at w
    · rename_i xs e
      exact (pg_lst (pos := pos) hc h hn hst).run pins s σ H _ u Q I r ⟨a, xs, rfl, sq_lst e, w⟩
    · split at w
      · rename_i xs e
        exact (pg_tup (pos := pos) hc h hn hst).run pins s σ H _ u Q I r ⟨a, xs, rfl, sq_tup e, w⟩
      · exact w.elim
  · exact w.elim
theorem a_gseq {n : Nat} {t : TGs} {a : Addr} {σ : L2.St} {H : Hp} {QS : L2.St → Hp → Prop} : gSeq n t (.ref a) σ H QS = (match lstOf H a with
    | some xs => xs.length = n ∧ t xs σ H QS
    | none => (match tupOf H a with
      | some xs => xs.length = n ∧ t xs σ H QS
      | none => False)) := rfl
/-- gCons by cases -/
theorem b_gcons {g : TG} {gs : TGs} {v : V} {vs : List V} {σ : L2.St} {H : Hp} {QS : L2.St → Hp → Prop} : gCons g gs (v :: vs) σ H QS = g v σ H fun σ' H' => gs vs σ' H' QS := propext
  ⟨fun ⟨z, q, e, w⟩ => (by cases e; exact w), fun w => ⟨v, vs, rfl, w⟩⟩
theorem b_gnil {σ : L2.St} {H : Hp} {QS : L2.St → Hp → Prop} : gNil [] σ H QS = QS σ H := propext ⟨fun w => w.2, fun w => ⟨rfl, w⟩⟩
/-! ### heaps: locked and unlocked -/
theorem same_unlock {H H2 : Hp} {d : Addr} {o f : HO} (h : H d = some o) (s : Same (upd H d f) H2) : Same H (upd H2 d o) := fun b u e => by
  by_cases c : b = d
  · rw [c, h] at e
    rw [c, upd_same, e]
  · rw [upd_ne c]
    exact s b u (by rw [upd_ne c]; exact e)
theorem none_lock {H : Hp} {d p : Addr} {f : HO} (h : upd H d f p = none) : p ≠ d ∧ H p = none := by
  by_cases c : p = d
  · rw [c, upd_same] at h
    cases h
  · exact ⟨c, by rw [upd_ne c] at h; exact h⟩
theorem same_none {H H' : Hp} {p : Addr} (s : Same H H') (h : H' p = none) : H p = none := by
  cases e : H p with
  | none => rfl
  | some o => rw [s _ _ e] at h; cases h
theorem at_lock {H : Hp} {d a : Addr} {o u f : HO} (h : H d = some o) (h2 : H a = some u) (ne : o ≠ u) : upd H d f a = some u := by
  rw [upd_ne fun e => ne (by rw [e, h] at h2; exact Option.some.inj h2)]
  exact h2
/-! ### what is walked is evaluated first -/
section
variable {K : PySem.W.Frag} {tl : TE} {ta : TA} {a : Addr} {g : TG} {tb : TS} {D : Ends} {σ : L2.St} {H : Hp} {xs : List V} {Q : VK} {tt : TT} {te tk tv : TE} {ws : List Nat} {x : V} {vs : List V} {n : Nat}
def goFor (K : PySem.W.Frag) (x : V) (g : TG) (tb : TS) (D : Ends) (σ : L2.St) (H : Hp) : Prop := tFor (iList K (tC x)) g tb D σ H
theorem a_forL : tFor (iList K tl) g tb D σ H = tl σ H fun x H1 => goFor K x g tb D σ H1 := rfl
theorem go_for (hq : SqL K H a xs) (Pv : Nat → L2.St → Hp → Prop) (h0 : Pv 0 σ H) (hl : ∀ i σ H, i ≤ xs.length → Pv i σ H → SqL K H a xs)
    (hs : ∀ i x σ H (N : L2.St → Hp → Prop), xs[i]? = some x → Pv i σ H → (∀ σ' H', Pv (i + 1) σ' H' → N σ' H') → g x σ H fun σ2 H2 => tb { D with nx := N, ct := N, bk := D.nx } σ2 H2) (hd : ∀ σ H, Pv xs.length σ H → D.nx σ H) :
    goFor K (.ref a) g tb D σ H := f_lst (fun _ z => z) hq Pv h0 hl hs hd
def goLc (K : PySem.W.Frag) (x : V) (g : TG) (tt : TT) (te : TE) (ws : List Nat) (σ : L2.St) (H : Hp) (Q : VK) : Prop := tLc (iList K (tC x)) g tt te ws σ H Q
theorem a_lcL : tLc (iList K tl) g tt te ws σ H Q = tl σ H fun x H1 => goLc K x g tt te ws σ H1 Q := rfl
theorem go_lc (hq : SqL K H a xs) (Pv : Addr → Nat → Hp → Prop)
    (h0 : ∀ d, H d = none → Pv d 0 (upd H d (.lst []))) (hl : ∀ d (i : Nat) H', H d = none → i ≤ xs.length → Pv d i H' → SqL K H' a xs)
    (hs : ∀ d (i : Nat) x H' (N : Hp → Prop), H d = none → xs[i]? = some x → Pv d i H' → (∀ H2, Pv d (i + 1) H2 → N H2) → g x (wipe σ ws) H' fun σ2 H2 => wipe σ2 ws = wipe σ ws ∧ tt σ2 H2 fun b H3 =>
      if b = true then te σ2 H3 fun y H4 => ∃ acc, H4 d = some (.lst acc) ∧ acc.length < sizeLine ∧ N (upd H4 d (.lst (acc ++ [y]))) else N H3)
    (hd : ∀ d H', H d = none → Pv d xs.length H' → Q (.ref d) H') : goLc K (.ref a) g tt te ws σ H Q := c_lst (fun _ z => z) hq Pv h0 hl hs hd
def goDc (K : PySem.W.Frag) (x : V) (g : TG) (tt : TT) (tk tv : TE) (ws : List Nat) (σ : L2.St) (H : Hp) (Q : VK) : Prop := tDc (iList K (tC x)) g tt tk tv ws σ H Q
theorem a_dcL : tDc (iList K tl) g tt tk tv ws σ H Q = tl σ H fun x H1 => goDc K x g tt tk tv ws σ H1 Q := rfl
theorem go_dc (hq : SqL K H a xs) (Pv : Addr → Nat → Hp → Prop)
    (h0 : ∀ p, H p = none → Pv p 0 (upd H p (.dK []))) (hl : ∀ p (i : Nat) H', H p = none → i ≤ xs.length → Pv p i H' → SqL K H' a xs)
    (hs : ∀ p (i : Nat) x H' (N : Hp → Prop), H p = none → xs[i]? = some x → Pv p i H' → (∀ H2, Pv p (i + 1) H2 → N H2) → g x (wipe σ ws) H' fun σ2 H2 => wipe σ2 ws = wipe σ ws ∧ tt σ2 H2 fun b H3 =>
      if b = true then tk σ2 H3 fun y H4 => tv σ2 H4 fun z H5 => ∃ kvs k, y = kV k ∧ H5 p = some (.dK kvs) ∧ kvs.length < sizeLine ∧ N (upd H5 p (.dK (putK kvs k z))) else N H3)
    (hd : ∀ p H', H p = none → Pv p xs.length H' → Q (.ref p) H') : goDc K (.ref a) g tt tk tv ws σ H Q := dc_lst H (fun _ z => z) hq Pv h0 hl hs hd
def goDe (K : PySem.W.Frag) (vs : List V) (g : TG) (tt : TT) (tk tv : TE) (ws : List Nat) (σ : L2.St) (H : Hp) (Q : VK) : Prop := tDc (iEnum K fun _ H R => R vs H) g tt tk tv ws σ H Q
theorem a_dcE : tDc (iEnum K ta) g tt tk tv ws σ H Q = ta σ H fun vs H1 => goDe K vs g tt tk tv ws σ H1 Q := rfl
theorem go_de (hq : SqL K H a xs) (Pv : Addr → Nat → Hp → Prop)
    (h0 : ∀ p, H p = none → Pv p 0 (upd H p (.dK []))) (hl : ∀ p (i : Nat) H', H p = none → i ≤ xs.length → Pv p i H' → SqL K H' a xs)
    (hs : ∀ p (i : Nat) x H' T (N : Hp → Prop), H p = none → xs[i]? = some x → Pv p i H' → H' T = none → (∀ H2, Pv p (i + 1) H2 → N H2) → g (.ref T) (wipe σ ws) (upd H' T (.tup [.int (i : Nat), x])) fun σ2 H2 => wipe σ2 ws = wipe σ ws ∧ tt σ2 H2 fun b H3 =>
      if b = true then tk σ2 H3 fun y H4 => tv σ2 H4 fun z H5 => ∃ kvs k, y = kV k ∧ H5 p = some (.dK kvs) ∧ kvs.length < sizeLine ∧ N (upd H5 p (.dK (putK kvs k z))) else N H3)
    (hd : ∀ p H', H p = none → Pv p xs.length H' → Q (.ref p) H') : goDe K [.ref a] g tt tk tv ws σ H Q := dc_enum (fun _ z => z) hq Pv h0 hl hs hd
def goRng (vs : List V) (g : TG) (tb : TS) (D : Ends) (σ : L2.St) (H : Hp) : Prop := tFor (iRng1 fun _ H R => R vs H) g tb D σ H
theorem a_forR : tFor (iRng1 ta) g tb D σ H = ta σ H fun vs H1 => goRng vs g tb D σ H1 := rfl
theorem go_rng {k : Int} (n : Nat) (hk : k = (n : Int)) (hn : n ≤ 1000000000) (Pv : Nat → L2.St → Hp → Prop) (h0 : Pv 0 σ H)
    (hs : ∀ (i : Nat) σ H (N : L2.St → Hp → Prop), i < n → Pv i σ H → (∀ σ' H', Pv (i + 1) σ' H' → N σ' H') → g (.int (i : Int)) σ H fun σ2 H2 => tb { D with nx := N, ct := N, bk := D.nx } σ2 H2) (hd : ∀ σ H, Pv n σ H → D.nx σ H) :
    goRng [.int k] g tb D σ H := by
  subst hk
  exact f_rng n hn (fun _ z => z) Pv h0 hs hd
end
end Fw
namespace Fw
open PySem PySem.Spec PyProof.Rows L2
/-- x = a value that is made under a lock -/
theorem s_lock {te : TE} {i : Nat} {D : Ends} {σ : L2.St} {H : Hp} (h : tLockE te σ H fun v H' => D.nx (σ.set i (some v)) H') : tLock (tAsg te (gName i)) D σ H := h
theorem putK_le {kvs : List (Key × V)} {k : Key} {v : V} : (putK kvs k v).length ≤ kvs.length + 1 := by
  unfold putK
  split
  · rw [List.length_map]
    exact Nat.le_succ _
  · rw [List.length_append]
    exact Nat.le_refl _
/-- a dict whose keys are these texts (told twice or not) -/
def SetAt (H : Hp) (p : Addr) (l : List Str) : Prop := ∃ kvs, H p = some (.dK kvs) ∧ kvs.length ≤ l.length ∧ ∀ x, (valV kvs (.inr x)).isSome = decide (x ∈ l)
theorem SetAt.same {H H' : Hp} {p : Addr} {l : List Str} (h : SetAt H p l) (s : Same H H') : SetAt H' p l := by
  obtain ⟨kvs, e, h1, h2⟩ := h
  exact ⟨kvs, s _ _ e, h1, h2⟩
theorem SetAt.nil {H : Hp} {p : Addr} (h : H p = some (.dK [])) : SetAt H p [] := ⟨[], h, Nat.le_refl _, fun x => by simp; rfl⟩
theorem SetAt.put {H : Hp} {p : Addr} {l : List Str} (h : SetAt H p l) : ∃ kvs, H p = some (.dK kvs) ∧ kvs.length ≤ l.length ∧ (∀ x, (valV kvs (.inr x)).isSome = decide (x ∈ l)) ∧
    ∀ H' x v, SetAt (upd H' p (.dK (putK kvs (.inr x) v))) p (l ++ [x]) := by
  obtain ⟨kvs, e, h1, h2⟩ := h
  refine ⟨kvs, e, h1, h2, fun H' x v => ⟨_, upd_same, ?_, fun y => ?_⟩⟩
  · rw [List.length_append]
    exact Nat.le_trans putK_le (Nat.succ_le_succ h1)
  · rw [valV_put]
    by_cases c : y = x
    · simp [c]
    · rw [if_neg (fun z => c (by injection z)), h2]
      simp [c]
theorem nodup_take {l : List Str} {i : Nat} {x : Str} (h : l.Nodup) (e : l[i]? = some x) : x ∉ l.take i := fun z => by
  obtain ⟨j, hj, e1⟩ := List.mem_iff_getElem.mp z
  rw [List.length_take] at hj
  rw [List.getElem_take] at e1
  obtain ⟨hi, e2⟩ := List.getElem?_eq_some_iff.mp e
  exact (List.pairwise_iff_getElem.mp (List.nodup_iff_pairwise_ne.mp h)) j i (by omega) hi (by omega) (e1.trans e2.symm)
theorem mem_of_take {l : List Str} {i : Nat} {x : Str} (h : x ∈ l.take i) : x ∈ l := List.mem_of_mem_take h
end Fw
set_option Elab.async false
set_option linter.all false
set_option maxRecDepth 100000
set_option maxHeartbeats 4000000
namespace Pf
open PySem PySem.Spec PyProof.Rows L2 Fw
/-! ### the text by places -/
def topS (i : Nat) : Stmt := PySem.Challenge.pw_escrowbook_k02_amounts.main.body.getD i (.Pass ⟨0, 0, 0, 0⟩)
abbrev s_is_whole : Stmt := topS 6
abbrev n_is_whole : List Str := ["thing"]
theorem sc_is_whole : FnScope ["thing"] ["thing"] (defScope s_is_whole) := ⟨rfl, rfl, rfl, by decide +kernel, rfl, by decide +kernel, by decide +kernel⟩
abbrev s_is_amount : Stmt := topS 7
abbrev n_is_amount : List Str := ["thing"]
theorem sc_is_amount : FnScope ["thing"] ["thing"] (defScope s_is_amount) := ⟨rfl, rfl, rfl, by decide +kernel, rfl, by decide +kernel, by decide +kernel⟩
abbrev s_amount_of : Stmt := topS 5
abbrev n_amount_of : List Str := ["thing"]
theorem sc_amount_of : FnScope ["thing"] ["thing"] (defScope s_amount_of) := ⟨rfl, rfl, rfl, by decide +kernel, rfl, by decide +kernel, by decide +kernel⟩
abbrev s_whole : Stmt := topS 9
abbrev n_whole : List Str := ["_law_found"]
theorem sc_whole : FnScope ["_law_found"] ["_law_found"] (defScope s_whole) := ⟨rfl, rfl, rfl, by decide +kernel, rfl, by decide +kernel, by decide +kernel⟩
abbrev s_cell_at : Stmt := topS 10
abbrev n_cell_at : List Str := ["_law_script", "_law_k"]
theorem sc_cell_at : FnScope ["_law_script", "_law_k"] ["_law_script", "_law_k"] (defScope s_cell_at) := ⟨rfl, rfl, rfl, by decide +kernel, rfl, by decide +kernel, by decide +kernel⟩
abbrev s_thing_by : Stmt := topS 11
abbrev n_thing_by : List Str := ["_law_script", "_law_way", "_law_cell"]
theorem sc_thing_by : FnScope ["_law_script", "_law_way", "_law_cell"] ["_law_script"] (defScope s_thing_by) := ⟨rfl, rfl, rfl, by decide +kernel, rfl, by decide +kernel, by decide +kernel⟩
abbrev s_refused_by_any : Stmt := topS 12
abbrev n_refused_by_any : List Str := ["_law_thing", "e"]
theorem sc_refused_by_any : FnScope ["_law_thing", "e"] ["_law_thing"] (defScope s_refused_by_any) := ⟨rfl, rfl, rfl, by decide +kernel, rfl, by decide +kernel, by decide +kernel⟩
abbrev s_law : Stmt := topS 13
abbrev n_law : List Str := ["_law_script", "_law_thing", "_law_refused", "_law_found"]
theorem sc_law : FnScope ["_law_script", "_law_thing", "_law_refused", "_law_found"] ["_law_script"] (defScope s_law) := ⟨rfl, rfl, rfl, by decide +kernel, rfl, by decide +kernel, by decide +kernel⟩
/-! ### what the top says -/
structure Blt (mg : Str → Option Value) : Prop where
  n_type : mg "type" = none
  n_int : mg "int" = none
  n_isinstance : mg "isinstance" = none
  n_bool : mg "bool" = none
  n_len : mg "len" = none
  n_ValueError : mg "ValueError" = none

/-- is it an amount -/
def amt (H : Hp) (v : V) : Prop := ∃ i, v = .int i ∧ 1 ≤ i ∧ i ≤ 10 ^ 30

section
variable {P : Program} {w : World} {K : PySem.W.Frag} {mg : Str → Option Value} {base : Heap}
variable {CA CB : Addr}

def sp_is_whole : Sp := fun vs H Q _ => match vs with
  | [v] => (match tyOf H v with
    | some T => Q (.bl (decide (T = "int"))) H
    | none => False)
  | _ => False

def isA : V → Bool
  | .int i => decide (1 ≤ i) && decide (i ≤ 10 ^ 30)
  | _ => false
def sp_is_amount : Sp := fun vs H Q _ => match vs with
  | [v] => (match tyOf H v with
    | some _ => Q (.bl (isA v)) H
    | none => False)
  | _ => False

def sp_amount_of (CA : Addr) : Sp := fun vs H Q E => match vs with
  | [v] => (match tyOf H v with
    | some _ => if isA v = true then Q v H else E (.ref CA) none H
    | none => False)
  | _ => False

def isInt : V → Bool
  | .int _ => true
  | _ => false
def sp_whole : Sp := fun vs H Q _ => match vs with
  | [v] => (match tyOf H v with
    | some _ => Q (.bl (isInt v)) H
    | none => False)
  | _ => False

def cellAt (ns : List Int) (k : Nat) : Int := (ns[k]?).getD 0
def sp_cell_at (K : PySem.W.Frag) : Sp := fun vs H Q _ => match vs with
  | [.ref a, .int k] => ∃ (ns : List Int) (j : Nat), SqL K H a (ns.map V.int) ∧ k = (j : Int) ∧ Q (.int (cellAt ns j)) H
  | _ => False
theorem cell_use {K : PySem.W.Frag} {a : Addr} {ns : List Int} (j : Nat) {k : Int} {H : Hp} {Q : VK} {E : XK} (hS : SqL K H a (ns.map V.int)) (e : k = (j : Int)) (q : Q (.int (cellAt ns j)) H) : sp_cell_at K [.ref a, .int k] H Q E := ⟨ns, j, hS, e, q⟩

def sp_thing_by (K : PySem.W.Frag) : Sp := fun vs H Q _ => match vs with
  | [.ref a] => (∃ ns : List Int, SqL K H a (ns.map V.int)) ∧ ∀ v H', Same H H' → (∃ T, tyOf H' v = some T) → Q v H'
  | _ => False

def sp_refused_by_any (K : PySem.W.Frag) : Sp := fun vs H Q _ => match vs with
  | [v] => (match tyOf H v with
    | some _ => Q (.bl (!isA v)) H
    | none => False)
  | _ => False

def sp_law (K : PySem.W.Frag) : Sp := fun vs H Q _ => match vs with
  | [.ref a] => (∃ ns : List Int, SqL K H a (ns.map V.int)) ∧ ∀ H', Q (.bl true) H'
  | _ => False
/-! ### is_whole -/
theorem ok_is_whole (S : Src K mg "is_whole" ["thing"] s_is_whole) (B : Blt mg) : Fn P w K mg base 1 "is_whole" ["thing"] (sp_is_whole) := by
  have sc := sc_is_whole
  refine fn_mk S sc (fun vs H Q E h => ?_) (fun f cdv A outer s H vs Q E hr h => ⟨_, (pss_one (ps_ret (pe_cmpR (op_vEq hr.units) (pe_callTy call_vType rfl B.n_type (by decide +kernel) (pa_cons (pv 0) pa_nil)) (pe_bltn (v := .ty "int") rfl B.n_int (by decide +kernel) rfl) (nomark _)))), ?_⟩)
  · unfold sp_is_whole at h; split at h <;> first | rfl | exact h.elim
  · unfold sp_is_whole at h
    split at h
    · rename_i v
      split at h
      · rename_i T e
        unfold cType
        simp -dsimp only [↓Fw.a_forL, ↓Fw.a_lcL, ↓Fw.a_dcL, ↓Fw.a_dcE, ↓Fw.a_forR, Fw.v_isD, ↓Fw.a_dget2, ↓Fw.b_dsetd, ↓Fw.a_star, Fw.v_pop, Fw.v_reverse, ↓Fw.a_tru1, Fw.v_tru_r, ↓Fw.a_gseq, ↓Fw.b_gcons, ↓Fw.b_gnil, ↓Fw.a_seq, ↓Fw.a_next, ↓Fw.a_brk, ↓Fw.a_cont, ↓Fw.a_asg, ↓Fw.a_name, ↓Fw.a_gsub, ↓Fw.b_var, ↓Fw.a_c, ↓Fw.a_op, ↓Fw.a_un, ↓Fw.a_cons, ↓Fw.a_nil, ↓Fw.a_ret, ↓Fw.a_retN, ↓Fw.a_drop, ↓Fw.a_if, ↓Fw.b_test, ↓Fw.b_B, ↓Fw.a_and, ↓Fw.a_or, ↓Fw.a_not, ↓Fw.b_andV, ↓Fw.b_orV, ↓Fw.b_notV, ↓Fw.a_ifE, ↓Fw.a_fn, ↓Fw.a_fnX, ↓Fw.a_hold, ↓Fw.a_holdX, ↓Fw.a_ne_rr, ↓Fw.a_eq_rr, ↓Fw.a_at, ↓Fw.a_atS, ↓Fw.a_step, Fw.v_step, Fw.v_min2, Fw.v_max2, Fw.v_clear, ↓Fw.a_mt, ↓Fw.a_mtX, ↓Fw.a_mk, ↓Fw.a_cb, ↓Fw.a_lst, ↓Fw.a_tup, ↓Fw.a_chain, ↓Fw.a_dnew, ↓Fw.a_start, Fw.v_rU, Int.reduceNeg, Fw.v_add_ii, Fw.v_add_ss, Fw.v_sub_ii, Fw.v_mul_ii, Fw.v_div_ii, Fw.v_mod_ii, Fw.v_pow_ii, Fw.v_lt_ii, Fw.v_gt_ii, Fw.v_le_ii, Fw.v_ge_ii, Fw.v_le_ss, Fw.v_eqS_ii, Fw.v_eqS_ss, Fw.v_neS_ii, Fw.v_neS_ss, Fw.v_eq_ii, Fw.v_eq_ss, Fw.v_eq_bb, Fw.v_ne_ii, Fw.v_ne_ss, Fw.v_ne_bb, Fw.v_ne_tt, Fw.v_eq_tt, Fw.v_in_sc, Fw.v_ix_s, Fw.v_len_s, Fw.v_type, Fw.v_is, ↓Fw.a_bm, ↓Fw.a_bm0, ↓Fw.a_sl, ↓Fw.a_nopart, ↓Fw.a_part, Fw.v_sl_s, Fw.v_sl_r, Fw.v_app, Fw.v_add_rr, ↓Fw.b_ix_r, Fw.b_ix_r, Fw.v_in_r, Fw.v_set_r, Fw.v_len_r, Fw.v_list_r, Fw.v_listA, Fw.v_dictA, Fw.v_int_i, Fw.v_int_b, Fw.v_key_i, Fw.v_key_s, Fw.v_lst, Fw.v_tup, Fw.v_dic, Fw.v_ty_r, Fw.v_ty_s, Fw.v_ty_i, Fw.v_ty_b, Fw.v_ty_n, Fw.v_tyL, Fw.v_same, Fw.v_old, Fw.v_ne, Fw.v_upd, Fw.v_flat_s, Fw.v_inStrs, ↓Fw.a_yes, Fw.v_wipe0, Fw.v_wipe1, Fw.cx_K, Int.reduceToNat, List.length_replicate, Nat.sub_self, Nat.reduceSub, Nat.reduceAdd, List.replicate_zero, List.replicate_succ, List.append_nil, List.length_cons, List.length_nil, List.map_cons, List.map_nil, List.cons_append, List.nil_append, List.getElem?_cons_zero, List.getElem?_cons_succ, List.set_cons_zero, List.set_cons_succ, Option.some.injEq, V.int.injEq, V.bl.injEq, V.ref.injEq, V.str.injEq, exists_eq_left', exists_eq_left, exists_eq_right, exists_and_left, HO.lst.injEq, HO.dK.injEq, HO.tup.injEq, Option.isSome_some, true_and, and_true, Fw.v_m_bool, Fw.v_m_int, Fw.v_m_str, Fw.v_m_list, Fw.v_m_tuple, Fw.v_m_dict, Fw.v_flats, Bool.xor_true, Bool.xor_false, Bool.not_eq_true', decide_eq_false_iff_not, not_true_eq_false, not_false_eq_true, decide_true, decide_false, decide_eq_true_eq, ite_true, ite_false, Bool.not_true, Bool.not_false, Bool.false_eq_true, reduceCtorEq, Fw.isT_NoneType_bool, Fw.isT_NoneType_int, Fw.isT_NoneType_str, Fw.isT_NoneType_list, Fw.isT_NoneType_tuple, Fw.isT_NoneType_dict, Fw.isT_bool_bool, Fw.isT_bool_int, Fw.isT_bool_str, Fw.isT_bool_list, Fw.isT_bool_tuple, Fw.isT_bool_dict, Fw.isT_int_bool, Fw.isT_int_int, Fw.isT_int_str, Fw.isT_int_list, Fw.isT_int_tuple, Fw.isT_int_dict, Fw.isT_str_bool, Fw.isT_str_int, Fw.isT_str_str, Fw.isT_str_list, Fw.isT_str_tuple, Fw.isT_str_dict, Fw.isT_list_bool, Fw.isT_list_int, Fw.isT_list_str, Fw.isT_list_list, Fw.isT_list_tuple, Fw.isT_list_dict, Fw.isT_tuple_bool, Fw.isT_tuple_int, Fw.isT_tuple_str, Fw.isT_tuple_list, Fw.isT_tuple_tuple, Fw.isT_tuple_dict, Fw.isT_dict_bool, Fw.isT_dict_int, Fw.isT_dict_str, Fw.isT_dict_list, Fw.isT_dict_tuple, Fw.isT_dict_dict, e]
        refine ⟨?_, by decide, h⟩
        have := tyOf_in e
        simp only [List.mem_cons, List.not_mem_nil, or_false] at this
        rcases this with rfl | rfl | rfl | rfl | rfl | rfl | rfl <;> decide
      · exact h.elim
    · exact h.elim
/-! ### _is_amount -/
theorem ok_is_amount (S : Src K mg "_is_amount" ["thing"] s_is_amount) (B : Blt mg) (G_is_whole : Fn P w K mg base 1 "is_whole" ["thing"] (sp_is_whole)) (C_GREATEST_AMOUNT : ∃ t, mg "GREATEST_AMOUNT" = some (.int (10 ^ 30) t)) : Fn P w K mg base 2 "_is_amount" ["thing"] (sp_is_amount) := by
  have sc := sc_is_amount
  refine fn_mk S sc (fun vs H Q E h => ?_) (fun f cdv A outer s H vs Q E hr h => ⟨_, (pss_one (ps_ret (pe_and (pe_fn G_is_whole (hr.mono (by decide)) rfl (pa_cons (pv 0) pa_nil)) (pe_one (pe_chain op_vLe op_vLe pe_int (pv 0) (pe_gint C_GREATEST_AMOUNT rfl)))))), ?_⟩)
  · unfold sp_is_amount at h; split at h <;> first | rfl | exact h.elim
  · unfold sp_is_amount at h
    split at h
    · rename_i v
      split at h
      · rename_i T e
        unfold sp_is_whole
        simp -dsimp only [↓Fw.a_forL, ↓Fw.a_lcL, ↓Fw.a_dcL, ↓Fw.a_dcE, ↓Fw.a_forR, Fw.v_isD, ↓Fw.a_dget2, ↓Fw.b_dsetd, ↓Fw.a_star, Fw.v_pop, Fw.v_reverse, ↓Fw.a_tru1, Fw.v_tru_r, ↓Fw.a_gseq, ↓Fw.b_gcons, ↓Fw.b_gnil, ↓Fw.a_seq, ↓Fw.a_next, ↓Fw.a_brk, ↓Fw.a_cont, ↓Fw.a_asg, ↓Fw.a_name, ↓Fw.a_gsub, ↓Fw.b_var, ↓Fw.a_c, ↓Fw.a_op, ↓Fw.a_un, ↓Fw.a_cons, ↓Fw.a_nil, ↓Fw.a_ret, ↓Fw.a_retN, ↓Fw.a_drop, ↓Fw.a_if, ↓Fw.b_test, ↓Fw.b_B, ↓Fw.a_and, ↓Fw.a_or, ↓Fw.a_not, ↓Fw.b_andV, ↓Fw.b_orV, ↓Fw.b_notV, ↓Fw.a_ifE, ↓Fw.a_fn, ↓Fw.a_fnX, ↓Fw.a_hold, ↓Fw.a_holdX, ↓Fw.a_ne_rr, ↓Fw.a_eq_rr, ↓Fw.a_at, ↓Fw.a_atS, ↓Fw.a_step, Fw.v_step, Fw.v_min2, Fw.v_max2, Fw.v_clear, ↓Fw.a_mt, ↓Fw.a_mtX, ↓Fw.a_mk, ↓Fw.a_cb, ↓Fw.a_lst, ↓Fw.a_tup, ↓Fw.a_chain, ↓Fw.a_dnew, ↓Fw.a_start, Fw.v_rU, Int.reduceNeg, Fw.v_add_ii, Fw.v_add_ss, Fw.v_sub_ii, Fw.v_mul_ii, Fw.v_div_ii, Fw.v_mod_ii, Fw.v_pow_ii, Fw.v_lt_ii, Fw.v_gt_ii, Fw.v_le_ii, Fw.v_ge_ii, Fw.v_le_ss, Fw.v_eqS_ii, Fw.v_eqS_ss, Fw.v_neS_ii, Fw.v_neS_ss, Fw.v_eq_ii, Fw.v_eq_ss, Fw.v_eq_bb, Fw.v_ne_ii, Fw.v_ne_ss, Fw.v_ne_bb, Fw.v_ne_tt, Fw.v_eq_tt, Fw.v_in_sc, Fw.v_ix_s, Fw.v_len_s, Fw.v_type, Fw.v_is, ↓Fw.a_bm, ↓Fw.a_bm0, ↓Fw.a_sl, ↓Fw.a_nopart, ↓Fw.a_part, Fw.v_sl_s, Fw.v_sl_r, Fw.v_app, Fw.v_add_rr, ↓Fw.b_ix_r, Fw.b_ix_r, Fw.v_in_r, Fw.v_set_r, Fw.v_len_r, Fw.v_list_r, Fw.v_listA, Fw.v_dictA, Fw.v_int_i, Fw.v_int_b, Fw.v_key_i, Fw.v_key_s, Fw.v_lst, Fw.v_tup, Fw.v_dic, Fw.v_ty_r, Fw.v_ty_s, Fw.v_ty_i, Fw.v_ty_b, Fw.v_ty_n, Fw.v_tyL, Fw.v_same, Fw.v_old, Fw.v_ne, Fw.v_upd, Fw.v_flat_s, Fw.v_inStrs, ↓Fw.a_yes, Fw.v_wipe0, Fw.v_wipe1, Fw.cx_K, Int.reduceToNat, List.length_replicate, Nat.sub_self, Nat.reduceSub, Nat.reduceAdd, List.replicate_zero, List.replicate_succ, List.append_nil, List.length_cons, List.length_nil, List.map_cons, List.map_nil, List.cons_append, List.nil_append, List.getElem?_cons_zero, List.getElem?_cons_succ, List.set_cons_zero, List.set_cons_succ, Option.some.injEq, V.int.injEq, V.bl.injEq, V.ref.injEq, V.str.injEq, exists_eq_left', exists_eq_left, exists_eq_right, exists_and_left, HO.lst.injEq, HO.dK.injEq, HO.tup.injEq, Option.isSome_some, true_and, and_true, Fw.v_m_bool, Fw.v_m_int, Fw.v_m_str, Fw.v_m_list, Fw.v_m_tuple, Fw.v_m_dict, Fw.v_flats, Bool.xor_true, Bool.xor_false, Bool.not_eq_true', decide_eq_false_iff_not, not_true_eq_false, not_false_eq_true, decide_true, decide_false, decide_eq_true_eq, ite_true, ite_false, Bool.not_true, Bool.not_false, Bool.false_eq_true, reduceCtorEq, Fw.isT_NoneType_bool, Fw.isT_NoneType_int, Fw.isT_NoneType_str, Fw.isT_NoneType_list, Fw.isT_NoneType_tuple, Fw.isT_NoneType_dict, Fw.isT_bool_bool, Fw.isT_bool_int, Fw.isT_bool_str, Fw.isT_bool_list, Fw.isT_bool_tuple, Fw.isT_bool_dict, Fw.isT_int_bool, Fw.isT_int_int, Fw.isT_int_str, Fw.isT_int_list, Fw.isT_int_tuple, Fw.isT_int_dict, Fw.isT_str_bool, Fw.isT_str_int, Fw.isT_str_str, Fw.isT_str_list, Fw.isT_str_tuple, Fw.isT_str_dict, Fw.isT_list_bool, Fw.isT_list_int, Fw.isT_list_str, Fw.isT_list_list, Fw.isT_list_tuple, Fw.isT_list_dict, Fw.isT_tuple_bool, Fw.isT_tuple_int, Fw.isT_tuple_str, Fw.isT_tuple_list, Fw.isT_tuple_tuple, Fw.isT_tuple_dict, Fw.isT_dict_bool, Fw.isT_dict_int, Fw.isT_dict_str, Fw.isT_dict_list, Fw.isT_dict_tuple, Fw.isT_dict_dict, e]
        rcases ty_cases e with ⟨rfl, rfl⟩ | ⟨b, rfl, rfl⟩ | ⟨i, rfl, rfl⟩ | ⟨x, rfl, rfl⟩ | ⟨a, rfl, rfl | rfl | rfl⟩
        all_goals (try exact h)
        simp only [isA] at h
        simp -dsimp only [↓Fw.a_forL, ↓Fw.a_lcL, ↓Fw.a_dcL, ↓Fw.a_dcE, ↓Fw.a_forR, Fw.v_isD, ↓Fw.a_dget2, ↓Fw.b_dsetd, ↓Fw.a_star, Fw.v_pop, Fw.v_reverse, ↓Fw.a_tru1, Fw.v_tru_r, ↓Fw.a_gseq, ↓Fw.b_gcons, ↓Fw.b_gnil, ↓Fw.a_seq, ↓Fw.a_next, ↓Fw.a_brk, ↓Fw.a_cont, ↓Fw.a_asg, ↓Fw.a_name, ↓Fw.a_gsub, ↓Fw.b_var, ↓Fw.a_c, ↓Fw.a_op, ↓Fw.a_un, ↓Fw.a_cons, ↓Fw.a_nil, ↓Fw.a_ret, ↓Fw.a_retN, ↓Fw.a_drop, ↓Fw.a_if, ↓Fw.b_test, ↓Fw.b_B, ↓Fw.a_and, ↓Fw.a_or, ↓Fw.a_not, ↓Fw.b_andV, ↓Fw.b_orV, ↓Fw.b_notV, ↓Fw.a_ifE, ↓Fw.a_fn, ↓Fw.a_fnX, ↓Fw.a_hold, ↓Fw.a_holdX, ↓Fw.a_ne_rr, ↓Fw.a_eq_rr, ↓Fw.a_at, ↓Fw.a_atS, ↓Fw.a_step, Fw.v_step, Fw.v_min2, Fw.v_max2, Fw.v_clear, ↓Fw.a_mt, ↓Fw.a_mtX, ↓Fw.a_mk, ↓Fw.a_cb, ↓Fw.a_lst, ↓Fw.a_tup, ↓Fw.a_chain, ↓Fw.a_dnew, ↓Fw.a_start, Fw.v_rU, Int.reduceNeg, Fw.v_add_ii, Fw.v_add_ss, Fw.v_sub_ii, Fw.v_mul_ii, Fw.v_div_ii, Fw.v_mod_ii, Fw.v_pow_ii, Fw.v_lt_ii, Fw.v_gt_ii, Fw.v_le_ii, Fw.v_ge_ii, Fw.v_le_ss, Fw.v_eqS_ii, Fw.v_eqS_ss, Fw.v_neS_ii, Fw.v_neS_ss, Fw.v_eq_ii, Fw.v_eq_ss, Fw.v_eq_bb, Fw.v_ne_ii, Fw.v_ne_ss, Fw.v_ne_bb, Fw.v_ne_tt, Fw.v_eq_tt, Fw.v_in_sc, Fw.v_ix_s, Fw.v_len_s, Fw.v_type, Fw.v_is, ↓Fw.a_bm, ↓Fw.a_bm0, ↓Fw.a_sl, ↓Fw.a_nopart, ↓Fw.a_part, Fw.v_sl_s, Fw.v_sl_r, Fw.v_app, Fw.v_add_rr, ↓Fw.b_ix_r, Fw.b_ix_r, Fw.v_in_r, Fw.v_set_r, Fw.v_len_r, Fw.v_list_r, Fw.v_listA, Fw.v_dictA, Fw.v_int_i, Fw.v_int_b, Fw.v_key_i, Fw.v_key_s, Fw.v_lst, Fw.v_tup, Fw.v_dic, Fw.v_ty_r, Fw.v_ty_s, Fw.v_ty_i, Fw.v_ty_b, Fw.v_ty_n, Fw.v_tyL, Fw.v_same, Fw.v_old, Fw.v_ne, Fw.v_upd, Fw.v_flat_s, Fw.v_inStrs, ↓Fw.a_yes, Fw.v_wipe0, Fw.v_wipe1, Fw.cx_K, Int.reduceToNat, List.length_replicate, Nat.sub_self, Nat.reduceSub, Nat.reduceAdd, List.replicate_zero, List.replicate_succ, List.append_nil, List.length_cons, List.length_nil, List.map_cons, List.map_nil, List.cons_append, List.nil_append, List.getElem?_cons_zero, List.getElem?_cons_succ, List.set_cons_zero, List.set_cons_succ, Option.some.injEq, V.int.injEq, V.bl.injEq, V.ref.injEq, V.str.injEq, exists_eq_left', exists_eq_left, exists_eq_right, exists_and_left, HO.lst.injEq, HO.dK.injEq, HO.tup.injEq, Option.isSome_some, true_and, and_true, Fw.v_m_bool, Fw.v_m_int, Fw.v_m_str, Fw.v_m_list, Fw.v_m_tuple, Fw.v_m_dict, Fw.v_flats, Bool.xor_true, Bool.xor_false, Bool.not_eq_true', decide_eq_false_iff_not, not_true_eq_false, not_false_eq_true, decide_true, decide_false, decide_eq_true_eq, ite_true, ite_false, Bool.not_true, Bool.not_false, Bool.false_eq_true, reduceCtorEq, Fw.isT_NoneType_bool, Fw.isT_NoneType_int, Fw.isT_NoneType_str, Fw.isT_NoneType_list, Fw.isT_NoneType_tuple, Fw.isT_NoneType_dict, Fw.isT_bool_bool, Fw.isT_bool_int, Fw.isT_bool_str, Fw.isT_bool_list, Fw.isT_bool_tuple, Fw.isT_bool_dict, Fw.isT_int_bool, Fw.isT_int_int, Fw.isT_int_str, Fw.isT_int_list, Fw.isT_int_tuple, Fw.isT_int_dict, Fw.isT_str_bool, Fw.isT_str_int, Fw.isT_str_str, Fw.isT_str_list, Fw.isT_str_tuple, Fw.isT_str_dict, Fw.isT_list_bool, Fw.isT_list_int, Fw.isT_list_str, Fw.isT_list_list, Fw.isT_list_tuple, Fw.isT_list_dict, Fw.isT_tuple_bool, Fw.isT_tuple_int, Fw.isT_tuple_str, Fw.isT_tuple_list, Fw.isT_tuple_tuple, Fw.isT_tuple_dict, Fw.isT_dict_bool, Fw.isT_dict_int, Fw.isT_dict_str, Fw.isT_dict_list, Fw.isT_dict_tuple, Fw.isT_dict_dict]
        by_cases c : 1 ≤ i
        · rw [decide_eq_true c, Bool.true_and] at h
          simpa [c] using h
        · rw [decide_eq_false c, Bool.false_and] at h
          simpa [c] using h
      · exact h.elim
    · exact h.elim
/-! ### amount_of -/
theorem ok_amount_of (S : Src K mg "amount_of" ["thing"] s_amount_of) (B : Blt mg) (G__is_amount : Fn P w K mg base 2 "_is_amount" ["thing"] (sp_is_amount)) (X_NoAmount : Exn K mg "NoAmount" CA) : FnX P w K mg base 3 "amount_of" ["thing"] (sp_amount_of CA) := by
  have sc := sc_amount_of
  refine fnx_mk S sc (fun vs H Q E h => ?_) (fun f cdv A outer s H vs Q E hr h => ⟨_, (pss_cons (ps_if (pt_not (pt_val (pe_fn G__is_amount (hr.mono (by decide)) rfl (pa_cons (pv 0) pa_nil))))
     (pss_one (ps_raise rfl (takes_of rfl rfl rfl rfl) (X_NoAmount.mk_ rfl)))
     pss_nil)
     (pss_one (ps_ret (pv 0)))), ?_⟩)
  · unfold sp_amount_of at h; split at h <;> first | rfl | exact h.elim
  · unfold sp_amount_of at h
    split at h
    · rename_i v
      split at h
      · rename_i T e
        simp -dsimp +contextual only [Fw.v_isD, ↓Fw.a_dget2, ↓Fw.b_dsetd, ↓Fw.a_star, Fw.v_pop, Fw.v_reverse, ↓Fw.a_tru1, Fw.v_tru_r, ↓Fw.a_gseq, ↓Fw.b_gcons, ↓Fw.b_gnil, ↓Fw.a_seq, ↓Fw.a_next, ↓Fw.a_brk, ↓Fw.a_cont, ↓Fw.a_asg, ↓Fw.a_name, ↓Fw.a_gsub, ↓Fw.b_var, ↓Fw.a_c, ↓Fw.a_op, ↓Fw.a_un, ↓Fw.a_cons, ↓Fw.a_nil, ↓Fw.a_ret, ↓Fw.a_retN, ↓Fw.a_drop, ↓Fw.a_if, ↓Fw.b_test, ↓Fw.b_B, ↓Fw.a_and, ↓Fw.a_or, ↓Fw.a_not, ↓Fw.b_andV, ↓Fw.b_orV, ↓Fw.b_notV, ↓Fw.a_ifE, ↓Fw.a_fn, ↓Fw.a_fnX, ↓Fw.a_hold, ↓Fw.a_holdX, ↓Fw.a_ne_rr, ↓Fw.a_eq_rr, ↓Fw.a_at, ↓Fw.a_atS, ↓Fw.a_step, Fw.v_step, Fw.v_min2, Fw.v_max2, Fw.v_clear, ↓Fw.a_mt, ↓Fw.a_mtX, ↓Fw.a_mk, ↓Fw.a_cb, ↓Fw.a_lst, ↓Fw.a_tup, ↓Fw.a_chain, ↓Fw.a_dnew, ↓Fw.a_start, Fw.v_rU, Int.reduceNeg, Fw.v_add_ii, Fw.v_add_ss, Fw.v_sub_ii, Fw.v_mul_ii, Fw.v_div_ii, Fw.v_mod_ii, Fw.v_pow_ii, Fw.v_lt_ii, Fw.v_gt_ii, Fw.v_le_ii, Fw.v_ge_ii, Fw.v_le_ss, Fw.v_eqS_ii, Fw.v_eqS_ss, Fw.v_neS_ii, Fw.v_neS_ss, Fw.v_eq_ii, Fw.v_eq_ss, Fw.v_eq_bb, Fw.v_ne_ii, Fw.v_ne_ss, Fw.v_ne_bb, Fw.v_ne_tt, Fw.v_eq_tt, Fw.v_in_sc, Fw.v_ix_s, Fw.v_len_s, Fw.v_type, Fw.v_is, ↓Fw.a_bm, ↓Fw.a_bm0, ↓Fw.a_sl, ↓Fw.a_nopart, ↓Fw.a_part, Fw.v_sl_s, Fw.v_sl_r, Fw.v_app, Fw.v_add_rr, ↓Fw.b_ix_r, Fw.b_ix_r, Fw.v_in_r, Fw.v_set_r, Fw.v_len_r, Fw.v_list_r, Fw.v_listA, Fw.v_dictA, Fw.v_int_i, Fw.v_int_b, Fw.v_key_i, Fw.v_key_s, Fw.v_lst, Fw.v_tup, Fw.v_dic, Fw.v_ty_r, Fw.v_ty_s, Fw.v_ty_i, Fw.v_ty_b, Fw.v_ty_n, Fw.v_tyL, Fw.v_same, Fw.v_old, Fw.v_ne, Fw.v_upd, Fw.v_flat_s, Fw.v_inStrs, ↓Fw.a_yes, Fw.v_wipe0, Fw.v_wipe1, Fw.cx_K, Int.reduceToNat, List.length_replicate, Nat.sub_self, Nat.reduceSub, Nat.reduceAdd, List.replicate_zero, List.replicate_succ, List.append_nil, List.length_cons, List.length_nil, List.map_cons, List.map_nil, List.cons_append, List.nil_append, List.getElem?_cons_zero, List.getElem?_cons_succ, List.set_cons_zero, List.set_cons_succ, Option.some.injEq, V.int.injEq, V.bl.injEq, V.ref.injEq, V.str.injEq, exists_eq_left', exists_eq_left, exists_eq_right, exists_and_left, HO.lst.injEq, HO.dK.injEq, HO.tup.injEq, Option.isSome_some, true_and, and_true, Fw.v_m_bool, Fw.v_m_int, Fw.v_m_str, Fw.v_m_list, Fw.v_m_tuple, Fw.v_m_dict, Fw.v_flats, Bool.xor_true, Bool.xor_false, Bool.not_eq_true', decide_eq_false_iff_not, not_true_eq_false, not_false_eq_true, decide_true, decide_false, decide_eq_true_eq, ite_true, ite_false, Bool.not_true, Bool.not_false, Bool.false_eq_true, reduceCtorEq, Fw.isT_NoneType_bool, Fw.isT_NoneType_int, Fw.isT_NoneType_str, Fw.isT_NoneType_list, Fw.isT_NoneType_tuple, Fw.isT_NoneType_dict, Fw.isT_bool_bool, Fw.isT_bool_int, Fw.isT_bool_str, Fw.isT_bool_list, Fw.isT_bool_tuple, Fw.isT_bool_dict, Fw.isT_int_bool, Fw.isT_int_int, Fw.isT_int_str, Fw.isT_int_list, Fw.isT_int_tuple, Fw.isT_int_dict, Fw.isT_str_bool, Fw.isT_str_int, Fw.isT_str_str, Fw.isT_str_list, Fw.isT_str_tuple, Fw.isT_str_dict, Fw.isT_list_bool, Fw.isT_list_int, Fw.isT_list_str, Fw.isT_list_list, Fw.isT_list_tuple, Fw.isT_list_dict, Fw.isT_tuple_bool, Fw.isT_tuple_int, Fw.isT_tuple_str, Fw.isT_tuple_list, Fw.isT_tuple_tuple, Fw.isT_tuple_dict, Fw.isT_dict_bool, Fw.isT_dict_int, Fw.isT_dict_str, Fw.isT_dict_list, Fw.isT_dict_tuple, Fw.isT_dict_dict]
        unfold sp_is_amount
        simp only [e]
        simp -dsimp +contextual only [Fw.v_isD, ↓Fw.a_dget2, ↓Fw.b_dsetd, ↓Fw.a_star, Fw.v_pop, Fw.v_reverse, ↓Fw.a_tru1, Fw.v_tru_r, ↓Fw.a_gseq, ↓Fw.b_gcons, ↓Fw.b_gnil, ↓Fw.a_seq, ↓Fw.a_next, ↓Fw.a_brk, ↓Fw.a_cont, ↓Fw.a_asg, ↓Fw.a_name, ↓Fw.a_gsub, ↓Fw.b_var, ↓Fw.a_c, ↓Fw.a_op, ↓Fw.a_un, ↓Fw.a_cons, ↓Fw.a_nil, ↓Fw.a_ret, ↓Fw.a_retN, ↓Fw.a_drop, ↓Fw.a_if, ↓Fw.b_test, ↓Fw.b_B, ↓Fw.a_and, ↓Fw.a_or, ↓Fw.a_not, ↓Fw.b_andV, ↓Fw.b_orV, ↓Fw.b_notV, ↓Fw.a_ifE, ↓Fw.a_fn, ↓Fw.a_fnX, ↓Fw.a_hold, ↓Fw.a_holdX, ↓Fw.a_ne_rr, ↓Fw.a_eq_rr, ↓Fw.a_at, ↓Fw.a_atS, ↓Fw.a_step, Fw.v_step, Fw.v_min2, Fw.v_max2, Fw.v_clear, ↓Fw.a_mt, ↓Fw.a_mtX, ↓Fw.a_mk, ↓Fw.a_cb, ↓Fw.a_lst, ↓Fw.a_tup, ↓Fw.a_chain, ↓Fw.a_dnew, ↓Fw.a_start, Fw.v_rU, Int.reduceNeg, Fw.v_add_ii, Fw.v_add_ss, Fw.v_sub_ii, Fw.v_mul_ii, Fw.v_div_ii, Fw.v_mod_ii, Fw.v_pow_ii, Fw.v_lt_ii, Fw.v_gt_ii, Fw.v_le_ii, Fw.v_ge_ii, Fw.v_le_ss, Fw.v_eqS_ii, Fw.v_eqS_ss, Fw.v_neS_ii, Fw.v_neS_ss, Fw.v_eq_ii, Fw.v_eq_ss, Fw.v_eq_bb, Fw.v_ne_ii, Fw.v_ne_ss, Fw.v_ne_bb, Fw.v_ne_tt, Fw.v_eq_tt, Fw.v_in_sc, Fw.v_ix_s, Fw.v_len_s, Fw.v_type, Fw.v_is, ↓Fw.a_bm, ↓Fw.a_bm0, ↓Fw.a_sl, ↓Fw.a_nopart, ↓Fw.a_part, Fw.v_sl_s, Fw.v_sl_r, Fw.v_app, Fw.v_add_rr, ↓Fw.b_ix_r, Fw.b_ix_r, Fw.v_in_r, Fw.v_set_r, Fw.v_len_r, Fw.v_list_r, Fw.v_listA, Fw.v_dictA, Fw.v_int_i, Fw.v_int_b, Fw.v_key_i, Fw.v_key_s, Fw.v_lst, Fw.v_tup, Fw.v_dic, Fw.v_ty_r, Fw.v_ty_s, Fw.v_ty_i, Fw.v_ty_b, Fw.v_ty_n, Fw.v_tyL, Fw.v_same, Fw.v_old, Fw.v_ne, Fw.v_upd, Fw.v_flat_s, Fw.v_inStrs, ↓Fw.a_yes, Fw.v_wipe0, Fw.v_wipe1, Fw.cx_K, Int.reduceToNat, List.length_replicate, Nat.sub_self, Nat.reduceSub, Nat.reduceAdd, List.replicate_zero, List.replicate_succ, List.append_nil, List.length_cons, List.length_nil, List.map_cons, List.map_nil, List.cons_append, List.nil_append, List.getElem?_cons_zero, List.getElem?_cons_succ, List.set_cons_zero, List.set_cons_succ, Option.some.injEq, V.int.injEq, V.bl.injEq, V.ref.injEq, V.str.injEq, exists_eq_left', exists_eq_left, exists_eq_right, exists_and_left, HO.lst.injEq, HO.dK.injEq, HO.tup.injEq, Option.isSome_some, true_and, and_true, Fw.v_m_bool, Fw.v_m_int, Fw.v_m_str, Fw.v_m_list, Fw.v_m_tuple, Fw.v_m_dict, Fw.v_flats, Bool.xor_true, Bool.xor_false, Bool.not_eq_true', decide_eq_false_iff_not, not_true_eq_false, not_false_eq_true, decide_true, decide_false, decide_eq_true_eq, ite_true, ite_false, Bool.not_true, Bool.not_false, Bool.false_eq_true, reduceCtorEq, Fw.isT_NoneType_bool, Fw.isT_NoneType_int, Fw.isT_NoneType_str, Fw.isT_NoneType_list, Fw.isT_NoneType_tuple, Fw.isT_NoneType_dict, Fw.isT_bool_bool, Fw.isT_bool_int, Fw.isT_bool_str, Fw.isT_bool_list, Fw.isT_bool_tuple, Fw.isT_bool_dict, Fw.isT_int_bool, Fw.isT_int_int, Fw.isT_int_str, Fw.isT_int_list, Fw.isT_int_tuple, Fw.isT_int_dict, Fw.isT_str_bool, Fw.isT_str_int, Fw.isT_str_str, Fw.isT_str_list, Fw.isT_str_tuple, Fw.isT_str_dict, Fw.isT_list_bool, Fw.isT_list_int, Fw.isT_list_str, Fw.isT_list_list, Fw.isT_list_tuple, Fw.isT_list_dict, Fw.isT_tuple_bool, Fw.isT_tuple_int, Fw.isT_tuple_str, Fw.isT_tuple_list, Fw.isT_tuple_tuple, Fw.isT_tuple_dict, Fw.isT_dict_bool, Fw.isT_dict_int, Fw.isT_dict_str, Fw.isT_dict_list, Fw.isT_dict_tuple, Fw.isT_dict_dict]
        cases hb : isA v with
        | true =>
          rw [hb] at h
          exact h
        | false =>
          rw [hb] at h
          exact h
      · exact h.elim
    · exact h.elim
/-! ### _law_whole -/
theorem ok_whole (S : Src K mg "_law_whole" ["_law_found"] s_whole) (B : Blt mg) : Fn P w K mg base 1 "_law_whole" ["_law_found"] (sp_whole) := by
  have sc := sc_whole
  refine fn_mk S sc (fun vs H Q E h => ?_) (fun f cdv A outer s H vs Q E hr h => ⟨_, (pss_one (ps_ret (pe_and (pe_callB call_vIs rfl B.n_isinstance (by decide +kernel) (pa_cons (pv 0) (pa_cons (pe_bltn (v := .ty "int") rfl B.n_int (by decide +kernel) rfl) pa_nil))) (pe_one (pe_not (pe_callB call_vIs rfl B.n_isinstance (by decide +kernel) (pa_cons (pv 0) (pa_cons (pe_bltn (v := .ty "bool") rfl B.n_bool (by decide +kernel) rfl) pa_nil)))))))), ?_⟩)
  · unfold sp_whole at h; split at h <;> first | rfl | exact h.elim
  · unfold sp_whole at h
    split at h
    · rename_i v
      split at h
      · rename_i T e
        simp -dsimp only [↓Fw.a_forL, ↓Fw.a_lcL, ↓Fw.a_dcL, ↓Fw.a_dcE, ↓Fw.a_forR, Fw.v_isD, ↓Fw.a_dget2, ↓Fw.b_dsetd, ↓Fw.a_star, Fw.v_pop, Fw.v_reverse, ↓Fw.a_tru1, Fw.v_tru_r, ↓Fw.a_gseq, ↓Fw.b_gcons, ↓Fw.b_gnil, ↓Fw.a_seq, ↓Fw.a_next, ↓Fw.a_brk, ↓Fw.a_cont, ↓Fw.a_asg, ↓Fw.a_name, ↓Fw.a_gsub, ↓Fw.b_var, ↓Fw.a_c, ↓Fw.a_op, ↓Fw.a_un, ↓Fw.a_cons, ↓Fw.a_nil, ↓Fw.a_ret, ↓Fw.a_retN, ↓Fw.a_drop, ↓Fw.a_if, ↓Fw.b_test, ↓Fw.b_B, ↓Fw.a_and, ↓Fw.a_or, ↓Fw.a_not, ↓Fw.b_andV, ↓Fw.b_orV, ↓Fw.b_notV, ↓Fw.a_ifE, ↓Fw.a_fn, ↓Fw.a_fnX, ↓Fw.a_hold, ↓Fw.a_holdX, ↓Fw.a_ne_rr, ↓Fw.a_eq_rr, ↓Fw.a_at, ↓Fw.a_atS, ↓Fw.a_step, Fw.v_step, Fw.v_min2, Fw.v_max2, Fw.v_clear, ↓Fw.a_mt, ↓Fw.a_mtX, ↓Fw.a_mk, ↓Fw.a_cb, ↓Fw.a_lst, ↓Fw.a_tup, ↓Fw.a_chain, ↓Fw.a_dnew, ↓Fw.a_start, Fw.v_rU, Int.reduceNeg, Fw.v_add_ii, Fw.v_add_ss, Fw.v_sub_ii, Fw.v_mul_ii, Fw.v_div_ii, Fw.v_mod_ii, Fw.v_pow_ii, Fw.v_lt_ii, Fw.v_gt_ii, Fw.v_le_ii, Fw.v_ge_ii, Fw.v_le_ss, Fw.v_eqS_ii, Fw.v_eqS_ss, Fw.v_neS_ii, Fw.v_neS_ss, Fw.v_eq_ii, Fw.v_eq_ss, Fw.v_eq_bb, Fw.v_ne_ii, Fw.v_ne_ss, Fw.v_ne_bb, Fw.v_ne_tt, Fw.v_eq_tt, Fw.v_in_sc, Fw.v_ix_s, Fw.v_len_s, Fw.v_type, Fw.v_is, ↓Fw.a_bm, ↓Fw.a_bm0, ↓Fw.a_sl, ↓Fw.a_nopart, ↓Fw.a_part, Fw.v_sl_s, Fw.v_sl_r, Fw.v_app, Fw.v_add_rr, ↓Fw.b_ix_r, Fw.b_ix_r, Fw.v_in_r, Fw.v_set_r, Fw.v_len_r, Fw.v_list_r, Fw.v_listA, Fw.v_dictA, Fw.v_int_i, Fw.v_int_b, Fw.v_key_i, Fw.v_key_s, Fw.v_lst, Fw.v_tup, Fw.v_dic, Fw.v_ty_r, Fw.v_ty_s, Fw.v_ty_i, Fw.v_ty_b, Fw.v_ty_n, Fw.v_tyL, Fw.v_same, Fw.v_old, Fw.v_ne, Fw.v_upd, Fw.v_flat_s, Fw.v_inStrs, ↓Fw.a_yes, Fw.v_wipe0, Fw.v_wipe1, Fw.cx_K, Int.reduceToNat, List.length_replicate, Nat.sub_self, Nat.reduceSub, Nat.reduceAdd, List.replicate_zero, List.replicate_succ, List.append_nil, List.length_cons, List.length_nil, List.map_cons, List.map_nil, List.cons_append, List.nil_append, List.getElem?_cons_zero, List.getElem?_cons_succ, List.set_cons_zero, List.set_cons_succ, Option.some.injEq, V.int.injEq, V.bl.injEq, V.ref.injEq, V.str.injEq, exists_eq_left', exists_eq_left, exists_eq_right, exists_and_left, HO.lst.injEq, HO.dK.injEq, HO.tup.injEq, Option.isSome_some, true_and, and_true, Fw.v_m_bool, Fw.v_m_int, Fw.v_m_str, Fw.v_m_list, Fw.v_m_tuple, Fw.v_m_dict, Fw.v_flats, Bool.xor_true, Bool.xor_false, Bool.not_eq_true', decide_eq_false_iff_not, not_true_eq_false, not_false_eq_true, decide_true, decide_false, decide_eq_true_eq, ite_true, ite_false, Bool.not_true, Bool.not_false, Bool.false_eq_true, reduceCtorEq, Fw.isT_NoneType_bool, Fw.isT_NoneType_int, Fw.isT_NoneType_str, Fw.isT_NoneType_list, Fw.isT_NoneType_tuple, Fw.isT_NoneType_dict, Fw.isT_bool_bool, Fw.isT_bool_int, Fw.isT_bool_str, Fw.isT_bool_list, Fw.isT_bool_tuple, Fw.isT_bool_dict, Fw.isT_int_bool, Fw.isT_int_int, Fw.isT_int_str, Fw.isT_int_list, Fw.isT_int_tuple, Fw.isT_int_dict, Fw.isT_str_bool, Fw.isT_str_int, Fw.isT_str_str, Fw.isT_str_list, Fw.isT_str_tuple, Fw.isT_str_dict, Fw.isT_list_bool, Fw.isT_list_int, Fw.isT_list_str, Fw.isT_list_list, Fw.isT_list_tuple, Fw.isT_list_dict, Fw.isT_tuple_bool, Fw.isT_tuple_int, Fw.isT_tuple_str, Fw.isT_tuple_list, Fw.isT_tuple_tuple, Fw.isT_tuple_dict, Fw.isT_dict_bool, Fw.isT_dict_int, Fw.isT_dict_str, Fw.isT_dict_list, Fw.isT_dict_tuple, Fw.isT_dict_dict, e]
        rcases ty_cases e with ⟨rfl, rfl⟩ | ⟨b, rfl, rfl⟩ | ⟨i, rfl, rfl⟩ | ⟨x, rfl, rfl⟩ | ⟨a, rfl, rfl | rfl | rfl⟩
        all_goals (simp only [isInt] at h; simp -dsimp only [↓Fw.a_forL, ↓Fw.a_lcL, ↓Fw.a_dcL, ↓Fw.a_dcE, ↓Fw.a_forR, Fw.v_isD, ↓Fw.a_dget2, ↓Fw.b_dsetd, ↓Fw.a_star, Fw.v_pop, Fw.v_reverse, ↓Fw.a_tru1, Fw.v_tru_r, ↓Fw.a_gseq, ↓Fw.b_gcons, ↓Fw.b_gnil, ↓Fw.a_seq, ↓Fw.a_next, ↓Fw.a_brk, ↓Fw.a_cont, ↓Fw.a_asg, ↓Fw.a_name, ↓Fw.a_gsub, ↓Fw.b_var, ↓Fw.a_c, ↓Fw.a_op, ↓Fw.a_un, ↓Fw.a_cons, ↓Fw.a_nil, ↓Fw.a_ret, ↓Fw.a_retN, ↓Fw.a_drop, ↓Fw.a_if, ↓Fw.b_test, ↓Fw.b_B, ↓Fw.a_and, ↓Fw.a_or, ↓Fw.a_not, ↓Fw.b_andV, ↓Fw.b_orV, ↓Fw.b_notV, ↓Fw.a_ifE, ↓Fw.a_fn, ↓Fw.a_fnX, ↓Fw.a_hold, ↓Fw.a_holdX, ↓Fw.a_ne_rr, ↓Fw.a_eq_rr, ↓Fw.a_at, ↓Fw.a_atS, ↓Fw.a_step, Fw.v_step, Fw.v_min2, Fw.v_max2, Fw.v_clear, ↓Fw.a_mt, ↓Fw.a_mtX, ↓Fw.a_mk, ↓Fw.a_cb, ↓Fw.a_lst, ↓Fw.a_tup, ↓Fw.a_chain, ↓Fw.a_dnew, ↓Fw.a_start, Fw.v_rU, Int.reduceNeg, Fw.v_add_ii, Fw.v_add_ss, Fw.v_sub_ii, Fw.v_mul_ii, Fw.v_div_ii, Fw.v_mod_ii, Fw.v_pow_ii, Fw.v_lt_ii, Fw.v_gt_ii, Fw.v_le_ii, Fw.v_ge_ii, Fw.v_le_ss, Fw.v_eqS_ii, Fw.v_eqS_ss, Fw.v_neS_ii, Fw.v_neS_ss, Fw.v_eq_ii, Fw.v_eq_ss, Fw.v_eq_bb, Fw.v_ne_ii, Fw.v_ne_ss, Fw.v_ne_bb, Fw.v_ne_tt, Fw.v_eq_tt, Fw.v_in_sc, Fw.v_ix_s, Fw.v_len_s, Fw.v_type, Fw.v_is, ↓Fw.a_bm, ↓Fw.a_bm0, ↓Fw.a_sl, ↓Fw.a_nopart, ↓Fw.a_part, Fw.v_sl_s, Fw.v_sl_r, Fw.v_app, Fw.v_add_rr, ↓Fw.b_ix_r, Fw.b_ix_r, Fw.v_in_r, Fw.v_set_r, Fw.v_len_r, Fw.v_list_r, Fw.v_listA, Fw.v_dictA, Fw.v_int_i, Fw.v_int_b, Fw.v_key_i, Fw.v_key_s, Fw.v_lst, Fw.v_tup, Fw.v_dic, Fw.v_ty_r, Fw.v_ty_s, Fw.v_ty_i, Fw.v_ty_b, Fw.v_ty_n, Fw.v_tyL, Fw.v_same, Fw.v_old, Fw.v_ne, Fw.v_upd, Fw.v_flat_s, Fw.v_inStrs, ↓Fw.a_yes, Fw.v_wipe0, Fw.v_wipe1, Fw.cx_K, Int.reduceToNat, List.length_replicate, Nat.sub_self, Nat.reduceSub, Nat.reduceAdd, List.replicate_zero, List.replicate_succ, List.append_nil, List.length_cons, List.length_nil, List.map_cons, List.map_nil, List.cons_append, List.nil_append, List.getElem?_cons_zero, List.getElem?_cons_succ, List.set_cons_zero, List.set_cons_succ, Option.some.injEq, V.int.injEq, V.bl.injEq, V.ref.injEq, V.str.injEq, exists_eq_left', exists_eq_left, exists_eq_right, exists_and_left, HO.lst.injEq, HO.dK.injEq, HO.tup.injEq, Option.isSome_some, true_and, and_true, Fw.v_m_bool, Fw.v_m_int, Fw.v_m_str, Fw.v_m_list, Fw.v_m_tuple, Fw.v_m_dict, Fw.v_flats, Bool.xor_true, Bool.xor_false, Bool.not_eq_true', decide_eq_false_iff_not, not_true_eq_false, not_false_eq_true, decide_true, decide_false, decide_eq_true_eq, ite_true, ite_false, Bool.not_true, Bool.not_false, Bool.false_eq_true, reduceCtorEq, Fw.isT_NoneType_bool, Fw.isT_NoneType_int, Fw.isT_NoneType_str, Fw.isT_NoneType_list, Fw.isT_NoneType_tuple, Fw.isT_NoneType_dict, Fw.isT_bool_bool, Fw.isT_bool_int, Fw.isT_bool_str, Fw.isT_bool_list, Fw.isT_bool_tuple, Fw.isT_bool_dict, Fw.isT_int_bool, Fw.isT_int_int, Fw.isT_int_str, Fw.isT_int_list, Fw.isT_int_tuple, Fw.isT_int_dict, Fw.isT_str_bool, Fw.isT_str_int, Fw.isT_str_str, Fw.isT_str_list, Fw.isT_str_tuple, Fw.isT_str_dict, Fw.isT_list_bool, Fw.isT_list_int, Fw.isT_list_str, Fw.isT_list_list, Fw.isT_list_tuple, Fw.isT_list_dict, Fw.isT_tuple_bool, Fw.isT_tuple_int, Fw.isT_tuple_str, Fw.isT_tuple_list, Fw.isT_tuple_tuple, Fw.isT_tuple_dict, Fw.isT_dict_bool, Fw.isT_dict_int, Fw.isT_dict_str, Fw.isT_dict_list, Fw.isT_dict_tuple, Fw.isT_dict_dict]; exact h)
      · exact h.elim
    · exact h.elim
/-! ### _law_cell_at -/
theorem ok_cell_at (S : Src K mg "_law_cell_at" ["_law_script", "_law_k"] s_cell_at) (B : Blt mg) : Fn P w K mg base 1 "_law_cell_at" ["_law_script", "_law_k"] (sp_cell_at K) := by
  have sc := sc_cell_at
  refine fn_mk S sc (fun vs H Q E h => ?_) (fun f cdv A outer s H vs Q E hr h => ⟨_, (pss_cons (ps_if (pt_cmpR op_vLt (pv 1) (pe_callB call_len_seq rfl B.n_len (by decide +kernel) (pa_cons (pv 0) pa_nil)) (nomark _))
     (pss_one (ps_ret (pe_ix ix_list (pv 0) (pv 1) (fun _ _ => rfl))))
     pss_nil)
     (pss_one (ps_ret pe_int))), ?_⟩)
  · unfold sp_cell_at at h; split at h <;> first | rfl | exact h.elim
  · unfold sp_cell_at at h
    split at h
    · rename_i a k
      obtain ⟨ns, j, hS, rfl, q⟩ := h
      simp -dsimp +contextual only [Fw.v_isD, ↓Fw.a_dget2, ↓Fw.b_dsetd, ↓Fw.a_star, Fw.v_pop, Fw.v_reverse, ↓Fw.a_tru1, Fw.v_tru_r, ↓Fw.a_gseq, ↓Fw.b_gcons, ↓Fw.b_gnil, ↓Fw.a_seq, ↓Fw.a_next, ↓Fw.a_brk, ↓Fw.a_cont, ↓Fw.a_asg, ↓Fw.a_name, ↓Fw.a_gsub, ↓Fw.b_var, ↓Fw.a_c, ↓Fw.a_op, ↓Fw.a_un, ↓Fw.a_cons, ↓Fw.a_nil, ↓Fw.a_ret, ↓Fw.a_retN, ↓Fw.a_drop, ↓Fw.a_if, ↓Fw.b_test, ↓Fw.b_B, ↓Fw.a_and, ↓Fw.a_or, ↓Fw.a_not, ↓Fw.b_andV, ↓Fw.b_orV, ↓Fw.b_notV, ↓Fw.a_ifE, ↓Fw.a_fn, ↓Fw.a_fnX, ↓Fw.a_hold, ↓Fw.a_holdX, ↓Fw.a_ne_rr, ↓Fw.a_eq_rr, ↓Fw.a_at, ↓Fw.a_atS, ↓Fw.a_step, Fw.v_step, Fw.v_min2, Fw.v_max2, Fw.v_clear, ↓Fw.a_mt, ↓Fw.a_mtX, ↓Fw.a_mk, ↓Fw.a_cb, ↓Fw.a_lst, ↓Fw.a_tup, ↓Fw.a_chain, ↓Fw.a_dnew, ↓Fw.a_start, Fw.v_rU, Int.reduceNeg, Fw.v_add_ii, Fw.v_add_ss, Fw.v_sub_ii, Fw.v_mul_ii, Fw.v_div_ii, Fw.v_mod_ii, Fw.v_pow_ii, Fw.v_lt_ii, Fw.v_gt_ii, Fw.v_le_ii, Fw.v_ge_ii, Fw.v_le_ss, Fw.v_eqS_ii, Fw.v_eqS_ss, Fw.v_neS_ii, Fw.v_neS_ss, Fw.v_eq_ii, Fw.v_eq_ss, Fw.v_eq_bb, Fw.v_ne_ii, Fw.v_ne_ss, Fw.v_ne_bb, Fw.v_ne_tt, Fw.v_eq_tt, Fw.v_in_sc, Fw.v_ix_s, Fw.v_len_s, Fw.v_type, Fw.v_is, ↓Fw.a_bm, ↓Fw.a_bm0, ↓Fw.a_sl, ↓Fw.a_nopart, ↓Fw.a_part, Fw.v_sl_s, Fw.v_sl_r, Fw.v_app, Fw.v_add_rr, ↓Fw.b_ix_r, Fw.b_ix_r, Fw.v_in_r, Fw.v_set_r, Fw.v_len_r, Fw.v_list_r, Fw.v_listA, Fw.v_dictA, Fw.v_int_i, Fw.v_int_b, Fw.v_key_i, Fw.v_key_s, Fw.v_lst, Fw.v_tup, Fw.v_dic, Fw.v_ty_r, Fw.v_ty_s, Fw.v_ty_i, Fw.v_ty_b, Fw.v_ty_n, Fw.v_tyL, Fw.v_same, Fw.v_old, Fw.v_ne, Fw.v_upd, Fw.v_flat_s, Fw.v_inStrs, ↓Fw.a_yes, Fw.v_wipe0, Fw.v_wipe1, Fw.cx_K, Int.reduceToNat, List.length_replicate, Nat.sub_self, Nat.reduceSub, Nat.reduceAdd, List.replicate_zero, List.replicate_succ, List.append_nil, List.length_cons, List.length_nil, List.map_cons, List.map_nil, List.cons_append, List.nil_append, List.getElem?_cons_zero, List.getElem?_cons_succ, List.set_cons_zero, List.set_cons_succ, Option.some.injEq, V.int.injEq, V.bl.injEq, V.ref.injEq, V.str.injEq, exists_eq_left', exists_eq_left, exists_eq_right, exists_and_left, HO.lst.injEq, HO.dK.injEq, HO.tup.injEq, Option.isSome_some, true_and, and_true, Fw.v_m_bool, Fw.v_m_int, Fw.v_m_str, Fw.v_m_list, Fw.v_m_tuple, Fw.v_m_dict, Fw.v_flats, Bool.xor_true, Bool.xor_false, Bool.not_eq_true', decide_eq_false_iff_not, not_true_eq_false, not_false_eq_true, decide_true, decide_false, decide_eq_true_eq, ite_true, ite_false, Bool.not_true, Bool.not_false, Bool.false_eq_true, reduceCtorEq, Fw.isT_NoneType_bool, Fw.isT_NoneType_int, Fw.isT_NoneType_str, Fw.isT_NoneType_list, Fw.isT_NoneType_tuple, Fw.isT_NoneType_dict, Fw.isT_bool_bool, Fw.isT_bool_int, Fw.isT_bool_str, Fw.isT_bool_list, Fw.isT_bool_tuple, Fw.isT_bool_dict, Fw.isT_int_bool, Fw.isT_int_int, Fw.isT_int_str, Fw.isT_int_list, Fw.isT_int_tuple, Fw.isT_int_dict, Fw.isT_str_bool, Fw.isT_str_int, Fw.isT_str_str, Fw.isT_str_list, Fw.isT_str_tuple, Fw.isT_str_dict, Fw.isT_list_bool, Fw.isT_list_int, Fw.isT_list_str, Fw.isT_list_list, Fw.isT_list_tuple, Fw.isT_list_dict, Fw.isT_tuple_bool, Fw.isT_tuple_int, Fw.isT_tuple_str, Fw.isT_tuple_list, Fw.isT_tuple_tuple, Fw.isT_tuple_dict, Fw.isT_dict_bool, Fw.isT_dict_int, Fw.isT_dict_str, Fw.isT_dict_list, Fw.isT_dict_tuple, Fw.isT_dict_dict]
      first | refine ⟨a, _, rfl, .inl hS, ?_⟩ | refine ⟨a, rfl, _, .inl hS, ?_⟩
      try simp -dsimp +contextual only [Fw.v_isD, ↓Fw.a_dget2, ↓Fw.b_dsetd, ↓Fw.a_star, Fw.v_pop, Fw.v_reverse, ↓Fw.a_tru1, Fw.v_tru_r, ↓Fw.a_gseq, ↓Fw.b_gcons, ↓Fw.b_gnil, ↓Fw.a_seq, ↓Fw.a_next, ↓Fw.a_brk, ↓Fw.a_cont, ↓Fw.a_asg, ↓Fw.a_name, ↓Fw.a_gsub, ↓Fw.b_var, ↓Fw.a_c, ↓Fw.a_op, ↓Fw.a_un, ↓Fw.a_cons, ↓Fw.a_nil, ↓Fw.a_ret, ↓Fw.a_retN, ↓Fw.a_drop, ↓Fw.a_if, ↓Fw.b_test, ↓Fw.b_B, ↓Fw.a_and, ↓Fw.a_or, ↓Fw.a_not, ↓Fw.b_andV, ↓Fw.b_orV, ↓Fw.b_notV, ↓Fw.a_ifE, ↓Fw.a_fn, ↓Fw.a_fnX, ↓Fw.a_hold, ↓Fw.a_holdX, ↓Fw.a_ne_rr, ↓Fw.a_eq_rr, ↓Fw.a_at, ↓Fw.a_atS, ↓Fw.a_step, Fw.v_step, Fw.v_min2, Fw.v_max2, Fw.v_clear, ↓Fw.a_mt, ↓Fw.a_mtX, ↓Fw.a_mk, ↓Fw.a_cb, ↓Fw.a_lst, ↓Fw.a_tup, ↓Fw.a_chain, ↓Fw.a_dnew, ↓Fw.a_start, Fw.v_rU, Int.reduceNeg, Fw.v_add_ii, Fw.v_add_ss, Fw.v_sub_ii, Fw.v_mul_ii, Fw.v_div_ii, Fw.v_mod_ii, Fw.v_pow_ii, Fw.v_lt_ii, Fw.v_gt_ii, Fw.v_le_ii, Fw.v_ge_ii, Fw.v_le_ss, Fw.v_eqS_ii, Fw.v_eqS_ss, Fw.v_neS_ii, Fw.v_neS_ss, Fw.v_eq_ii, Fw.v_eq_ss, Fw.v_eq_bb, Fw.v_ne_ii, Fw.v_ne_ss, Fw.v_ne_bb, Fw.v_ne_tt, Fw.v_eq_tt, Fw.v_in_sc, Fw.v_ix_s, Fw.v_len_s, Fw.v_type, Fw.v_is, ↓Fw.a_bm, ↓Fw.a_bm0, ↓Fw.a_sl, ↓Fw.a_nopart, ↓Fw.a_part, Fw.v_sl_s, Fw.v_sl_r, Fw.v_app, Fw.v_add_rr, ↓Fw.b_ix_r, Fw.b_ix_r, Fw.v_in_r, Fw.v_set_r, Fw.v_len_r, Fw.v_list_r, Fw.v_listA, Fw.v_dictA, Fw.v_int_i, Fw.v_int_b, Fw.v_key_i, Fw.v_key_s, Fw.v_lst, Fw.v_tup, Fw.v_dic, Fw.v_ty_r, Fw.v_ty_s, Fw.v_ty_i, Fw.v_ty_b, Fw.v_ty_n, Fw.v_tyL, Fw.v_same, Fw.v_old, Fw.v_ne, Fw.v_upd, Fw.v_flat_s, Fw.v_inStrs, ↓Fw.a_yes, Fw.v_wipe0, Fw.v_wipe1, Fw.cx_K, Int.reduceToNat, List.length_replicate, Nat.sub_self, Nat.reduceSub, Nat.reduceAdd, List.replicate_zero, List.replicate_succ, List.append_nil, List.length_cons, List.length_nil, List.map_cons, List.map_nil, List.cons_append, List.nil_append, List.getElem?_cons_zero, List.getElem?_cons_succ, List.set_cons_zero, List.set_cons_succ, Option.some.injEq, V.int.injEq, V.bl.injEq, V.ref.injEq, V.str.injEq, exists_eq_left', exists_eq_left, exists_eq_right, exists_and_left, HO.lst.injEq, HO.dK.injEq, HO.tup.injEq, Option.isSome_some, true_and, and_true, Fw.v_m_bool, Fw.v_m_int, Fw.v_m_str, Fw.v_m_list, Fw.v_m_tuple, Fw.v_m_dict, Fw.v_flats, Bool.xor_true, Bool.xor_false, Bool.not_eq_true', decide_eq_false_iff_not, not_true_eq_false, not_false_eq_true, decide_true, decide_false, decide_eq_true_eq, ite_true, ite_false, Bool.not_true, Bool.not_false, Bool.false_eq_true, reduceCtorEq, Fw.isT_NoneType_bool, Fw.isT_NoneType_int, Fw.isT_NoneType_str, Fw.isT_NoneType_list, Fw.isT_NoneType_tuple, Fw.isT_NoneType_dict, Fw.isT_bool_bool, Fw.isT_bool_int, Fw.isT_bool_str, Fw.isT_bool_list, Fw.isT_bool_tuple, Fw.isT_bool_dict, Fw.isT_int_bool, Fw.isT_int_int, Fw.isT_int_str, Fw.isT_int_list, Fw.isT_int_tuple, Fw.isT_int_dict, Fw.isT_str_bool, Fw.isT_str_int, Fw.isT_str_str, Fw.isT_str_list, Fw.isT_str_tuple, Fw.isT_str_dict, Fw.isT_list_bool, Fw.isT_list_int, Fw.isT_list_str, Fw.isT_list_list, Fw.isT_list_tuple, Fw.isT_list_dict, Fw.isT_tuple_bool, Fw.isT_tuple_int, Fw.isT_tuple_str, Fw.isT_tuple_list, Fw.isT_tuple_tuple, Fw.isT_tuple_dict, Fw.isT_dict_bool, Fw.isT_dict_int, Fw.isT_dict_str, Fw.isT_dict_list, Fw.isT_dict_tuple, Fw.isT_dict_dict]
      rw [List.length_map]
      by_cases c : j < ns.length
      · rw [if_pos (by omega)]
        refine ⟨a, _, (j : Int), _, rfl, rfl, hS, atI_nat (map_int_get (List.getElem?_eq_getElem c)), ?_⟩
        have : cellAt ns j = ns[j] := by simp [cellAt, c]
        rw [← this]
        exact q
      · rw [if_neg (by omega)]
        have : cellAt ns j = 0 := by simp [cellAt, Nat.le_of_not_lt c]
        rw [← this]
        exact q
    · exact h.elim
/-! ### _law_thing_by -/
theorem ok_thing_by (S : Src K mg "_law_thing_by" ["_law_script"] s_thing_by) (B : Blt mg) (G__law_cell_at : Fn P w K mg base 1 "_law_cell_at" ["_law_script", "_law_k"] (sp_cell_at K)) : Fn P w K mg base 2 "_law_thing_by" ["_law_script"] (sp_thing_by K) := by
  have sc := sc_thing_by
  refine fn_mk S sc (fun vs H Q E h => ?_) (fun f cdv A outer s H vs Q E hr h => ⟨_, (pss_cons (ps_set (i := 1) sc.nd rfl (by first | exact Or.inl rfl | exact Or.inr rfl) (pe_op op_vMod (pe_fn G__law_cell_at (hr.mono (by decide)) rfl (pa_cons (pv 0) (pa_cons pe_int pa_nil))) pe_int))
     (pss_cons (ps_set (i := 2) sc.nd rfl (by first | exact Or.inl rfl | exact Or.inr rfl) (pe_fn G__law_cell_at (hr.mono (by decide)) rfl (pa_cons (pv 0) (pa_cons pe_int pa_nil))))
     (pss_cons (ps_if (pt_cmpR op_vLt (pv 1) pe_int (nomark _))
     (pss_one (ps_ret (pe_op op_vMod (pv 2) (pe_op op_vAdd (pe_op op_vPow pe_int pe_int) pe_int))))
     pss_nil)
     (pss_cons (ps_if (pt_cmpR (op_vEq hr.units) (pv 1) pe_int (nomark _))
     (pss_one (ps_ret (pe_op op_vSub (pe_op op_vMod (pv 2) pe_int) pe_int)))
     pss_nil)
     (pss_cons (ps_if (pt_cmpR (op_vEq hr.units) (pv 1) pe_int (nomark _))
     (pss_one (ps_ret (pe_op op_vAdd (pe_op op_vSub (pe_op op_vPow pe_int pe_int) pe_int) (pe_op op_vMod (pv 2) pe_int))))
     pss_nil)
     (pss_cons (ps_if (pt_cmpR (op_vEq hr.units) (pv 1) pe_int (nomark _))
     (pss_one (ps_ret (pe_op op_vSub (pe_op op_vMod (pv 2) (pe_op op_vMul pe_int (pe_op op_vPow pe_int pe_int))) (pe_op op_vPow pe_int pe_int))))
     pss_nil)
     (pss_one (ps_ret (pe_ix (ix_v (hu_of hr)) (pe_lst (pa_cons pe_bl (pa_cons pe_bl (pa_cons pe_non (pa_cons pe_str (pa_cons (pe_lst (pa_cons pe_int pa_nil)) pa_nil)))))) (pe_op op_vMod (pv 2) pe_int) (fun _ _ => rfl)))))))))), ?_⟩)
  · unfold sp_thing_by at h; split at h <;> first | rfl | exact h.elim
  · unfold sp_thing_by at h
    split at h
    · rename_i a
      obtain ⟨⟨ns, hS⟩, q⟩ := h
      simp -dsimp only [↓Fw.a_forL, ↓Fw.a_lcL, ↓Fw.a_dcL, ↓Fw.a_dcE, ↓Fw.a_forR, Fw.v_isD, ↓Fw.a_dget2, ↓Fw.b_dsetd, ↓Fw.a_star, Fw.v_pop, Fw.v_reverse, ↓Fw.a_tru1, Fw.v_tru_r, ↓Fw.a_gseq, ↓Fw.b_gcons, ↓Fw.b_gnil, ↓Fw.a_seq, ↓Fw.a_next, ↓Fw.a_brk, ↓Fw.a_cont, ↓Fw.a_asg, ↓Fw.a_name, ↓Fw.a_gsub, ↓Fw.b_var, ↓Fw.a_c, ↓Fw.a_op, ↓Fw.a_un, ↓Fw.a_cons, ↓Fw.a_nil, ↓Fw.a_ret, ↓Fw.a_retN, ↓Fw.a_drop, ↓Fw.a_if, ↓Fw.b_test, ↓Fw.b_B, ↓Fw.a_and, ↓Fw.a_or, ↓Fw.a_not, ↓Fw.b_andV, ↓Fw.b_orV, ↓Fw.b_notV, ↓Fw.a_ifE, ↓Fw.a_fn, ↓Fw.a_fnX, ↓Fw.a_hold, ↓Fw.a_holdX, ↓Fw.a_ne_rr, ↓Fw.a_eq_rr, ↓Fw.a_at, ↓Fw.a_atS, ↓Fw.a_step, Fw.v_step, Fw.v_min2, Fw.v_max2, Fw.v_clear, ↓Fw.a_mt, ↓Fw.a_mtX, ↓Fw.a_mk, ↓Fw.a_cb, ↓Fw.a_lst, ↓Fw.a_tup, ↓Fw.a_chain, ↓Fw.a_dnew, ↓Fw.a_start, Fw.v_rU, Int.reduceNeg, Fw.v_add_ii, Fw.v_add_ss, Fw.v_sub_ii, Fw.v_mul_ii, Fw.v_div_ii, Fw.v_mod_ii, Fw.v_pow_ii, Fw.v_lt_ii, Fw.v_gt_ii, Fw.v_le_ii, Fw.v_ge_ii, Fw.v_le_ss, Fw.v_eqS_ii, Fw.v_eqS_ss, Fw.v_neS_ii, Fw.v_neS_ss, Fw.v_eq_ii, Fw.v_eq_ss, Fw.v_eq_bb, Fw.v_ne_ii, Fw.v_ne_ss, Fw.v_ne_bb, Fw.v_ne_tt, Fw.v_eq_tt, Fw.v_in_sc, Fw.v_ix_s, Fw.v_len_s, Fw.v_type, Fw.v_is, ↓Fw.a_bm, ↓Fw.a_bm0, ↓Fw.a_sl, ↓Fw.a_nopart, ↓Fw.a_part, Fw.v_sl_s, Fw.v_sl_r, Fw.v_app, Fw.v_add_rr, ↓Fw.b_ix_r, Fw.b_ix_r, Fw.v_in_r, Fw.v_set_r, Fw.v_len_r, Fw.v_list_r, Fw.v_listA, Fw.v_dictA, Fw.v_int_i, Fw.v_int_b, Fw.v_key_i, Fw.v_key_s, Fw.v_lst, Fw.v_tup, Fw.v_dic, Fw.v_ty_r, Fw.v_ty_s, Fw.v_ty_i, Fw.v_ty_b, Fw.v_ty_n, Fw.v_tyL, Fw.v_same, Fw.v_old, Fw.v_ne, Fw.v_upd, Fw.v_flat_s, Fw.v_inStrs, ↓Fw.a_yes, Fw.v_wipe0, Fw.v_wipe1, Fw.cx_K, Int.reduceToNat, List.length_replicate, Nat.sub_self, Nat.reduceSub, Nat.reduceAdd, List.replicate_zero, List.replicate_succ, List.append_nil, List.length_cons, List.length_nil, List.map_cons, List.map_nil, List.cons_append, List.nil_append, List.getElem?_cons_zero, List.getElem?_cons_succ, List.set_cons_zero, List.set_cons_succ, Option.some.injEq, V.int.injEq, V.bl.injEq, V.ref.injEq, V.str.injEq, exists_eq_left', exists_eq_left, exists_eq_right, exists_and_left, HO.lst.injEq, HO.dK.injEq, HO.tup.injEq, Option.isSome_some, true_and, and_true, Fw.v_m_bool, Fw.v_m_int, Fw.v_m_str, Fw.v_m_list, Fw.v_m_tuple, Fw.v_m_dict, Fw.v_flats, Bool.xor_true, Bool.xor_false, Bool.not_eq_true', decide_eq_false_iff_not, not_true_eq_false, not_false_eq_true, decide_true, decide_false, decide_eq_true_eq, ite_true, ite_false, Bool.not_true, Bool.not_false, Bool.false_eq_true, reduceCtorEq, Fw.isT_NoneType_bool, Fw.isT_NoneType_int, Fw.isT_NoneType_str, Fw.isT_NoneType_list, Fw.isT_NoneType_tuple, Fw.isT_NoneType_dict, Fw.isT_bool_bool, Fw.isT_bool_int, Fw.isT_bool_str, Fw.isT_bool_list, Fw.isT_bool_tuple, Fw.isT_bool_dict, Fw.isT_int_bool, Fw.isT_int_int, Fw.isT_int_str, Fw.isT_int_list, Fw.isT_int_tuple, Fw.isT_int_dict, Fw.isT_str_bool, Fw.isT_str_int, Fw.isT_str_str, Fw.isT_str_list, Fw.isT_str_tuple, Fw.isT_str_dict, Fw.isT_list_bool, Fw.isT_list_int, Fw.isT_list_str, Fw.isT_list_list, Fw.isT_list_tuple, Fw.isT_list_dict, Fw.isT_tuple_bool, Fw.isT_tuple_int, Fw.isT_tuple_str, Fw.isT_tuple_list, Fw.isT_tuple_tuple, Fw.isT_tuple_dict, Fw.isT_dict_bool, Fw.isT_dict_int, Fw.isT_dict_str, Fw.isT_dict_list, Fw.isT_dict_tuple, Fw.isT_dict_dict]
      refine cell_use 0 hS rfl ?_
      simp -dsimp only [↓Fw.a_forL, ↓Fw.a_lcL, ↓Fw.a_dcL, ↓Fw.a_dcE, ↓Fw.a_forR, Fw.v_isD, ↓Fw.a_dget2, ↓Fw.b_dsetd, ↓Fw.a_star, Fw.v_pop, Fw.v_reverse, ↓Fw.a_tru1, Fw.v_tru_r, ↓Fw.a_gseq, ↓Fw.b_gcons, ↓Fw.b_gnil, ↓Fw.a_seq, ↓Fw.a_next, ↓Fw.a_brk, ↓Fw.a_cont, ↓Fw.a_asg, ↓Fw.a_name, ↓Fw.a_gsub, ↓Fw.b_var, ↓Fw.a_c, ↓Fw.a_op, ↓Fw.a_un, ↓Fw.a_cons, ↓Fw.a_nil, ↓Fw.a_ret, ↓Fw.a_retN, ↓Fw.a_drop, ↓Fw.a_if, ↓Fw.b_test, ↓Fw.b_B, ↓Fw.a_and, ↓Fw.a_or, ↓Fw.a_not, ↓Fw.b_andV, ↓Fw.b_orV, ↓Fw.b_notV, ↓Fw.a_ifE, ↓Fw.a_fn, ↓Fw.a_fnX, ↓Fw.a_hold, ↓Fw.a_holdX, ↓Fw.a_ne_rr, ↓Fw.a_eq_rr, ↓Fw.a_at, ↓Fw.a_atS, ↓Fw.a_step, Fw.v_step, Fw.v_min2, Fw.v_max2, Fw.v_clear, ↓Fw.a_mt, ↓Fw.a_mtX, ↓Fw.a_mk, ↓Fw.a_cb, ↓Fw.a_lst, ↓Fw.a_tup, ↓Fw.a_chain, ↓Fw.a_dnew, ↓Fw.a_start, Fw.v_rU, Int.reduceNeg, Fw.v_add_ii, Fw.v_add_ss, Fw.v_sub_ii, Fw.v_mul_ii, Fw.v_div_ii, Fw.v_mod_ii, Fw.v_pow_ii, Fw.v_lt_ii, Fw.v_gt_ii, Fw.v_le_ii, Fw.v_ge_ii, Fw.v_le_ss, Fw.v_eqS_ii, Fw.v_eqS_ss, Fw.v_neS_ii, Fw.v_neS_ss, Fw.v_eq_ii, Fw.v_eq_ss, Fw.v_eq_bb, Fw.v_ne_ii, Fw.v_ne_ss, Fw.v_ne_bb, Fw.v_ne_tt, Fw.v_eq_tt, Fw.v_in_sc, Fw.v_ix_s, Fw.v_len_s, Fw.v_type, Fw.v_is, ↓Fw.a_bm, ↓Fw.a_bm0, ↓Fw.a_sl, ↓Fw.a_nopart, ↓Fw.a_part, Fw.v_sl_s, Fw.v_sl_r, Fw.v_app, Fw.v_add_rr, ↓Fw.b_ix_r, Fw.b_ix_r, Fw.v_in_r, Fw.v_set_r, Fw.v_len_r, Fw.v_list_r, Fw.v_listA, Fw.v_dictA, Fw.v_int_i, Fw.v_int_b, Fw.v_key_i, Fw.v_key_s, Fw.v_lst, Fw.v_tup, Fw.v_dic, Fw.v_ty_r, Fw.v_ty_s, Fw.v_ty_i, Fw.v_ty_b, Fw.v_ty_n, Fw.v_tyL, Fw.v_same, Fw.v_old, Fw.v_ne, Fw.v_upd, Fw.v_flat_s, Fw.v_inStrs, ↓Fw.a_yes, Fw.v_wipe0, Fw.v_wipe1, Fw.cx_K, Int.reduceToNat, List.length_replicate, Nat.sub_self, Nat.reduceSub, Nat.reduceAdd, List.replicate_zero, List.replicate_succ, List.append_nil, List.length_cons, List.length_nil, List.map_cons, List.map_nil, List.cons_append, List.nil_append, List.getElem?_cons_zero, List.getElem?_cons_succ, List.set_cons_zero, List.set_cons_succ, Option.some.injEq, V.int.injEq, V.bl.injEq, V.ref.injEq, V.str.injEq, exists_eq_left', exists_eq_left, exists_eq_right, exists_and_left, HO.lst.injEq, HO.dK.injEq, HO.tup.injEq, Option.isSome_some, true_and, and_true, Fw.v_m_bool, Fw.v_m_int, Fw.v_m_str, Fw.v_m_list, Fw.v_m_tuple, Fw.v_m_dict, Fw.v_flats, Bool.xor_true, Bool.xor_false, Bool.not_eq_true', decide_eq_false_iff_not, not_true_eq_false, not_false_eq_true, decide_true, decide_false, decide_eq_true_eq, ite_true, ite_false, Bool.not_true, Bool.not_false, Bool.false_eq_true, reduceCtorEq, Fw.isT_NoneType_bool, Fw.isT_NoneType_int, Fw.isT_NoneType_str, Fw.isT_NoneType_list, Fw.isT_NoneType_tuple, Fw.isT_NoneType_dict, Fw.isT_bool_bool, Fw.isT_bool_int, Fw.isT_bool_str, Fw.isT_bool_list, Fw.isT_bool_tuple, Fw.isT_bool_dict, Fw.isT_int_bool, Fw.isT_int_int, Fw.isT_int_str, Fw.isT_int_list, Fw.isT_int_tuple, Fw.isT_int_dict, Fw.isT_str_bool, Fw.isT_str_int, Fw.isT_str_str, Fw.isT_str_list, Fw.isT_str_tuple, Fw.isT_str_dict, Fw.isT_list_bool, Fw.isT_list_int, Fw.isT_list_str, Fw.isT_list_list, Fw.isT_list_tuple, Fw.isT_list_dict, Fw.isT_tuple_bool, Fw.isT_tuple_int, Fw.isT_tuple_str, Fw.isT_tuple_list, Fw.isT_tuple_tuple, Fw.isT_tuple_dict, Fw.isT_dict_bool, Fw.isT_dict_int, Fw.isT_dict_str, Fw.isT_dict_list, Fw.isT_dict_tuple, Fw.isT_dict_dict]
      refine ⟨by decide, cell_use 1 hS rfl ?_⟩
      simp -dsimp only [↓Fw.a_forL, ↓Fw.a_lcL, ↓Fw.a_dcL, ↓Fw.a_dcE, ↓Fw.a_forR, Fw.v_isD, ↓Fw.a_dget2, ↓Fw.b_dsetd, ↓Fw.a_star, Fw.v_pop, Fw.v_reverse, ↓Fw.a_tru1, Fw.v_tru_r, ↓Fw.a_gseq, ↓Fw.b_gcons, ↓Fw.b_gnil, ↓Fw.a_seq, ↓Fw.a_next, ↓Fw.a_brk, ↓Fw.a_cont, ↓Fw.a_asg, ↓Fw.a_name, ↓Fw.a_gsub, ↓Fw.b_var, ↓Fw.a_c, ↓Fw.a_op, ↓Fw.a_un, ↓Fw.a_cons, ↓Fw.a_nil, ↓Fw.a_ret, ↓Fw.a_retN, ↓Fw.a_drop, ↓Fw.a_if, ↓Fw.b_test, ↓Fw.b_B, ↓Fw.a_and, ↓Fw.a_or, ↓Fw.a_not, ↓Fw.b_andV, ↓Fw.b_orV, ↓Fw.b_notV, ↓Fw.a_ifE, ↓Fw.a_fn, ↓Fw.a_fnX, ↓Fw.a_hold, ↓Fw.a_holdX, ↓Fw.a_ne_rr, ↓Fw.a_eq_rr, ↓Fw.a_at, ↓Fw.a_atS, ↓Fw.a_step, Fw.v_step, Fw.v_min2, Fw.v_max2, Fw.v_clear, ↓Fw.a_mt, ↓Fw.a_mtX, ↓Fw.a_mk, ↓Fw.a_cb, ↓Fw.a_lst, ↓Fw.a_tup, ↓Fw.a_chain, ↓Fw.a_dnew, ↓Fw.a_start, Fw.v_rU, Int.reduceNeg, Fw.v_add_ii, Fw.v_add_ss, Fw.v_sub_ii, Fw.v_mul_ii, Fw.v_div_ii, Fw.v_mod_ii, Fw.v_pow_ii, Fw.v_lt_ii, Fw.v_gt_ii, Fw.v_le_ii, Fw.v_ge_ii, Fw.v_le_ss, Fw.v_eqS_ii, Fw.v_eqS_ss, Fw.v_neS_ii, Fw.v_neS_ss, Fw.v_eq_ii, Fw.v_eq_ss, Fw.v_eq_bb, Fw.v_ne_ii, Fw.v_ne_ss, Fw.v_ne_bb, Fw.v_ne_tt, Fw.v_eq_tt, Fw.v_in_sc, Fw.v_ix_s, Fw.v_len_s, Fw.v_type, Fw.v_is, ↓Fw.a_bm, ↓Fw.a_bm0, ↓Fw.a_sl, ↓Fw.a_nopart, ↓Fw.a_part, Fw.v_sl_s, Fw.v_sl_r, Fw.v_app, Fw.v_add_rr, ↓Fw.b_ix_r, Fw.b_ix_r, Fw.v_in_r, Fw.v_set_r, Fw.v_len_r, Fw.v_list_r, Fw.v_listA, Fw.v_dictA, Fw.v_int_i, Fw.v_int_b, Fw.v_key_i, Fw.v_key_s, Fw.v_lst, Fw.v_tup, Fw.v_dic, Fw.v_ty_r, Fw.v_ty_s, Fw.v_ty_i, Fw.v_ty_b, Fw.v_ty_n, Fw.v_tyL, Fw.v_same, Fw.v_old, Fw.v_ne, Fw.v_upd, Fw.v_flat_s, Fw.v_inStrs, ↓Fw.a_yes, Fw.v_wipe0, Fw.v_wipe1, Fw.cx_K, Int.reduceToNat, List.length_replicate, Nat.sub_self, Nat.reduceSub, Nat.reduceAdd, List.replicate_zero, List.replicate_succ, List.append_nil, List.length_cons, List.length_nil, List.map_cons, List.map_nil, List.cons_append, List.nil_append, List.getElem?_cons_zero, List.getElem?_cons_succ, List.set_cons_zero, List.set_cons_succ, Option.some.injEq, V.int.injEq, V.bl.injEq, V.ref.injEq, V.str.injEq, exists_eq_left', exists_eq_left, exists_eq_right, exists_and_left, HO.lst.injEq, HO.dK.injEq, HO.tup.injEq, Option.isSome_some, true_and, and_true, Fw.v_m_bool, Fw.v_m_int, Fw.v_m_str, Fw.v_m_list, Fw.v_m_tuple, Fw.v_m_dict, Fw.v_flats, Bool.xor_true, Bool.xor_false, Bool.not_eq_true', decide_eq_false_iff_not, not_true_eq_false, not_false_eq_true, decide_true, decide_false, decide_eq_true_eq, ite_true, ite_false, Bool.not_true, Bool.not_false, Bool.false_eq_true, reduceCtorEq, Fw.isT_NoneType_bool, Fw.isT_NoneType_int, Fw.isT_NoneType_str, Fw.isT_NoneType_list, Fw.isT_NoneType_tuple, Fw.isT_NoneType_dict, Fw.isT_bool_bool, Fw.isT_bool_int, Fw.isT_bool_str, Fw.isT_bool_list, Fw.isT_bool_tuple, Fw.isT_bool_dict, Fw.isT_int_bool, Fw.isT_int_int, Fw.isT_int_str, Fw.isT_int_list, Fw.isT_int_tuple, Fw.isT_int_dict, Fw.isT_str_bool, Fw.isT_str_int, Fw.isT_str_str, Fw.isT_str_list, Fw.isT_str_tuple, Fw.isT_str_dict, Fw.isT_list_bool, Fw.isT_list_int, Fw.isT_list_str, Fw.isT_list_list, Fw.isT_list_tuple, Fw.isT_list_dict, Fw.isT_tuple_bool, Fw.isT_tuple_int, Fw.isT_tuple_str, Fw.isT_tuple_list, Fw.isT_tuple_tuple, Fw.isT_tuple_dict, Fw.isT_dict_bool, Fw.isT_dict_int, Fw.isT_dict_str, Fw.isT_dict_list, Fw.isT_dict_tuple, Fw.isT_dict_dict]
      have Z : ∀ z : Int, Q (.int z) H := fun z => q _ _ (Same.refl H) ⟨_, rfl⟩
      refine ite2 (fun _ => ⟨⟨by decide, by decide, by decide⟩, by decide, Z _⟩) fun _ => ?_
      refine ite2 (fun _ => ⟨by decide, Z _⟩) fun _ => ?_
      refine ite2 (fun _ => ⟨⟨by decide, by decide, by decide⟩, by decide, Z _⟩) fun _ => ?_
      refine ite2 (fun _ => ⟨⟨by decide, by decide, by decide⟩, .inl ⟨by decide, by decide⟩, by decide, ⟨by decide, by decide, by decide⟩, Z _⟩) fun _ => ?_
      refine ⟨by decide, fun p hp => ⟨by decide, fun p1 hp1 => ⟨by decide, ?_⟩⟩⟩
      have ne : p ≠ p1 := ne_of_none upd_same hp1
      have s2 : Same H (upd (upd H p (.lst [.int 5])) p1 (.lst [.bl true, .bl false, .non, .str "5", .ref p])) := fun b o e => by
        rw [upd_ne (ne_of_none (by rw [upd_ne (ne_of_none e hp)]; exact e) hp1), upd_ne (ne_of_none e hp)]
        exact e
      have a1 := Int.emod_nonneg (cellAt ns 1) (b := 5) (by decide)
      have a2 := Int.emod_lt_of_pos (cellAt ns 1) (b := 5) (by decide)
      generalize cellAt ns 1 % 5 = z at a1 a2 ⊢
      have hz : z = 0 ∨ z = 1 ∨ z = 2 ∨ z = 3 ∨ z = 4 := by omega
      rcases hz with rfl | rfl | rfl | rfl | rfl
      · exact q _ _ s2 ⟨_, rfl⟩
      · exact q _ _ s2 ⟨_, rfl⟩
      · exact q _ _ s2 ⟨_, rfl⟩
      · exact q _ _ s2 ⟨_, rfl⟩
      · refine q _ _ s2 ⟨"list", ?_⟩
        show (match upd (upd H p (.lst [.int 5])) p1 (.lst [.bl true, .bl false, .non, .str "5", .ref p]) p with
          | some (.lst _) => some "list"
          | some (.tup _) => some "tuple"
          | some (.dK _) => some "dict"
          | _ => none) = some "list"
        rw [upd_ne ne, upd_same]
    · exact h.elim
/-! ### _law_refused_by_any -/
theorem ok_refused_by_any (S : Src K mg "_law_refused_by_any" ["_law_thing"] s_refused_by_any) (B : Blt mg) (G_amount_of : FnX P w K mg base 3 "amount_of" ["thing"] (sp_amount_of CA)) (X_BookError : Exn K mg "BookError" CB) (mAB : PySem.W.exmOne K (.ref CA) (.ref CB) = some true) (cA : ExcC K CA) (kA : PySem.W.kitOne K (.ref CA) (.type "ValueError") = some true) : Fn P w K mg base 4 "_law_refused_by_any" ["_law_thing"] (sp_refused_by_any K) := by
  have sc := sc_refused_by_any
  refine fn_mk S sc (fun vs H Q E h => ?_) (fun f cdv A outer s H vs Q E hr h => ⟨_, (pss_cons (ps_try_as (i := 1) rfl rfl sc.nd rfl rfl ⟨rfl, by decide, .inl X_BookError.gC⟩ takes0 (fun W pn xe tk _ =>
     (pss_one (ps_expr (pe_fnX G_amount_of tk (hr.mono (by decide)) rfl (pa_cons (pv 0) pa_nil)))))
     (fun a oe cls d pn hz hf => (pss_one (ps_ret (pe_isE hz hf rfl B.n_isinstance (pa_cons (pv 1) (pa_cons (pe_bltn (v := .ty "ValueError") rfl B.n_ValueError (by decide +kernel) rfl) pa_nil)))))))
     (pss_one (ps_ret pe_bl))), ?_⟩)
  · unfold sp_refused_by_any at h; split at h <;> first | rfl | exact h.elim
  · unfold sp_refused_by_any at h
    split at h
    · rename_i v
      split at h
      · rename_i T e
        simp -dsimp +contextual only [Fw.v_isD, ↓Fw.a_dget2, ↓Fw.b_dsetd, ↓Fw.a_star, Fw.v_pop, Fw.v_reverse, ↓Fw.a_tru1, Fw.v_tru_r, ↓Fw.a_gseq, ↓Fw.b_gcons, ↓Fw.b_gnil, ↓Fw.a_seq, ↓Fw.a_next, ↓Fw.a_brk, ↓Fw.a_cont, ↓Fw.a_asg, ↓Fw.a_name, ↓Fw.a_gsub, ↓Fw.b_var, ↓Fw.a_c, ↓Fw.a_op, ↓Fw.a_un, ↓Fw.a_cons, ↓Fw.a_nil, ↓Fw.a_ret, ↓Fw.a_retN, ↓Fw.a_drop, ↓Fw.a_if, ↓Fw.b_test, ↓Fw.b_B, ↓Fw.a_and, ↓Fw.a_or, ↓Fw.a_not, ↓Fw.b_andV, ↓Fw.b_orV, ↓Fw.b_notV, ↓Fw.a_ifE, ↓Fw.a_fn, ↓Fw.a_fnX, ↓Fw.a_hold, ↓Fw.a_holdX, ↓Fw.a_ne_rr, ↓Fw.a_eq_rr, ↓Fw.a_at, ↓Fw.a_atS, ↓Fw.a_step, Fw.v_step, Fw.v_min2, Fw.v_max2, Fw.v_clear, ↓Fw.a_mt, ↓Fw.a_mtX, ↓Fw.a_mk, ↓Fw.a_cb, ↓Fw.a_lst, ↓Fw.a_tup, ↓Fw.a_chain, ↓Fw.a_dnew, ↓Fw.a_start, Fw.v_rU, Int.reduceNeg, Fw.v_add_ii, Fw.v_add_ss, Fw.v_sub_ii, Fw.v_mul_ii, Fw.v_div_ii, Fw.v_mod_ii, Fw.v_pow_ii, Fw.v_lt_ii, Fw.v_gt_ii, Fw.v_le_ii, Fw.v_ge_ii, Fw.v_le_ss, Fw.v_eqS_ii, Fw.v_eqS_ss, Fw.v_neS_ii, Fw.v_neS_ss, Fw.v_eq_ii, Fw.v_eq_ss, Fw.v_eq_bb, Fw.v_ne_ii, Fw.v_ne_ss, Fw.v_ne_bb, Fw.v_ne_tt, Fw.v_eq_tt, Fw.v_in_sc, Fw.v_ix_s, Fw.v_len_s, Fw.v_type, Fw.v_is, ↓Fw.a_bm, ↓Fw.a_bm0, ↓Fw.a_sl, ↓Fw.a_nopart, ↓Fw.a_part, Fw.v_sl_s, Fw.v_sl_r, Fw.v_app, Fw.v_add_rr, ↓Fw.b_ix_r, Fw.b_ix_r, Fw.v_in_r, Fw.v_set_r, Fw.v_len_r, Fw.v_list_r, Fw.v_listA, Fw.v_dictA, Fw.v_int_i, Fw.v_int_b, Fw.v_key_i, Fw.v_key_s, Fw.v_lst, Fw.v_tup, Fw.v_dic, Fw.v_ty_r, Fw.v_ty_s, Fw.v_ty_i, Fw.v_ty_b, Fw.v_ty_n, Fw.v_tyL, Fw.v_same, Fw.v_old, Fw.v_ne, Fw.v_upd, Fw.v_flat_s, Fw.v_inStrs, ↓Fw.a_yes, Fw.v_wipe0, Fw.v_wipe1, Fw.cx_K, Int.reduceToNat, List.length_replicate, Nat.sub_self, Nat.reduceSub, Nat.reduceAdd, List.replicate_zero, List.replicate_succ, List.append_nil, List.length_cons, List.length_nil, List.map_cons, List.map_nil, List.cons_append, List.nil_append, List.getElem?_cons_zero, List.getElem?_cons_succ, List.set_cons_zero, List.set_cons_succ, Option.some.injEq, V.int.injEq, V.bl.injEq, V.ref.injEq, V.str.injEq, exists_eq_left', exists_eq_left, exists_eq_right, exists_and_left, HO.lst.injEq, HO.dK.injEq, HO.tup.injEq, Option.isSome_some, true_and, and_true, Fw.v_m_bool, Fw.v_m_int, Fw.v_m_str, Fw.v_m_list, Fw.v_m_tuple, Fw.v_m_dict, Fw.v_flats, Bool.xor_true, Bool.xor_false, Bool.not_eq_true', decide_eq_false_iff_not, not_true_eq_false, not_false_eq_true, decide_true, decide_false, decide_eq_true_eq, ite_true, ite_false, Bool.not_true, Bool.not_false, Bool.false_eq_true, reduceCtorEq, Fw.isT_NoneType_bool, Fw.isT_NoneType_int, Fw.isT_NoneType_str, Fw.isT_NoneType_list, Fw.isT_NoneType_tuple, Fw.isT_NoneType_dict, Fw.isT_bool_bool, Fw.isT_bool_int, Fw.isT_bool_str, Fw.isT_bool_list, Fw.isT_bool_tuple, Fw.isT_bool_dict, Fw.isT_int_bool, Fw.isT_int_int, Fw.isT_int_str, Fw.isT_int_list, Fw.isT_int_tuple, Fw.isT_int_dict, Fw.isT_str_bool, Fw.isT_str_int, Fw.isT_str_str, Fw.isT_str_list, Fw.isT_str_tuple, Fw.isT_str_dict, Fw.isT_list_bool, Fw.isT_list_int, Fw.isT_list_str, Fw.isT_list_list, Fw.isT_list_tuple, Fw.isT_list_dict, Fw.isT_tuple_bool, Fw.isT_tuple_int, Fw.isT_tuple_str, Fw.isT_tuple_list, Fw.isT_tuple_tuple, Fw.isT_tuple_dict, Fw.isT_dict_bool, Fw.isT_dict_int, Fw.isT_dict_str, Fw.isT_dict_list, Fw.isT_dict_tuple, Fw.isT_dict_dict]
        unfold sp_amount_of
        simp only [e]
        cases hb : isA v with
        | true =>
          rw [hb] at h
          exact h
        | false =>
          rw [hb] at h
          refine ⟨true, mAB, fun _ a na => ?_, fun z => nomatch z⟩
          simp -dsimp +contextual only [Fw.v_isD, ↓Fw.a_dget2, ↓Fw.b_dsetd, ↓Fw.a_star, Fw.v_pop, Fw.v_reverse, ↓Fw.a_tru1, Fw.v_tru_r, ↓Fw.a_gseq, ↓Fw.b_gcons, ↓Fw.b_gnil, ↓Fw.a_seq, ↓Fw.a_next, ↓Fw.a_brk, ↓Fw.a_cont, ↓Fw.a_asg, ↓Fw.a_name, ↓Fw.a_gsub, ↓Fw.b_var, ↓Fw.a_c, ↓Fw.a_op, ↓Fw.a_un, ↓Fw.a_cons, ↓Fw.a_nil, ↓Fw.a_ret, ↓Fw.a_retN, ↓Fw.a_drop, ↓Fw.a_if, ↓Fw.b_test, ↓Fw.b_B, ↓Fw.a_and, ↓Fw.a_or, ↓Fw.a_not, ↓Fw.b_andV, ↓Fw.b_orV, ↓Fw.b_notV, ↓Fw.a_ifE, ↓Fw.a_fn, ↓Fw.a_fnX, ↓Fw.a_hold, ↓Fw.a_holdX, ↓Fw.a_ne_rr, ↓Fw.a_eq_rr, ↓Fw.a_at, ↓Fw.a_atS, ↓Fw.a_step, Fw.v_step, Fw.v_min2, Fw.v_max2, Fw.v_clear, ↓Fw.a_mt, ↓Fw.a_mtX, ↓Fw.a_mk, ↓Fw.a_cb, ↓Fw.a_lst, ↓Fw.a_tup, ↓Fw.a_chain, ↓Fw.a_dnew, ↓Fw.a_start, Fw.v_rU, Int.reduceNeg, Fw.v_add_ii, Fw.v_add_ss, Fw.v_sub_ii, Fw.v_mul_ii, Fw.v_div_ii, Fw.v_mod_ii, Fw.v_pow_ii, Fw.v_lt_ii, Fw.v_gt_ii, Fw.v_le_ii, Fw.v_ge_ii, Fw.v_le_ss, Fw.v_eqS_ii, Fw.v_eqS_ss, Fw.v_neS_ii, Fw.v_neS_ss, Fw.v_eq_ii, Fw.v_eq_ss, Fw.v_eq_bb, Fw.v_ne_ii, Fw.v_ne_ss, Fw.v_ne_bb, Fw.v_ne_tt, Fw.v_eq_tt, Fw.v_in_sc, Fw.v_ix_s, Fw.v_len_s, Fw.v_type, Fw.v_is, ↓Fw.a_bm, ↓Fw.a_bm0, ↓Fw.a_sl, ↓Fw.a_nopart, ↓Fw.a_part, Fw.v_sl_s, Fw.v_sl_r, Fw.v_app, Fw.v_add_rr, ↓Fw.b_ix_r, Fw.b_ix_r, Fw.v_in_r, Fw.v_set_r, Fw.v_len_r, Fw.v_list_r, Fw.v_listA, Fw.v_dictA, Fw.v_int_i, Fw.v_int_b, Fw.v_key_i, Fw.v_key_s, Fw.v_lst, Fw.v_tup, Fw.v_dic, Fw.v_ty_r, Fw.v_ty_s, Fw.v_ty_i, Fw.v_ty_b, Fw.v_ty_n, Fw.v_tyL, Fw.v_same, Fw.v_old, Fw.v_ne, Fw.v_upd, Fw.v_flat_s, Fw.v_inStrs, ↓Fw.a_yes, Fw.v_wipe0, Fw.v_wipe1, Fw.cx_K, Int.reduceToNat, List.length_replicate, Nat.sub_self, Nat.reduceSub, Nat.reduceAdd, List.replicate_zero, List.replicate_succ, List.append_nil, List.length_cons, List.length_nil, List.map_cons, List.map_nil, List.cons_append, List.nil_append, List.getElem?_cons_zero, List.getElem?_cons_succ, List.set_cons_zero, List.set_cons_succ, Option.some.injEq, V.int.injEq, V.bl.injEq, V.ref.injEq, V.str.injEq, exists_eq_left', exists_eq_left, exists_eq_right, exists_and_left, HO.lst.injEq, HO.dK.injEq, HO.tup.injEq, Option.isSome_some, true_and, and_true, Fw.v_m_bool, Fw.v_m_int, Fw.v_m_str, Fw.v_m_list, Fw.v_m_tuple, Fw.v_m_dict, Fw.v_flats, Bool.xor_true, Bool.xor_false, Bool.not_eq_true', decide_eq_false_iff_not, not_true_eq_false, not_false_eq_true, decide_true, decide_false, decide_eq_true_eq, ite_true, ite_false, Bool.not_true, Bool.not_false, Bool.false_eq_true, reduceCtorEq, Fw.isT_NoneType_bool, Fw.isT_NoneType_int, Fw.isT_NoneType_str, Fw.isT_NoneType_list, Fw.isT_NoneType_tuple, Fw.isT_NoneType_dict, Fw.isT_bool_bool, Fw.isT_bool_int, Fw.isT_bool_str, Fw.isT_bool_list, Fw.isT_bool_tuple, Fw.isT_bool_dict, Fw.isT_int_bool, Fw.isT_int_int, Fw.isT_int_str, Fw.isT_int_list, Fw.isT_int_tuple, Fw.isT_int_dict, Fw.isT_str_bool, Fw.isT_str_int, Fw.isT_str_str, Fw.isT_str_list, Fw.isT_str_tuple, Fw.isT_str_dict, Fw.isT_list_bool, Fw.isT_list_int, Fw.isT_list_str, Fw.isT_list_list, Fw.isT_list_tuple, Fw.isT_list_dict, Fw.isT_tuple_bool, Fw.isT_tuple_int, Fw.isT_tuple_str, Fw.isT_tuple_list, Fw.isT_tuple_tuple, Fw.isT_tuple_dict, Fw.isT_dict_bool, Fw.isT_dict_int, Fw.isT_dict_str, Fw.isT_dict_list, Fw.isT_dict_tuple, Fw.isT_dict_dict]
          exact ⟨CA, _, _, true, rfl, rfl, cA, rfl, fun u r => r, kA, h⟩
      · exact h.elim
    · exact h.elim
/-! ### law -/
theorem ok_law (S : Src K mg "law" ["_law_script"] s_law) (B : Blt mg) (G_amount_of : FnX P w K mg base 3 "amount_of" ["thing"] (sp_amount_of CA)) (G__law_whole : Fn P w K mg base 1 "_law_whole" ["_law_found"] (sp_whole)) (G__law_thing_by : Fn P w K mg base 2 "_law_thing_by" ["_law_script"] (sp_thing_by K)) (G__law_refused_by_any : Fn P w K mg base 4 "_law_refused_by_any" ["_law_thing"] (sp_refused_by_any K)) (X_NoAmount : Exn K mg "NoAmount" CA) (mAA : PySem.W.exmOne K (.ref CA) (.ref CA) = some true) : Fn P w K mg base 5 "law" ["_law_script"] (sp_law K) := by
  have sc := sc_law
  refine fn_mk S sc (fun vs H Q E h => ?_) (fun f cdv A outer s H vs Q E hr h => ⟨_, (pss_cons (ps_set (i := 1) sc.nd rfl (by first | exact Or.inl rfl | exact Or.inr rfl) (pe_fn G__law_thing_by (hr.mono (by decide)) rfl (pa_cons (pv 0) pa_nil)))
     (pss_cons (ps_set (i := 2) sc.nd rfl (by first | exact Or.inl rfl | exact Or.inr rfl) pe_bl)
     (pss_cons (ps_set (i := 3) sc.nd rfl (by first | exact Or.inl rfl | exact Or.inr rfl) pe_non)
     (pss_cons (ps_try_only rfl rfl ⟨rfl, by decide, .inl X_NoAmount.gC⟩ takes0 (fun W pn xe tk _ =>
     (pss_one (ps_set (i := 3) sc.nd rfl (by first | exact Or.inl rfl | exact Or.inr rfl) (pe_fnX G_amount_of tk (hr.mono (by decide)) rfl (pa_cons (pv 1) pa_nil)))))
     (fun a oe cls d pn hz hf => (pss_one (ps_set (i := 2) sc.nd rfl (by first | exact Or.inl rfl | exact Or.inr rfl) pe_bl))))
     (pss_cons (ps_if (PW.pt (pw_or (pt_not (pt_val (pe_fn G__law_whole (hr.mono (by decide)) rfl (pa_cons (pv 1) pa_nil)))) (pw_or (pt_cmpR op_vLt (pv 1) pe_int (nomark _)) (pw_or1 (pt_cmpR op_vGt (pv 1) (pe_op op_vPow pe_int pe_int) (nomark _))))))
     (pss_one (ps_ret (pe_and (pv 2) (pe_one (pe_fn G__law_refused_by_any (hr.mono (by decide)) rfl (pa_cons (pv 1) pa_nil))))))
     pss_nil)
     (pss_one (ps_ret (pe_and (pe_not (pv 2)) (pe_and (pe_fn G__law_whole (hr.mono (by decide)) rfl (pa_cons (pv 3) pa_nil)) (pe_one (pe_cmpR (op_vEq hr.units) (pv 3) (pv 1) (nomark _)))))))))))), ?_⟩)
  · unfold sp_law at h; split at h <;> first | rfl | exact h.elim
  · unfold sp_law at h
    split at h
    · rename_i a
      obtain ⟨hS, q⟩ := h
      simp -dsimp +contextual only [Fw.v_isD, ↓Fw.a_dget2, ↓Fw.b_dsetd, ↓Fw.a_star, Fw.v_pop, Fw.v_reverse, ↓Fw.a_tru1, Fw.v_tru_r, ↓Fw.a_gseq, ↓Fw.b_gcons, ↓Fw.b_gnil, ↓Fw.a_seq, ↓Fw.a_next, ↓Fw.a_brk, ↓Fw.a_cont, ↓Fw.a_asg, ↓Fw.a_name, ↓Fw.a_gsub, ↓Fw.b_var, ↓Fw.a_c, ↓Fw.a_op, ↓Fw.a_un, ↓Fw.a_cons, ↓Fw.a_nil, ↓Fw.a_ret, ↓Fw.a_retN, ↓Fw.a_drop, ↓Fw.a_if, ↓Fw.b_test, ↓Fw.b_B, ↓Fw.a_and, ↓Fw.a_or, ↓Fw.a_not, ↓Fw.b_andV, ↓Fw.b_orV, ↓Fw.b_notV, ↓Fw.a_ifE, ↓Fw.a_fn, ↓Fw.a_fnX, ↓Fw.a_hold, ↓Fw.a_holdX, ↓Fw.a_ne_rr, ↓Fw.a_eq_rr, ↓Fw.a_at, ↓Fw.a_atS, ↓Fw.a_step, Fw.v_step, Fw.v_min2, Fw.v_max2, Fw.v_clear, ↓Fw.a_mt, ↓Fw.a_mtX, ↓Fw.a_mk, ↓Fw.a_cb, ↓Fw.a_lst, ↓Fw.a_tup, ↓Fw.a_chain, ↓Fw.a_dnew, ↓Fw.a_start, Fw.v_rU, Int.reduceNeg, Fw.v_add_ii, Fw.v_add_ss, Fw.v_sub_ii, Fw.v_mul_ii, Fw.v_div_ii, Fw.v_mod_ii, Fw.v_pow_ii, Fw.v_lt_ii, Fw.v_gt_ii, Fw.v_le_ii, Fw.v_ge_ii, Fw.v_le_ss, Fw.v_eqS_ii, Fw.v_eqS_ss, Fw.v_neS_ii, Fw.v_neS_ss, Fw.v_eq_ii, Fw.v_eq_ss, Fw.v_eq_bb, Fw.v_ne_ii, Fw.v_ne_ss, Fw.v_ne_bb, Fw.v_ne_tt, Fw.v_eq_tt, Fw.v_in_sc, Fw.v_ix_s, Fw.v_len_s, Fw.v_type, Fw.v_is, ↓Fw.a_bm, ↓Fw.a_bm0, ↓Fw.a_sl, ↓Fw.a_nopart, ↓Fw.a_part, Fw.v_sl_s, Fw.v_sl_r, Fw.v_app, Fw.v_add_rr, ↓Fw.b_ix_r, Fw.b_ix_r, Fw.v_in_r, Fw.v_set_r, Fw.v_len_r, Fw.v_list_r, Fw.v_listA, Fw.v_dictA, Fw.v_int_i, Fw.v_int_b, Fw.v_key_i, Fw.v_key_s, Fw.v_lst, Fw.v_tup, Fw.v_dic, Fw.v_ty_r, Fw.v_ty_s, Fw.v_ty_i, Fw.v_ty_b, Fw.v_ty_n, Fw.v_tyL, Fw.v_same, Fw.v_old, Fw.v_ne, Fw.v_upd, Fw.v_flat_s, Fw.v_inStrs, ↓Fw.a_yes, Fw.v_wipe0, Fw.v_wipe1, Fw.cx_K, Int.reduceToNat, List.length_replicate, Nat.sub_self, Nat.reduceSub, Nat.reduceAdd, List.replicate_zero, List.replicate_succ, List.append_nil, List.length_cons, List.length_nil, List.map_cons, List.map_nil, List.cons_append, List.nil_append, List.getElem?_cons_zero, List.getElem?_cons_succ, List.set_cons_zero, List.set_cons_succ, Option.some.injEq, V.int.injEq, V.bl.injEq, V.ref.injEq, V.str.injEq, exists_eq_left', exists_eq_left, exists_eq_right, exists_and_left, HO.lst.injEq, HO.dK.injEq, HO.tup.injEq, Option.isSome_some, true_and, and_true, Fw.v_m_bool, Fw.v_m_int, Fw.v_m_str, Fw.v_m_list, Fw.v_m_tuple, Fw.v_m_dict, Fw.v_flats, Bool.xor_true, Bool.xor_false, Bool.not_eq_true', decide_eq_false_iff_not, not_true_eq_false, not_false_eq_true, decide_true, decide_false, decide_eq_true_eq, ite_true, ite_false, Bool.not_true, Bool.not_false, Bool.false_eq_true, reduceCtorEq, Fw.isT_NoneType_bool, Fw.isT_NoneType_int, Fw.isT_NoneType_str, Fw.isT_NoneType_list, Fw.isT_NoneType_tuple, Fw.isT_NoneType_dict, Fw.isT_bool_bool, Fw.isT_bool_int, Fw.isT_bool_str, Fw.isT_bool_list, Fw.isT_bool_tuple, Fw.isT_bool_dict, Fw.isT_int_bool, Fw.isT_int_int, Fw.isT_int_str, Fw.isT_int_list, Fw.isT_int_tuple, Fw.isT_int_dict, Fw.isT_str_bool, Fw.isT_str_int, Fw.isT_str_str, Fw.isT_str_list, Fw.isT_str_tuple, Fw.isT_str_dict, Fw.isT_list_bool, Fw.isT_list_int, Fw.isT_list_str, Fw.isT_list_list, Fw.isT_list_tuple, Fw.isT_list_dict, Fw.isT_tuple_bool, Fw.isT_tuple_int, Fw.isT_tuple_str, Fw.isT_tuple_list, Fw.isT_tuple_tuple, Fw.isT_tuple_dict, Fw.isT_dict_bool, Fw.isT_dict_int, Fw.isT_dict_str, Fw.isT_dict_list, Fw.isT_dict_tuple, Fw.isT_dict_dict]
      unfold sp_thing_by
      refine ⟨hS, fun v H' sm hv => ?_⟩
      obtain ⟨T, e⟩ := hv
      simp -dsimp +contextual only [Fw.v_isD, ↓Fw.a_dget2, ↓Fw.b_dsetd, ↓Fw.a_star, Fw.v_pop, Fw.v_reverse, ↓Fw.a_tru1, Fw.v_tru_r, ↓Fw.a_gseq, ↓Fw.b_gcons, ↓Fw.b_gnil, ↓Fw.a_seq, ↓Fw.a_next, ↓Fw.a_brk, ↓Fw.a_cont, ↓Fw.a_asg, ↓Fw.a_name, ↓Fw.a_gsub, ↓Fw.b_var, ↓Fw.a_c, ↓Fw.a_op, ↓Fw.a_un, ↓Fw.a_cons, ↓Fw.a_nil, ↓Fw.a_ret, ↓Fw.a_retN, ↓Fw.a_drop, ↓Fw.a_if, ↓Fw.b_test, ↓Fw.b_B, ↓Fw.a_and, ↓Fw.a_or, ↓Fw.a_not, ↓Fw.b_andV, ↓Fw.b_orV, ↓Fw.b_notV, ↓Fw.a_ifE, ↓Fw.a_fn, ↓Fw.a_fnX, ↓Fw.a_hold, ↓Fw.a_holdX, ↓Fw.a_ne_rr, ↓Fw.a_eq_rr, ↓Fw.a_at, ↓Fw.a_atS, ↓Fw.a_step, Fw.v_step, Fw.v_min2, Fw.v_max2, Fw.v_clear, ↓Fw.a_mt, ↓Fw.a_mtX, ↓Fw.a_mk, ↓Fw.a_cb, ↓Fw.a_lst, ↓Fw.a_tup, ↓Fw.a_chain, ↓Fw.a_dnew, ↓Fw.a_start, Fw.v_rU, Int.reduceNeg, Fw.v_add_ii, Fw.v_add_ss, Fw.v_sub_ii, Fw.v_mul_ii, Fw.v_div_ii, Fw.v_mod_ii, Fw.v_pow_ii, Fw.v_lt_ii, Fw.v_gt_ii, Fw.v_le_ii, Fw.v_ge_ii, Fw.v_le_ss, Fw.v_eqS_ii, Fw.v_eqS_ss, Fw.v_neS_ii, Fw.v_neS_ss, Fw.v_eq_ii, Fw.v_eq_ss, Fw.v_eq_bb, Fw.v_ne_ii, Fw.v_ne_ss, Fw.v_ne_bb, Fw.v_ne_tt, Fw.v_eq_tt, Fw.v_in_sc, Fw.v_ix_s, Fw.v_len_s, Fw.v_type, Fw.v_is, ↓Fw.a_bm, ↓Fw.a_bm0, ↓Fw.a_sl, ↓Fw.a_nopart, ↓Fw.a_part, Fw.v_sl_s, Fw.v_sl_r, Fw.v_app, Fw.v_add_rr, ↓Fw.b_ix_r, Fw.b_ix_r, Fw.v_in_r, Fw.v_set_r, Fw.v_len_r, Fw.v_list_r, Fw.v_listA, Fw.v_dictA, Fw.v_int_i, Fw.v_int_b, Fw.v_key_i, Fw.v_key_s, Fw.v_lst, Fw.v_tup, Fw.v_dic, Fw.v_ty_r, Fw.v_ty_s, Fw.v_ty_i, Fw.v_ty_b, Fw.v_ty_n, Fw.v_tyL, Fw.v_same, Fw.v_old, Fw.v_ne, Fw.v_upd, Fw.v_flat_s, Fw.v_inStrs, ↓Fw.a_yes, Fw.v_wipe0, Fw.v_wipe1, Fw.cx_K, Int.reduceToNat, List.length_replicate, Nat.sub_self, Nat.reduceSub, Nat.reduceAdd, List.replicate_zero, List.replicate_succ, List.append_nil, List.length_cons, List.length_nil, List.map_cons, List.map_nil, List.cons_append, List.nil_append, List.getElem?_cons_zero, List.getElem?_cons_succ, List.set_cons_zero, List.set_cons_succ, Option.some.injEq, V.int.injEq, V.bl.injEq, V.ref.injEq, V.str.injEq, exists_eq_left', exists_eq_left, exists_eq_right, exists_and_left, HO.lst.injEq, HO.dK.injEq, HO.tup.injEq, Option.isSome_some, true_and, and_true, Fw.v_m_bool, Fw.v_m_int, Fw.v_m_str, Fw.v_m_list, Fw.v_m_tuple, Fw.v_m_dict, Fw.v_flats, Bool.xor_true, Bool.xor_false, Bool.not_eq_true', decide_eq_false_iff_not, not_true_eq_false, not_false_eq_true, decide_true, decide_false, decide_eq_true_eq, ite_true, ite_false, Bool.not_true, Bool.not_false, Bool.false_eq_true, reduceCtorEq, Fw.isT_NoneType_bool, Fw.isT_NoneType_int, Fw.isT_NoneType_str, Fw.isT_NoneType_list, Fw.isT_NoneType_tuple, Fw.isT_NoneType_dict, Fw.isT_bool_bool, Fw.isT_bool_int, Fw.isT_bool_str, Fw.isT_bool_list, Fw.isT_bool_tuple, Fw.isT_bool_dict, Fw.isT_int_bool, Fw.isT_int_int, Fw.isT_int_str, Fw.isT_int_list, Fw.isT_int_tuple, Fw.isT_int_dict, Fw.isT_str_bool, Fw.isT_str_int, Fw.isT_str_str, Fw.isT_str_list, Fw.isT_str_tuple, Fw.isT_str_dict, Fw.isT_list_bool, Fw.isT_list_int, Fw.isT_list_str, Fw.isT_list_list, Fw.isT_list_tuple, Fw.isT_list_dict, Fw.isT_tuple_bool, Fw.isT_tuple_int, Fw.isT_tuple_str, Fw.isT_tuple_list, Fw.isT_tuple_tuple, Fw.isT_tuple_dict, Fw.isT_dict_bool, Fw.isT_dict_int, Fw.isT_dict_str, Fw.isT_dict_list, Fw.isT_dict_tuple, Fw.isT_dict_dict]
      unfold sp_amount_of
      simp only [e]
      cases hb : isA v with
      | true =>
        obtain ⟨i, rfl⟩ : ∃ i, v = .int i := by
          cases v <;> first | exact ⟨_, rfl⟩ | cases hb
        simp only [isA, Bool.and_eq_true, decide_eq_true_eq] at hb
        unfold sp_whole
        simp only [e, ite_true]
        simp -dsimp +contextual only [Fw.v_isD, ↓Fw.a_dget2, ↓Fw.b_dsetd, ↓Fw.a_star, Fw.v_pop, Fw.v_reverse, ↓Fw.a_tru1, Fw.v_tru_r, ↓Fw.a_gseq, ↓Fw.b_gcons, ↓Fw.b_gnil, ↓Fw.a_seq, ↓Fw.a_next, ↓Fw.a_brk, ↓Fw.a_cont, ↓Fw.a_asg, ↓Fw.a_name, ↓Fw.a_gsub, ↓Fw.b_var, ↓Fw.a_c, ↓Fw.a_op, ↓Fw.a_un, ↓Fw.a_cons, ↓Fw.a_nil, ↓Fw.a_ret, ↓Fw.a_retN, ↓Fw.a_drop, ↓Fw.a_if, ↓Fw.b_test, ↓Fw.b_B, ↓Fw.a_and, ↓Fw.a_or, ↓Fw.a_not, ↓Fw.b_andV, ↓Fw.b_orV, ↓Fw.b_notV, ↓Fw.a_ifE, ↓Fw.a_fn, ↓Fw.a_fnX, ↓Fw.a_hold, ↓Fw.a_holdX, ↓Fw.a_ne_rr, ↓Fw.a_eq_rr, ↓Fw.a_at, ↓Fw.a_atS, ↓Fw.a_step, Fw.v_step, Fw.v_min2, Fw.v_max2, Fw.v_clear, ↓Fw.a_mt, ↓Fw.a_mtX, ↓Fw.a_mk, ↓Fw.a_cb, ↓Fw.a_lst, ↓Fw.a_tup, ↓Fw.a_chain, ↓Fw.a_dnew, ↓Fw.a_start, Fw.v_rU, Int.reduceNeg, Fw.v_add_ii, Fw.v_add_ss, Fw.v_sub_ii, Fw.v_mul_ii, Fw.v_div_ii, Fw.v_mod_ii, Fw.v_pow_ii, Fw.v_lt_ii, Fw.v_gt_ii, Fw.v_le_ii, Fw.v_ge_ii, Fw.v_le_ss, Fw.v_eqS_ii, Fw.v_eqS_ss, Fw.v_neS_ii, Fw.v_neS_ss, Fw.v_eq_ii, Fw.v_eq_ss, Fw.v_eq_bb, Fw.v_ne_ii, Fw.v_ne_ss, Fw.v_ne_bb, Fw.v_ne_tt, Fw.v_eq_tt, Fw.v_in_sc, Fw.v_ix_s, Fw.v_len_s, Fw.v_type, Fw.v_is, ↓Fw.a_bm, ↓Fw.a_bm0, ↓Fw.a_sl, ↓Fw.a_nopart, ↓Fw.a_part, Fw.v_sl_s, Fw.v_sl_r, Fw.v_app, Fw.v_add_rr, ↓Fw.b_ix_r, Fw.b_ix_r, Fw.v_in_r, Fw.v_set_r, Fw.v_len_r, Fw.v_list_r, Fw.v_listA, Fw.v_dictA, Fw.v_int_i, Fw.v_int_b, Fw.v_key_i, Fw.v_key_s, Fw.v_lst, Fw.v_tup, Fw.v_dic, Fw.v_ty_r, Fw.v_ty_s, Fw.v_ty_i, Fw.v_ty_b, Fw.v_ty_n, Fw.v_tyL, Fw.v_same, Fw.v_old, Fw.v_ne, Fw.v_upd, Fw.v_flat_s, Fw.v_inStrs, ↓Fw.a_yes, Fw.v_wipe0, Fw.v_wipe1, Fw.cx_K, Int.reduceToNat, List.length_replicate, Nat.sub_self, Nat.reduceSub, Nat.reduceAdd, List.replicate_zero, List.replicate_succ, List.append_nil, List.length_cons, List.length_nil, List.map_cons, List.map_nil, List.cons_append, List.nil_append, List.getElem?_cons_zero, List.getElem?_cons_succ, List.set_cons_zero, List.set_cons_succ, Option.some.injEq, V.int.injEq, V.bl.injEq, V.ref.injEq, V.str.injEq, exists_eq_left', exists_eq_left, exists_eq_right, exists_and_left, HO.lst.injEq, HO.dK.injEq, HO.tup.injEq, Option.isSome_some, true_and, and_true, Fw.v_m_bool, Fw.v_m_int, Fw.v_m_str, Fw.v_m_list, Fw.v_m_tuple, Fw.v_m_dict, Fw.v_flats, Bool.xor_true, Bool.xor_false, Bool.not_eq_true', decide_eq_false_iff_not, not_true_eq_false, not_false_eq_true, decide_true, decide_false, decide_eq_true_eq, ite_true, ite_false, Bool.not_true, Bool.not_false, Bool.false_eq_true, reduceCtorEq, Fw.isT_NoneType_bool, Fw.isT_NoneType_int, Fw.isT_NoneType_str, Fw.isT_NoneType_list, Fw.isT_NoneType_tuple, Fw.isT_NoneType_dict, Fw.isT_bool_bool, Fw.isT_bool_int, Fw.isT_bool_str, Fw.isT_bool_list, Fw.isT_bool_tuple, Fw.isT_bool_dict, Fw.isT_int_bool, Fw.isT_int_int, Fw.isT_int_str, Fw.isT_int_list, Fw.isT_int_tuple, Fw.isT_int_dict, Fw.isT_str_bool, Fw.isT_str_int, Fw.isT_str_str, Fw.isT_str_list, Fw.isT_str_tuple, Fw.isT_str_dict, Fw.isT_list_bool, Fw.isT_list_int, Fw.isT_list_str, Fw.isT_list_list, Fw.isT_list_tuple, Fw.isT_list_dict, Fw.isT_tuple_bool, Fw.isT_tuple_int, Fw.isT_tuple_str, Fw.isT_tuple_list, Fw.isT_tuple_tuple, Fw.isT_tuple_dict, Fw.isT_dict_bool, Fw.isT_dict_int, Fw.isT_dict_str, Fw.isT_dict_list, Fw.isT_dict_tuple, Fw.isT_dict_dict]
        simp only [isInt, Bool.not_true, Bool.false_eq_true, ite_false, ite_true, decide_true]
        rw [if_neg (by omega)]
        refine ⟨⟨by decide, by decide, by decide⟩, ?_⟩
        rw [if_neg (by omega)]
        exact q _
      | false =>
        refine ⟨true, mAA, fun _ b nb => ?_, fun z => nomatch z⟩
        simp -dsimp +contextual only [Fw.v_isD, ↓Fw.a_dget2, ↓Fw.b_dsetd, ↓Fw.a_star, Fw.v_pop, Fw.v_reverse, ↓Fw.a_tru1, Fw.v_tru_r, ↓Fw.a_gseq, ↓Fw.b_gcons, ↓Fw.b_gnil, ↓Fw.a_seq, ↓Fw.a_next, ↓Fw.a_brk, ↓Fw.a_cont, ↓Fw.a_asg, ↓Fw.a_name, ↓Fw.a_gsub, ↓Fw.b_var, ↓Fw.a_c, ↓Fw.a_op, ↓Fw.a_un, ↓Fw.a_cons, ↓Fw.a_nil, ↓Fw.a_ret, ↓Fw.a_retN, ↓Fw.a_drop, ↓Fw.a_if, ↓Fw.b_test, ↓Fw.b_B, ↓Fw.a_and, ↓Fw.a_or, ↓Fw.a_not, ↓Fw.b_andV, ↓Fw.b_orV, ↓Fw.b_notV, ↓Fw.a_ifE, ↓Fw.a_fn, ↓Fw.a_fnX, ↓Fw.a_hold, ↓Fw.a_holdX, ↓Fw.a_ne_rr, ↓Fw.a_eq_rr, ↓Fw.a_at, ↓Fw.a_atS, ↓Fw.a_step, Fw.v_step, Fw.v_min2, Fw.v_max2, Fw.v_clear, ↓Fw.a_mt, ↓Fw.a_mtX, ↓Fw.a_mk, ↓Fw.a_cb, ↓Fw.a_lst, ↓Fw.a_tup, ↓Fw.a_chain, ↓Fw.a_dnew, ↓Fw.a_start, Fw.v_rU, Int.reduceNeg, Fw.v_add_ii, Fw.v_add_ss, Fw.v_sub_ii, Fw.v_mul_ii, Fw.v_div_ii, Fw.v_mod_ii, Fw.v_pow_ii, Fw.v_lt_ii, Fw.v_gt_ii, Fw.v_le_ii, Fw.v_ge_ii, Fw.v_le_ss, Fw.v_eqS_ii, Fw.v_eqS_ss, Fw.v_neS_ii, Fw.v_neS_ss, Fw.v_eq_ii, Fw.v_eq_ss, Fw.v_eq_bb, Fw.v_ne_ii, Fw.v_ne_ss, Fw.v_ne_bb, Fw.v_ne_tt, Fw.v_eq_tt, Fw.v_in_sc, Fw.v_ix_s, Fw.v_len_s, Fw.v_type, Fw.v_is, ↓Fw.a_bm, ↓Fw.a_bm0, ↓Fw.a_sl, ↓Fw.a_nopart, ↓Fw.a_part, Fw.v_sl_s, Fw.v_sl_r, Fw.v_app, Fw.v_add_rr, ↓Fw.b_ix_r, Fw.b_ix_r, Fw.v_in_r, Fw.v_set_r, Fw.v_len_r, Fw.v_list_r, Fw.v_listA, Fw.v_dictA, Fw.v_int_i, Fw.v_int_b, Fw.v_key_i, Fw.v_key_s, Fw.v_lst, Fw.v_tup, Fw.v_dic, Fw.v_ty_r, Fw.v_ty_s, Fw.v_ty_i, Fw.v_ty_b, Fw.v_ty_n, Fw.v_tyL, Fw.v_same, Fw.v_old, Fw.v_ne, Fw.v_upd, Fw.v_flat_s, Fw.v_inStrs, ↓Fw.a_yes, Fw.v_wipe0, Fw.v_wipe1, Fw.cx_K, Int.reduceToNat, List.length_replicate, Nat.sub_self, Nat.reduceSub, Nat.reduceAdd, List.replicate_zero, List.replicate_succ, List.append_nil, List.length_cons, List.length_nil, List.map_cons, List.map_nil, List.cons_append, List.nil_append, List.getElem?_cons_zero, List.getElem?_cons_succ, List.set_cons_zero, List.set_cons_succ, Option.some.injEq, V.int.injEq, V.bl.injEq, V.ref.injEq, V.str.injEq, exists_eq_left', exists_eq_left, exists_eq_right, exists_and_left, HO.lst.injEq, HO.dK.injEq, HO.tup.injEq, Option.isSome_some, true_and, and_true, Fw.v_m_bool, Fw.v_m_int, Fw.v_m_str, Fw.v_m_list, Fw.v_m_tuple, Fw.v_m_dict, Fw.v_flats, Bool.xor_true, Bool.xor_false, Bool.not_eq_true', decide_eq_false_iff_not, not_true_eq_false, not_false_eq_true, decide_true, decide_false, decide_eq_true_eq, ite_true, ite_false, Bool.not_true, Bool.not_false, Bool.false_eq_true, reduceCtorEq, Fw.isT_NoneType_bool, Fw.isT_NoneType_int, Fw.isT_NoneType_str, Fw.isT_NoneType_list, Fw.isT_NoneType_tuple, Fw.isT_NoneType_dict, Fw.isT_bool_bool, Fw.isT_bool_int, Fw.isT_bool_str, Fw.isT_bool_list, Fw.isT_bool_tuple, Fw.isT_bool_dict, Fw.isT_int_bool, Fw.isT_int_int, Fw.isT_int_str, Fw.isT_int_list, Fw.isT_int_tuple, Fw.isT_int_dict, Fw.isT_str_bool, Fw.isT_str_int, Fw.isT_str_str, Fw.isT_str_list, Fw.isT_str_tuple, Fw.isT_str_dict, Fw.isT_list_bool, Fw.isT_list_int, Fw.isT_list_str, Fw.isT_list_list, Fw.isT_list_tuple, Fw.isT_list_dict, Fw.isT_tuple_bool, Fw.isT_tuple_int, Fw.isT_tuple_str, Fw.isT_tuple_list, Fw.isT_tuple_tuple, Fw.isT_tuple_dict, Fw.isT_dict_bool, Fw.isT_dict_int, Fw.isT_dict_str, Fw.isT_dict_list, Fw.isT_dict_tuple, Fw.isT_dict_dict]
        unfold sp_whole
        simp only [e]
        have R : sp_refused_by_any K [v] H' Q E0 := by
          unfold sp_refused_by_any
          simp only [e, hb]
          exact q _
        simp -dsimp +contextual only [Fw.v_isD, ↓Fw.a_dget2, ↓Fw.b_dsetd, ↓Fw.a_star, Fw.v_pop, Fw.v_reverse, ↓Fw.a_tru1, Fw.v_tru_r, ↓Fw.a_gseq, ↓Fw.b_gcons, ↓Fw.b_gnil, ↓Fw.a_seq, ↓Fw.a_next, ↓Fw.a_brk, ↓Fw.a_cont, ↓Fw.a_asg, ↓Fw.a_name, ↓Fw.a_gsub, ↓Fw.b_var, ↓Fw.a_c, ↓Fw.a_op, ↓Fw.a_un, ↓Fw.a_cons, ↓Fw.a_nil, ↓Fw.a_ret, ↓Fw.a_retN, ↓Fw.a_drop, ↓Fw.a_if, ↓Fw.b_test, ↓Fw.b_B, ↓Fw.a_and, ↓Fw.a_or, ↓Fw.a_not, ↓Fw.b_andV, ↓Fw.b_orV, ↓Fw.b_notV, ↓Fw.a_ifE, ↓Fw.a_fn, ↓Fw.a_fnX, ↓Fw.a_hold, ↓Fw.a_holdX, ↓Fw.a_ne_rr, ↓Fw.a_eq_rr, ↓Fw.a_at, ↓Fw.a_atS, ↓Fw.a_step, Fw.v_step, Fw.v_min2, Fw.v_max2, Fw.v_clear, ↓Fw.a_mt, ↓Fw.a_mtX, ↓Fw.a_mk, ↓Fw.a_cb, ↓Fw.a_lst, ↓Fw.a_tup, ↓Fw.a_chain, ↓Fw.a_dnew, ↓Fw.a_start, Fw.v_rU, Int.reduceNeg, Fw.v_add_ii, Fw.v_add_ss, Fw.v_sub_ii, Fw.v_mul_ii, Fw.v_div_ii, Fw.v_mod_ii, Fw.v_pow_ii, Fw.v_lt_ii, Fw.v_gt_ii, Fw.v_le_ii, Fw.v_ge_ii, Fw.v_le_ss, Fw.v_eqS_ii, Fw.v_eqS_ss, Fw.v_neS_ii, Fw.v_neS_ss, Fw.v_eq_ii, Fw.v_eq_ss, Fw.v_eq_bb, Fw.v_ne_ii, Fw.v_ne_ss, Fw.v_ne_bb, Fw.v_ne_tt, Fw.v_eq_tt, Fw.v_in_sc, Fw.v_ix_s, Fw.v_len_s, Fw.v_type, Fw.v_is, ↓Fw.a_bm, ↓Fw.a_bm0, ↓Fw.a_sl, ↓Fw.a_nopart, ↓Fw.a_part, Fw.v_sl_s, Fw.v_sl_r, Fw.v_app, Fw.v_add_rr, ↓Fw.b_ix_r, Fw.b_ix_r, Fw.v_in_r, Fw.v_set_r, Fw.v_len_r, Fw.v_list_r, Fw.v_listA, Fw.v_dictA, Fw.v_int_i, Fw.v_int_b, Fw.v_key_i, Fw.v_key_s, Fw.v_lst, Fw.v_tup, Fw.v_dic, Fw.v_ty_r, Fw.v_ty_s, Fw.v_ty_i, Fw.v_ty_b, Fw.v_ty_n, Fw.v_tyL, Fw.v_same, Fw.v_old, Fw.v_ne, Fw.v_upd, Fw.v_flat_s, Fw.v_inStrs, ↓Fw.a_yes, Fw.v_wipe0, Fw.v_wipe1, Fw.cx_K, Int.reduceToNat, List.length_replicate, Nat.sub_self, Nat.reduceSub, Nat.reduceAdd, List.replicate_zero, List.replicate_succ, List.append_nil, List.length_cons, List.length_nil, List.map_cons, List.map_nil, List.cons_append, List.nil_append, List.getElem?_cons_zero, List.getElem?_cons_succ, List.set_cons_zero, List.set_cons_succ, Option.some.injEq, V.int.injEq, V.bl.injEq, V.ref.injEq, V.str.injEq, exists_eq_left', exists_eq_left, exists_eq_right, exists_and_left, HO.lst.injEq, HO.dK.injEq, HO.tup.injEq, Option.isSome_some, true_and, and_true, Fw.v_m_bool, Fw.v_m_int, Fw.v_m_str, Fw.v_m_list, Fw.v_m_tuple, Fw.v_m_dict, Fw.v_flats, Bool.xor_true, Bool.xor_false, Bool.not_eq_true', decide_eq_false_iff_not, not_true_eq_false, not_false_eq_true, decide_true, decide_false, decide_eq_true_eq, ite_true, ite_false, Bool.not_true, Bool.not_false, Bool.false_eq_true, reduceCtorEq, Fw.isT_NoneType_bool, Fw.isT_NoneType_int, Fw.isT_NoneType_str, Fw.isT_NoneType_list, Fw.isT_NoneType_tuple, Fw.isT_NoneType_dict, Fw.isT_bool_bool, Fw.isT_bool_int, Fw.isT_bool_str, Fw.isT_bool_list, Fw.isT_bool_tuple, Fw.isT_bool_dict, Fw.isT_int_bool, Fw.isT_int_int, Fw.isT_int_str, Fw.isT_int_list, Fw.isT_int_tuple, Fw.isT_int_dict, Fw.isT_str_bool, Fw.isT_str_int, Fw.isT_str_str, Fw.isT_str_list, Fw.isT_str_tuple, Fw.isT_str_dict, Fw.isT_list_bool, Fw.isT_list_int, Fw.isT_list_str, Fw.isT_list_list, Fw.isT_list_tuple, Fw.isT_list_dict, Fw.isT_tuple_bool, Fw.isT_tuple_int, Fw.isT_tuple_str, Fw.isT_tuple_list, Fw.isT_tuple_tuple, Fw.isT_tuple_dict, Fw.isT_dict_bool, Fw.isT_dict_int, Fw.isT_dict_str, Fw.isT_dict_list, Fw.isT_dict_tuple, Fw.isT_dict_dict]
        cases v with
        | int i =>
          simp only [isInt, Bool.not_true, Bool.false_eq_true, ite_false, ite_true, decide_true]
          simp -dsimp only [↓Fw.a_forL, ↓Fw.a_lcL, ↓Fw.a_dcL, ↓Fw.a_dcE, ↓Fw.a_forR, Fw.v_isD, ↓Fw.a_dget2, ↓Fw.b_dsetd, ↓Fw.a_star, Fw.v_pop, Fw.v_reverse, ↓Fw.a_tru1, Fw.v_tru_r, ↓Fw.a_gseq, ↓Fw.b_gcons, ↓Fw.b_gnil, ↓Fw.a_seq, ↓Fw.a_next, ↓Fw.a_brk, ↓Fw.a_cont, ↓Fw.a_asg, ↓Fw.a_name, ↓Fw.a_gsub, ↓Fw.b_var, ↓Fw.a_c, ↓Fw.a_op, ↓Fw.a_un, ↓Fw.a_cons, ↓Fw.a_nil, ↓Fw.a_ret, ↓Fw.a_retN, ↓Fw.a_drop, ↓Fw.a_if, ↓Fw.b_test, ↓Fw.b_B, ↓Fw.a_and, ↓Fw.a_or, ↓Fw.a_not, ↓Fw.b_andV, ↓Fw.b_orV, ↓Fw.b_notV, ↓Fw.a_ifE, ↓Fw.a_fn, ↓Fw.a_fnX, ↓Fw.a_hold, ↓Fw.a_holdX, ↓Fw.a_ne_rr, ↓Fw.a_eq_rr, ↓Fw.a_at, ↓Fw.a_atS, ↓Fw.a_step, Fw.v_step, Fw.v_min2, Fw.v_max2, Fw.v_clear, ↓Fw.a_mt, ↓Fw.a_mtX, ↓Fw.a_mk, ↓Fw.a_cb, ↓Fw.a_lst, ↓Fw.a_tup, ↓Fw.a_chain, ↓Fw.a_dnew, ↓Fw.a_start, Fw.v_rU, Int.reduceNeg, Fw.v_add_ii, Fw.v_add_ss, Fw.v_sub_ii, Fw.v_mul_ii, Fw.v_div_ii, Fw.v_mod_ii, Fw.v_pow_ii, Fw.v_lt_ii, Fw.v_gt_ii, Fw.v_le_ii, Fw.v_ge_ii, Fw.v_le_ss, Fw.v_eqS_ii, Fw.v_eqS_ss, Fw.v_neS_ii, Fw.v_neS_ss, Fw.v_eq_ii, Fw.v_eq_ss, Fw.v_eq_bb, Fw.v_ne_ii, Fw.v_ne_ss, Fw.v_ne_bb, Fw.v_ne_tt, Fw.v_eq_tt, Fw.v_in_sc, Fw.v_ix_s, Fw.v_len_s, Fw.v_type, Fw.v_is, ↓Fw.a_bm, ↓Fw.a_bm0, ↓Fw.a_sl, ↓Fw.a_nopart, ↓Fw.a_part, Fw.v_sl_s, Fw.v_sl_r, Fw.v_app, Fw.v_add_rr, ↓Fw.b_ix_r, Fw.b_ix_r, Fw.v_in_r, Fw.v_set_r, Fw.v_len_r, Fw.v_list_r, Fw.v_listA, Fw.v_dictA, Fw.v_int_i, Fw.v_int_b, Fw.v_key_i, Fw.v_key_s, Fw.v_lst, Fw.v_tup, Fw.v_dic, Fw.v_ty_r, Fw.v_ty_s, Fw.v_ty_i, Fw.v_ty_b, Fw.v_ty_n, Fw.v_tyL, Fw.v_same, Fw.v_old, Fw.v_ne, Fw.v_upd, Fw.v_flat_s, Fw.v_inStrs, ↓Fw.a_yes, Fw.v_wipe0, Fw.v_wipe1, Fw.cx_K, Int.reduceToNat, List.length_replicate, Nat.sub_self, Nat.reduceSub, Nat.reduceAdd, List.replicate_zero, List.replicate_succ, List.append_nil, List.length_cons, List.length_nil, List.map_cons, List.map_nil, List.cons_append, List.nil_append, List.getElem?_cons_zero, List.getElem?_cons_succ, List.set_cons_zero, List.set_cons_succ, Option.some.injEq, V.int.injEq, V.bl.injEq, V.ref.injEq, V.str.injEq, exists_eq_left', exists_eq_left, exists_eq_right, exists_and_left, HO.lst.injEq, HO.dK.injEq, HO.tup.injEq, Option.isSome_some, true_and, and_true, Fw.v_m_bool, Fw.v_m_int, Fw.v_m_str, Fw.v_m_list, Fw.v_m_tuple, Fw.v_m_dict, Fw.v_flats, Bool.xor_true, Bool.xor_false, Bool.not_eq_true', decide_eq_false_iff_not, not_true_eq_false, not_false_eq_true, decide_true, decide_false, decide_eq_true_eq, ite_true, ite_false, Bool.not_true, Bool.not_false, Bool.false_eq_true, reduceCtorEq, Fw.isT_NoneType_bool, Fw.isT_NoneType_int, Fw.isT_NoneType_str, Fw.isT_NoneType_list, Fw.isT_NoneType_tuple, Fw.isT_NoneType_dict, Fw.isT_bool_bool, Fw.isT_bool_int, Fw.isT_bool_str, Fw.isT_bool_list, Fw.isT_bool_tuple, Fw.isT_bool_dict, Fw.isT_int_bool, Fw.isT_int_int, Fw.isT_int_str, Fw.isT_int_list, Fw.isT_int_tuple, Fw.isT_int_dict, Fw.isT_str_bool, Fw.isT_str_int, Fw.isT_str_str, Fw.isT_str_list, Fw.isT_str_tuple, Fw.isT_str_dict, Fw.isT_list_bool, Fw.isT_list_int, Fw.isT_list_str, Fw.isT_list_list, Fw.isT_list_tuple, Fw.isT_list_dict, Fw.isT_tuple_bool, Fw.isT_tuple_int, Fw.isT_tuple_str, Fw.isT_tuple_list, Fw.isT_tuple_tuple, Fw.isT_tuple_dict, Fw.isT_dict_bool, Fw.isT_dict_int, Fw.isT_dict_str, Fw.isT_dict_list, Fw.isT_dict_tuple, Fw.isT_dict_dict]
          refine ite2 (fun _ => R) fun c1 => ⟨⟨by decide, by decide, by decide⟩, ?_⟩
          refine ite2 (fun _ => R) fun c2 => ?_
          simp only [isA, Bool.and_eq_false_iff, decide_eq_false_iff_not] at hb
          omega
        | _ => exact R
    · exact h.elim
end

/-- all of it from what the top has left -/
theorem all_ok {P : Program} {w : World} {K : PySem.W.Frag} {mg : Str → Option Value} {CA CB : Addr} (B : Blt mg)
  (S_is_whole : Src K mg "is_whole" ["thing"] s_is_whole) (S_is_amount : Src K mg "_is_amount" ["thing"] s_is_amount) (S_amount_of : Src K mg "amount_of" ["thing"] s_amount_of) (S_whole : Src K mg "_law_whole" ["_law_found"] s_whole) (S_cell_at : Src K mg "_law_cell_at" ["_law_script", "_law_k"] s_cell_at) (S_thing_by : Src K mg "_law_thing_by" ["_law_script"] s_thing_by) (S_refused_by_any : Src K mg "_law_refused_by_any" ["_law_thing"] s_refused_by_any) (S_law : Src K mg "law" ["_law_script"] s_law)
  (X_NoAmount : Exn K mg "NoAmount" CA) (X_BookError : Exn K mg "BookError" CB) (cA : ExcC K CA) (kA : PySem.W.kitOne K (.ref CA) (.type "ValueError") = some true)
  (mAA : PySem.W.exmOne K (.ref CA) (.ref CA) = some true) (mAB : PySem.W.exmOne K (.ref CA) (.ref CB) = some true) (C_GREATEST_AMOUNT : ∃ t, mg "GREATEST_AMOUNT" = some (.int (10 ^ 30) t))
  (base : Heap) : Fn P w K mg base 5 "law" ["_law_script"] (sp_law K) :=
  have g0 := ok_is_whole (P := P) (w := w) (base := base) S_is_whole B
  have g1 := ok_is_amount S_is_amount B g0 C_GREATEST_AMOUNT
  have g2 := ok_amount_of S_amount_of B g1 X_NoAmount
  have g3 := ok_whole (P := P) (w := w) (base := base) S_whole B
  have g4 := ok_cell_at (P := P) (w := w) (base := base) S_cell_at B
  have g5 := ok_thing_by S_thing_by B g4
  have g6 := ok_refused_by_any S_refused_by_any B g2 X_BookError mAB cA kA
  ok_law S_law B g2 g3 g5 g6 X_NoAmount mAA

theorem all_mk {P : Program} {w : World} {K : PySem.W.Frag} {h : Heap} {mg : Str → Option Value} {fa : Addr} (X : K.In h) (G : h.Ns mainGlobals mg) (hfa : mg "law" = some (.ref fa))
    {f_is_whole : Addr} {oc_is_whole kV_is_whole doc_is_whole pm_is_whole cd_is_whole ct_is_whole : Value} {od_is_whole an_is_whole : Option Addr} {osl_is_whole : Array (Option Value)}
    {f_is_amount : Addr} {oc_is_amount kV_is_amount doc_is_amount pm_is_amount cd_is_amount ct_is_amount : Value} {od_is_amount an_is_amount : Option Addr} {osl_is_amount : Array (Option Value)}
    {f_amount_of : Addr} {oc_amount_of kV_amount_of doc_amount_of pm_amount_of cd_amount_of ct_amount_of : Value} {od_amount_of an_amount_of : Option Addr} {osl_amount_of : Array (Option Value)}
    {f_whole : Addr} {oc_whole kV_whole doc_whole pm_whole cd_whole ct_whole : Value} {od_whole an_whole : Option Addr} {osl_whole : Array (Option Value)}
    {f_cell_at : Addr} {oc_cell_at kV_cell_at doc_cell_at pm_cell_at cd_cell_at ct_cell_at : Value} {od_cell_at an_cell_at : Option Addr} {osl_cell_at : Array (Option Value)}
    {f_thing_by : Addr} {oc_thing_by kV_thing_by doc_thing_by pm_thing_by cd_thing_by ct_thing_by : Value} {od_thing_by an_thing_by : Option Addr} {osl_thing_by : Array (Option Value)}
    {f_refused_by_any : Addr} {oc_refused_by_any kV_refused_by_any doc_refused_by_any pm_refused_by_any cd_refused_by_any ct_refused_by_any : Value} {od_refused_by_any an_refused_by_any : Option Addr} {osl_refused_by_any : Array (Option Value)}
    {f_law : Addr} {oc_law kV_law doc_law pm_law cd_law ct_law : Value} {od_law an_law : Option Addr} {osl_law : Array (Option Value)}
    {CA : Addr}
    {CB : Addr}
    (a_is_whole : PySem.W.nsIn K mainGlobals "is_whole" = some (some (.ref f_is_whole)))
    (l_is_whole : K.lookup f_is_whole = some ⟨oc_is_whole, od_is_whole, .func (PySem.W.fnOf "is_whole" "is_whole" (defArgs s_is_whole) (defBody s_is_whole) (defScope s_is_whole) .none kV_is_whole doc_is_whole pm_is_whole an_is_whole cd_is_whole ct_is_whole), osl_is_whole⟩)
    (c_is_whole : PySem.W.codeIn K cd_is_whole "is_whole" = true)
    (k_is_whole : PySem.W.keepIn K (.ref f_is_whole) = true)
    (a_is_amount : PySem.W.nsIn K mainGlobals "_is_amount" = some (some (.ref f_is_amount)))
    (l_is_amount : K.lookup f_is_amount = some ⟨oc_is_amount, od_is_amount, .func (PySem.W.fnOf "_is_amount" "_is_amount" (defArgs s_is_amount) (defBody s_is_amount) (defScope s_is_amount) .none kV_is_amount doc_is_amount pm_is_amount an_is_amount cd_is_amount ct_is_amount), osl_is_amount⟩)
    (c_is_amount : PySem.W.codeIn K cd_is_amount "_is_amount" = true)
    (k_is_amount : PySem.W.keepIn K (.ref f_is_amount) = true)
    (a_amount_of : PySem.W.nsIn K mainGlobals "amount_of" = some (some (.ref f_amount_of)))
    (l_amount_of : K.lookup f_amount_of = some ⟨oc_amount_of, od_amount_of, .func (PySem.W.fnOf "amount_of" "amount_of" (defArgs s_amount_of) (defBody s_amount_of) (defScope s_amount_of) .none kV_amount_of doc_amount_of pm_amount_of an_amount_of cd_amount_of ct_amount_of), osl_amount_of⟩)
    (c_amount_of : PySem.W.codeIn K cd_amount_of "amount_of" = true)
    (k_amount_of : PySem.W.keepIn K (.ref f_amount_of) = true)
    (a_whole : PySem.W.nsIn K mainGlobals "_law_whole" = some (some (.ref f_whole)))
    (l_whole : K.lookup f_whole = some ⟨oc_whole, od_whole, .func (PySem.W.fnOf "_law_whole" "_law_whole" (defArgs s_whole) (defBody s_whole) (defScope s_whole) .none kV_whole doc_whole pm_whole an_whole cd_whole ct_whole), osl_whole⟩)
    (c_whole : PySem.W.codeIn K cd_whole "_law_whole" = true)
    (k_whole : PySem.W.keepIn K (.ref f_whole) = true)
    (a_cell_at : PySem.W.nsIn K mainGlobals "_law_cell_at" = some (some (.ref f_cell_at)))
    (l_cell_at : K.lookup f_cell_at = some ⟨oc_cell_at, od_cell_at, .func (PySem.W.fnOf "_law_cell_at" "_law_cell_at" (defArgs s_cell_at) (defBody s_cell_at) (defScope s_cell_at) .none kV_cell_at doc_cell_at pm_cell_at an_cell_at cd_cell_at ct_cell_at), osl_cell_at⟩)
    (c_cell_at : PySem.W.codeIn K cd_cell_at "_law_cell_at" = true)
    (k_cell_at : PySem.W.keepIn K (.ref f_cell_at) = true)
    (a_thing_by : PySem.W.nsIn K mainGlobals "_law_thing_by" = some (some (.ref f_thing_by)))
    (l_thing_by : K.lookup f_thing_by = some ⟨oc_thing_by, od_thing_by, .func (PySem.W.fnOf "_law_thing_by" "_law_thing_by" (defArgs s_thing_by) (defBody s_thing_by) (defScope s_thing_by) .none kV_thing_by doc_thing_by pm_thing_by an_thing_by cd_thing_by ct_thing_by), osl_thing_by⟩)
    (c_thing_by : PySem.W.codeIn K cd_thing_by "_law_thing_by" = true)
    (k_thing_by : PySem.W.keepIn K (.ref f_thing_by) = true)
    (a_refused_by_any : PySem.W.nsIn K mainGlobals "_law_refused_by_any" = some (some (.ref f_refused_by_any)))
    (l_refused_by_any : K.lookup f_refused_by_any = some ⟨oc_refused_by_any, od_refused_by_any, .func (PySem.W.fnOf "_law_refused_by_any" "_law_refused_by_any" (defArgs s_refused_by_any) (defBody s_refused_by_any) (defScope s_refused_by_any) .none kV_refused_by_any doc_refused_by_any pm_refused_by_any an_refused_by_any cd_refused_by_any ct_refused_by_any), osl_refused_by_any⟩)
    (c_refused_by_any : PySem.W.codeIn K cd_refused_by_any "_law_refused_by_any" = true)
    (k_refused_by_any : PySem.W.keepIn K (.ref f_refused_by_any) = true)
    (a_law : PySem.W.nsIn K mainGlobals "law" = some (some (.ref f_law)))
    (l_law : K.lookup f_law = some ⟨oc_law, od_law, .func (PySem.W.fnOf "law" "law" (defArgs s_law) (defBody s_law) (defScope s_law) .none kV_law doc_law pm_law an_law cd_law ct_law), osl_law⟩)
    (c_law : PySem.W.codeIn K cd_law "law" = true)
    (k_law : PySem.W.keepIn K (.ref f_law) = true)
    (z_type : PySem.W.nsIn K mainGlobals "type" = some none)
    (z_int : PySem.W.nsIn K mainGlobals "int" = some none)
    (z_isinstance : PySem.W.nsIn K mainGlobals "isinstance" = some none)
    (z_bool : PySem.W.nsIn K mainGlobals "bool" = some none)
    (z_len : PySem.W.nsIn K mainGlobals "len" = some none)
    (z_ValueError : PySem.W.nsIn K mainGlobals "ValueError" = some none)
    (e1_NoAmount : PySem.W.nsIn K mainGlobals "NoAmount" = some (some (.ref CA)))
    (e2_NoAmount : PySem.W.excIn K CA veMro "ValueError.__new__" = true)
    (e3_NoAmount : PySem.W.keepIn K (.ref CA) = true)
    (e4_NoAmount : PySem.W.subIn K (.ref CA) (.type "BaseException") = some true)
    (e5_NoAmount : PySem.W.typeIn K (.ref CA) = some (.type "type"))
    (e1_BookError : PySem.W.nsIn K mainGlobals "BookError" = some (some (.ref CB)))
    (e2_BookError : PySem.W.excIn K CB veMro "ValueError.__new__" = true)
    (e3_BookError : PySem.W.keepIn K (.ref CB) = true)
    (e4_BookError : PySem.W.subIn K (.ref CB) (.type "BaseException") = some true)
    (e5_BookError : PySem.W.typeIn K (.ref CB) = some (.type "type"))
    (h1 : PySem.W.findIn K (.ref CA) "__getattribute__" = some (some (.builtin "BaseException.__getattribute__")))
    (h2 : PySem.W.findIn K (.ref CA) "__getattr__" = some none)
    (h4 : PySem.W.hasDictIn K CA = true)
    (h5 : PySem.W.findIn K (.ref CA) "__class__" = some (some (.builtin "object.__class__")))
    (h6 : PySem.W.specialIn K (.builtin "object.__class__") "__get__" = some (some (.builtin "getset_descriptor.__get__")))
    (h7 : PySem.W.takesIn K (.builtin "object.__class__") = some true)
    (h8 : PySem.W.mroIn K CA (.type "object") = some true)
    (kA : PySem.W.subIn K (.ref CA) (.type "ValueError") = some true)
    (hdB : PySem.W.hasDictIn K CB = true)
    (sAA : PySem.W.subIn K (.ref CA) (.ref CA) = some true)
    (sAB : PySem.W.subIn K (.ref CA) (.ref CB) = some true)
    (gA : ∃ t, mg "GREATEST_AMOUNT" = some (.int (10 ^ 30) t))
    : ∃ fd : FuncData, (∀ (s : Shared) (v : Value), BindsTo s fd ⟨[v], []⟩ [("_law_script", v)]) ∧ ∀ base : Heap, K.In base → base.Ns mainGlobals mg → FnOk P w K mg base CX0 5 fa fd ["_law_script"] (sp_law K) := by
  have B : Blt mg := ⟨PySem.W.mg_none_of X G z_type, PySem.W.mg_none_of X G z_int, PySem.W.mg_none_of X G z_isinstance, PySem.W.mg_none_of X G z_bool, PySem.W.mg_none_of X G z_len, PySem.W.mg_none_of X G z_ValueError⟩
  have S_is_whole : Src K mg "is_whole" ["thing"] s_is_whole := src_mk X G a_is_whole l_is_whole c_is_whole k_is_whole fun us hl => match us, hl with | [_], _ => rfl
  have S_is_amount : Src K mg "_is_amount" ["thing"] s_is_amount := src_mk X G a_is_amount l_is_amount c_is_amount k_is_amount fun us hl => match us, hl with | [_], _ => rfl
  have S_amount_of : Src K mg "amount_of" ["thing"] s_amount_of := src_mk X G a_amount_of l_amount_of c_amount_of k_amount_of fun us hl => match us, hl with | [_], _ => rfl
  have S_whole : Src K mg "_law_whole" ["_law_found"] s_whole := src_mk X G a_whole l_whole c_whole k_whole fun us hl => match us, hl with | [_], _ => rfl
  have S_cell_at : Src K mg "_law_cell_at" ["_law_script", "_law_k"] s_cell_at := src_mk X G a_cell_at l_cell_at c_cell_at k_cell_at fun us hl => match us, hl with | [_, _], _ => rfl
  have S_thing_by : Src K mg "_law_thing_by" ["_law_script"] s_thing_by := src_mk X G a_thing_by l_thing_by c_thing_by k_thing_by fun us hl => match us, hl with | [_], _ => rfl
  have S_refused_by_any : Src K mg "_law_refused_by_any" ["_law_thing"] s_refused_by_any := src_mk X G a_refused_by_any l_refused_by_any c_refused_by_any k_refused_by_any fun us hl => match us, hl with | [_], _ => rfl
  have S_law : Src K mg "law" ["_law_script"] s_law := src_mk X G a_law l_law c_law k_law fun us hl => match us, hl with | [_], _ => rfl
  have X_NoAmount : Exn K mg "NoAmount" CA := ⟨PySem.W.mg_of X G e1_NoAmount, e2_NoAmount, e3_NoAmount, e4_NoAmount, e5_NoAmount⟩
  have X_BookError : Exn K mg "BookError" CB := ⟨PySem.W.mg_of X G e1_BookError, e2_BookError, e3_BookError, e4_BookError, e5_BookError⟩
  exact fin_of S_law hfa fun base => all_ok B S_is_whole S_is_amount S_amount_of S_whole S_cell_at S_thing_by S_refused_by_any S_law X_NoAmount X_BookError ⟨h1, h2, e4_NoAmount, h4, h5, h6, h7, h8⟩ (kit_sub meta_VE kA) (PySem.W.exm_ref e4_NoAmount h4 e5_NoAmount sAA) (PySem.W.exm_ref e4_BookError hdB e5_BookError sAB) gA base
end Pf
open PySem PySem.W PyProof.Rows
set_option maxHeartbeats 0 in
theorem PySem.Challenge.cw_escrowbook_k02_amounts_holds : PySem.Challenge.rw_escrowbook_k02_amounts.Holds := by
  w_on; o_law; k_head; (case hw => w_witness2)
  k_fill
  refine L2.walk_of (l := PySem.Challenge.rw_escrowbook_k02_amounts) (n := 63) (k := 5) (x := "_law_script") (CX := fun _ => L2.CX0) (sp := fun w => Pf.sp_law _) rfl (by decide) rfl ⟨rfl, by decide, by decide⟩ (fun w h Y => PySem.W.kIn_of Y) ?F (fun _ _ a ns hl _ hS => ⟨⟨ns, hS⟩, fun _ => rfl⟩) (fun _ _ _ _ _ h => h)
  case F =>
    intro w mg fa h KX G hmg
    refine' Pf.all_mk KX G hmg ?a_is_whole ?l_is_whole ?c_is_whole ?k_is_whole ?a_is_amount ?l_is_amount ?c_is_amount ?k_is_amount ?a_amount_of ?l_amount_of ?c_amount_of ?k_amount_of ?a_whole ?l_whole ?c_whole ?k_whole ?a_cell_at ?l_cell_at ?c_cell_at ?k_cell_at ?a_thing_by ?l_thing_by ?c_thing_by ?k_thing_by ?a_refused_by_any ?l_refused_by_any ?c_refused_by_any ?k_refused_by_any ?a_law ?l_law ?c_law ?k_law ?z_type ?z_int ?z_isinstance ?z_bool ?z_len ?z_ValueError ?e1_NoAmount ?e2_NoAmount ?e3_NoAmount ?e4_NoAmount ?e5_NoAmount ?e1_BookError ?e2_BookError ?e3_BookError ?e4_BookError ?e5_BookError ?h1 ?h2 ?h4 ?h5 ?h6 ?h7 ?h8 ?kA ?hdB ?sAA ?sAB ?gA
    (case a_is_whole => k_is)
    (case l_is_whole => k_is)
    (case c_is_whole => k_is)
    (case k_is_whole => k_is)
    (case a_is_amount => k_is)
    (case l_is_amount => k_is)
    (case c_is_amount => k_is)
    (case k_is_amount => k_is)
    (case a_amount_of => k_is)
    (case l_amount_of => k_is)
    (case c_amount_of => k_is)
    (case k_amount_of => k_is)
    (case a_whole => k_is)
    (case l_whole => k_is)
    (case c_whole => k_is)
    (case k_whole => k_is)
    (case a_cell_at => k_is)
    (case l_cell_at => k_is)
    (case c_cell_at => k_is)
    (case k_cell_at => k_is)
    (case a_thing_by => k_is)
    (case l_thing_by => k_is)
    (case c_thing_by => k_is)
    (case k_thing_by => k_is)
    (case a_refused_by_any => k_is)
    (case l_refused_by_any => k_is)
    (case c_refused_by_any => k_is)
    (case k_refused_by_any => k_is)
    (case a_law => k_is)
    (case l_law => k_is)
    (case c_law => k_is)
    (case k_law => k_is)
    (case z_type => k_is)
    (case z_int => k_is)
    (case z_isinstance => k_is)
    (case z_bool => k_is)
    (case z_len => k_is)
    (case z_ValueError => k_is)
    (case e1_NoAmount => k_is)
    (case e2_NoAmount => k_exc)
    (case e3_NoAmount => k_is)
    (case e4_NoAmount => k_is)
    (case e5_NoAmount => k_is)
    (case e1_BookError => k_is)
    (case e2_BookError => k_exc)
    (case e3_BookError => k_is)
    (case e4_BookError => k_is)
    (case e5_BookError => k_is)
    (case h1 => k_is)
    (case h2 => k_is)
    (case h4 => k_is)
    (case h5 => k_is)
    (case h6 => k_is)
    (case h7 => k_is)
    (case h8 => k_is)
    (case kA => k_is)
    (case hdB => k_is)
    (case sAA => k_is)
    (case sAB => k_is)
    (case gA => exact ⟨_, PySem.W.mg_of KX G (by k_is)⟩)
