import PyProof.Rows.All
import Wide.All
import OpenK.AllK
import Wide.FinOn
import PyProof.FactsAll.object
import HandS.ForMost
import HandS.Exc
import HandS.TryOnly
import HandS.TryMany
import HandS.ExcOwn
import HandS.CallSlots
import HandS.WordsExc
import HandS.More
import HandS.IsInst
import HandS.ExcIs
import HandS.Conv
import HandS.DeepEq
import HandS.DictEq
import HandS.Style
import HandS.SetFor
import HandS.Walk
import HandS.Star
import HandS.SetKeys
import HandS.DictComp
import HandS.Records
import PySem.Challenge.RW_escrowbook_k06_shortest_ways
set_option Elab.async false
set_option maxRecDepth 100000
namespace NeTy
open PySem PySem.TypeEq
theorem sl_ne : Slot "type" (cmpInfo .NotEq).2.1 "object.__ne__" :=
  Slot.of (n := "__ne__") (owner := "object") (by
      rw [typeLookup_type, builtinLookup_eq_fast]
      kernel_rfl) (by decide +kernel) (by decide +kernel) (by decide +kernel)
    (by first | exact .inl (by decide +kernel) | exact .inr (by decide +kernel)) (by
      rw [isSubtype_type]
      kernel_rfl)
theorem sl_ne2 : Slot "type" (cmpInfo .NotEq).2.2 "object.__ne__" :=
  Slot.of (n := "__ne__") (owner := "object") (by
      rw [typeLookup_type, builtinLookup_eq_fast]
      kernel_rfl) (by decide +kernel) (by decide +kernel) (by decide +kernel)
    (by first | exact .inl (by decide +kernel) | exact .inr (by decide +kernel)) (by
      rw [isSubtype_type]
      kernel_rfl)
section
variable {prog : Program} {w : World} {A : Around} {E : Value → Shared → Prop} {s : Shared}
/-- object's own != of two types: by == -/
theorem obj_ne {X Y : String} {R : Value} {Q : Fin → Shared → Prop} (hX : ∀ z : Shared, z.TypeIs (.type X) "type")
    (hc : wpAny (model prog w) A (call (.builtin "object.__eq__") [.type X, .type Y]) (fun v z => v = R ∧ z = s) E s)
    (hR : (R = .notImplemented ∧ Q (.done (.ret .notImplemented)) s) ∨ (∃ b, R = .bool b ∧ Q (.done (.ret (.bool (!b)))) s)) :
    wpAny (model prog w) A (Builtin.«object.__ne__» ⟨[.type X, .type Y], []⟩) Q E s := by
  unfold Builtin.«object.__ne__»
  rcases hR with ⟨rfl, hq⟩ | ⟨b, rfl, hq⟩
  all_goals
    repeat (first
      | (fail_if_success (with_reducible show wpAny _ _ (callSpecialIfBound? _ _ _) _ _ _)
         wp_step))
    refine wpAny_callSpecialIfBound?_slot (hX s) slot_type_eq (wpAny_mono hc (fun v z hv => ?_) fun _ _ e => e)
    obtain ⟨rfl, rfl⟩ := hv
  · exact wpAny_pure hq
  · exact wpAny_bind (wpAny_truthy_bool (wpAny_pure hq))
theorem call_ne {X Y : String} {R : Value} {Q : Value → Shared → Prop} (hX : ∀ z : Shared, z.TypeIs (.type X) "type")
    (hc : wpAny (model prog w) A.in1 (call (.builtin "object.__eq__") [.type X, .type Y]) (fun v z => v = R ∧ z = s) E s)
    (hR : (R = .notImplemented ∧ Q .notImplemented s) ∨ (∃ b, R = .bool b ∧ Q (.bool (!b)) s)) :
    wpAny (model prog w) A (call (.builtin "object.__ne__") [.type X, .type Y]) Q E s := by
  refine wpAny_call_entry sl_ne (hX s) F.entry_object_ne ?_ (F.args_object_ne_2 _ _)
  refine obj_ne hX hc ?_
  rcases hR with ⟨rfl, hq⟩ | ⟨b, rfl, hq⟩
  · exact .inl ⟨rfl, _, rfl, hq⟩
  · exact .inr ⟨b, rfl, _, rfl, hq⟩
/-- T != T -/
theorem ne_same {X : String} {Q : Value → Shared → Prop} (hX : ∀ z : Shared, z.TypeIs (.type X) "type") (h : Q (.bool false) s) :
    wpAny (model prog w) A (compareOp .NotEq (.type X) (.type X)) Q E s := by
  show wpAny _ A (richCompare .NotEq _ _) Q E s
  exact wpAny_richCompare_same (T := "type") (hX s) (hX s) sl_ne
    (call_ne hX (call_gives slot_type_eq (hX s) F.entry_object_eq (F.args_object_eq_2 _ _) (object_eq_same rfl (by simp)) ⟨rfl, rfl⟩)
      (.inr ⟨true, rfl, (by intro e; cases e), h⟩))
/-- T != U -/
theorem ne_other {X Y : String} {Q : Value → Shared → Prop} (hX : ∀ z : Shared, z.TypeIs (.type X) "type") (hY : ∀ z : Shared, z.TypeIs (.type Y) "type")
    (hd : X ≠ Y) (h : Q (.bool true) s) : wpAny (model prog w) A (compareOp .NotEq (.type X) (.type Y)) Q E s := by
  have d1 : (Value.type X == Value.type Y) = false := by
    rw [beq_eq_false_iff_ne]
    intro e
    exact hd (Value.type.inj e)
  have d2 : (Value.type Y == Value.type X) = false := by
    rw [beq_eq_false_iff_ne]
    intro e
    exact hd (Value.type.inj e).symm
  show wpAny _ A (richCompare .NotEq _ _) Q E s
  rcases hi : cmpInfo CmpOp.NotEq with ⟨sy, f, r⟩
  have n1 : Slot "type" f "object.__ne__" := by
    have q := sl_ne
    rw [hi] at q
    exact q
  have n2 : Slot "type" r "object.__ne__" := by
    have q := sl_ne2
    rw [hi] at q
    exact q
  simp only [richCompare, hi, (hX s).oneThing_none]
  try with_reducible refine wpAny_holding ?_
  refine wpAny_bind (wpAny_cRoomFor_or (.inl rfl) ?_)
  refine wpAny_bind (wpAny_typeOf (hX s) ?_)
  refine wpAny_bind (wpAny_typeOf (hY s) ?_)
  simp only [bne_self_eq_false, Bool.false_eq_true, if_false, pure_bind, Bool.not_false, if_true]
  refine wpAny_bind (m := tryCompare (.type X) _ (.type Y)) (wpAny_tryCompare_declines (hX s) n1 ?_)
  refine call_ne hX (call_gives slot_type_eq (hX s) F.entry_object_eq (F.args_object_eq_2 _ _) (object_eq_other rfl d1) ⟨rfl, rfl⟩) (.inl ⟨rfl, rfl, ?_⟩)
  refine wpAny_bind (m := tryCompare (.type Y) _ (.type X)) (wpAny_tryCompare_declines (hY s) n2 ?_)
  refine call_ne hY (call_gives slot_type_eq (hY s) F.entry_object_eq (F.args_object_eq_2 _ _) (object_eq_other rfl d2) ⟨rfl, rfl⟩) (.inl ⟨rfl, rfl, ?_⟩)
  refine wpAny_bind (wpAny_rule (wpAny_bind (wpAny_of_eq (isSame_plain rfl) ?_)))
  rw [d1]
  exact wpAny_pure h
end
end NeTy
set_option Elab.async false
set_option linter.all false
set_option maxRecDepth 100000
set_option maxHeartbeats 4000000
namespace Fw
open PySem PySem.Spec PyProof.Rows L2
/-! ### what is read at an address, as a function -/
def lstOf (H : Hp) (a : Addr) : Option (List V) := match H a with
  | some (.lst xs) => some xs
  | some (.frz _ (.lst xs)) => some xs
  | _ => none
def tupOf (H : Hp) (a : Addr) : Option (List V) := match H a with
  | some (.tup xs) => some xs
  | some (.frz _ (.tup xs)) => some xs
  | _ => none
def dicOf (H : Hp) (a : Addr) : Option (List (Key × V)) := match H a with
  | some (.dK kvs) => some kvs
  | some (.frz _ (.dK kvs)) => some kvs
  | _ => none
theorem sq_lst {K : PySem.W.Frag} {H : Hp} {a : Addr} {xs : List V} (h : lstOf H a = some xs) : SqL K H a xs := by
  unfold lstOf at h
  split at h
  · rename_i e; cases h; exact .inl (.inl e)
  · rename_i e; cases h; exact .inl (.inr ⟨_, e⟩)
  · cases h
theorem sq_tup {K : PySem.W.Frag} {H : Hp} {a : Addr} {xs : List V} (h : tupOf H a = some xs) : SqT K H a xs := by
  unfold tupOf at h
  split at h
  · rename_i e; cases h; exact .inl (.inl e)
  · rename_i e; cases h; exact .inl (.inr ⟨_, e⟩)
  · cases h
theorem rd_dic {H : Hp} {a : Addr} {kvs : List (Key × V)} (h : dicOf H a = some kvs) : Rd H a (.dK kvs) := by
  unfold dicOf at h
  split at h
  · rename_i e; cases h; exact .inl e
  · rename_i e; cases h; exact .inr ⟨_, e⟩
  · cases h
/-- a value as a key -/
def keyOf : V → Option Key
  | .int i => some (.inl i)
  | .str x => some (.inr x)
  | _ => none
theorem keyOf_kV {v : V} {k : Key} (h : keyOf v = some k) : v = kV k := by
  cases v <;> simp [keyOf] at h <;> subst h <;> rfl

/-! ### operations by the values' kinds -/
def vAdd : R2 := fun x y H Q => match x, y with
  | .int i, .int j => Q (.int (i + j)) H
  | .str i, .str j => i.length + j.length ≤ sizeLine ∧ Q (.str (i ++ j)) H
  | .ref a, .ref b => ∃ xs ys, H a = some (.lst xs) ∧ H b = some (.lst ys) ∧ xs.length + ys.length ≤ sizeLine ∧ ∀ p, H p = none → Q (.ref p) (upd H p (.lst (xs ++ ys)))
  | _, _ => False
def vSub : R2 := fun x y H Q => match x, y with
  | .int i, .int j => Q (.int (i - j)) H
  | _, _ => False
def vMul : R2 := fun x y H Q => match x, y with
  | .int i, .int j => CMul i j ∧ Q (.int (i * j)) H
  | .ref a, .int k => ∃ xs, H a = some (.lst xs) ∧ -(2 ^ 63) ≤ k ∧ k < 2 ^ 63 ∧ xs.length * k.toNat ≤ sizeLine ∧ ∀ p, H p = none → Q (.ref p) (upd H p (.lst ((List.replicate k.toNat xs).flatten)))
  | _, _ => False
def vDiv : R2 := fun x y H Q => match x, y with
  | .int i, .int j => CDiv i j ∧ Q (.int (i / j)) H
  | _, _ => False
def vMod : R2 := fun x y H Q => match x, y with
  | .int i, .int j => 0 < j ∧ Q (.int (i % j)) H
  | _, _ => False
def vPow : R2 := fun x y H Q => match x, y with
  | .int i, .int j => CPow i j ∧ Q (.int (i ^ j.toNat)) H
  | _, _ => False
def vLt : R2 := fun x y H Q => match x, y with
  | .int i, .int j => Q (.bl (decide (i < j))) H
  | _, _ => False
def vGt : R2 := fun x y H Q => match x, y with
  | .int i, .int j => Q (.bl (decide (j < i))) H
  | _, _ => False
def vLe : R2 := fun x y H Q => match x, y with
  | .int i, .int j => Q (.bl (decide (i ≤ j))) H
  | .str i, .str j => Q (.bl (!decide (j.cps.toList < i.cps.toList))) H
  | _, _ => False
def vGe : R2 := fun x y H Q => match x, y with
  | .int i, .int j => Q (.bl (decide (j ≤ i))) H
  | _, _ => False
/-- the built-in types that the rules for types know -/
def tyOk (a : String) : Bool := a == "int" || a == "str" || a == "bool" || a == "NoneType" || a == "list" || a == "tuple" || a == "dict"
section
variable {X : Cx}
theorem op_vAdd : OpR X (binaryOp .Add) vAdd := by
  intro pins s σ H x y u v Q I rx ry h
  unfold vAdd at h
  split at h
  · exact op_add pins s σ H _ _ u v Q I rx ry ⟨_, _, rfl, rfl, h⟩
  · exact op_add_str pins s σ H _ _ u v Q I rx ry ⟨_, _, rfl, rfl, h.1, h.2⟩
  · obtain ⟨xs, ys, ha, hb, hl, q⟩ := h
    exact op_cat pins s σ H _ _ u v Q I rx ry ⟨_, _, _, _, rfl, rfl, ha, hb, hl, q⟩
  · exact h.elim
theorem op_vSub : OpR X (binaryOp .Sub) vSub := by
  intro pins s σ H x y u v Q I rx ry h
  unfold vSub at h
  split at h
  · exact op_sub pins s σ H _ _ u v Q I rx ry ⟨_, _, rfl, rfl, h⟩
  · exact h.elim
theorem op_vMul : OpR X (binaryOp .Mult) vMul := by
  intro pins s σ H x y u v Q I rx ry h
  unfold vMul at h
  split at h
  · exact op_mul pins s σ H _ _ u v Q I rx ry ⟨_, _, rfl, rfl, h.1, h.2⟩
  · obtain ⟨xs, ha, h1, h2, h3, q⟩ := h
    exact op_rep pins s σ H _ _ u v Q I rx ry ⟨_, _, _, rfl, rfl, ha, h1, h2, h3, q⟩
  · exact h.elim
theorem op_vDiv : OpR X (binaryOp .FloorDiv) vDiv := by
  intro pins s σ H x y u v Q I rx ry h
  unfold vDiv at h
  split at h
  · exact op_fdiv pins s σ H _ _ u v Q I rx ry ⟨_, _, rfl, rfl, h.1, h.2⟩
  · exact h.elim
theorem op_vMod : OpR X (binaryOp .Mod) vMod := by
  intro pins s σ H x y u v Q I rx ry h
  unfold vMod at h
  split at h
  · exact op_mod pins s σ H _ _ u v Q I rx ry ⟨_, _, rfl, rfl, h.1, h.2⟩
  · exact h.elim
theorem op_vPow : OpR X (binaryOp .Pow) vPow := by
  intro pins s σ H x y u v Q I rx ry h
  unfold vPow at h
  split at h
  · exact op_pow pins s σ H _ _ u v Q I rx ry ⟨_, _, rfl, rfl, h.1, h.2⟩
  · exact h.elim
theorem op_vLt : OpR X (compareOp .Lt) vLt := by
  intro pins s σ H x y u v Q I rx ry h
  unfold vLt at h
  split at h
  · exact op_lt pins s σ H _ _ u v Q I rx ry ⟨_, _, rfl, rfl, h⟩
  · exact h.elim
theorem op_vGt : OpR X (compareOp .Gt) vGt := by
  intro pins s σ H x y u v Q I rx ry h
  unfold vGt at h
  split at h
  · exact op_gt pins s σ H _ _ u v Q I rx ry ⟨_, _, rfl, rfl, h⟩
  · exact h.elim
theorem op_vLe : OpR X (compareOp .LtE) vLe := by
  intro pins s σ H x y u v Q I rx ry h
  unfold vLe at h
  split at h
  · exact op_le pins s σ H _ _ u v Q I rx ry ⟨_, _, rfl, rfl, h⟩
  · exact op_le_str pins s σ H _ _ u v Q I rx ry ⟨_, _, rfl, rfl, h⟩
  · exact h.elim
theorem op_vGe : OpR X (compareOp .GtE) vGe := by
  intro pins s σ H x y u v Q I rx ry h
  unfold vGe at h
  split at h
  · exact op_ge pins s σ H _ _ u v Q I rx ry ⟨_, _, rfl, rfl, h⟩
  · exact h.elim
theorem meta_of {a : String} (h : tyOk a = true) : ∀ z : Shared, z.TypeIs (.type a) "type" := by
  simp only [tyOk, Bool.or_eq_true, beq_iff_eq] at h
  rcases h with (((((h | h) | h) | h) | h) | h) | h <;> subst h
  · exact TypeEq.meta_int
  · exact TypeEq.meta_str
  · exact TypeEq.meta_bool
  · exact TypeEq.meta_NoneType
  · exact TypeEq.meta_list
  · exact TypeEq.meta_tuple
  · exact TypeEq.meta_dict
theorem op_neTy : OpR X (compareOp .NotEq) (fun x y H Q => ∃ a b, x = .ty a ∧ y = .ty b ∧ tyOk a = true ∧ tyOk b = true ∧ Q (.bl (!decide (a = b))) H) := by
  intro pins s σ H x y u v Q I rx ry h
  obtain ⟨a, b, rfl, rfl, h1, h2, q⟩ := h
  cases (show u = Value.type a from rx)
  cases (show v = Value.type b from ry)
  by_cases e : a = b
  · subst e
    exact NeTy.ne_same (meta_of h1) (fin_bl I q (by simp))
  · exact NeTy.ne_other (meta_of h1) (meta_of h2) e (fin_bl I q (by simp [e]))
theorem op_eqTy : OpR X (compareOp .Eq) (fun x y H Q => ∃ a b, x = .ty a ∧ y = .ty b ∧ tyOk a = true ∧ tyOk b = true ∧ Q (.bl (decide (a = b))) H) := by
  intro pins s σ H x y u v Q I rx ry h
  obtain ⟨a, b, rfl, rfl, h1, h2, q⟩ := h
  cases (show u = Value.type a from rx)
  cases (show v = Value.type b from ry)
  by_cases e : a = b
  · subst e
    exact TypeEq.eq_type_same (meta_of h1) (fin_bl I q (by simp))
  · exact TypeEq.eq_type_other (meta_of h1) (meta_of h2) (by
      rw [beq_eq_false_iff_ne]
      intro z
      exact e (Value.type.inj z)) (fin_bl I q (by simp [e]))
end
/-- ==, !=: scalars by value; built-in types; all else as data -/
def vEq (K : PySem.W.Frag) : R2 := fun x y H Q => match x, y with
  | .ty a, .ty b => tyOk a = true ∧ tyOk b = true ∧ Q (.bl (decide (a = b))) H
  | .ref a, y => rEqD K (.ref a) y H Q ∨ rEqV K (.ref a) y H Q
  | x, .ref b => rEqD K x (.ref b) H Q
  | x, y => scal x y = true ∧ Q (.bl (decide (x = y))) H
/-- != of two dicts of the same keys, their values equal -/
def rNeV (K : PySem.W.Frag) : R2 := fun x y H Q => ∃ a b ks ls, x = .ref a ∧ y = .ref b ∧ H a = some (.dK ks) ∧ H b = some (.dK ls) ∧ ks.length = ls.length ∧ (∀ p ∈ ks, ∃ u, valV ls p.1 = some u ∧ EqV K H 3 p.2 u) ∧ Q (.bl false) H
theorem op_neV {X : Cx} (hu : X.A.units + 64 < cLine) : OpR X (compareOp .NotEq) (rNeV X.K) := by
  intro pins s σ H x y v u Q I rx ry h
  obtain ⟨a, b, ks, ls, rfl, rfl, ea, eb, hl, hp, q⟩ := h
  cases (show v = Value.ref a from rx)
  cases (show u = Value.ref b from ry)
  obtain ⟨_, ya, va, ra, da⟩ := (show ObjOk X.prog X.w H s.heap a (.dK ks) from I.hok a _ ea)
  obtain ⟨_, yb, vb, rb, db⟩ := (show ObjOk X.prog X.w H s.heap b (.dK ls) from I.hok b _ eb)
  have hits := hits_run (A := X.A.in1) (fun x y v u h rx ry => eqV_run I 3 X.A.in1 (by show X.A.units + 1 + 3 < cLine; omega) x y v u h rx ry) rb ra hp
  have hlen : va.length = vb.length := by rw [← ra.length, ← rb.length]; exact hl
  refine PySem.wpAny_richCompare_same_room (op := .NotEq) da.typeIs db.typeIs PySem.F.slot_dict_ne (wpAny_call_entry PySem.F.slot_dict_ne da.typeIs PySem.F.entry_dict_ne ?_ (PySem.F.args_dict_ne_2 _ _)) (by omega)
  show wpAny _ _ (Builtin.Dict.dictSlotArgs "__ne__" ⟨[.ref a, .ref b], []⟩ >>= _) _ _ s
  refine wpAny_bind ?_
  unfold Builtin.Dict.dictSlotArgs
  refine wpAny_bind (wpAny_notOrdered_dict da.typeIs ?_)
  show wpAny _ _ (pure (Value.ref a, Value.ref b)) _ _ s
  refine wpAny_pure ?_
  refine wpAny_bind (wpAny_isInstance (T := "dict") db.typeIs PySem.F.sub_dict_dict ?_)
  simp only [Bool.not_true, Bool.false_eq_true, if_false]
  refine wpAny_bind (wpAny_pure (wpAny_bind (wpAny_pure ?_)))
  refine wpAny_bind (PySem.W.samePairsP (r := true) ya yb da db (fun _ => hits) ?_)
  refine wpAny_pure ⟨_, rfl, ?_, ?_⟩
  · exact fun x => nomatch x
  · rw [show (va.length == vb.length && true) = true from by rw [hlen]; simp]
    exact ⟨.bl false, H, I, rfl, q⟩
def vNe (K : PySem.W.Frag) : R2 := fun x y H Q => match x, y with
  | .ty a, .ty b => tyOk a = true ∧ tyOk b = true ∧ Q (.bl (!decide (a = b))) H
  | .ref a, y => rNeD K (.ref a) y H Q ∨ rNeV K (.ref a) y H Q
  | x, .ref b => rNeD K x (.ref b) H Q
  | x, y => scal x y = true ∧ Q (.bl (!decide (x = y))) H
theorem op_vEq {X : Cx} (hu : X.A.units + 64 < cLine) : OpR X (compareOp .Eq) (vEq X.K) := by
  intro pins s σ H x y u v Q I rx ry h
  unfold vEq at h
  split at h
  · exact op_eqTy pins s σ H _ _ u v Q I rx ry ⟨_, _, rfl, rfl, h.1, h.2.1, h.2.2⟩
  · exact h.elim (op_eqD hu pins s σ H _ _ u v Q I rx ry) (op_eqV hu pins s σ H _ _ u v Q I rx ry)
  · exact op_eqD hu pins s σ H _ _ u v Q I rx ry h
  · exact op_eq pins s σ H _ _ u v Q I rx ry h
theorem op_vNe {X : Cx} (hu : X.A.units + 64 < cLine) : OpR X (compareOp .NotEq) (vNe X.K) := by
  intro pins s σ H x y u v Q I rx ry h
  unfold vNe at h
  split at h
  · exact op_neTy pins s σ H _ _ u v Q I rx ry ⟨_, _, rfl, rfl, h.1, h.2.1, h.2.2⟩
  · exact h.elim (op_neD hu pins s σ H _ _ u v Q I rx ry) (op_neV hu pins s σ H _ _ u v Q I rx ry)
  · exact op_neD hu pins s σ H _ _ u v Q I rx ry h
  · exact op_ne pins s σ H _ _ u v Q I rx ry h
/-- type(x) -/
def tyOf (H : Hp) : V → Option String
  | .non => some "NoneType"
  | .bl _ => some "bool"
  | .int _ => some "int"
  | .str _ => some "str"
  | .ref a => match H a with
    | some (.lst _) => some "list"
    | some (.tup _) => some "tuple"
    | some (.dK _) => some "dict"
    | _ => none
  | _ => none
def cType : List V → Hp → VK → Prop := fun xs H Q => match xs with
  | [x] => (match tyOf H x with
    | some T => Q (.ty T) H
    | none => False)
  | _ => False

theorem tyB_of {K : PySem.W.Frag} {H : Hp} {x : V} {T : String} (h : tyOf H x = some T) : TyB K H x T := by
  unfold tyOf at h
  split at h
  · cases h; exact .non
  · cases h; exact .bl _
  · cases h; exact .int _
  · cases h; exact .str _
  · split at h
    · rename_i e; cases h; exact .lst (.inl (.inl e))
    · rename_i e; cases h; exact .tup (.inl (.inl e))
    · rename_i e; cases h; exact .dK e
    · cases h
  · cases h
theorem tyOf_of {K : PySem.W.Frag} {H : Hp} {x : V} {T : String} (h : tyOf H x = some T) : TyOf K H x (.type T) := by
  unfold tyOf at h
  split at h
  · cases h; exact .non
  · cases h; exact .bl _
  · cases h; exact .int _
  · cases h; exact .str _
  · split at h
    · rename_i e; cases h; exact .lst e
    · rename_i e; cases h; exact .tup e
    · rename_i e; cases h; exact .dK e
    · cases h
  · cases h
theorem tyOf_in {H : Hp} {x : V} {T : String} (h : tyOf H x = some T) : T ∈ ["NoneType", "bool", "int", "str", "list", "tuple", "dict"] := by
  unfold tyOf at h
  split at h
  · cases h; decide
  · cases h; decide
  · cases h; decide
  · cases h; decide
  · split at h
    · cases h; decide
    · cases h; decide
    · cases h; decide
    · cases h
  · cases h
theorem call_vType {X : Cx} : CallR X (.type "type") cType := by
  intro pins s σ H xs us Q I r h
  unfold cType at h
  split at h
  · split at h
    · rename_i T e
      exact call_type1 pins s σ H _ us Q I r ⟨_, T, rfl, tyB_of e, h⟩
    · exact h.elim
  · exact h.elim
/-- isinstance(x, T), T a built-in type -/
def isT (A T : String) : Bool := A == T || (A == "bool" && T == "int")
theorem kit_isT : ∀ A ∈ ["NoneType", "bool", "int", "str", "list", "tuple", "dict"], ∀ T ∈ ["bool", "int", "str", "list", "tuple", "dict"], kitB A T = some (isT A T) := by decide +kernel
def cIs : List V → Hp → VK → Prop := fun xs H Q => match xs with
  | [x, .ty T] => T ∈ ["bool", "int", "str", "list", "tuple", "dict"] ∧ (match tyOf H x with
    | some A => Q (.bl (isT A T)) H
    | none => False)
  | _ => False
theorem call_vIs {X : Cx} : CallR X (.builtin "isinstance") cIs := by
  intro pins s σ H xs us Q I r h
  unfold cIs at h
  split at h
  · rename_i x T
    obtain ⟨hT, h⟩ := h
    split at h
    · rename_i A e
      exact call_isi pins s σ H _ us Q I r ⟨x, .ty T, .type A, .type T, isT A T, rfl, .ty T, .base (tyOf_of e), kit_ty (kit_isT A (tyOf_in e) T hT), h⟩
    · exact h.elim
  · exact h.elim
/-! ### the module's defs by their names -/
structure Fn (P : Program) (w : World) (K : PySem.W.Frag) (mg : Str → Option Value) (base : Heap) (k : Nat) (x : Str) (ps : List Str) (sp : Sp) : Prop where
  ex : ∃ (f : Addr) (fd : FuncData), FnOk P w K mg base CX0 k f fd ps sp ∧ mg x = some (.ref f) ∧ PySem.W.keepIn K (.ref f) = true ∧ Binds K fd ps [] ∧ ∃ oc od osl, K.lookup f = some ⟨oc, od, .func fd, osl⟩
/-- one that may raise -/
structure FnX (P : Program) (w : World) (K : PySem.W.Frag) (mg : Str → Option Value) (base : Heap) (k : Nat) (x : Str) (ps : List Str) (sp : Sp) : Prop where
  ex : ∃ (f : Addr) (fd : FuncData), FnOk P w K mg base (L2.CX P w) k f fd ps sp ∧ mg x = some (.ref f) ∧ PySem.W.keepIn K (.ref f) = true ∧ Binds K fd ps []
/-- a def of the text as the top has left it -/
structure Src (K : PySem.W.Frag) (mg : Str → Option Value) (x : Str) (ps : List Str) (st : Stmt) : Prop where
  ex : ∃ (f : Addr) (fd : FuncData), Fun K x x st f fd ∧ mg x = some (.ref f) ∧ ∀ us : List Value, us.length = ps.length → bindArgs fd ⟨us, []⟩ = pure (ps.zip us)
theorem src_mk {K : PySem.W.Frag} {mg : Str → Option Value} {h : Heap} {x : Str} {ps : List Str} {st : Stmt} {f : Addr} {oc : Value} {od an : Option Addr} {osl : Array (Option Value)} {kV doc pm cd ct : Value}
    (X : K.In h) (G : h.Ns mainGlobals mg) (a : PySem.W.nsIn K mainGlobals x = some (some (.ref f)))
    (l : K.lookup f = some ⟨oc, od, .func (PySem.W.fnOf x x (defArgs st) (defBody st) (defScope st) .none kV doc pm an cd ct), osl⟩) (c : PySem.W.codeIn K cd x = true) (k : PySem.W.keepIn K (.ref f) = true)
    (hb : ∀ us : List Value, us.length = ps.length → bindArgs (PySem.W.fnOf x x (defArgs st) (defBody st) (defScope st) .none kV doc pm an cd ct) ⟨us, []⟩ = pure (ps.zip us)) : Src K mg x ps st :=
  ⟨f, _, fun_mk l c k, PySem.W.mg_of X G a, hb⟩
section
variable {P : Program} {w : World} {K : PySem.W.Frag} {mg : Str → Option Value} {base : Heap}
theorem fn_mk {x : Str} {st : Stmt} {N ps : List Str} {k : Nat} {sp : Sp} (S : Src K mg x ps st) (sc : FnScope N ps (defScope st)) (len : ∀ vs H Q E, sp vs H Q E → vs.length = ps.length)
    (hbody : ∀ (f : Addr) (cdv : Value) (A : Around) (outer : List Env) (s : Shared) (H : Hp) (vs : List V) (Q : VK) (E : XK), Room k (A.deeper (envOfC x (defScope st) s.heap.objs.size f cdv)) → sp vs H Q E →
      ∃ t, PSs (cxOf CX0 P w K mg base N x (defScope st) f cdv A outer s H E).nox (defBody st) t ∧ t { nx := fun _ H' => Q .non H', rt := Q } (start N vs) H) : Fn P w K mg base (k + 1) x ps sp := by
  obtain ⟨f, fd, F, hm, hb⟩ := S.ex
  obtain ⟨oc, od, kV, doc, pm, an, cdv, ct, osl, e, lk, hcd⟩ := id F.ex
  exact ⟨f, fd, F.ok sc len (hbody f), hm, F.kp, .all hb, oc, od, osl, lk⟩
theorem fnx_mk {x : Str} {st : Stmt} {N ps : List Str} {k : Nat} {sp : Sp} (S : Src K mg x ps st) (sc : FnScope N ps (defScope st)) (len : ∀ vs H Q E, sp vs H Q E → vs.length = ps.length)
    (hbody : ∀ (f : Addr) (cdv : Value) (A : Around) (outer : List Env) (s : Shared) (H : Hp) (vs : List V) (Q : VK) (E : XK), Room k (A.deeper (envOfC x (defScope st) s.heap.objs.size f cdv)) → sp vs H Q E →
      ∃ t, PSs (cxOf (L2.CX P w) P w K mg base N x (defScope st) f cdv A outer s H E) (defBody st) t ∧ t { nx := fun _ H' => Q .non H', rt := Q } (start N vs) H) : FnX P w K mg base (k + 1) x ps sp := by
  obtain ⟨f, fd, F, hm, hb⟩ := S.ex
  exact ⟨f, fd, F.okX sc len (hbody f), hm, F.kp, .all hb⟩
end
/-- what comes behind a call: not looked at before the call has answered. (Tag, of a type that speaks of Q, keeps simp's congruences out.) -/
structure Tag (Q : VK) : Type where
  u : Unit
structure TagX (E : XK) : Type where
  u : Unit
def hold (Q : VK) (_ : Tag Q) : VK := Q
def holdX (E : XK) (_ : TagX E) : XK := E
/-- f(..) of such a def -/
def tFn (sp : Sp) (t : TA) : TE := fun σ H Q => t σ H fun vs H1 => sp vs H1 Q E0
/-- .. that may raise: E what is wished of it, at the slots -/
def tFnX (sp : Sp) (E : L2.St → XK) (t : TA) : TE := fun σ H Q => t σ H fun vs H1 => sp vs H1 Q (E σ)
section
variable {X : Cx} {k : Nat} {ps : List Str} {sp : Sp} {x : Str} {p pos : Pos} {e : Expr} {es : List Expr} {t : TA}
theorem pe_fn (G : Fn X.prog X.w X.K X.mg X.base k x ps sp) (hr : Room k X.A) (hg : Gl X x) (ha : PA X (e :: es) t) (hdb : (x == ("__debug__" : Str)) = false := by decide)
    (he : starEach (e :: es) X.env = (false, eval e X.env) :: starEach es X.env := by rfl) (hpl : (backTo pos (starEach es X.env)).any (·.1) = false := by rfl) :
    PE X (.Call (.Name x p) (e :: es) [] pos) (tFn sp t) := by
  obtain ⟨f, fd, F, hm, hk, hb, _⟩ := G.ex
  have h := pe_call (pos := pos) (p := p) F hr hg hm hk hb .nil pass0 ha hdb he hpl
  refine ⟨fun pins s σ H Q I q => h.run pins s σ H Q I ?_⟩
  have q' : t σ H fun vs H1 => sp vs H1 Q E0 := q
  show t σ H fun vs H1 => sp (vs ++ []) H1 Q E0
  simp only [List.append_nil]
  exact q'
theorem pe_fnX {W : WX} (G : FnX X.prog X.w X.K X.mg X.base k x ps sp) (tk : Takes X W) (hr : Room k X.A) (hg : Gl X x) (ha : PA X (e :: es) t) (hdb : (x == ("__debug__" : Str)) = false := by decide)
    (he : starEach (e :: es) X.env = (false, eval e X.env) :: starEach es X.env := by rfl) (hpl : (backTo pos (starEach es X.env)).any (·.1) = false := by rfl) :
    PE X (.Call (.Name x p) (e :: es) [] pos) (tFnX sp (WE W) t) := by
  obtain ⟨f, fd, F, hm, hk, hb⟩ := G.ex
  exact pe_callS (pos := pos) (p := p) F hr hg hm hk hb (fun σ => passAt tk σ) ha hdb he hpl
end

/-! ### subscripts, in, stores -/
/-- x[y] -/
def vIx : R2 := fun x y H Q => match x with
  | .ref a => (match lstOf H a with
    | some xs => (match y with
      | .int i => ∃ v, atI xs i = some v ∧ Q v H
      | _ => False)
    | none => (match tupOf H a with
      | some xs => (match y with
        | .int i => ∃ v, atI xs i = some v ∧ Q v H
        | _ => False)
      | none => (match dicOf H a with
        | some kvs => (match keyOf y with
          | some k => ∃ v, valV kvs k = some v ∧ Q v H
          | none => False)
        | none => False)))
  | .str z => (match y with
    | .int i => z.length ≤ sizeLine ∧ ∃ c, atI z.cps.toList i = some c ∧ Q (.str ⟨#[c]⟩) H
    | _ => False)
  | _ => False
theorem dget_of {H : Hp} {a : Addr} {kvs : List (Key × V)} {y : V} {k : Key} (h : dicOf H a = some kvs) (e : keyOf y = some k) : DGet H a y (valV kvs k) :=
  .inl ⟨kvs, k, rd_dic h, keyOf_kV e, rfl⟩
theorem ix_v {X : Cx} (hu : X.A.units + 1 < cLine) : IxR X vIx := by
  intro value slice pins s σ H x y v u Q I rx ry h hs
  unfold vIx at h
  split at h
  · rename_i a
    split at h
    · rename_i xs e
      split at h
      · rename_i i
        obtain ⟨z, h1, q⟩ := h
        exact ix_list value slice pins s σ H _ _ v u Q I rx ry ⟨a, xs, i, z, rfl, rfl, sq_lst e, h1, q⟩ hs
      · exact h.elim
    · split at h
      · rename_i xs e
        split at h
        · rename_i i
          obtain ⟨z, h1, q⟩ := h
          exact ix_tup value slice pins s σ H _ _ v u Q I rx ry ⟨a, xs, i, z, rfl, rfl, sq_tup e, h1, q⟩ hs
        · exact h.elim
      · split at h
        · rename_i kvs e
          split at h
          · rename_i k ek
            obtain ⟨z, h1, q⟩ := h
            cases (show v = Value.ref a from rx)
            have g : DGet H a y (some z) := by
              rw [← h1]
              exact dget_of e ek
            exact tail_any (dict_typeIs I g) PySem.F.slot_dict_getitem.lookup (d_getItem hu I g ry fun w' s3 I3 r3 => ⟨z, H, I3, r3, q⟩) hs
          · exact h.elim
        · exact h.elim
  · rename_i z
    split at h
    · rename_i i
      obtain ⟨h1, c, h2, q⟩ := h
      exact ix_str value slice pins s σ H _ _ v u Q I rx ry ⟨z, i, c, rfl, rfl, h1, h2, q⟩ hs
    · exact h.elim
  · exact h.elim
/-- x in y -/
def vInB (neg : Bool) : R2 := fun x y H Q => match y with
  | .ref a => (match lstOf H a with
    | some xs => flatV x = true ∧ xs.all flatV = true ∧ Q (.bl (inV x xs ^^ neg)) H
    | none => (match tupOf H a with
      | some xs => flatV x = true ∧ xs.all flatV = true ∧ Q (.bl (inV x xs ^^ neg)) H
      | none => (match dicOf H a with
        | some kvs => (match keyOf x with
          | some k => Q (.bl ((valV kvs k).isSome ^^ neg)) H
          | none => False)
        | none => False)))
  | .str z => (match x with
    | .str ⟨⟨[c]⟩⟩ => Q (.bl (decide (c ∈ z.cps.toList) ^^ neg)) H
    | _ => False)
  | _ => False
theorem op_vIn {X : Cx} (hu : X.A.units + 1 < cLine) : OpR X (compareOp .In) (vInB false) := by
  intro pins s σ H x y u v Q I rx ry h
  unfold vInB at h
  split at h
  · rename_i a
    split at h
    · rename_i xs e
      exact op_in_seq pins s σ H _ _ u v Q I rx ry ⟨a, xs, rfl, .inl (sq_lst e), h.1, h.2.1, by simpa using h.2.2⟩
    · split at h
      · rename_i xs e
        exact op_in_seq pins s σ H _ _ u v Q I rx ry ⟨a, xs, rfl, .inr (sq_tup e), h.1, h.2.1, by simpa using h.2.2⟩
      · split at h
        · rename_i kvs e
          split at h
          · rename_i k ek
            cases (show v = Value.ref a from ry)
            refine d_in hu I (dget_of e ek) rx fun s3 I3 => ⟨.bl (valV kvs k).isSome, H, I3, rfl, ?_⟩
            simpa using h
          · exact h.elim
        · exact h.elim
  · rename_i z
    split at h
    · rename_i c
      exact op_in_sign pins s σ H _ _ u v Q I rx ry ⟨c, z, rfl, rfl, by simpa using h⟩
    · exact h.elim
  · exact h.elim
theorem op_vNotIn {X : Cx} (hu : X.A.units + 1 < cLine) : OpR X (compareOp .NotIn) (vInB true) := by
  intro pins s σ H x y u v Q I rx ry h
  unfold vInB at h
  split at h
  · rename_i a
    split at h
    · rename_i xs e
      exact op_notIn_seq pins s σ H _ _ u v Q I rx ry ⟨a, xs, rfl, .inl (sq_lst e), h.1, h.2.1, by simpa using h.2.2⟩
    · split at h
      · rename_i xs e
        exact op_notIn_seq pins s σ H _ _ u v Q I rx ry ⟨a, xs, rfl, .inr (sq_tup e), h.1, h.2.1, by simpa using h.2.2⟩
      · split at h
        · rename_i kvs e
          split at h
          · rename_i k ek
            cases (show v = Value.ref a from ry)
            refine d_notIn hu I (dget_of e ek) rx fun s3 I3 => ⟨.bl (!(valV kvs k).isSome), H, I3, rfl, ?_⟩
            simpa using h
          · exact h.elim
        · exact h.elim
  · rename_i z
    split at h
    · rename_i c
      exact op_notIn_sign pins s σ H _ _ u v Q I rx ry ⟨c, z, rfl, rfl, by simpa using h⟩
    · exact h.elim
  · exact h.elim
/-- o[i] = v -/
def vSet : TSet := fun o i v H Q => match o with
  | .ref a => (match H a with
    | some (.lst xs) => (match i with
      | .int k => ∃ j, ixN xs.length k = some j ∧ Q (upd H a (.lst (xs.set j v)))
      | _ => False)
    | some (.dK kvs) => (match keyOf i with
      | some k => kvs.length < sizeLine ∧ Q (upd H a (.dK (putK kvs k v)))
      | none => False)
    | _ => False)
  | _ => False
theorem set_v {X : Cx} (hu : X.A.units + 1 < cLine) : PSet X vSet := by
  intro pins s σ H o i v ov iv u Q I ro ri rv h
  unfold vSet at h
  split at h
  · rename_i a
    split at h
    · rename_i xs e
      split at h
      · rename_i k
        obtain ⟨j, h1, q⟩ := h
        exact set_list pins s σ H _ _ v ov iv u Q I ro ri rv ⟨a, xs, k, j, rfl, rfl, e, h1, q⟩
      · exact h.elim
    · rename_i kvs e
      split at h
      · rename_i k ek
        cases (show ov = Value.ref a from ro)
        have g : DPut H a i v (upd H a (.dK (putK kvs k v))) := by
          rw [keyOf_kV ek]
          exact DPut.k e h.1
        exact d_setItem hu I g ri rv fun s3 I3 => ⟨_, I3, h.2⟩
      · exact h.elim
    · exact h.elim
  · exact h.elim
/-- len(x) -/
def cLen : List V → Hp → VK → Prop := fun vs H Q => match vs with
  | [.str z] => z.length ≤ sizeLine ∧ Q (.int z.length) H
  | [.ref a] => (match lstOf H a with
    | some xs => Q (.int xs.length) H
    | none => (match tupOf H a with
      | some xs => Q (.int xs.length) H
      | none => (match dicOf H a with
        | some kvs => Q (.int kvs.length) H
        | none => False)))
  | _ => False
theorem call_vLen {X : Cx} : CallR X (.builtin "len") cLen := by
  intro pins s σ H xs us Q I r h
  unfold cLen at h
  split at h
  · exact call_len_str pins s σ H _ us Q I r ⟨_, rfl, h.1, h.2⟩
  · rename_i a
    split at h
    · rename_i xs e
      exact call_len_seq pins s σ H _ us Q I r ⟨a, xs, rfl, .inl (sq_lst e), h⟩
    · split at h
      · rename_i xs e
        exact call_len_seq pins s σ H _ us Q I r ⟨a, xs, rfl, .inr (sq_tup e), h⟩
      · split at h
        · rename_i kvs e
          obtain ⟨u, rfl, ru⟩ := vals1 r
          cases (show u = Value.ref a from ru)
          exact d_len I (rd_dic e) fun t s3 I3 => ⟨.int kvs.length, H, I3, ⟨_, rfl⟩, h⟩
        · exact h.elim
  · exact h.elim
/-- list(x) -/
def cList : List V → Hp → VK → Prop := fun vs H Q => match vs with
  | [.ref a] => (match lstOf H a with
    | some xs => ∀ p, H p = none → Q (.ref p) (upd H p (.lst xs))
    | none => (match tupOf H a with
      | some xs => ∀ p, H p = none → Q (.ref p) (upd H p (.lst xs))
      | none => False))
  | _ => False
theorem call_vList {X : Cx} : CallR X (.type "list") cList := by
  intro pins s σ H xs us Q I r h
  unfold cList at h
  split at h
  · rename_i a
    split at h
    · rename_i xs e
      exact call_list_of pins s σ H _ us Q I r ⟨a, xs, rfl, .inl (sq_lst e), h⟩
    · split at h
      · rename_i xs e
        exact call_list_of pins s σ H _ us Q I r ⟨a, xs, rfl, .inr (sq_tup e), h⟩
      · exact h.elim
  · exact h.elim
/-- int(x) of a bool or an int -/
def cInt : List V → Hp → VK → Prop := fun vs H Q => match vs with
  | [.int i] => Q (.int i) H
  | [.bl k] => Q (.int (if k = true then 1 else 0)) H
  | _ => False
theorem call_vInt {X : Cx} : CallR X (.type "int") cInt := by
  intro pins s σ H xs us Q I r h
  unfold cInt at h
  split at h
  · exact call_int1 pins s σ H _ us Q I r (.inl ⟨_, rfl, h⟩)
  · exact call_int1 pins s σ H _ us Q I r (.inr ⟨_, rfl, h⟩)
  · exact h.elim

/-! ### exceptions -/
abbrev veMro : List Value := [.type "ValueError", .type "Exception", .type "BaseException", .type "object"]
/-- an own class over ValueError, without an __init__ of its own, as the top has left it -/
structure Exn (K : PySem.W.Frag) (mg : Str → Option Value) (x : Str) (C : Addr) : Prop where
  gC : mg x = some (.ref C)
  ex : PySem.W.excIn K C veMro "ValueError.__new__" = true
  kp : PySem.W.keepIn K (.ref C) = true
  sb : PySem.W.subIn K (.ref C) (.type "BaseException") = some true
  ty : PySem.W.typeIn K (.ref C) = some (.type "type")
theorem Exn.mk_ {X : Cx} {x m : Str} {C : Addr} {j : Nat} {p p2 pos : Pos} (T : Exn X.K X.mg x C) (hg : Gl X x) (hdb : (x == ("__debug__" : Str)) = false := by decide) :
    PMk X (.Call (.Name x p) [.Constant (.str m) j p2] [] pos) (fun _ H Q => Q (.ref C) none H) :=
  pmk_own PySem.F.excBase_ValueError T.ex T.gC T.kp (raises_own T.sb T.ty) hg hdb
/-- isinstance(e, c) within the suite that holds e -/
def cIsE (K : PySem.W.Frag) (cls : Value) (d : Option Addr) (a : Addr) : List V → Hp → VK → Prop := fun xs H Q =>
  ∃ (D : Addr) (c : V) (cv : Value) (b : Bool), cls = .ref D ∧ d = none ∧ ExcC K D ∧ xs = [.ref a, c] ∧ (∀ u, RelV c u → u = cv) ∧ PySem.W.kitOne K (.ref D) cv = some b ∧ Q (.bl b) H
theorem pe_isE {X : Cx} {a : Addr} {oe : Obj} {cls : Value} {d : Option Addr} {pn : List (Addr × Obj)} {p pos : Pos} {e : Expr} {es : List Expr} {t : TA} (hz : Zc cls d oe) (hf : ∃ vs, oe.data = .fields vs)
    (hg : Gl (X.suite a ((a, oe) :: pn)) "isinstance") (hm : X.mg "isinstance" = none) (ha : PA (X.suite a ((a, oe) :: pn)) (e :: es) t)
    (he : starEach (e :: es) (X.suite a ((a, oe) :: pn)).env = (false, eval e (X.suite a ((a, oe) :: pn)).env) :: starEach es (X.suite a ((a, oe) :: pn)).env := by rfl)
    (hpl : (backTo pos (starEach es (X.suite a ((a, oe) :: pn)).env)).any (·.1) = false := by rfl) :
    PE (X.suite a ((a, oe) :: pn)) (.Call (.Name "isinstance" p) (e :: es) [] pos) (tCB (cIsE X.K cls d a) t) := by
  refine pe_callB (id := "isinstance") ?_ hg hm (by decide +kernel) ha (by decide) (by decide) he hpl
  intro pins s σ H xs us Q I r h
  obtain ⟨D, c, cv, b, rfl, rfl, C, rfl, h1, h2, q⟩ := h
  exact call_isE C hz hf pins s σ H _ us Q I r ⟨c, cv, b, rfl, h1, h2, q⟩

/-- a module's whole number -/
theorem pe_gint {X : Cx} {x : Str} {i : Int} {pos : Pos} (h : ∃ t, X.mg x = some (.int i t)) (hg : Gl X x) (hd : (x == ("__debug__" : Str)) = false := by decide) : PE X (.Name x pos) (tC (.int i)) := by
  obtain ⟨t, h⟩ := h
  exact pe_glob hg h ⟨t, rfl⟩ hd

theorem cx_K {CX : CXT} {P : Program} {w : World} {K : PySem.W.Frag} {mg : Str → Option Value} {base : Heap} {N : List Str} {qual : Str} {scope : Scope} {f : Addr} {cd : Value} {A : Around} {outer : List Env} {s : Shared} {H : Hp} {E : XK} :
    (cxOf CX P w K mg base N qual scope f cd A outer s H E).K = K := rfl
theorem map_int_get {ns : List Int} {j : Nat} {v : Int} (h : ns[j]? = some v) : (ns.map V.int)[j]? = some (.int v) := by
  rw [List.getElem?_map, h]
  rfl

theorem ty_ref {H : Hp} {a : Addr} {T : String} (h : tyOf H (.ref a) = some T) : T = "list" ∨ T = "tuple" ∨ T = "dict" := by
  have e : tyOf H (.ref a) = (match H a with
    | some (.lst _) => some "list"
    | some (.tup _) => some "tuple"
    | some (.dK _) => some "dict"
    | _ => none) := rfl
  rw [e] at h
  split at h
  · exact .inl (Option.some.inj h).symm
  · exact .inr (.inl (Option.some.inj h).symm)
  · exact .inr (.inr (Option.some.inj h).symm)
  · cases h
/-- the kinds of a value with a type -/
theorem ty_cases {H : Hp} {v : V} {T : String} (h : tyOf H v = some T) :
    (v = .non ∧ T = "NoneType") ∨ (∃ b, v = .bl b ∧ T = "bool") ∨ (∃ i, v = .int i ∧ T = "int") ∨ (∃ x, v = .str x ∧ T = "str") ∨ (∃ a, v = .ref a ∧ (T = "list" ∨ T = "tuple" ∨ T = "dict")) := by
  cases v with
  | non => exact .inl ⟨rfl, (Option.some.inj h).symm⟩
  | bl b => exact .inr (.inl ⟨b, rfl, (Option.some.inj h).symm⟩)
  | int i => exact .inr (.inr (.inl ⟨i, rfl, (Option.some.inj h).symm⟩))
  | str x => exact .inr (.inr (.inr (.inl ⟨x, rfl, (Option.some.inj h).symm⟩)))
  | ref a => exact .inr (.inr (.inr (.inr ⟨a, rfl, ty_ref h⟩)))
  | byt b => cases h
  | flt b => cases h
  | ty n => cases h
theorem isT_NoneType_bool : isT "NoneType" "bool" = false := by decide
theorem isT_NoneType_int : isT "NoneType" "int" = false := by decide
theorem isT_NoneType_str : isT "NoneType" "str" = false := by decide
theorem isT_NoneType_list : isT "NoneType" "list" = false := by decide
theorem isT_NoneType_tuple : isT "NoneType" "tuple" = false := by decide
theorem isT_NoneType_dict : isT "NoneType" "dict" = false := by decide
theorem isT_bool_bool : isT "bool" "bool" = true := by decide
theorem isT_bool_int : isT "bool" "int" = true := by decide
theorem isT_bool_str : isT "bool" "str" = false := by decide
theorem isT_bool_list : isT "bool" "list" = false := by decide
theorem isT_bool_tuple : isT "bool" "tuple" = false := by decide
theorem isT_bool_dict : isT "bool" "dict" = false := by decide
theorem isT_int_bool : isT "int" "bool" = false := by decide
theorem isT_int_int : isT "int" "int" = true := by decide
theorem isT_int_str : isT "int" "str" = false := by decide
theorem isT_int_list : isT "int" "list" = false := by decide
theorem isT_int_tuple : isT "int" "tuple" = false := by decide
theorem isT_int_dict : isT "int" "dict" = false := by decide
theorem isT_str_bool : isT "str" "bool" = false := by decide
theorem isT_str_int : isT "str" "int" = false := by decide
theorem isT_str_str : isT "str" "str" = true := by decide
theorem isT_str_list : isT "str" "list" = false := by decide
theorem isT_str_tuple : isT "str" "tuple" = false := by decide
theorem isT_str_dict : isT "str" "dict" = false := by decide
theorem isT_list_bool : isT "list" "bool" = false := by decide
theorem isT_list_int : isT "list" "int" = false := by decide
theorem isT_list_str : isT "list" "str" = false := by decide
theorem isT_list_list : isT "list" "list" = true := by decide
theorem isT_list_tuple : isT "list" "tuple" = false := by decide
theorem isT_list_dict : isT "list" "dict" = false := by decide
theorem isT_tuple_bool : isT "tuple" "bool" = false := by decide
theorem isT_tuple_int : isT "tuple" "int" = false := by decide
theorem isT_tuple_str : isT "tuple" "str" = false := by decide
theorem isT_tuple_list : isT "tuple" "list" = false := by decide
theorem isT_tuple_tuple : isT "tuple" "tuple" = true := by decide
theorem isT_tuple_dict : isT "tuple" "dict" = false := by decide
theorem isT_dict_bool : isT "dict" "bool" = false := by decide
theorem isT_dict_int : isT "dict" "int" = false := by decide
theorem isT_dict_str : isT "dict" "str" = false := by decide
theorem isT_dict_list : isT "dict" "list" = false := by decide
theorem isT_dict_tuple : isT "dict" "tuple" = false := by decide
theorem isT_dict_dict : isT "dict" "dict" = true := by decide

/-- what walk_of asks of the law's own def -/
theorem fin_of {P : Program} {w : World} {K : PySem.W.Frag} {mg : Str → Option Value} {x p : Str} {st : Stmt} {fa : Addr} {k : Nat} {sp : Sp} (S : Src K mg x [p] st) (hfa : mg x = some (.ref fa))
    (h : ∀ base : Heap, Fn P w K mg base k x [p] sp) : ∃ fd : FuncData, (∀ (s : Shared) (u : Value), BindsTo s fd ⟨[u], []⟩ [(p, u)]) ∧
      ∀ base : Heap, K.In base → base.Ns mainGlobals mg → FnOk P w K mg base CX0 k fa fd [p] sp := by
  obtain ⟨f, fd, F, hm, hb⟩ := S.ex
  obtain ⟨oc, od, kV, doc, pm, an, cdv, ct, osl, e, lk, hcd⟩ := id F.ex
  have e1 : f = fa := by
    rw [hm] at hfa
    cases hfa
    rfl
  subst e1
  refine ⟨fd, fun s u => .of_eq (hb [u] rfl), fun base _ _ => ?_⟩
  obtain ⟨f2, fd2, ok, hm2, _, _, oc2, od2, osl2, lk2⟩ := (h base).ex
  have e2 : f2 = f := by
    rw [hm2] at hm
    cases hm
    rfl
  subst e2
  have e3 : fd2 = fd := by
    rw [lk] at lk2
    cases lk2
    rfl
  rw [← e3]
  exact ok

theorem kit_sub {K : PySem.W.Frag} {C : Addr} {T : String} {b : Bool} (hm : PySem.W.kitMeta T = true) (h : PySem.W.subIn K (.ref C) (.type T) = some b) : PySem.W.kitOne K (.ref C) (.type T) = some b := by
  unfold PySem.W.kitOne
  rw [if_neg (by simp)]
  unfold PySem.W.kitCls
  simp only [hm, if_true]
  exact h
theorem meta_VE : PySem.W.kitMeta "ValueError" = true := by decide +kernel

/-! ### the readings, applied: what the walk rewrites with -/
section
variable {K : PySem.W.Frag} {σ : L2.St} {H : Hp} {D : Ends} {Q : VK} {QB : Bool → Hp → Prop} {QA : List V → Hp → Prop} {QS : L2.St → Hp → Prop} {ta tb te tc : TE} {t u : TT} {tA uA : TA} {tS uS : TS} {g : TG} {gs : TGs} {i n : Nat} {v x y o : V} {vs : List V} {r : R2}
  {rU : V → Hp → VK → Prop} {rC : List V → Hp → VK → Prop} {sp : Sp} {E : L2.St → XK} {st : TSet}
theorem a_seq : tSeq tS uS D σ H = tS { D with nx := uS D } σ H := rfl
theorem a_next : tNext D σ H = D.nx σ H := rfl
theorem a_brk : tBreak D σ H = D.bk σ H := rfl
theorem a_cont : tCont D σ H = D.ct σ H := rfl
theorem a_asg : tAsg te g D σ H = te σ H fun z H1 => g z σ H1 D.nx := rfl
theorem a_name : gName i v σ H QS = QS (σ.set i (some v)) H := rfl
theorem a_gnil : gNil vs σ H QS = (vs = [] ∧ QS σ H) := rfl
theorem a_gcons : gCons g gs vs σ H QS = ∃ z q, vs = z :: q ∧ g z σ H fun σ' H' => gs q σ' H' QS := rfl
theorem a_gsub : gSub ta tb st v σ H QS = ta σ H fun z H1 => tb σ H1 fun j H2 => st z j v H2 fun H3 => QS σ H3 := rfl
theorem a_var : tVar i σ H Q = ∃ z, σ[i]? = some (some z) ∧ Q z H := rfl
theorem a_c : tC v σ H Q = Q v H := rfl
theorem a_op : tOp r ta tb σ H Q = ta σ H fun z H1 => tb σ H1 fun j H2 => r z j H2 Q := rfl
theorem a_un : tUn rU ta σ H Q = ta σ H fun z H1 => rU z H1 Q := rfl
theorem a_cons : tCons te tA σ H QA = te σ H fun z H1 => tA σ H1 fun zs H2 => QA (z :: zs) H2 := rfl
theorem a_nil : tNil σ H QA = QA [] H := rfl
theorem a_ret : tRet te D σ H = te σ H D.rt := rfl
theorem a_retN : tRetN D σ H = D.rt .non H := rfl
theorem a_drop : tDrop te D σ H = te σ H fun _ H1 => D.nx σ H1 := rfl
theorem a_if : tIfS t tS uS D σ H = t σ H fun b H1 => if b = true then tS D σ H1 else uS D σ H1 := rfl
theorem a_test : tTest te σ H QB = te σ H fun z H' => ∃ k, z = .bl k ∧ QB k H' := rfl
theorem a_B : tB te σ H QB = te σ H fun z H1 => ∃ c, z = .bl c ∧ QB c H1 := rfl
theorem a_and : tAnd t u σ H QB = t σ H fun c H1 => if c = true then u σ H1 QB else QB false H1 := rfl
theorem a_or : tOr t u σ H QB = t σ H fun c H1 => if c = true then QB true H1 else u σ H1 QB := rfl
theorem a_not : tNot t σ H QB = t σ H fun c H1 => QB (!c) H1 := rfl
theorem a_andV : tAndV ta tb σ H Q = ta σ H fun z H1 => ∃ c, z = .bl c ∧ if c = true then tb σ H1 Q else Q (.bl false) H1 := rfl
theorem a_orV : tOrV ta tb σ H Q = ta σ H fun z H1 => ∃ c, z = .bl c ∧ if c = true then Q (.bl true) H1 else tb σ H1 Q := rfl
theorem a_notV : tNotV ta σ H Q = ta σ H fun z H1 => ∃ c, z = .bl c ∧ Q (.bl (!c)) H1 := rfl
theorem a_ifE : tIf t ta tb σ H Q = t σ H fun c H1 => if c = true then ta σ H1 Q else tb σ H1 Q := rfl
theorem a_fn : tFn sp tA σ H Q = tA σ H fun zs H1 => sp zs H1 (hold Q ⟨()⟩) E0 := rfl
theorem a_fnX : tFnX sp E tA σ H Q = tA σ H fun zs H1 => sp zs H1 (hold Q ⟨()⟩) (holdX (E σ) ⟨()⟩) := rfl
theorem a_hold {t : Tag Q} : hold Q t v H = Q v H := rfl
theorem a_holdX {Ex : XK} {t : TagX Ex} {u : Value} {ao : Option Addr} : holdX Ex t u ao H = Ex u ao H := rfl
theorem a_cb : tCB rC tA σ H Q = tA σ H fun zs H1 => rC zs H1 Q := rfl
theorem a_lst : tLst tA σ H Q = tA σ H fun xs H1 => xs.length ≤ sizeLine ∧ ∀ p, H1 p = none → Q (.ref p) (upd H1 p (.lst xs)) := rfl
theorem a_tup : tTup tA σ H Q = tA σ H fun xs H1 => xs.length ≤ sizeLine ∧ ∀ p, H1 p = none → Q (.ref p) (upd H1 p (.tup xs)) := rfl
theorem a_chain {r' : R2} : tChain r r' ta tb tc σ H Q = ta σ H fun x1 H1 => tb σ H1 fun y1 H2 => r x1 y1 H2 fun z H3 => ∃ k, z = .bl k ∧ if k = true then tc σ H3 fun w1 H4 => r' y1 w1 H4 Q else Q (.bl false) H3 := rfl
theorem a_dnew : tDNewK σ H Q = ∀ p, H p = none → Q (.ref p) (upd H p (.dK [])) := rfl
theorem a_start {N : List Str} : L2.start N vs = vs.map some ++ List.replicate (N.length - vs.length) none := rfl
-- operations by constructors
theorem v_add_ii {i j : Int} : vAdd (.int i) (.int j) H Q = Q (.int (i + j)) H := rfl
theorem v_add_ss {i j : Str} : vAdd (.str i) (.str j) H Q = (i.length + j.length ≤ sizeLine ∧ Q (.str (i ++ j)) H) := rfl
theorem v_sub_ii {i j : Int} : vSub (.int i) (.int j) H Q = Q (.int (i - j)) H := rfl
theorem v_mul_ii {i j : Int} : vMul (.int i) (.int j) H Q = (CMul i j ∧ Q (.int (i * j)) H) := rfl
theorem v_div_ii {i j : Int} : vDiv (.int i) (.int j) H Q = (CDiv i j ∧ Q (.int (i / j)) H) := rfl
theorem v_mod_ii {i j : Int} : vMod (.int i) (.int j) H Q = (0 < j ∧ Q (.int (i % j)) H) := rfl
theorem v_pow_ii {i j : Int} : vPow (.int i) (.int j) H Q = (CPow i j ∧ Q (.int (i ^ j.toNat)) H) := rfl
theorem v_lt_ii {i j : Int} : vLt (.int i) (.int j) H Q = Q (.bl (decide (i < j))) H := rfl
theorem v_gt_ii {i j : Int} : vGt (.int i) (.int j) H Q = Q (.bl (decide (j < i))) H := rfl
theorem v_le_ii {i j : Int} : vLe (.int i) (.int j) H Q = Q (.bl (decide (i ≤ j))) H := rfl
theorem v_ge_ii {i j : Int} : vGe (.int i) (.int j) H Q = Q (.bl (decide (j ≤ i))) H := rfl
theorem v_le_ss {i j : Str} : vLe (.str i) (.str j) H Q = Q (.bl (!decide (j.cps.toList < i.cps.toList))) H := rfl
theorem v_eq_ii {i j : Int} : vEq K (.int i) (.int j) H Q = Q (.bl (decide (i = j))) H := by
  show (scal (.int i) (.int j) = true ∧ Q (.bl (decide (V.int i = V.int j))) H) = _
  simp [scal]
theorem v_eq_ss {i j : Str} : vEq K (.str i) (.str j) H Q = Q (.bl (decide (i = j))) H := by
  show (scal (.str i) (.str j) = true ∧ Q (.bl (decide (V.str i = V.str j))) H) = _
  simp [scal]
theorem v_eq_bb {i j : Bool} : vEq K (.bl i) (.bl j) H Q = Q (.bl (decide (i = j))) H := by
  show (scal (.bl i) (.bl j) = true ∧ Q (.bl (decide (V.bl i = V.bl j))) H) = _
  simp [scal]
theorem v_ne_ii {i j : Int} : vNe K (.int i) (.int j) H Q = Q (.bl (!decide (i = j))) H := by
  show (scal (.int i) (.int j) = true ∧ Q (.bl (!decide (V.int i = V.int j))) H) = _
  simp [scal]
theorem v_ne_ss {i j : Str} : vNe K (.str i) (.str j) H Q = Q (.bl (!decide (i = j))) H := by
  show (scal (.str i) (.str j) = true ∧ Q (.bl (!decide (V.str i = V.str j))) H) = _
  simp [scal]
theorem v_ne_bb {i j : Bool} : vNe K (.bl i) (.bl j) H Q = Q (.bl (!decide (i = j))) H := by
  show (scal (.bl i) (.bl j) = true ∧ Q (.bl (!decide (V.bl i = V.bl j))) H) = _
  simp [scal]
theorem v_ne_tt {a b : String} : vNe K (.ty a) (.ty b) H Q = (tyOk a = true ∧ tyOk b = true ∧ Q (.bl (!decide (a = b))) H) := rfl
theorem v_eq_tt {a b : String} : vEq K (.ty a) (.ty b) H Q = (tyOk a = true ∧ tyOk b = true ∧ Q (.bl (decide (a = b))) H) := rfl
theorem v_in_sc {neg : Bool} {c : Nat} {z : Str} : vInB neg (.str ⟨⟨[c]⟩⟩) (.str z) H Q = Q (.bl (decide (c ∈ z.cps.toList) ^^ neg)) H := rfl
theorem v_ix_s {z : Str} {i : Int} : vIx (.str z) (.int i) H Q = (z.length ≤ sizeLine ∧ ∃ c, atI z.cps.toList i = some c ∧ Q (.str ⟨#[c]⟩) H) := rfl
theorem v_len_s {z : Str} : cLen [.str z] H Q = (z.length ≤ sizeLine ∧ Q (.int z.length) H) := rfl
theorem v_type : cType [v] H Q = (match tyOf H v with
    | some T => Q (.ty T) H
    | none => False) := rfl
theorem v_is {T : String} : cIs [v, .ty T] H Q = (T ∈ ["bool", "int", "str", "list", "tuple", "dict"] ∧ (match tyOf H v with
    | some A => Q (.bl (isT A T)) H
    | none => False)) := rfl
end
/-! ### loops -/
/-- over a text, sign by sign -/
theorem f_str {j : Nat} {x : Str} {g : TG} {tb : TS} {D : Ends} {σ : L2.St} {H : Hp} (hx : σ[j]? = some (some (.str x))) (Pv : Nat → L2.St → Hp → Prop) (h0 : Pv 0 σ H)
    (hs : ∀ i c σ H (N : L2.St → Hp → Prop), x.cps.toList[i]? = some c → Pv i σ H → (∀ σ' H', Pv (i + 1) σ' H' → N σ' H') → g (.str ⟨⟨[c]⟩⟩) σ H fun σ2 H2 => tb { D with nx := N, ct := N, bk := D.nx } σ2 H2) (hd : ∀ σ H, Pv x.length σ H → D.nx σ H) :
    tFor (iStr (tVar j)) g tb D σ H := by
  have sz : x.cps.size = x.length := rfl
  refine ⟨.str x, hx, x, rfl, fun i m σ H => m = x.cps.size - i ∧ i ≤ x.cps.size ∧ Pv i σ H, ⟨x.cps.size, by simp, Nat.zero_le _, h0⟩, ?_⟩
  rintro i m σ H ⟨rfl, hi, p⟩
  by_cases hlt : i < x.cps.size
  · refine .inr ⟨hlt, Pv (i + 1), fun σ' H' p' => ⟨x.cps.size - (i + 1), by omega, rfl, hlt, p'⟩, fun v H' y => ?_⟩
    obtain ⟨e, c, hc, ev⟩ := y
    subst e ev
    refine hs i c σ _ _ ?_ p fun _ _ z => z
    rw [Array.getElem?_toList]
    exact hc
  · have e : i = x.cps.size := by omega
    subst e
    exact .inl ⟨Nat.le_refl _, hd σ H (by rw [← sz]; exact p)⟩
/-- over range(n) -/
theorem f_rng {ta : TA} {g : TG} {tb : TS} {D : Ends} {σ : L2.St} {H : Hp} (n : Nat) (hn : n ≤ 1000000000) (ht : ∀ Q : List V → Hp → Prop, Q [.int (n : Int)] H → ta σ H Q) (Pv : Nat → L2.St → Hp → Prop) (h0 : Pv 0 σ H)
    (hs : ∀ (i : Nat) σ H (N : L2.St → Hp → Prop), i < n → Pv i σ H → (∀ σ' H', Pv (i + 1) σ' H' → N σ' H') → g (.int (i : Int)) σ H fun σ2 H2 => tb { D with nx := N, ct := N, bk := D.nx } σ2 H2) (hd : ∀ σ H, Pv n σ H → D.nx σ H) :
    tFor (iRng1 ta) g tb D σ H := by
  refine ht _ ⟨(n : Int), rfl, by omega, by omega, ?_⟩
  refine for_range (lo := 0) (n := (n : Int).toNat) Pv h0 (fun i σ H hi p => ?_) fun σ H p => hd σ H (by simpa using p)
  have e0 : (0 : Int) + (i : Int) = (i : Int) := Int.zero_add _
  rw [e0]
  exact hs i σ H _ (by simpa using hi) p fun _ _ z => z

/-! ### a block cut in two by what stands between -/
def tCut (t u : TS) : TS := tSeq t u
theorem pss_cut {X : Cx} {st : Stmt} {rest : List Stmt} {t u : TS} (h1 : PS X st t) (h2 : PSs X rest u) : PSs X (st :: rest) (tCut t u) := pss_cons h1 h2
theorem cut {t u : TS} {D : Ends} {σ : L2.St} {H : Hp} (P : L2.St → Hp → Prop) (h1 : ∀ N : L2.St → Hp → Prop, (∀ σ' H', P σ' H' → N σ' H') → t { D with nx := N } σ H) (h2 : ∀ σ' H', P σ' H' → u D σ' H') : tCut t u D σ H := h1 (u D) h2
theorem at_ex {α : Type} {xs : List α} {i : Int} (h0 : 0 ≤ i) (h1 : i < xs.length) : ∃ c, atI xs i = some c ∧ xs[i.toNat]? = some c := by
  obtain ⟨j, rfl⟩ : ∃ j : Nat, i = (j : Int) := ⟨i.toNat, by omega⟩
  have h2 : j < xs.length := by omega
  exact ⟨xs[j], atI_nat (List.getElem?_eq_getElem h2), List.getElem?_eq_getElem h2⟩
theorem sgn {c : Nat} : (⟨⟨[c]⟩⟩ : Str) = ⟨#[c]⟩ := rfl
theorem len_app (a b : Str) : (a ++ b).length = a.length + b.length := by
  show (a.cps ++ b.cps).size = _
  rw [Array.size_append]
  rfl
theorem len_sg {c : Nat} : (⟨#[c]⟩ : Str).length = 1 := rfl
theorem lt1 (a b : Nat) : decide ([a] < [b]) = decide (a < b) := by
  by_cases h : a < b
  · rw [decide_eq_true h]
    exact decide_eq_true (List.Lex.rel h)
  · rw [decide_eq_false h]
    refine decide_eq_false fun q => ?_
    cases q with
    | rel q => exact h q
    | cons q => cases q

/-! ### slices, methods, comprehensions -/
def vSl : V → Option Int → Option Int → Hp → VK → Prop := fun x lo hi H Q => match x with
  | .str z => z.length ≤ sizeLine ∧ Q (.str (cutS z lo hi)) H
  | .ref a => (match lstOf H a with
    | some xs => ∀ p, H p = none → Q (.ref p) (upd H p (.lst (cutV xs lo hi)))
    | none => False)
  | _ => False
theorem sl_v {X : Cx} : SlR X vSl := by
  intro pins s σ H x v vl vu lo hi sl Q I rx hs pl pu h
  unfold vSl at h
  split at h
  · exact sl_str pins s σ H _ v vl vu lo hi sl Q I rx hs pl pu ⟨_, rfl, h.1, h.2⟩
  · split at h
    · rename_i xs e
      exact sl_list pins s σ H _ v vl vu lo hi sl Q I rx hs pl pu ⟨_, xs, rfl, sq_lst e, h⟩
    · exact h.elim
  · exact h.elim
section
variable {K : PySem.W.Frag} {σ : L2.St} {H : Hp} {D : Ends} {Q : VK} {QA : List V → Hp → Prop} {QO : Option Int → Hp → Prop} {ta te : TE} {tA : TA} {tl th : TO} {a b p : Addr} {y v : V} {vs : List V} {T : String} {o u : HO}
theorem a_bm {r : V → List V → Hp → VK → Prop} : tBM K T r ta tA σ H Q = ta σ H fun x H1 => tyV K T x H1 ∧ tA σ H1 fun xs H2 => r x xs H2 Q := rfl
theorem a_bm0 {r : V → List V → Hp → VK → Prop} : tBM0 K T r ta σ H Q = ta σ H fun x H1 => tyV K T x H1 ∧ r x [] H1 Q := rfl
theorem a_sl {r : V → Option Int → Option Int → Hp → VK → Prop} : tSl r te tl th σ H Q = te σ H fun x H1 => tl σ H1 fun l H2 => th σ H2 fun w H3 => r x l w H3 Q := rfl
theorem a_nopart : tNoPart σ H QO = QO none H := rfl
theorem a_part : tPart te σ H QO = te σ H fun x H1 => ∃ i, x = .int i ∧ QO (some i) H1 := rfl
theorem v_sl_s {z : Str} {lo hi : Option Int} : vSl (.str z) lo hi H Q = (z.length ≤ sizeLine ∧ Q (.str (cutS z lo hi)) H) := rfl
theorem v_sl_r {lo hi : Option Int} : vSl (.ref a) lo hi H Q = (match lstOf H a with
    | some xs => ∀ p, H p = none → Q (.ref p) (upd H p (.lst (cutV xs lo hi)))
    | none => False) := rfl
theorem v_app : rAppend (.ref a) [y] H Q = ∃ xs, H a = some (.lst xs) ∧ xs.length < sizeLine ∧ Q .non (upd H a (.lst (xs ++ [y]))) := propext
  ⟨fun ⟨l, xs, z, e1, e2, h, hl, q⟩ => by cases e1; cases e2; exact ⟨xs, h, hl, q⟩, fun ⟨xs, h, hl, q⟩ => ⟨a, xs, y, rfl, rfl, h, hl, q⟩⟩
theorem v_add_rr : vAdd (.ref a) (.ref b) H Q = ∃ xs ys, H a = some (.lst xs) ∧ H b = some (.lst ys) ∧ xs.length + ys.length ≤ sizeLine ∧ ∀ p, H p = none → Q (.ref p) (upd H p (.lst (xs ++ ys))) := rfl
theorem v_ix_r : vIx (.ref a) y H Q = (match lstOf H a with
    | some xs => (match y with
      | .int i => ∃ v, atI xs i = some v ∧ Q v H
      | _ => False)
    | none => (match tupOf H a with
      | some xs => (match y with
        | .int i => ∃ v, atI xs i = some v ∧ Q v H
        | _ => False)
      | none => (match dicOf H a with
        | some kvs => (match keyOf y with
          | some k => ∃ v, valV kvs k = some v ∧ Q v H
          | none => False)
        | none => False))) := rfl
theorem v_in_r {neg : Bool} : vInB neg y (.ref a) H Q = (match lstOf H a with
    | some xs => flatV y = true ∧ xs.all flatV = true ∧ Q (.bl (inV y xs ^^ neg)) H
    | none => (match tupOf H a with
      | some xs => flatV y = true ∧ xs.all flatV = true ∧ Q (.bl (inV y xs ^^ neg)) H
      | none => (match dicOf H a with
        | some kvs => (match keyOf y with
          | some k => Q (.bl ((valV kvs k).isSome ^^ neg)) H
          | none => False)
        | none => False))) := rfl
theorem v_set_r {i : V} {QH : Hp → Prop} : vSet (.ref a) i v H QH = (match H a with
    | some (.lst xs) => (match i with
      | .int k => ∃ j, ixN xs.length k = some j ∧ QH (upd H a (.lst (xs.set j v)))
      | _ => False)
    | some (.dK kvs) => (match keyOf i with
      | some k => kvs.length < sizeLine ∧ QH (upd H a (.dK (putK kvs k v)))
      | none => False)
    | _ => False) := rfl
theorem v_len_r : cLen [.ref a] H Q = (match lstOf H a with
    | some xs => Q (.int xs.length) H
    | none => (match tupOf H a with
      | some xs => Q (.int xs.length) H
      | none => (match dicOf H a with
        | some kvs => Q (.int kvs.length) H
        | none => False))) := rfl
theorem v_list_r : cList [.ref a] H Q = (match lstOf H a with
    | some xs => ∀ p, H p = none → Q (.ref p) (upd H p (.lst xs))
    | none => (match tupOf H a with
      | some xs => ∀ p, H p = none → Q (.ref p) (upd H p (.lst xs))
      | none => False)) := rfl
theorem v_int_i {i : Int} : cInt [.int i] H Q = Q (.int i) H := rfl
theorem v_int_b {k : Bool} : cInt [.bl k] H Q = Q (.int (if k = true then 1 else 0)) H := rfl
theorem v_key_i {i : Int} : keyOf (.int i) = some (.inl i) := rfl
theorem v_key_s {x : Str} : keyOf (.str x) = some (.inr x) := rfl
-- what stands at an address
theorem v_lst : lstOf H a = (match H a with
  | some (.lst xs) => some xs
  | some (.frz _ (.lst xs)) => some xs
  | _ => none) := rfl
theorem v_tup : tupOf H a = (match H a with
  | some (.tup xs) => some xs
  | some (.frz _ (.tup xs)) => some xs
  | _ => none) := rfl
theorem v_dic : dicOf H a = (match H a with
  | some (.dK kvs) => some kvs
  | some (.frz _ (.dK kvs)) => some kvs
  | _ => none) := rfl
theorem v_ty_r : tyOf H (.ref a) = (match H a with
    | some (.lst _) => some "list"
    | some (.tup _) => some "tuple"
    | some (.dK _) => some "dict"
    | _ => none) := rfl
theorem v_ty_s {x : Str} : tyOf H (.str x) = some "str" := rfl
theorem v_ty_i {i : Int} : tyOf H (.int i) = some "int" := rfl
theorem v_ty_b {k : Bool} : tyOf H (.bl k) = some "bool" := rfl
theorem v_ty_n : tyOf H .non = some "NoneType" := rfl
theorem v_tyL (h : (lstOf H a).isSome = true) : tyV K "list" (.ref a) H = True := by
  obtain ⟨xs, e⟩ := Option.isSome_iff_exists.mp h
  exact eq_true (.inl ⟨rfl, xs, sq_lst e⟩)
theorem v_same : upd H a o a = some o := upd_same
theorem v_old (h1 : (H a).isSome = true) (h2 : H p = none) : upd H p o a = H a := by
  obtain ⟨q, e⟩ := Option.isSome_iff_exists.mp h1
  exact upd_ne (ne_of_none e h2)
theorem v_ne (h : a ≠ b) : upd H b o a = H a := upd_ne h
theorem v_upd : upd (upd H a o) a u = upd H a u := upd_upd
theorem flat_strs {xs : List Str} : (xs.map V.str).all flatV = true := by
  rw [List.all_eq_true]
  intro v hv
  obtain ⟨x, _, rfl⟩ := List.mem_map.mp hv
  rfl
theorem v_flat_s {x : Str} : flatV (.str x) = true := rfl
theorem v_inStrs {x : Str} {xs : List Str} : inV (.str x) (xs.map V.str) = decide (x ∈ xs) := by
  unfold inV
  rw [List.any_map]
  by_cases h : x ∈ xs
  · rw [decide_eq_true h, List.any_eq_true]
    exact ⟨x, h, by show (x == x) = true; simp⟩
  · rw [decide_eq_false h, List.any_eq_false]
    intro z hz e
    have e' : (z == x) = true := e
    rw [beq_iff_eq] at e'
    exact h (e' ▸ hz)
end
/-- over a list that stands still -/
theorem f_lst {K : PySem.W.Frag} {tl : TE} {a : Addr} {xs : List V} {g : TG} {tb : TS} {D : Ends} {σ : L2.St} {H : Hp} (ht : ∀ Q : VK, Q (.ref a) H → tl σ H Q) (hq : SqL K H a xs) (Pv : Nat → L2.St → Hp → Prop) (h0 : Pv 0 σ H)
    (hl : ∀ i σ H, i ≤ xs.length → Pv i σ H → SqL K H a xs)
    (hs : ∀ i x σ H (N : L2.St → Hp → Prop), xs[i]? = some x → Pv i σ H → (∀ σ' H', Pv (i + 1) σ' H' → N σ' H') → g x σ H fun σ2 H2 => tb { D with nx := N, ct := N, bk := D.nx } σ2 H2) (hd : ∀ σ H, Pv xs.length σ H → D.nx σ H) :
    tFor (iList K tl) g tb D σ H := by
  refine ht _ ⟨a, rfl, ⟨xs, hq⟩, ?_⟩
  exact for_list Pv h0 hl (fun i x σ H hx p => hs i x σ H _ hx p fun _ _ z => z) hd
/-- [e for k in range(n)] -/
theorem c_rng {ta : TA} {g : TG} {tt : TT} {te : TE} {vs : List Nat} {σ : L2.St} {H : Hp} {Q : VK} (n : Nat) (hn : n ≤ 1000000000) (ht : ∀ R : List V → Hp → Prop, R [.int (n : Int)] H → ta σ H R) (Pv : Addr → Nat → Hp → Prop)
    (h0 : ∀ d, H d = none → Pv d 0 (upd H d (.lst [])))
    (hs : ∀ d (i : Nat) H' (N : Hp → Prop), H d = none → i < n → Pv d i H' → (∀ H2, Pv d (i + 1) H2 → N H2) → g (.int (i : Int)) (wipe σ vs) H' fun σ2 H2 => wipe σ2 vs = wipe σ vs ∧ tt σ2 H2 fun b H3 =>
      if b = true then te σ2 H3 fun y H4 => ∃ acc, H4 d = some (.lst acc) ∧ acc.length < sizeLine ∧ N (upd H4 d (.lst (acc ++ [y]))) else N H3)
    (hd : ∀ d H', H d = none → Pv d n H' → Q (.ref d) H') : tLc (iRng1 ta) g tt te vs σ H Q := by
  refine ht _ ⟨(n : Int), rfl, by omega, by omega, fun d hdn => ?_⟩
  have e0 : ((n : Int).toNat) = n := Int.toNat_natCast n
  rw [e0]
  refine lc_range (lo := 0) (n := n) (Pv d) (h0 d hdn) (fun i H' hi p => ?_) fun H' p => hd d H' hdn p
  rw [Int.zero_add]
  exact hs d i H' _ hdn hi p fun _ z => z

theorem cutS_hi (l : List Nat) (k : Nat) (h : k ≤ l.length) : cutS ⟨l.toArray⟩ none (some (k : Int)) = ⟨(l.take k).toArray⟩ := by
  unfold cutS
  have e : (⟨l.toArray⟩ : Str).length = l.length := rfl
  rw [e, HT.sIx_none, HT.sIx_nat, Nat.min_eq_left h]
  rfl
theorem cutS_lo (l : List Nat) (k : Nat) (h : k ≤ l.length) : cutS ⟨l.toArray⟩ (some (k : Int)) none = ⟨(l.drop k).toArray⟩ := by
  unfold cutS
  have e : (⟨l.toArray⟩ : Str).length = l.length := rfl
  rw [e, HT.sIx_none, HT.sIx_nat, Nat.min_eq_left h]
  have e2 : (l.drop k).take (l.length - k) = l.drop k := List.take_of_length_le (by rw [List.length_drop]; omega)
  show (⟨((l.drop k).take (l.length - k)).toArray⟩ : Str) = _
  rw [e2]
theorem str_app (a b : List Nat) : (⟨a.toArray⟩ : Str) ++ ⟨b.toArray⟩ = ⟨(a ++ b).toArray⟩ := by
  show (⟨a.toArray ++ b.toArray⟩ : Str) = _
  congr 1
  simp
theorem str_len (a : List Nat) : (⟨a.toArray⟩ : Str).length = a.length := rfl
theorem sz100 {n : Nat} (h : n ≤ 100) : n ≤ sizeLine := Nat.le_trans h (by decide)

theorem a_yes {σ : L2.St} {H : Hp} {Q : Bool → Hp → Prop} : tYes σ H Q = Q true H := rfl
theorem v_wipe0 {σ : L2.St} : wipe σ [] = σ := rfl
theorem v_wipe1 {σ : L2.St} {i : Nat} {l : List Nat} : wipe σ (i :: l) = (wipe σ l).set i none := rfl
theorem same_new {H : Hp} {p : Addr} {o : HO} (h : H p = none) : Same H (upd H p o) := fun b u e => by
  rw [upd_ne (ne_of_none e h)]
  exact e
/-- an object that H does not have may change -/
theorem same_mut {H H' : Hp} {p : Addr} {o : HO} (s : Same H H') (h : H p = none) : Same H (upd H' p o) := fun b u e => by
  rw [upd_ne (ne_of_none e h)]
  exact s b u e

theorem same_lst {H H' : Hp} {a : Addr} {xs : List V} (s : Same H H') (h : lstOf H a = some xs) : lstOf H' a = some xs := by
  unfold lstOf at h ⊢
  split at h
  · rename_i e; rw [s _ _ e]; exact h
  · rename_i e; rw [s _ _ e]; exact h
  · cases h
theorem same_dic {H H' : Hp} {a : Addr} {xs : List (Key × V)} (s : Same H H') (h : dicOf H a = some xs) : dicOf H' a = some xs := by
  unfold dicOf at h ⊢
  split at h
  · rename_i e; rw [s _ _ e]; exact h
  · rename_i e; rw [s _ _ e]; exact h
  · cases h
theorem same_tup {H H' : Hp} {a : Addr} {xs : List V} (s : Same H H') (h : tupOf H a = some xs) : tupOf H' a = some xs := by
  unfold tupOf at h ⊢
  split at h
  · rename_i e; rw [s _ _ e]; exact h
  · rename_i e; rw [s _ _ e]; exact h
  · cases h
theorem lst_of {H : Hp} {a : Addr} {xs : List V} (h : H a = some (.lst xs)) : lstOf H a = some xs := by
  rw [v_lst, h]
theorem dic_of {H : Hp} {a : Addr} {xs : List (Key × V)} (h : H a = some (.dK xs)) : dicOf H a = some xs := by
  rw [v_dic, h]
/-! ### lists of texts compared -/
theorem dp_strs {K : PySem.W.Frag} {H : Hp} : ∀ xs : List Str, DpAll K H (xs.map V.str) (xs.map PyData.str)
  | [] => .nil
  | x :: xs => .cons (.str x) (dp_strs xs)
theorem strs_canLay : ∀ ns : List Str, (∀ x ∈ ns, PyData.strOk x = true) → PyData.canLayAll0 (ns.map PyData.str) = true
  | [], _ => rfl
  | x :: r, h => by simp [PyData.canLayAll0, PyData.canLay0, strs_canLay r fun y hy => h y (List.mem_cons_of_mem _ hy), h x List.mem_cons_self]
theorem strs_depth : ∀ ns : List Str, PyData.depthAll (ns.map PyData.str) = 0
  | [] => rfl
  | _ :: r => by simp [PyData.depthAll, PyData.depth, strs_depth r]
theorem strs_shaped (ns : List Str) (h : ∀ x ∈ ns, PyData.strOk x = true) : SeqAt.shaped (.list (ns.map PyData.str)) = true := by
  simp [SeqAt.shaped, PyData.canLay0, PyData.depth, strs_canLay ns h, strs_depth]
theorem strs_eqvAll : ∀ ns ms : List Str, PyData.eqvAll (ns.map PyData.str) (ms.map PyData.str) = decide (ns = ms)
  | [], [] => by simp [PyData.eqvAll]
  | [], _ :: _ => by simp [PyData.eqvAll]
  | _ :: _, [] => by simp [PyData.eqvAll]
  | a :: r, b :: t => by
    simp only [List.map_cons, PyData.eqvAll, PyData.eqv, strs_eqvAll r t]
    by_cases h : a = b <;> by_cases h' : r = t <;> simp [h, h']
theorem strs_eqv (ns ms : List Str) : PyData.eqv (.list (ns.map PyData.str)) (.list (ms.map PyData.str)) = decide (ns = ms) := by
  simp only [PyData.eqv]; exact strs_eqvAll ns ms
theorem ne_strs {K : PySem.W.Frag} {H : Hp} {a b : Addr} {xs ys : List Str} {Q : VK} (ha : lstOf H a = some (xs.map V.str)) (hb : lstOf H b = some (ys.map V.str)) (ox : ∀ x ∈ xs, PyData.strOk x = true) (oy : ∀ x ∈ ys, PyData.strOk x = true) (q : Q (.bl (!decide (xs = ys))) H) : vNe K (.ref a) (.ref b) H Q :=
  .inl ⟨_, _, .lst (sq_lst ha) (dp_strs xs), .lst (sq_lst hb) (dp_strs ys), strs_shaped _ ox, strs_shaped _ oy, by rw [strs_eqv]; exact q⟩
theorem eq_strs {K : PySem.W.Frag} {H : Hp} {a b : Addr} {xs ys : List Str} {Q : VK} (ha : lstOf H a = some (xs.map V.str)) (hb : lstOf H b = some (ys.map V.str)) (ox : ∀ x ∈ xs, PyData.strOk x = true) (oy : ∀ x ∈ ys, PyData.strOk x = true) (q : Q (.bl (decide (xs = ys))) H) : vEq K (.ref a) (.ref b) H Q :=
  .inl ⟨_, _, .lst (sq_lst ha) (dp_strs xs), .lst (sq_lst hb) (dp_strs ys), strs_shaped _ ox, strs_shaped _ oy, by rw [strs_eqv]; exact q⟩
theorem cutV_drop (xs : List V) (k : Nat) (h : k ≤ xs.length) : cutV xs (some (k : Int)) none = xs.drop k := by
  unfold cutV
  rw [HT.sIx_none, HT.sIx_nat, Nat.min_eq_left h]
  exact List.take_of_length_le (by rw [List.length_drop]; omega)
theorem cutV_take (xs : List V) (k : Nat) (h : k ≤ xs.length) : cutV xs none (some (k : Int)) = xs.take k := by
  unfold cutV
  rw [HT.sIx_none, HT.sIx_nat, Nat.min_eq_left h]
  rfl
theorem eqV_str {a b : Str} : L2.eqV (.str a) (.str b) = (a == b) := rfl
theorem index_strs {K : PySem.W.Frag} {H : Hp} {a : Addr} {xs : List Str} {x : Str} {Q : VK} (ha : lstOf H a = some (xs.map V.str)) (hx : x ∈ xs) (q : Q (.int (xs.idxOf x : Nat)) H) : rIndex K (.ref a) [.str x] H Q := by
  have lt := List.idxOf_lt_length_of_mem hx
  refine ⟨a, _, .str x, xs.idxOf x, .str x, rfl, rfl, sq_lst ha, rfl, flat_strs, ?_, ?_, ?_, q⟩
  · rw [List.getElem?_map, List.getElem?_eq_getElem lt, List.getElem_idxOf lt]
    rfl
  · rw [eqV_str]
    exact beq_self_eq_true x
  · intro m z' hm hz
    rw [List.getElem?_map, List.getElem?_eq_getElem (Nat.lt_trans hm lt)] at hz
    cases hz
    rw [eqV_str]
    exact beq_eq_false_iff_ne.mpr (List.not_of_lt_findIdx hm |> fun z => by simpa using z)
theorem v_m_bool : ("bool" ∈ ["bool", "int", "str", "list", "tuple", "dict"]) = True := eq_true (by decide)
theorem v_m_int : ("int" ∈ ["bool", "int", "str", "list", "tuple", "dict"]) = True := eq_true (by decide)
theorem v_m_str : ("str" ∈ ["bool", "int", "str", "list", "tuple", "dict"]) = True := eq_true (by decide)
theorem v_m_list : ("list" ∈ ["bool", "int", "str", "list", "tuple", "dict"]) = True := eq_true (by decide)
theorem v_m_tuple : ("tuple" ∈ ["bool", "int", "str", "list", "tuple", "dict"]) = True := eq_true (by decide)
theorem v_m_dict : ("dict" ∈ ["bool", "int", "str", "list", "tuple", "dict"]) = True := eq_true (by decide)
theorem v_flats {xs : List Str} : ((xs.map V.str).all flatV = true) = True := eq_true flat_strs
/-- data compared: what comes behind waits -/
def heapNe (K : PySem.W.Frag) (a b : Addr) : Hp → VK → Prop := fun H Q => vNe K (.ref a) (.ref b) H Q
def heapEq (K : PySem.W.Frag) (a b : Addr) : Hp → VK → Prop := fun H Q => vEq K (.ref a) (.ref b) H Q
theorem a_ne_rr {K : PySem.W.Frag} {a b : Addr} {H : Hp} {Q : VK} : vNe K (.ref a) (.ref b) H Q = heapNe K a b H (hold Q ⟨()⟩) := rfl
theorem a_eq_rr {K : PySem.W.Frag} {a b : Addr} {H : Hp} {Q : VK} : vEq K (.ref a) (.ref b) H Q = heapEq K a b H (hold Q ⟨()⟩) := rfl
/-! ### the readings once more, by cases: what is not known yet is not looked through -/
section
variable {K : PySem.W.Frag} {σ : L2.St} {H : Hp} {D : Ends} {Q : VK} {QB : Bool → Hp → Prop} {ta tb te tc : TE} {t u : TT} {i : Nat} {r : R2} {a : Addr} {y : V}
theorem ex_opt {α : Type} {o : Option α} {P : α → Prop} : (∃ v, o = some v ∧ P v) = (match o with
    | some v => P v
    | none => False) := by
  cases o with
  | none => exact propext ⟨fun ⟨_, e, _⟩ => (by cases e), fun h => h.elim⟩
  | some v => exact propext ⟨fun ⟨_, e, h⟩ => by cases e; exact h, fun h => ⟨v, rfl, h⟩⟩
theorem ex_bl {z : V} {P : Bool → Prop} : (∃ k, z = .bl k ∧ P k) = (match z with
    | .bl k => P k
    | _ => False) := by
  refine propext ⟨fun ⟨_, e, h⟩ => by subst e; exact h, fun h => ?_⟩
  split at h
  · exact ⟨_, rfl, h⟩
  · exact h.elim
theorem b_var : tVar i σ H Q = (match σ[i]? with
    | some o => (match o with
      | some z => Q z H
      | none => False)
    | none => False) := by
  unfold tVar
  cases σ[i]? with
  | none => exact propext ⟨fun ⟨_, e, _⟩ => (by cases e), fun h => h.elim⟩
  | some o =>
    cases o with
    | none => exact propext ⟨fun ⟨_, e, _⟩ => (by cases e), fun h => h.elim⟩
    | some z => exact propext ⟨fun ⟨_, e, h⟩ => by cases e; exact h, fun h => ⟨z, rfl, h⟩⟩
theorem b_test : tTest te σ H QB = te σ H fun z H' => (match z with
    | .bl k => QB k H'
    | _ => False) := congrArg (te σ H) (funext fun z => funext fun H' => ex_bl)
theorem b_B : tB te σ H QB = te σ H fun z H' => (match z with
    | .bl k => QB k H'
    | _ => False) := congrArg (te σ H) (funext fun z => funext fun H' => ex_bl)
theorem b_andV : tAndV ta tb σ H Q = ta σ H fun z H1 => (match z with
    | .bl c => if c = true then tb σ H1 Q else Q (.bl false) H1
    | _ => False) := congrArg (ta σ H) (funext fun z => funext fun H' => ex_bl)
theorem b_orV : tOrV ta tb σ H Q = ta σ H fun z H1 => (match z with
    | .bl c => if c = true then Q (.bl true) H1 else tb σ H1 Q
    | _ => False) := congrArg (ta σ H) (funext fun z => funext fun H' => ex_bl)
theorem b_notV : tNotV ta σ H Q = ta σ H fun z H1 => (match z with
    | .bl c => Q (.bl (!c)) H1
    | _ => False) := congrArg (ta σ H) (funext fun z => funext fun H' => ex_bl)
theorem b_ix_r : vIx (.ref a) y H Q = (match lstOf H a with
    | some xs => (match y with
      | .int i => (match atI xs i with
        | some v => Q v H
        | none => False)
      | _ => False)
    | none => (match tupOf H a with
      | some xs => (match y with
        | .int i => (match atI xs i with
          | some v => Q v H
          | none => False)
        | _ => False)
      | none => (match dicOf H a with
        | some kvs => (match keyOf y with
          | some k => (match valV kvs k with
            | some v => Q v H
            | none => False)
          | none => False)
        | none => False))) := by
  rw [v_ix_r]
  cases lstOf H a with
  | some xs => cases y <;> dsimp only <;> exact propext ⟨fun ⟨v, e, q⟩ => (by rw [e]; exact q), fun q => (by split at q; exact ⟨_, ‹_›, q⟩; exact q.elim)⟩
  | none =>
    cases tupOf H a with
    | some xs => cases y <;> dsimp only <;> exact propext ⟨fun ⟨v, e, q⟩ => (by rw [e]; exact q), fun q => (by split at q; exact ⟨_, ‹_›, q⟩; exact q.elim)⟩
    | none =>
      cases dicOf H a with
      | some kvs => cases keyOf y <;> dsimp only <;> exact propext ⟨fun ⟨v, e, q⟩ => (by rw [e]; exact q), fun q => (by split at q; exact ⟨_, ‹_›, q⟩; exact q.elim)⟩
      | none => rfl
end
/-- over range(lo, lo + n) -/
theorem f_rng2 {ta : TA} {g : TG} {tb : TS} {D : Ends} {σ : L2.St} {H : Hp} (lo : Int) (n : Nat) (hlo : -1000000000 ≤ lo ∧ lo ≤ 1000000000) (hn : n ≤ 1000000000) (ht : ∀ Q : List V → Hp → Prop, (∀ hi : Int, (hi - lo).toNat = n → hi = lo + n ∨ (n = 0 ∧ hi ≤ lo ∧ -1000000000 ≤ hi) → Q [.int lo, .int hi] H) → ta σ H Q) (Pv : Nat → L2.St → Hp → Prop) (h0 : Pv 0 σ H)
    (hs : ∀ (i : Nat) σ H (N : L2.St → Hp → Prop), i < n → Pv i σ H → (∀ σ' H', Pv (i + 1) σ' H' → N σ' H') → g (.int (lo + (i : Int))) σ H fun σ2 H2 => tb { D with nx := N, ct := N, bk := D.nx } σ2 H2) (hd : ∀ σ H, Pv n σ H → D.nx σ H) :
    tFor (iRng2 ta) g tb D σ H := by
  refine ht _ fun hi e h => ⟨lo, hi, rfl, by omega, ?_⟩
  rw [e]
  exact for_range (lo := lo) (n := n) Pv h0 (fun i σ H hi p => hs i σ H _ hi p fun _ _ z => z) hd
theorem atI_last {α : Type} {xs : List α} {v : α} (h : xs[xs.length - 1]? = some v) : atI xs (-1) = some v := by
  have hl : xs.length - 1 < xs.length := (List.getElem?_eq_some_iff.mp h).1
  unfold atI ixN
  rw [if_neg (by omega), if_pos (by omega)]
  show xs[(-1 + (xs.length : Int)).toNat]? = some v
  rw [show (-1 + (xs.length : Int)).toNat = xs.length - 1 from by omega]
  exact h
theorem v_rU {f : Int → V} {i : Int} {H : Hp} {Q : VK} : L2.rU f (.int i) H Q = Q (f i) H := propext ⟨fun ⟨_, e, q⟩ => (by cases e; exact q), fun q => ⟨i, rfl, q⟩⟩
/-- two objects made, one behind the other -/
theorem two_new {H : Hp} {p q : Addr} {o u : HO} (hp : H p = none) (hq : upd H p o q = none) : Same H (upd (upd H p o) q u) ∧ upd (upd H p o) q u p = some o ∧ upd (upd H p o) q u q = some u := by
  have ne : q ≠ p := fun e => by
    rw [e, upd_same] at hq
    cases hq
  have hq' : H q = none := by
    rw [upd_ne ne] at hq
    exact hq
  exact ⟨same_mut (same_new hp) hq', by rw [upd_ne (Ne.symm ne), upd_same], upd_same⟩
theorem map_str_get {xs : List Str} {i : Nat} {v : V} (h : (xs.map V.str)[i]? = some v) : ∃ f, xs[i]? = some f ∧ v = .str f := by
  rw [List.getElem?_map] at h
  obtain ⟨f, h1, h2⟩ := Option.map_eq_some_iff.mp h
  exact ⟨f, h1, h2.symm⟩
/-- [e for x in l if t] -/
theorem c_lst {K : PySem.W.Frag} {tl : TE} {a : Addr} {xs : List V} {g : TG} {tt : TT} {te : TE} {vs : List Nat} {σ : L2.St} {H : Hp} {Q : VK} (ht : ∀ R : VK, R (.ref a) H → tl σ H R) (hq : SqL K H a xs) (Pv : Addr → Nat → Hp → Prop)
    (h0 : ∀ d, H d = none → Pv d 0 (upd H d (.lst []))) (hl : ∀ d (i : Nat) H', H d = none → i ≤ xs.length → Pv d i H' → SqL K H' a xs)
    (hs : ∀ d (i : Nat) x H' (N : Hp → Prop), H d = none → xs[i]? = some x → Pv d i H' → (∀ H2, Pv d (i + 1) H2 → N H2) → g x (wipe σ vs) H' fun σ2 H2 => wipe σ2 vs = wipe σ vs ∧ tt σ2 H2 fun b H3 =>
      if b = true then te σ2 H3 fun y H4 => ∃ acc, H4 d = some (.lst acc) ∧ acc.length < sizeLine ∧ N (upd H4 d (.lst (acc ++ [y]))) else N H3)
    (hd : ∀ d H', H d = none → Pv d xs.length H' → Q (.ref d) H') : tLc (iList K tl) g tt te vs σ H Q := by
  refine ht _ ⟨a, rfl, ⟨xs, hq⟩, fun d hdn => ?_⟩
  exact lc_list (Pv d) (h0 d hdn) (fun i H' hi p => hl d i H' hdn hi p) (fun i x H' hx p => hs d i x H' _ hdn hx p fun _ z => z) fun H' p => hd d H' hdn p
/-- ==, != of scalars -/
def vEqS : R2 := fun x y H Q => scal x y = true ∧ Q (.bl (decide (x = y))) H
def vNeS : R2 := fun x y H Q => scal x y = true ∧ Q (.bl (!decide (x = y))) H
theorem op_vEqS {X : Cx} : OpR X (compareOp .Eq) vEqS := fun pins s σ H x y u v Q I rx ry h => op_eq pins s σ H x y u v Q I rx ry h
theorem op_vNeS {X : Cx} : OpR X (compareOp .NotEq) vNeS := fun pins s σ H x y u v Q I rx ry h => op_ne pins s σ H x y u v Q I rx ry h
section
variable {H : Hp} {Q : VK}
theorem v_eqS_ii {i j : Int} : vEqS (.int i) (.int j) H Q = Q (.bl (decide (i = j))) H := by
  show (scal (.int i) (.int j) = true ∧ Q (.bl (decide (V.int i = V.int j))) H) = _
  simp [scal]
theorem v_eqS_ss {i j : Str} : vEqS (.str i) (.str j) H Q = Q (.bl (decide (i = j))) H := by
  show (scal (.str i) (.str j) = true ∧ Q (.bl (decide (V.str i = V.str j))) H) = _
  simp [scal]
theorem v_neS_ii {i j : Int} : vNeS (.int i) (.int j) H Q = Q (.bl (!decide (i = j))) H := by
  show (scal (.int i) (.int j) = true ∧ Q (.bl (!decide (V.int i = V.int j))) H) = _
  simp [scal]
theorem v_neS_ss {i j : Str} : vNeS (.str i) (.str j) H Q = Q (.bl (!decide (i = j))) H := by
  show (scal (.str i) (.str j) = true ∧ Q (.bl (!decide (V.str i = V.str j))) H) = _
  simp [scal]
end
end Fw
set_option Elab.async false
set_option linter.all false
set_option maxRecDepth 100000
set_option maxHeartbeats 4000000
/-! own classes: attributes, methods, the making of an instance, by values -/
namespace Fw
open PySem PySem.Spec PyProof.Rows L2
/-- a class of the text: C its address -/
structure Kl (K : PySem.W.Frag) (mg : Str → Option Value) (x : Str) (C : Addr) : Prop where
  cl : Cls K C
  g : mg x = some (.ref C)
/-- a method of it by what it promises -/
structure Mth (P : Program) (w : World) (K : PySem.W.Frag) (mg : Str → Option Value) (base : Heap) (k : Nat) (C : Addr) (m : Str) (ps : List Str) (sp : Sp) : Prop where
  ex : ∃ (f : Addr) (fd : FuncData), FnOk P w K mg base CX0 k f fd ps sp ∧ Meth K C m f ∧ Binds K fd ps []
/-- .. that may raise -/
structure MthX (P : Program) (w : World) (K : PySem.W.Frag) (mg : Str → Option Value) (base : Heap) (k : Nat) (C : Addr) (m : Str) (ps : List Str) (sp : Sp) : Prop where
  ex : ∃ (f : Addr) (fd : FuncData), FnOk P w K mg base (L2.CX P w) k f fd ps sp ∧ Meth K C m f ∧ Binds K fd ps []
/-- __init__, and that the class makes -/
structure MkC (P : Program) (w : World) (K : PySem.W.Frag) (mg : Str → Option Value) (base : Heap) (k : Nat) (C : Addr) (ps : List Str) (sp : Sp) : Prop where
  ex : ∃ (f : Addr) (fd : FuncData), FnOk P w K mg base CX0 k f fd ps sp ∧ Mk K C f ∧ Binds K fd ps []
/-- a def of the class as the top has left it -/
structure SrcM (K : PySem.W.Frag) (C : Addr) (x qual : Str) (ps : List Str) (st : Stmt) : Prop where
  ex : ∃ (f : Addr) (fd : FuncData), Fun K x qual st f fd ∧ Meth K C x f ∧ ∀ us : List Value, us.length = ps.length → bindArgs fd ⟨us, []⟩ = pure (ps.zip us)
structure SrcI (K : PySem.W.Frag) (C : Addr) (qual : Str) (ps : List Str) (st : Stmt) : Prop where
  ex : ∃ (f : Addr) (fd : FuncData), Fun K "__init__" qual st f fd ∧ Mk K C f ∧ ∀ us : List Value, us.length = ps.length → bindArgs fd ⟨us, []⟩ = pure (ps.zip us)
theorem srcM_mk {K : PySem.W.Frag} {C : Addr} {x qual : Str} {ps : List Str} {st : Stmt} {f : Addr} {oc : Value} {od an : Option Addr} {osl : Array (Option Value)} {kV doc pm cd ct : Value}
    (a : PySem.W.findIn K (.ref C) x = some (some (.ref f))) (i : PySem.W.isFn K (.ref f) = true)
    (l : K.lookup f = some ⟨oc, od, .func (PySem.W.fnOf x qual (defArgs st) (defBody st) (defScope st) .none kV doc pm an cd ct), osl⟩) (c : PySem.W.codeIn K cd qual = true) (k : PySem.W.keepIn K (.ref f) = true)
    (hb : ∀ us : List Value, us.length = ps.length → bindArgs (PySem.W.fnOf x qual (defArgs st) (defBody st) (defScope st) .none kV doc pm an cd ct) ⟨us, []⟩ = pure (ps.zip us)) : SrcM K C x qual ps st :=
  ⟨f, _, fun_mk l c k, ⟨a, i, k⟩, hb⟩
theorem srcI_mk {K : PySem.W.Frag} {C : Addr} {qual : Str} {ps : List Str} {st : Stmt} {f : Addr} {oc : Value} {od an : Option Addr} {osl : Array (Option Value)} {kV doc pm cd ct : Value}
    (mk : PySem.W.makesIn K C = true) (kc : PySem.W.keepIn K (.ref C) = true) (a : PySem.W.findIn K (.ref C) "__init__" = some (some (.ref f))) (i : PySem.W.isFn K (.ref f) = true)
    (l : K.lookup f = some ⟨oc, od, .func (PySem.W.fnOf "__init__" qual (defArgs st) (defBody st) (defScope st) .none kV doc pm an cd ct), osl⟩) (c : PySem.W.codeIn K cd qual = true) (k : PySem.W.keepIn K (.ref f) = true)
    (hb : ∀ us : List Value, us.length = ps.length → bindArgs (PySem.W.fnOf "__init__" qual (defArgs st) (defBody st) (defScope st) .none kV doc pm an cd ct) ⟨us, []⟩ = pure (ps.zip us)) : SrcI K C qual ps st :=
  ⟨f, _, fun_mk l c k, ⟨mk, a, i, kc⟩, hb⟩
section
variable {P : Program} {w : World} {K : PySem.W.Frag} {mg : Str → Option Value} {base : Heap} {C : Addr}
theorem mth_mk {x qual : Str} {st : Stmt} {N ps : List Str} {k : Nat} {sp : Sp} (S : SrcM K C x qual ps st) (sc : FnScope N ps (defScope st)) (len : ∀ vs H Q E, sp vs H Q E → vs.length = ps.length)
    (hbody : ∀ (f : Addr) (cdv : Value) (A : Around) (outer : List Env) (s : Shared) (H : Hp) (vs : List V) (Q : VK) (E : XK), Room k (A.deeper (envOfC qual (defScope st) s.heap.objs.size f cdv)) → sp vs H Q E →
      ∃ t, PSs (cxOf CX0 P w K mg base N qual (defScope st) f cdv A outer s H E).nox (defBody st) t ∧ t { nx := fun _ H' => Q .non H', rt := Q } (start N vs) H) : Mth P w K mg base (k + 1) C x ps sp := by
  obtain ⟨f, fd, F, hm, hb⟩ := S.ex
  exact ⟨f, fd, F.ok sc len (hbody f), hm, .all hb⟩
theorem mthx_mk {x qual : Str} {st : Stmt} {N ps : List Str} {k : Nat} {sp : Sp} (S : SrcM K C x qual ps st) (sc : FnScope N ps (defScope st)) (len : ∀ vs H Q E, sp vs H Q E → vs.length = ps.length)
    (hbody : ∀ (f : Addr) (cdv : Value) (A : Around) (outer : List Env) (s : Shared) (H : Hp) (vs : List V) (Q : VK) (E : XK), Room k (A.deeper (envOfC qual (defScope st) s.heap.objs.size f cdv)) → sp vs H Q E →
      ∃ t, PSs (cxOf (L2.CX P w) P w K mg base N qual (defScope st) f cdv A outer s H E) (defBody st) t ∧ t { nx := fun _ H' => Q .non H', rt := Q } (start N vs) H) : MthX P w K mg base (k + 1) C x ps sp := by
  obtain ⟨f, fd, F, hm, hb⟩ := S.ex
  exact ⟨f, fd, F.okX sc len (hbody f), hm, .all hb⟩
theorem mkc_mk {qual : Str} {st : Stmt} {N ps : List Str} {k : Nat} {sp : Sp} (S : SrcI K C qual ps st) (sc : FnScope N ps (defScope st)) (len : ∀ vs H Q E, sp vs H Q E → vs.length = ps.length)
    (hbody : ∀ (f : Addr) (cdv : Value) (A : Around) (outer : List Env) (s : Shared) (H : Hp) (vs : List V) (Q : VK) (E : XK), Room k (A.deeper (envOfC qual (defScope st) s.heap.objs.size f cdv)) → sp vs H Q E →
      ∃ t, PSs (cxOf CX0 P w K mg base N qual (defScope st) f cdv A outer s H E).nox (defBody st) t ∧ t { nx := fun _ H' => Q .non H', rt := Q } (start N vs) H) : MkC P w K mg base (k + 1) C ps sp := by
  obtain ⟨f, fd, F, hm, hb⟩ := S.ex
  exact ⟨f, fd, F.ok sc len (hbody f), hm, .all hb⟩
end
/-- e.f -/
def tAt (C : Addr) (f : Str) (ta : TE) : TE := fun σ H Q => ta σ H fun x H1 => (match x with
  | .ref a => (match H1 a with
    | some (.ins C' _ fs) => C' = C ∧ (match fs.lookup f with
      | some v => Q v H1
      | none => False)
    | _ => False)
  | _ => False)
/-- e.f = v -/
def tAtS (C : Addr) (f : Str) (ta tv : TE) : TS := fun D σ H => tv σ H fun y H1 => ta σ H1 fun x H2 => (match x with
  | .ref a => (match H2 a with
    | some (.ins C' dx fs) => C' = C ∧ fs.length < 1000 ∧ D.nx σ (upd H2 a (.ins C' dx (putF f y fs)))
    | _ => False)
  | _ => False)
/-- o.m(..) -/
def tMt (C : Addr) (m : Str) (sp : Sp) (ta : TE) (t : TA) : TE := fun σ H Q => ta σ H fun x H1 => (match x with
  | .ref a => (match H1 a with
    | some (.ins C' _ fs) => C' = C ∧ fs.lookup m = none ∧ t σ H1 fun vs H2 => sp (.ref a :: vs) H2 Q E0
    | _ => False)
  | _ => False)
/-- o.m(..), which may raise -/
def tMtX (C : Addr) (m : Str) (sp : Sp) (E : L2.St → XK) (ta : TE) (t : TA) : TE := fun σ H Q => ta σ H fun x H1 => (match x with
  | .ref a => (match H1 a with
    | some (.ins C' _ fs) => C' = C ∧ fs.lookup m = none ∧ t σ H1 fun vs H2 => sp (.ref a :: vs) H2 Q (E σ)
    | _ => False)
  | _ => False)
/-- C() -/
def tMk (C : Addr) (sp : Sp) (t : TA) : TE := fun σ H Q => t σ H fun vs H1 => ∀ x dx, H1 x = none → H1 dx = none → dx ≠ x →
  sp (.ref x :: vs) (upd (upd H1 dx (.own x)) x (.ins C dx [])) (fun v H2 => v = .non ∧ Q (.ref x) H2) E0
section
variable {X : Cx} {k : Nat} {C : Addr} {ps : List Str} {sp : Sp} {x m f : Str} {p pos pos' apos : Pos} {e o value : Expr} {es : List Expr} {t : TA} {ta tv : TE}
theorem pe_at (he : PE X e ta) (c : Cls X.K C) (n : NoAttr X.K C f) (hb : attributeBase e f X.env (eval e X.env) = eval e X.env := by rfl) : PE X (.Attribute e f pos) (tAt C f ta) := by
  refine ⟨fun pins s σ H Q I h => ?_⟩
  refine attr_of hb (thn (he.run pins s σ H _ I h) fun u s1 ⟨x, H1, I1, rx, q⟩ => ?_)
  dsimp only at q
  split at q
  · rename_i a
    split at q
    · rename_i C' dx fs ea
      obtain ⟨rfl, q⟩ := q
      split at q
      · rename_i v l
        obtain rfl : u = Value.ref a := rx
        exact getattr_ok I1 ea c n l fun u' s2 I2 ru => ⟨v, H1, I2, ru, q⟩
      · exact q.elim
    · exact q.elim
  · exact q.elim
theorem ps_atS (ha : PE X o ta) (hv : PE X value tv) (c : Cls X.K C) (n : NoAttr X.K C f) (hs : swapsWith value (some (.Attribute o f pos')) pos.line X.env = pure false := by rfl) : PS X (.Assign [.Attribute o f pos'] value pos) (tAtS C f ta tv) := by
  refine ⟨fun pins s σ H D I h => ?_⟩
  refine plainObj_wpAny_Assign_Attribute (thn (hv.run pins s σ H _ I h) fun u s1 ⟨y, H1, I1, ry, q⟩ => thn (ha.run pins s1 σ H1 _ I1 q) fun ov s2 ⟨x, H2, I2, rx, q2⟩ => ?_) hs
  dsimp only at q2
  split at q2
  · rename_i a
    split at q2
    · rename_i C' dx fs ea
      obtain ⟨rfl, l, q3⟩ := q2
      obtain rfl : ov = Value.ref a := rx
      exact setattr_ok I2 ea c n l ry fun s3 I3 => ⟨σ, _, I3, q3⟩
    · exact q2.elim
  · exact q2.elim
theorem pe_mt {pl : Sem Bool} (he : PE X o ta) (c : Cls X.K C) (G : Mth X.prog X.w X.K X.mg X.base k C m ps sp) (hr : Room k X.A) (ha : PA X (e :: es) t)
    (hst : starEach (e :: es) X.env = (false, eval e X.env) :: starEach es X.env := by rfl) (hpl : (backTo pos (starEach es X.env)).any (·.1) = false := by rfl)
    (ht : eval (.Call (.Attribute o m apos) (e :: es) [] pos) X.env = (do
      let ov ← eval o X.env
      standAt apos.atName
      let (f, first) ← holding [ov] (getMethod ov m pl)
      callWith pos f first (backTo pos (starEach (e :: es) X.env)) (backToKw pos (keywordEach [] X.env))) := by rfl) :
    PE X (.Call (.Attribute o m apos) (e :: es) [] pos) (tMt C m sp ta t) := by
  obtain ⟨f, fd, F, hm, hb⟩ := G.ex
  refine ⟨fun pins s σ H Q I h => ?_⟩
  refine PySem.W.methodCall_KW (pl := pl) (thn (he.run pins s σ H _ I h) fun u s1 ⟨x, H1, I1, rx, q⟩ => ?_) ht
  dsimp only at q
  split at q
  · rename_i a
    split at q
    · rename_i C' dx fs ea
      obtain ⟨rfl, l, q⟩ := q
      obtain rfl : u = Value.ref a := rx
      refine getmeth_ok I1 ea c hm l ?_
      refine PySem.W.callWith_K (first := [.ref a]) (h₀ := X.base) I.ok.mod.kin hm.kp (thn (ha.run pos pins s1 σ H1 _ I1 q) fun us s2 ⟨vs, H2, I2, r, q2⟩ => ⟨I2.kIn, ?_⟩) hst hpl
      exact run_fn (us := .ref a :: us) (vs := .ref a :: vs) F hr hb .nil pass0 I2 (.cons rfl r) (by rw [List.append_nil]; exact q2)
    · exact q.elim
  · exact q.elim
theorem pe_mt0 {pl : Sem Bool} (he : PE X o ta) (c : Cls X.K C) (G : Mth X.prog X.w X.K X.mg X.base k C m ps sp) (hr : Room k X.A)
    (ht : eval (.Call (.Attribute o m apos) [] [] pos) X.env = (do
      let ov ← eval o X.env
      standAt apos.atName
      let (f, first) ← holding [ov] (getMethod ov m pl)
      callWith pos f first (backTo pos (starEach [] X.env)) (backToKw pos (keywordEach [] X.env))) := by rfl) :
    PE X (.Call (.Attribute o m apos) [] [] pos) (tMt C m sp ta tNil) := by
  obtain ⟨f, fd, F, hm, hb⟩ := G.ex
  refine ⟨fun pins s σ H Q I h => ?_⟩
  refine PySem.W.methodCall_KW (pl := pl) (thn (he.run pins s σ H _ I h) fun u s1 ⟨x, H1, I1, rx, q⟩ => ?_) ht
  dsimp only at q
  split at q
  · rename_i a
    split at q
    · rename_i C' dx fs ea
      obtain ⟨rfl, l, q⟩ := q
      obtain rfl : u = Value.ref a := rx
      refine getmeth_ok I1 ea c hm l ?_
      exact PySem.W.callWith_K0 (first := [.ref a]) I1.kIn hm.kp (run_fn (us := [.ref a]) (vs := [.ref a]) F hr hb .nil pass0 I1 (.cons rfl .nil) q)
    · exact q.elim
  · exact q.elim
theorem pe_mtX {pl : Sem Bool} {W : WX} (he : PE X o ta) (c : Cls X.K C) (G : MthX X.prog X.w X.K X.mg X.base k C m ps sp) (tk : Takes X W) (hr : Room k X.A) (ha : PA X (e :: es) t)
    (hst : starEach (e :: es) X.env = (false, eval e X.env) :: starEach es X.env := by rfl) (hpl : (backTo pos (starEach es X.env)).any (·.1) = false := by rfl)
    (ht : eval (.Call (.Attribute o m apos) (e :: es) [] pos) X.env = (do
      let ov ← eval o X.env
      standAt apos.atName
      let (f, first) ← holding [ov] (getMethod ov m pl)
      callWith pos f first (backTo pos (starEach (e :: es) X.env)) (backToKw pos (keywordEach [] X.env))) := by rfl) :
    PE X (.Call (.Attribute o m apos) (e :: es) [] pos) (tMtX C m sp (WE W) ta t) := by
  obtain ⟨f, fd, F, hm, hb⟩ := G.ex
  refine ⟨fun pins s σ H Q I h => ?_⟩
  refine PySem.W.methodCall_KW (pl := pl) (thn (he.run pins s σ H _ I h) fun u s1 ⟨x, H1, I1, rx, q⟩ => ?_) ht
  dsimp only at q
  split at q
  · rename_i a
    split at q
    · rename_i C' dx fs ea
      obtain ⟨rfl, l, q⟩ := q
      obtain rfl : u = Value.ref a := rx
      refine getmeth_ok I1 ea c hm l ?_
      refine PySem.W.callWith_K (first := [.ref a]) (h₀ := X.base) I.ok.mod.kin hm.kp (thn (ha.run pos pins s1 σ H1 _ I1 q) fun us s2 ⟨vs, H2, I2, r, q2⟩ => ⟨I2.kIn, ?_⟩) hst hpl
      exact run_fnS (us := .ref a :: us) (vs := .ref a :: vs) F hr hb (passAt tk σ) I2 (.cons rfl r) q2
    · exact q.elim
  · exact q.elim
theorem pe_mtX0 {pl : Sem Bool} {W : WX} (he : PE X o ta) (c : Cls X.K C) (G : MthX X.prog X.w X.K X.mg X.base k C m ps sp) (tk : Takes X W) (hr : Room k X.A)
    (ht : eval (.Call (.Attribute o m apos) [] [] pos) X.env = (do
      let ov ← eval o X.env
      standAt apos.atName
      let (f, first) ← holding [ov] (getMethod ov m pl)
      callWith pos f first (backTo pos (starEach [] X.env)) (backToKw pos (keywordEach [] X.env))) := by rfl) :
    PE X (.Call (.Attribute o m apos) [] [] pos) (tMtX C m sp (WE W) ta tNil) := by
  obtain ⟨f, fd, F, hm, hb⟩ := G.ex
  refine ⟨fun pins s σ H Q I h => ?_⟩
  refine PySem.W.methodCall_KW (pl := pl) (thn (he.run pins s σ H _ I h) fun u s1 ⟨x, H1, I1, rx, q⟩ => ?_) ht
  dsimp only at q
  split at q
  · rename_i a
    split at q
    · rename_i C' dx fs ea
      obtain ⟨rfl, l, q⟩ := q
      obtain rfl : u = Value.ref a := rx
      refine getmeth_ok I1 ea c hm l ?_
      exact PySem.W.callWith_K0 (first := [.ref a]) I1.kIn hm.kp (run_fnS (us := [.ref a]) (vs := [.ref a]) F hr hb (passAt tk σ) I1 (.cons rfl .nil) q)
    · exact q.elim
  · exact q.elim
theorem pe_mk0 (c : Kl X.K X.mg x C) (G : MkC X.prog X.w X.K X.mg X.base k C ps sp) (hr : Room (k + 1) X.A) (hg : Gl X x) (hdb : (x == ("__debug__" : Str)) = false := by decide) : PE X (.Call (.Name x p) [] [] pos) (tMk C sp tNil) := by
  obtain ⟨f, fd, F, M, hb⟩ := G.ex
  have h := pe_make0 (p := p) (pos := pos) M F hr hg c.g hb .nil pass0 hdb
  exact ⟨fun pins s σ H Q I q => h.run pins s σ H Q I q⟩
end
-- applied
section
variable {σ : L2.St} {H : Hp} {D : Ends} {Q : VK} {ta tv : TE} {t : TA} {C : Addr} {f m : Str} {sp : Sp} {E : L2.St → XK}
theorem a_at : tAt C f ta σ H Q = ta σ H fun x H1 => (match x with
  | .ref a => (match H1 a with
    | some (.ins C' _ fs) => C' = C ∧ (match fs.lookup f with
      | some v => Q v H1
      | none => False)
    | _ => False)
  | _ => False) := rfl
theorem a_atS : tAtS C f ta tv D σ H = tv σ H fun y H1 => ta σ H1 fun x H2 => (match x with
  | .ref a => (match H2 a with
    | some (.ins C' dx fs) => C' = C ∧ fs.length < 1000 ∧ D.nx σ (upd H2 a (.ins C' dx (putF f y fs)))
    | _ => False)
  | _ => False) := rfl
theorem a_mt : tMt C m sp ta t σ H Q = ta σ H fun x H1 => (match x with
  | .ref a => (match H1 a with
    | some (.ins C' _ fs) => C' = C ∧ fs.lookup m = none ∧ t σ H1 fun vs H2 => sp (.ref a :: vs) H2 (hold Q ⟨()⟩) E0
    | _ => False)
  | _ => False) := rfl
theorem a_mtX : tMtX C m sp E ta t σ H Q = ta σ H fun x H1 => (match x with
  | .ref a => (match H1 a with
    | some (.ins C' _ fs) => C' = C ∧ fs.lookup m = none ∧ t σ H1 fun vs H2 => sp (.ref a :: vs) H2 (hold Q ⟨()⟩) (holdX (E σ) ⟨()⟩)
    | _ => False)
  | _ => False) := rfl
theorem a_mk : tMk C sp t σ H Q = t σ H fun vs H1 => ∀ x dx, H1 x = none → H1 dx = none → dx ≠ x →
  sp (.ref x :: vs) (upd (upd H1 dx (.own x)) x (.ins C dx [])) (hold (fun v H2 => v = .non ∧ Q (.ref x) H2) ⟨()⟩) E0 := rfl
end
end Fw
set_option Elab.async false
set_option linter.all false
set_option maxRecDepth 100000
set_option maxHeartbeats 4000000
/-! e[::s], s of 1 or -1 as it is computed; min, max, sum, all by values -/
namespace Fw
open PySem PySem.Spec PyProof.Rows L2
/-- e[::s] -/
def vStep (x : V) (i : Int) (H : Hp) (Q : VK) : Prop := match x with
  | .ref a => (match lstOf H a with
    | some xs => (i = 1 ∧ ∀ p, H p = none → Q (.ref p) (upd H p (.lst xs))) ∨ (i = -1 ∧ ∀ p, H p = none → Q (.ref p) (upd H p (.lst xs.reverse)))
    | none => False)
  | _ => False
def tStep (te : TE) (ts : TE) : TE := fun σ H Q => te σ H fun x H1 => tPart ts σ H1 fun o H2 => ∃ i, o = some i ∧ vStep x i H2 Q
theorem pick_one (its : Array Value) : slicePick its none none (some 1) = its := by
  have e : slicePick its none none (some 1) = slicePick its none none none := rfl
  obtain ⟨l⟩ := its
  rw [e, slicePick_cut]
  show ((l.drop 0).take (l.length - 0)).toArray = _
  rw [List.drop_zero, Nat.sub_zero, List.take_length]
section
variable {X : Cx} {e st : Expr} {te ts : TE} {p3 pos : Pos}
theorem pe_step (he : PE X e te) (hs : PE X st ts) : PE X (.Subscript e (.Slice none none (some st) p3) pos) (tStep te ts) := by
  refine ⟨fun pins s σ H Q I h => ?_⟩
  refine Subscript_ (thn (he.run pins s σ H _ I h) fun v s1 ⟨x, H1, I1, r1, q1⟩ => ?_)
  have hst : PO X (some st) (tPart ts) := po_some hs
  refine wpAny_Slice (thn (po_none.run pins s1 σ H1 (fun o H2 => o = none ∧ H2 = H1) I1 ⟨rfl, rfl⟩) fun vl s2 ⟨l, H2, I2, pl, el, e2⟩ => ?_)
  subst el e2
  refine thn (po_none.run pins s2 σ H2 (fun o H3 => o = none ∧ H3 = H2) I2 ⟨rfl, rfl⟩) fun vu s3 ⟨u, H3, I3, pu, eu, e3⟩ => ?_
  subst eu e3
  refine thn (hst.run pins s3 σ H3 _ I3 q1) fun vs s4 ⟨o, H4, I4, ps, i, eo, q⟩ => ?_
  subst eo
  have I5 : Inv X pins σ H4 { s4 with heap := s4.heap.push { cls := .type "slice", data := .fields #[vl, vu, vs] } } := I4.kept (t' := s4.toks) fun b ob q => Heap.get?_push_of_some _ q
  unfold vStep at q
  split at q
  · rename_i a _
    split at q
    · rename_i xs hx
      cases r1
      obtain ⟨its, r, ht, hz⟩ := I5.list (sq_lst (K := X.K) hx)
      have hlen := r.length
      show wpAny (model X.prog X.w) X.A (subscriptTail e (.Slice none none (some st) p3) (.ref a) (.ref s4.heap.objs.size)) (EP X pins σ Q) X.xe { s4 with heap := s4.heap.push { cls := .type "slice", data := .fields #[vl, vu, vs] } }
      refine tail_any (ops := [.ref a, .ref s4.heap.objs.size]) ht.isList.typeIs (PySem.slot_list_getitem.lookup) ?_ (by with_unfolding_all rfl)
      rcases q with ⟨rfl, q⟩ | ⟨rfl, q⟩
      · refine wpAny_getItem_list_slice ht.isList (Heap.IsSliceOf.new _ vl vu vs) pl pu ps (by decide) ?_ (by rw [List.size_toArray]; omega)
        rw [pick_one]
        refine ⟨.ref _, _, I5.laid (t' := s4.toks) (o := .lst xs) (fun b ob q => Heap.get?_push_of_some _ q) (Nat.le_refl _) ?_, rfl, q _ (I5.hok.fresh (Nat.le_refl _))⟩
        exact ⟨hz, _, 0, r, Heap.get?_push_size _ rfl⟩
      · refine wpAny_getItem_list_slice ht.isList (Heap.IsSliceOf.new _ vl vu vs) pl pu ps (by decide) ?_ (by rw [List.size_toArray]; omega)
        rw [PySem.W.krv_pick]
        refine ⟨.ref _, _, I5.laid (t' := s4.toks) (o := .lst xs.reverse) (fun b ob q => Heap.get?_push_of_some _ q) (Nat.le_refl _) ?_, rfl, q _ (I5.hok.fresh (Nat.le_refl _))⟩
        exact ⟨by rw [List.length_reverse]; exact hz, _, 0, r.reverse, Heap.get?_push_size _ rfl⟩
    · exact q.elim
  · exact q.elim
end
/-- min, max of two ints -/
def cMin2 : List V → Hp → VK → Prop := fun xs H Q => match xs with
  | [.int i, .int j] => Q (.int (if j < i then j else i)) H
  | _ => False
def cMax2 : List V → Hp → VK → Prop := fun xs H Q => match xs with
  | [.int i, .int j] => Q (.int (if j > i then j else i)) H
  | _ => False
theorem call_vMin2 {X : Cx} (hc : X.calm = true) : CallR X (.builtin "min") cMin2 := by
  intro pins s σ H xs us Q I r h
  unfold cMin2 at h
  split at h
  · exact call_min2 hc pins s σ H _ us Q I r ⟨_, _, rfl, h⟩
  · exact h.elim
theorem call_vMax2 {X : Cx} (hc : X.calm = true) : CallR X (.builtin "max") cMax2 := by
  intro pins s σ H xs us Q I r h
  unfold cMax2 at h
  split at h
  · exact call_max2 hc pins s σ H _ us Q I r ⟨_, _, rfl, h⟩
  · exact h.elim
section
variable {σ : L2.St} {H : Hp} {Q : VK} {te ts : TE} {a : Addr} {i j : Int} {K : PySem.W.Frag}
theorem a_step : tStep te ts σ H Q = te σ H fun x H1 => tPart ts σ H1 fun o H2 => ∃ i, o = some i ∧ vStep x i H2 Q := rfl
theorem v_step : vStep (.ref a) i H Q = (match lstOf H a with
    | some xs => (i = 1 ∧ ∀ p, H p = none → Q (.ref p) (upd H p (.lst xs))) ∨ (i = -1 ∧ ∀ p, H p = none → Q (.ref p) (upd H p (.lst xs.reverse)))
    | none => False) := rfl
theorem v_min2 : cMin2 [.int i, .int j] H Q = Q (.int (if j < i then j else i)) H := rfl
theorem v_max2 : cMax2 [.int i, .int j] H Q = Q (.int (if j > i then j else i)) H := rfl
/-- what the known answers of sum, all, clear want -/
theorem sum_of {ns : List Int} (h : lstOf H a = some (ns.map V.int)) (q : Q (.int ns.sum) H) : rSum K [.ref a] H Q := ⟨a, ns, rfl, sq_lst h, q⟩
theorem all_of {bs : List Bool} (h : lstOf H a = some (bs.map V.bl)) (q : Q (.bl (bs.all id)) H) : rAll K [.ref a] H Q := ⟨a, bs, rfl, sq_lst h, q⟩
theorem v_clear : rClear (.ref a) [] H Q = ∃ xs, H a = some (.lst xs) ∧ Q .non (upd H a (.lst [])) := propext
  ⟨fun ⟨l, xs, e, _, h, q⟩ => by cases e; exact ⟨xs, h, q⟩, fun ⟨xs, h, q⟩ => ⟨a, xs, rfl, rfl, h, q⟩⟩
end
end Fw
set_option Elab.async false
set_option linter.all false
set_option maxRecDepth 100000
set_option maxHeartbeats 4000000
/-! list.remove of a text, list.count of a flat thing -/
namespace Fw
open PySem PySem.Spec PyProof.Rows L2
theorem str_ext : ∀ {a b : Str}, a.cps.toList = b.cps.toList → a = b := fun {a b} h => match a, b, h with
  | ⟨_⟩, ⟨_⟩, h => congrArg _ (Array.ext' h)
def eqs (x : Str) (v : Value) : Bool := match v with
  | .str y _ => y.cps.toList == x.cps.toList
  | _ => false
theorem eqs_gives {x : Str} {t : Tok} : ∀ {us : List Value} {xs : List Str}, StrsAre us xs → ∀ y ∈ us, MeetsSeq.EqGives y (.str x t) (eqs x y)
  | _, _, .nil => fun y hy => by cases hy
  | _, _, .cons n t' h => fun y hy => by
    rcases List.mem_cons.mp hy with e | e
    · rw [e]
      exact SeqRoads2.EqGives.str n x t' t
    · exact eqs_gives h y e
theorem strs_at : ∀ {us : List Value} {xs : List Str}, StrsAre us xs → ∀ {j : Nat} {x : Str}, xs[j]? = some x → ∃ t, us[j]? = some (.str x t)
  | _, _, .nil, j, x, h => by cases h
  | _, _, .cons n t r, 0, x, h => by
    cases h
    exact ⟨t, rfl⟩
  | _, _, .cons n t r, j + 1, x, h => strs_at r h
theorem erase_mapS (l : List Str) (j : Nat) : (l.map V.str).eraseIdx j = (l.eraseIdx j).map V.str := by
  induction l generalizing j with
  | nil => simp
  | cons a r ih =>
    cases j with
    | zero => simp
    | succ j => simp [ih]
section
variable {X : Cx}
/-- l.remove(x): the first of the texts that are x -/
def rRemS : V → List V → Hp → VK → Prop := fun x xs H Q => ∃ (l : Addr) (ns : List Str) (k : Str), x = .ref l ∧ xs = [.str k] ∧ H l = some (.lst (ns.map V.str)) ∧ k ∈ ns ∧ Q .non (upd H l (.lst ((ns.erase k).map V.str)))
theorem mt_removeS : MtR X "list.remove" rRemS := by
  intro pins s σ H x xs v us Q I rx rxs h
  obtain ⟨l, ns, k, rfl, rfl, hH, hk, q⟩ := h
  cases rx
  obtain ⟨u, rfl, ru⟩ := rxs.one
  obtain ⟨t, rfl⟩ := ru
  obtain ⟨z, its, n, r, hl, e⟩ := I.lstM hH
  have hi := r.strs
  rw [List.length_map] at hl z
  have hjn : ns.idxOf k < ns.length := List.idxOf_lt_length_of_mem hk
  have hjl : ns.idxOf k < its.toArray.size := by rw [List.size_toArray]; omega
  have er : ns.erase k = ns.eraseIdx (ns.idxOf k) := List.erase_eq_eraseIdx_of_idxOf rfl
  rw [er] at q
  refine call_meets PySem.F.slot_list_remove ⟨_, e, rfl⟩ PySem.F.entry_list_remove (PySem.F.args_list_remove_2 _ _)
    (MeetsSeq.list_remove l its.toArray n (.str k t) (eqs k) (fun y hy => eqs_gives hi y (by simpa using hy)) (ns.idxOf k) hjl ?_ ?_ (by rw [List.size_toArray]; omega)) ⟨e, ?_⟩
  · obtain ⟨tj, hjt⟩ := strs_at hi (List.getElem?_eq_getElem hjn)
    rw [List.getElem_idxOf hjn] at hjt
    obtain ⟨h1, h2⟩ := List.getElem?_eq_some_iff.mp hjt
    have e1 : its.toArray[ns.idxOf k] = .str k tj := by simpa using h2
    rw [e1]
    exact beq_self_eq_true _
  · intro m hm hmj
    have hmn : m < ns.length := by omega
    obtain ⟨tm, hmt⟩ := strs_at hi (List.getElem?_eq_getElem hmn)
    obtain ⟨h1, h2⟩ := List.getElem?_eq_some_iff.mp hmt
    have e1 : its.toArray[m] = .str ns[m] tm := by simpa using h2
    rw [e1]
    refine beq_eq_false_iff_ne.mpr fun e2 => ?_
    have e3 : ns[m] = k := str_ext e2
    have := List.not_of_lt_findIdx hmj
    simp [e3] at this
  · have rr := r.eraseIdx (ns.idxOf k)
    rw [erase_mapS] at rr
    refine ⟨.non, _, I.lset (its' := its.eraseIdx (ns.idxOf k)) (t' := s.toks) hH e ?_ rr ?_, rfl, q⟩
    · show its.toArray.eraseIdxIfInBounds (ns.idxOf k) = (its.eraseIdx (ns.idxOf k)).toArray
      rw [List.eraseIdxIfInBounds_toArray]
    · rw [List.length_map]
      exact Nat.le_trans (List.length_eraseIdx_le _ _) z
/-- l.count(y), all flat -/
def rCntF (K : PySem.W.Frag) : V → List V → Hp → VK → Prop := fun x xs H Q => ∃ (p : Addr) (ys : List V) (y : V), x = .ref p ∧ xs = [y] ∧ SqL K H p ys ∧ flatV y = true ∧ ys.all flatV = true ∧ Q (.int (ys.countP fun z => L2.eqV z y : Nat)) H
theorem cnt_eq {y : V} {ys : List V} {us : List Value} (r : Vals ys us) (f : ys.all flatV = true) : us.countP (eqU y) = ys.countP fun z => L2.eqV z y := by
  induction r with
  | nil => rfl
  | cons h t ih =>
    rw [List.all_cons, Bool.and_eq_true] at f
    rw [List.countP_cons, List.countP_cons, ih f.2, eqU_of h f.1]
theorem mt_countF : MtR X "list.count" (rCntF X.K) := by
  intro pins s σ H x xs v us Q I rx rxs h
  obtain ⟨p, ys, y, rfl, rfl, hs, fy, fys, q⟩ := h
  cases rx
  obtain ⟨u, rfl, ru⟩ := rxs.one
  obtain ⟨its, rv, ⟨⟨cls, dd, data, sl⟩, n, ho, hc, hdn, hd⟩, hlen⟩ := I.list hs
  simp only at hc hd
  subst hc hd
  refine call_meets PySem.F.slot_list_count ⟨_, ho, rfl⟩ PySem.F.entry_list_count (PySem.F.args_list_count_2 _ _)
    (SeqAt.list_countAt p its.toArray n dd sl u (eqU y)) ⟨ho, fun z hz => mem_eqAt ru fy rv fys z (by simpa using hz), ?_⟩
  have ec : its.toArray.toList.countP (eqU y) = ys.countP fun z => L2.eqV z y := cnt_eq rv fys
  refine ⟨.int (ys.countP fun z => L2.eqV z y : Nat), H, I.tok _, ⟨s.toks, ?_⟩, q⟩
  show Value.int ((its.toArray.toList.countP (eqU y) : Nat) : Int) s.toks = _
  rw [ec]
end
/-- list(x) of a list, a tuple, a dict -/
def cListA : List V → Hp → VK → Prop := fun vs H Q => match vs with
  | [.ref a] => (match lstOf H a with
    | some xs => ∀ p, H p = none → Q (.ref p) (upd H p (.lst xs))
    | none => (match tupOf H a with
      | some xs => ∀ p, H p = none → Q (.ref p) (upd H p (.lst xs))
      | none => (match dicOf H a with
        | some kvs => ∀ p, H p = none → Q (.ref p) (upd H p (.lst (kvs.map fun kv => kV kv.1)))
        | none => False)))
  | _ => False
theorem call_vListA {X : Cx} (hc : X.calm = true) : CallR X (.type "list") cListA := by
  intro pins s σ H xs us Q I r h
  unfold cListA at h
  split at h
  · rename_i a
    split at h
    · rename_i xs e
      exact call_list_of pins s σ H _ us Q I r ⟨a, xs, rfl, .inl (sq_lst e), h⟩
    · split at h
      · rename_i xs e
        exact call_list_of pins s σ H _ us Q I r ⟨a, xs, rfl, .inr (sq_tup e), h⟩
      · split at h
        · rename_i kvs e
          exact call_listD hc pins s σ H _ us Q I r ⟨a, kvs, rfl, rd_dic e, h⟩
        · exact h.elim
  · exact h.elim
/-- dict(d): a copy -/
def cDictA : List V → Hp → VK → Prop := fun vs H Q => match vs with
  | [.ref a] => (match dicOf H a with
    | some kvs => ∀ p, H p = none → Q (.ref p) (upd H p (.dK kvs))
    | none => False)
  | _ => False
theorem call_vDictA {X : Cx} : CallR X (.type "dict") cDictA := by
  intro pins s σ H xs us Q I r h
  unfold cDictA at h
  split at h
  · rename_i a
    split at h
    · rename_i kvs e
      exact call_dictD pins s σ H _ us Q I r ⟨a, kvs, rfl, rd_dic e, h⟩
    · exact h.elim
  · exact h.elim
section
variable {H : Hp} {Q : VK} {a : Addr}
theorem v_listA : cListA [.ref a] H Q = (match lstOf H a with
    | some xs => ∀ p, H p = none → Q (.ref p) (upd H p (.lst xs))
    | none => (match tupOf H a with
      | some xs => ∀ p, H p = none → Q (.ref p) (upd H p (.lst xs))
      | none => (match dicOf H a with
        | some kvs => ∀ p, H p = none → Q (.ref p) (upd H p (.lst (kvs.map fun kv => kV kv.1)))
        | none => False))) := rfl
theorem v_dictA : cDictA [.ref a] H Q = (match dicOf H a with
    | some kvs => ∀ p, H p = none → Q (.ref p) (upd H p (.dK kvs))
    | none => False) := rfl
end
end Fw
set_option Elab.async false
set_option linter.all false
set_option maxRecDepth 100000
set_option maxHeartbeats 4000000
/-! dicts: setdefault, get, comprehensions, walks (locked); lists: pop, reverse, truth -/
namespace Fw
open PySem PySem.Spec PyProof.Rows L2
section
variable {K : PySem.W.Frag} {σ : L2.St} {H : Hp} {D : Ends} {Q : VK} {QA : List V → Hp → Prop} {td ty tx te : TE} {t : TA} {a d : Addr} {kvs : List (Key × V)}
theorem v_isD (h : (dicOf H a).isSome = true) : IsD H a = True := by
  obtain ⟨kvs, e⟩ := Option.isSome_iff_exists.mp h
  exact eq_true (.inl ⟨kvs, rd_dic e⟩)
/-- d.setdefault(y, z) -/
theorem b_dsetd : tDSetd td ty tx σ H Q = td σ H fun x H1 => (∃ a, x = .ref a ∧ IsD H1 a ∧ ty σ H1 fun y H2 => tx σ H2 fun z H3 => ∃ (kvs : List (Key × V)) (k : Key), H3 a = some (.dK kvs) ∧ y = kV k ∧ kvs.length < sizeLine ∧
  (∀ v, valV kvs k = some v → Q v H3) ∧ (valV kvs k = none → Q z (upd H3 a (.dK (putK kvs k z))))) := rfl
/-- d.get(y, z): d's pairs known -/
def vGet (kvs : List (Key × V)) (y z : V) (H : Hp) (Q : VK) : Prop := match keyOf y with
  | some k => (match valV kvs k with
    | some v => Q v H
    | none => Q z H)
  | none => False
theorem dget_use {y z : V} (h : dicOf H a = some kvs) (q : vGet kvs y z H Q) : ∃ o, DGet H a y o ∧ Q (o.getD z) H := by
  unfold vGet at q
  split at q
  · rename_i k ek
    refine ⟨valV kvs k, dget_of h ek, ?_⟩
    split at q
    · rename_i v ev
      rw [ev]
      exact q
    · rename_i ev
      rw [ev]
      exact q
  · exact q.elim
theorem a_dget2 : tDGet2 td ty tx σ H Q = td σ H fun x H1 => ∃ a, x = .ref a ∧ IsD H1 a ∧ ty σ H1 fun y H2 => tx σ H2 fun z H3 => ∃ o, DGet H3 a y o ∧ Q (o.getD z) H3 := rfl
theorem a_star : StX.tStar K te t σ H QA = te σ H fun x H1 => ∃ p xs, x = V.ref p ∧ (SqT K H1 p xs ∨ SqL K H1 p xs) ∧ t σ H1 fun ys H2 => QA (xs ++ ys) H2 := rfl
theorem v_pop : rPop (.ref a) [] H Q = (∃ xs y, H a = some (.lst xs) ∧ xs[xs.length - 1]? = some y ∧ Q y (upd H a (.lst xs.dropLast))) := propext
  ⟨fun ⟨l, xs, y, e, _, h, hy, q⟩ => by cases e; exact ⟨xs, y, h, hy, q⟩, fun ⟨xs, y, h, hy, q⟩ => ⟨a, xs, y, rfl, rfl, h, hy, q⟩⟩
theorem v_reverse : rReverse (.ref a) [] H Q = (∃ xs, H a = some (.lst xs) ∧ Q .non (upd H a (.lst xs.reverse))) := propext
  ⟨fun ⟨l, xs, e, _, h, q⟩ => by cases e; exact ⟨xs, h, q⟩, fun ⟨xs, h, q⟩ => ⟨a, xs, rfl, rfl, h, q⟩⟩
/-- a list's truth -/
def vTru : V → Hp → (Bool → Hp → Prop) → Prop := fun x H Q => match x with
  | .ref a => (match lstOf H a with
    | some xs => Q (!xs.isEmpty) H
    | none => False)
  | _ => False
def tTru1 (te : TE) : TT := fun σ H Q => te σ H fun x H1 => vTru x H1 Q
theorem tru_v {X : Cx} : TruR X vTru := by
  intro pins s σ H x v Q I r q
  unfold vTru at q
  split at q
  · split at q
    · rename_i xs e
      exact tru_ok pins s σ H _ v Q I r ⟨_, .inl ⟨xs, sq_lst e, rfl⟩, q⟩
    · exact q.elim
  · exact q.elim
theorem pt_tru1 {X : Cx} {e : Expr} (h : PE X e te) (hw : ∀ whole, isTrue e X.env whole = (do let v ← whole; standAt e.pos; holding [v] (truthy v)) := by intro _; rfl) : PT X e (tTru1 te) := pt_truthR h tru_v hw
theorem a_tru1 {QB : Bool → Hp → Prop} : tTru1 te σ H QB = te σ H fun x H1 => vTru x H1 QB := rfl
theorem v_tru_r {QB : Bool → Hp → Prop} : vTru (.ref a) H QB = (match lstOf H a with
    | some xs => QB (!xs.isEmpty) H
    | none => False) := rfl
end
/-! ### walks over a dict: locked -/
section
variable {K : PySem.W.Frag} {tl : TE} {d a : Addr} {kvs : List (Key × V)} {g : TG} {tb : TS} {D : Ends} {σ : L2.St} {H : Hp} {xs : List V}
/-- for k in d -/
theorem f_keys (hd0 : H d = some (.dK kvs)) (ht : ∀ (od : Obj) (Q : VK), Q (.ref d) (upd H d (.frz od (.dK kvs))) → tl σ (upd H d (.frz od (.dK kvs))) Q) (Pv : Obj → Nat → L2.St → Hp → Prop) (h0 : ∀ od, Pv od 0 σ (upd H d (.frz od (.dK kvs))))
    (hl : ∀ od i σ H, Pv od i σ H → H d = some (.frz od (.dK kvs)))
    (hs : ∀ od i k (v : V) σ H' (N : L2.St → Hp → Prop), kvs[i]? = some (k, v) → Pv od i σ H' → (∀ σ' H2, Pv od (i + 1) σ' H2 → N σ' H2) →
      g (kV k) σ H' fun σ2 H2 => tb ⟨N, fun z H' => H' d = some (.frz od (.dK kvs)) ∧ D.rt z (upd H' d (.dK kvs)), fun σ' H' => H' d = some (.frz od (.dK kvs)) ∧ D.nx σ' (upd H' d (.dK kvs)), N⟩ σ2 H2)
    (hd : ∀ od σ H', Pv od kvs.length σ H' → D.nx σ (upd H' d (.dK kvs))) : tLock (tFor (iKeys tl) g tb) D σ H := by
  refine ⟨d, _, hd0, trivial, fun od => ht od _ ⟨d, od, rfl, .inl ⟨kvs, upd_same, ?_⟩⟩⟩
  refine for_it walk_keys (Pv od) (h0 od) (fun i σ H _ p => hl od i σ H p) (fun i x σ H1 H' hi p y => ?_) fun σ H' p => ⟨hl od _ _ _ p, hd od σ H' p⟩
  obtain ⟨e, k, v, hk, rfl⟩ := y
  rw [e]
  exact hs od i k v σ H1 _ hk p fun _ _ z => z
/-- for k, v in d.items() -/
theorem f_items (hd0 : H d = some (.dK kvs)) (ht : ∀ (od : Obj) (Q : VK), Q (.ref d) (upd H d (.frz od (.dK kvs))) → tl σ (upd H d (.frz od (.dK kvs))) Q) (Pv : Obj → Nat → L2.St → Hp → Prop) (h0 : ∀ od, Pv od 0 σ (upd H d (.frz od (.dK kvs))))
    (hl : ∀ od i σ H, Pv od i σ H → H d = some (.frz od (.dK kvs)))
    (hs : ∀ od i k v σ H' T (N : L2.St → Hp → Prop), kvs[i]? = some (k, v) → Pv od i σ H' → H' T = none → (∀ σ' H2, Pv od (i + 1) σ' H2 → N σ' H2) →
      g (.ref T) σ (upd H' T (.tup [kV k, v])) fun σ2 H2 => tb ⟨N, fun z H' => H' d = some (.frz od (.dK kvs)) ∧ D.rt z (upd H' d (.dK kvs)), fun σ' H' => H' d = some (.frz od (.dK kvs)) ∧ D.nx σ' (upd H' d (.dK kvs)), N⟩ σ2 H2)
    (hd : ∀ od σ H', Pv od kvs.length σ H' → D.nx σ (upd H' d (.dK kvs))) : tLock (tFor (iItems tl) g tb) D σ H := by
  refine ⟨d, _, hd0, trivial, fun od => ht od _ ⟨d, od, kvs, rfl, upd_same, ?_⟩⟩
  refine for_it walk_items (Pv od) (h0 od) (fun i σ H _ p => hl od i σ H p) (fun i x σ H1 H' hi p y => ?_) fun σ H' p => ⟨hl od _ _ _ p, hd od σ H' p⟩
  obtain ⟨T, x1, x2, rfl, hT, e, h1, h2⟩ := y
  obtain ⟨⟨k, v⟩, hk, hkv⟩ : ∃ kv, kvs[i]? = some kv ∧ x1 = kV kv.1 ∧ x2 = kv.2 := by
    obtain ⟨kv, e1, e2⟩ := Option.map_eq_some_iff.mp h1
    obtain ⟨kv2, e3, e4⟩ := Option.map_eq_some_iff.mp h2
    rw [e1] at e3
    cases e3
    exact ⟨kv, e1, e2.symm, e4.symm⟩
  obtain ⟨e5, e6⟩ := hkv
  rw [e, e5, e6]
  exact hs od i k v σ H1 T _ hk p hT fun _ _ z => z
/-- for i, x in enumerate(l) -/
theorem f_enum {ta : TA} (ht : ∀ Q : List V → Hp → Prop, Q [.ref a] H → ta σ H Q) (hq : SqL K H a xs) (Pv : Nat → L2.St → Hp → Prop) (h0 : Pv 0 σ H)
    (hl : ∀ i σ H, i ≤ xs.length → Pv i σ H → SqL K H a xs)
    (hs : ∀ i x σ H' T (N : L2.St → Hp → Prop), xs[i]? = some x → Pv i σ H' → H' T = none → (∀ σ' H2, Pv (i + 1) σ' H2 → N σ' H2) →
      g (.ref T) σ (upd H' T (.tup [.int (i : Nat), x])) fun σ2 H2 => tb { D with nx := N, ct := N, bk := D.nx } σ2 H2) (hd : ∀ σ H, Pv xs.length σ H → D.nx σ H) :
    tFor (iEnum K ta) g tb D σ H := by
  refine ht _ ⟨a, xs, rfl, hq, ?_⟩
  refine for_it walk_enum Pv h0 (fun i σ H hi p => hl i σ H hi p) (fun i x σ H1 H' hi p y => ?_) hd
  obtain ⟨T, x1, x2, rfl, hT, e, h1, h2⟩ := y
  cases h1
  rw [e]
  exact hs i x2 σ H1 T _ h2 p hT fun _ _ z => z
/-! ### comprehensions -/
/-- [e for k in d if t] -/
theorem c_keys {tt : TT} {te : TE} {vs : List Nat} {Q : VK} (hd0 : H d = some (.dK kvs)) (ht : ∀ (od : Obj) (Q : VK), Q (.ref d) (upd H d (.frz od (.dK kvs))) → tl σ (upd H d (.frz od (.dK kvs))) Q) (Pv : Obj → Addr → Nat → Hp → Prop)
    (h0 : ∀ od p, upd H d (.frz od (.dK kvs)) p = none → Pv od p 0 (upd (upd H d (.frz od (.dK kvs))) p (.lst []))) (hl : ∀ od p i H', upd H d (.frz od (.dK kvs)) p = none → Pv od p i H' → H' d = some (.frz od (.dK kvs)))
    (hs : ∀ od p i k v H' (N : Hp → Prop), upd H d (.frz od (.dK kvs)) p = none → kvs[i]? = some (k, v) → Pv od p i H' → (∀ H2, Pv od p (i + 1) H2 → N H2) → g (kV k) (wipe σ vs) H' fun σ2 H2 => wipe σ2 vs = wipe σ vs ∧ tt σ2 H2 fun b H3 =>
      if b = true then te σ2 H3 fun y H4 => ∃ acc, H4 p = some (.lst acc) ∧ acc.length < sizeLine ∧ N (upd H4 p (.lst (acc ++ [y]))) else N H3)
    (hd : ∀ od p H', upd H d (.frz od (.dK kvs)) p = none → Pv od p kvs.length H' → Q (.ref p) (upd H' d (.dK kvs))) : tLockE (tLc (iKeys tl) g tt te vs) σ H Q := by
  refine ⟨d, _, hd0, trivial, fun od => ht od _ ⟨d, od, rfl, .inl ⟨kvs, upd_same, fun p hp => ?_⟩⟩⟩
  refine lc_it walk_keys (Pv od p) (h0 od p hp) (fun i H _ q => hl od p i H hp q) (fun i x H1 H' hi q y => ?_) fun H' q => ⟨hl od p _ _ hp q, hd od p H' hp q⟩
  obtain ⟨e, k, v, hk, rfl⟩ := y
  rw [e]
  exact hs od p i k v H1 _ hp hk q fun _ z => z
/-- a dict comprehension over it -/
theorem dc_it {J : It} {n : Nat} {G : Hp → Prop} {Y : Nat → Hp → V → Hp → Prop} (w : Walk J n G Y) {g : TG} {tt : TT} {tk tv : TE} {vs : List Nat} {σ : L2.St} {H1 : Hp} {D : Addr} {Qd : Hp → Prop} (Pv : Nat → Hp → Prop) (h0 : Pv 0 (upd H1 D (.dK []))) (hG : ∀ i H, i ≤ n → Pv i H → G H)
    (hs : ∀ i x H H', i < n → Pv i H → Y i H x H' → g x (wipe σ vs) H' fun σ2 H2 => wipe σ2 vs = wipe σ vs ∧ tt σ2 H2 fun b H3 =>
      if b = true then tk σ2 H3 fun y H4 => tv σ2 H4 fun z H5 => ∃ kvs k, y = kV k ∧ H5 D = some (.dK kvs) ∧ kvs.length < sizeLine ∧ Pv (i + 1) (upd H5 D (.dK (putK kvs k z))) else Pv (i + 1) H3) (hd : ∀ H, Pv n H → Qd H) :
    ∃ W : Nat → Nat → Hp → Prop, (∃ m, W 0 m (upd H1 D (.dK []))) ∧ ∀ i m H, W i m H →
      (J.stop i H ∧ Qd H) ∨ (J.go i H ∧ ∃ Nx : Hp → Prop, (∀ H', Nx H' → ∃ m', m' < m ∧ W (i + 1) m' H') ∧ ∀ x H', J.yld i H x H' → g x (wipe σ vs) H' fun σ2 H2 => wipe σ2 vs = wipe σ vs ∧ tt σ2 H2 fun b H3 =>
        if b = true then tk σ2 H3 fun y H4 => tv σ2 H4 fun z H5 => ∃ kvs k, y = kV k ∧ H5 D = some (.dK kvs) ∧ kvs.length < sizeLine ∧ Nx (upd H5 D (.dK (putK kvs k z))) else Nx H3) := by
  refine ⟨fun i m H => m = n - i ∧ i ≤ n ∧ Pv i H, ⟨n, by simp, Nat.zero_le _, h0⟩, ?_⟩
  rintro i m H ⟨rfl, hi, p⟩
  have q := hG i H hi p
  by_cases hlt : i < n
  · exact .inr ⟨w.goes i H hlt q, Pv (i + 1), fun H' p' => ⟨n - (i + 1), by omega, rfl, hlt, p'⟩, fun x H' y => hs i x H H' hlt p (w.yields i H x H' hlt q y)⟩
  · have e : i = n := by omega
    subst e
    exact .inl ⟨w.stops H q, hd H p⟩
/-- {e: f for x in l} -/
theorem dc_lst {tt : TT} {tk tv : TE} {vs : List Nat} {Q : VK} (Ha : Hp) (ht : ∀ R : VK, R (.ref a) Ha → tl σ H R) (hq : SqL K Ha a xs) (Pv : Addr → Nat → Hp → Prop)
    (h0 : ∀ p, Ha p = none → Pv p 0 (upd Ha p (.dK []))) (hl : ∀ p (i : Nat) H', Ha p = none → i ≤ xs.length → Pv p i H' → SqL K H' a xs)
    (hs : ∀ p (i : Nat) x H' (N : Hp → Prop), Ha p = none → xs[i]? = some x → Pv p i H' → (∀ H2, Pv p (i + 1) H2 → N H2) → g x (wipe σ vs) H' fun σ2 H2 => wipe σ2 vs = wipe σ vs ∧ tt σ2 H2 fun b H3 =>
      if b = true then tk σ2 H3 fun y H4 => tv σ2 H4 fun z H5 => ∃ kvs k, y = kV k ∧ H5 p = some (.dK kvs) ∧ kvs.length < sizeLine ∧ N (upd H5 p (.dK (putK kvs k z))) else N H3)
    (hd : ∀ p H', Ha p = none → Pv p xs.length H' → Q (.ref p) H') : tDc (iList K tl) g tt tk tv vs σ H Q := by
  refine ht _ ⟨a, rfl, ⟨xs, hq⟩, fun p hp => ?_⟩
  refine dc_it walk_list (Pv p) (h0 p hp) (fun i H' hi q => hl p i H' hp hi q) (fun i x H1 H' hi q y => ?_) fun H' q => hd p H' hp q
  obtain ⟨e, hx⟩ := y
  rw [e]
  exact hs p i x H1 _ hp hx q fun _ z => z
/-- {e: f for i, x in enumerate(l)} -/
theorem dc_enum {ta : TA} {tt : TT} {tk tv : TE} {vs : List Nat} {Q : VK} (ht : ∀ R : List V → Hp → Prop, R [.ref a] H → ta σ H R) (hq : SqL K H a xs) (Pv : Addr → Nat → Hp → Prop)
    (h0 : ∀ p, H p = none → Pv p 0 (upd H p (.dK []))) (hl : ∀ p (i : Nat) H', H p = none → i ≤ xs.length → Pv p i H' → SqL K H' a xs)
    (hs : ∀ p (i : Nat) x H' T (N : Hp → Prop), H p = none → xs[i]? = some x → Pv p i H' → H' T = none → (∀ H2, Pv p (i + 1) H2 → N H2) → g (.ref T) (wipe σ vs) (upd H' T (.tup [.int (i : Nat), x])) fun σ2 H2 => wipe σ2 vs = wipe σ vs ∧ tt σ2 H2 fun b H3 =>
      if b = true then tk σ2 H3 fun y H4 => tv σ2 H4 fun z H5 => ∃ kvs k, y = kV k ∧ H5 p = some (.dK kvs) ∧ kvs.length < sizeLine ∧ N (upd H5 p (.dK (putK kvs k z))) else N H3)
    (hd : ∀ p H', H p = none → Pv p xs.length H' → Q (.ref p) H') : tDc (iEnum K ta) g tt tk tv vs σ H Q := by
  refine ht _ ⟨a, xs, rfl, hq, fun p hp => ?_⟩
  refine dc_it walk_enum (Pv p) (h0 p hp) (fun i H' hi q => hl p i H' hp hi q) (fun i x H1 H' hi q y => ?_) fun H' q => hd p H' hp q
  obtain ⟨T, x1, x2, rfl, hT, e, h1, h2⟩ := y
  cases h1
  rw [e]
  exact hs p i x2 H1 T _ hp h2 q hT fun _ z => z
end
/-! ### x = {k: v for ..} -/
section
variable {X : Cx} {i : Nat} {y : Str} {py : Pos} {kx vx tg iter : Expr} {ifs : List Expr} {scope : Scope} {own : List (Str × Nat)} {pos spos : Pos} {wi : TI} {g : TG} {tt : TT} {tk tv : TE}
theorem ps_setDc (hc : X.calm = true) (hN : X.N.Nodup) (hy : X.N[i]? = some y) (hyl : X.env.scope.names.lookup y = some .local)
    (hsw : swapsWith (.DictComp kx vx [⟨tg, iter, ifs, 0⟩] scope pos) (some (.Name y py)) spos.line X.env = pure true) (hi : PI X tg iter wi) (ok : BlkOk X.N X.env.scope scope own)
    (hg : ∀ (s : Shared) (H : Hp) (C : Addr) (cl : List (Str × Addr)) (fp : List Addr), PG (X.blk s H scope (compEnvC scope cl C X.env) fp) tg g)
    (ht : ∀ (s : Shared) (H : Hp) (C : Addr) (cl : List (Str × Addr)) (fp : List Addr), PTs (X.blk s H scope (compEnvC scope cl C X.env) fp) ifs tt)
    (hk : ∀ (s : Shared) (H : Hp) (C : Addr) (cl : List (Str × Addr)) (fp : List Addr), PE (X.blk s H scope (compEnvC scope cl C X.env) fp) kx tk)
    (he : ∀ (s : Shared) (H : Hp) (C : Addr) (cl : List (Str × Addr)) (fp : List Addr), PE (X.blk s H scope (compEnvC scope cl C X.env) fp) vx tv) (hs : ∀ x, foldedSetIterable iter X.env x = pure x := by intro _; rfl) :
    PS X (.Assign [.Name y py] (.DictComp kx vx [⟨tg, iter, ifs, 0⟩] scope pos) spos) (tAsg (tDc wi g tt tk tv (own.map (·.2))) (gName i)) := by
  refine ⟨fun pins s σ H D I w => ?_⟩
  rw [exec_Assign_Name_used _ _ _ _ hsw]
  have w2 : tDc wi g tt tk tv (own.map (·.2)) σ H (fun x H1 => gName i x σ H1 D.nx) := w
  refine wpAny_bind (wpAny_standAt (wpAny_bind (wpAny_bind (thn (dc_core (Qf := fun _ t => SP X pins D .next t) hc hN I hi ok hg ht hk he hs w2 fun L C t m H1 I1 q hn f => ?_) fun _ t z => wpAny_pure (wpAny_pure z)))))
  refine wpAny_assign_Name (store_ok2 (v := V.ref L) I1 hN hy (.inl hyl) rfl (fun t2 I2 ⟨a, sb, ha⟩ => ?_) (.inr hyl))
  obtain ⟨f0, f1, f2, f3, f4, f5⟩ := f
  have ne : C ≠ a := ha.elim (fun z => z ▸ f1) fun z e => f4 y a z e.symm
  exact ⟨m, hn.sameBut sb ne, fun h3 sb3 => ⟨_, H1, I2.turned (t' := t2.toks) (fun b o hb e => (sb3.2 b hb).trans e) f0 f1 f3 f4 f5, q⟩⟩
theorem sw_trueD {gs : List Comprehension} {l : Nat} {env : Env} (hk : env.scope.kind = .function) (hy : env.scope.names.lookup y = some .local) (hl : (py.line == pos.line) = true)
    (ha : (scope.names.any fun (n, k) => n == y && (k == .local || k == .cell)) = false) : swapsWith (.DictComp kx vx gs scope pos) (some (.Name y py)) l env = pure true := by
  have k1 : env.kindOf y = some .local := hy
  have k2 : env.blockKind = .function := by unfold Env.blockKind; rw [hk]; rfl
  unfold swapsWith
  simp only [k1, k2, ha, Expr.pos, hl]
  rfl
end
/-! ### (a, b) = a list or a tuple -/
def gSeq (n : Nat) (t : TGs) : TG := fun v σ H Q => match v with
  | .ref a => (match lstOf H a with
    | some xs => xs.length = n ∧ t xs σ H Q
    | none => (match tupOf H a with
      | some xs => xs.length = n ∧ t xs σ H Q
      | none => False))
  | _ => False
theorem pg_seq {X : Cx} {es : List Expr} {k : Nat} {t : TGs} {n : Nat} {pos : Pos} (hc : X.calm = true) (h : PGs X es t)
    (hn : (assignEach es X.env).length = n := by rfl) (hst : (assignEach es X.env).findIdx? (·.1) = none := by rfl) : PG X (.Tuple es k pos) (gSeq n t) := by
  refine ⟨fun pins s σ H v u Q I r w => ?_⟩
  unfold gSeq at w
  split at w
  · rename_i a
    split at w
    · rename_i xs e
      exact (pg_lst (pos := pos) hc h hn hst).run pins s σ H _ u Q I r ⟨a, xs, rfl, sq_lst e, w⟩
    · split at w
      · rename_i xs e
        exact (pg_tup (pos := pos) hc h hn hst).run pins s σ H _ u Q I r ⟨a, xs, rfl, sq_tup e, w⟩
      · exact w.elim
  · exact w.elim
theorem a_gseq {n : Nat} {t : TGs} {a : Addr} {σ : L2.St} {H : Hp} {QS : L2.St → Hp → Prop} : gSeq n t (.ref a) σ H QS = (match lstOf H a with
    | some xs => xs.length = n ∧ t xs σ H QS
    | none => (match tupOf H a with
      | some xs => xs.length = n ∧ t xs σ H QS
      | none => False)) := rfl
/-- gCons by cases -/
theorem b_gcons {g : TG} {gs : TGs} {v : V} {vs : List V} {σ : L2.St} {H : Hp} {QS : L2.St → Hp → Prop} : gCons g gs (v :: vs) σ H QS = g v σ H fun σ' H' => gs vs σ' H' QS := propext
  ⟨fun ⟨z, q, e, w⟩ => (by cases e; exact w), fun w => ⟨v, vs, rfl, w⟩⟩
theorem b_gnil {σ : L2.St} {H : Hp} {QS : L2.St → Hp → Prop} : gNil [] σ H QS = QS σ H := propext ⟨fun w => w.2, fun w => ⟨rfl, w⟩⟩
/-! ### heaps: locked and unlocked -/
theorem same_unlock {H H2 : Hp} {d : Addr} {o f : HO} (h : H d = some o) (s : Same (upd H d f) H2) : Same H (upd H2 d o) := fun b u e => by
  by_cases c : b = d
  · rw [c, h] at e
    rw [c, upd_same, e]
  · rw [upd_ne c]
    exact s b u (by rw [upd_ne c]; exact e)
theorem none_lock {H : Hp} {d p : Addr} {f : HO} (h : upd H d f p = none) : p ≠ d ∧ H p = none := by
  by_cases c : p = d
  · rw [c, upd_same] at h
    cases h
  · exact ⟨c, by rw [upd_ne c] at h; exact h⟩
theorem same_none {H H' : Hp} {p : Addr} (s : Same H H') (h : H' p = none) : H p = none := by
  cases e : H p with
  | none => rfl
  | some o => rw [s _ _ e] at h; cases h
theorem at_lock {H : Hp} {d a : Addr} {o u f : HO} (h : H d = some o) (h2 : H a = some u) (ne : o ≠ u) : upd H d f a = some u := by
  rw [upd_ne fun e => ne (by rw [e, h] at h2; exact Option.some.inj h2)]
  exact h2
/-! ### what is walked is evaluated first -/
section
variable {K : PySem.W.Frag} {tl : TE} {ta : TA} {a : Addr} {g : TG} {tb : TS} {D : Ends} {σ : L2.St} {H : Hp} {xs : List V} {Q : VK} {tt : TT} {te tk tv : TE} {ws : List Nat} {x : V} {vs : List V} {n : Nat}
def goFor (K : PySem.W.Frag) (x : V) (g : TG) (tb : TS) (D : Ends) (σ : L2.St) (H : Hp) : Prop := tFor (iList K (tC x)) g tb D σ H
theorem a_forL : tFor (iList K tl) g tb D σ H = tl σ H fun x H1 => goFor K x g tb D σ H1 := rfl
theorem go_for (hq : SqL K H a xs) (Pv : Nat → L2.St → Hp → Prop) (h0 : Pv 0 σ H) (hl : ∀ i σ H, i ≤ xs.length → Pv i σ H → SqL K H a xs)
    (hs : ∀ i x σ H (N : L2.St → Hp → Prop), xs[i]? = some x → Pv i σ H → (∀ σ' H', Pv (i + 1) σ' H' → N σ' H') → g x σ H fun σ2 H2 => tb { D with nx := N, ct := N, bk := D.nx } σ2 H2) (hd : ∀ σ H, Pv xs.length σ H → D.nx σ H) :
    goFor K (.ref a) g tb D σ H := f_lst (fun _ z => z) hq Pv h0 hl hs hd
def goLc (K : PySem.W.Frag) (x : V) (g : TG) (tt : TT) (te : TE) (ws : List Nat) (σ : L2.St) (H : Hp) (Q : VK) : Prop := tLc (iList K (tC x)) g tt te ws σ H Q
theorem a_lcL : tLc (iList K tl) g tt te ws σ H Q = tl σ H fun x H1 => goLc K x g tt te ws σ H1 Q := rfl
theorem go_lc (hq : SqL K H a xs) (Pv : Addr → Nat → Hp → Prop)
    (h0 : ∀ d, H d = none → Pv d 0 (upd H d (.lst []))) (hl : ∀ d (i : Nat) H', H d = none → i ≤ xs.length → Pv d i H' → SqL K H' a xs)
    (hs : ∀ d (i : Nat) x H' (N : Hp → Prop), H d = none → xs[i]? = some x → Pv d i H' → (∀ H2, Pv d (i + 1) H2 → N H2) → g x (wipe σ ws) H' fun σ2 H2 => wipe σ2 ws = wipe σ ws ∧ tt σ2 H2 fun b H3 =>
      if b = true then te σ2 H3 fun y H4 => ∃ acc, H4 d = some (.lst acc) ∧ acc.length < sizeLine ∧ N (upd H4 d (.lst (acc ++ [y]))) else N H3)
    (hd : ∀ d H', H d = none → Pv d xs.length H' → Q (.ref d) H') : goLc K (.ref a) g tt te ws σ H Q := c_lst (fun _ z => z) hq Pv h0 hl hs hd
def goDc (K : PySem.W.Frag) (x : V) (g : TG) (tt : TT) (tk tv : TE) (ws : List Nat) (σ : L2.St) (H : Hp) (Q : VK) : Prop := tDc (iList K (tC x)) g tt tk tv ws σ H Q
theorem a_dcL : tDc (iList K tl) g tt tk tv ws σ H Q = tl σ H fun x H1 => goDc K x g tt tk tv ws σ H1 Q := rfl
theorem go_dc (hq : SqL K H a xs) (Pv : Addr → Nat → Hp → Prop)
    (h0 : ∀ p, H p = none → Pv p 0 (upd H p (.dK []))) (hl : ∀ p (i : Nat) H', H p = none → i ≤ xs.length → Pv p i H' → SqL K H' a xs)
    (hs : ∀ p (i : Nat) x H' (N : Hp → Prop), H p = none → xs[i]? = some x → Pv p i H' → (∀ H2, Pv p (i + 1) H2 → N H2) → g x (wipe σ ws) H' fun σ2 H2 => wipe σ2 ws = wipe σ ws ∧ tt σ2 H2 fun b H3 =>
      if b = true then tk σ2 H3 fun y H4 => tv σ2 H4 fun z H5 => ∃ kvs k, y = kV k ∧ H5 p = some (.dK kvs) ∧ kvs.length < sizeLine ∧ N (upd H5 p (.dK (putK kvs k z))) else N H3)
    (hd : ∀ p H', H p = none → Pv p xs.length H' → Q (.ref p) H') : goDc K (.ref a) g tt tk tv ws σ H Q := dc_lst H (fun _ z => z) hq Pv h0 hl hs hd
def goDe (K : PySem.W.Frag) (vs : List V) (g : TG) (tt : TT) (tk tv : TE) (ws : List Nat) (σ : L2.St) (H : Hp) (Q : VK) : Prop := tDc (iEnum K fun _ H R => R vs H) g tt tk tv ws σ H Q
theorem a_dcE : tDc (iEnum K ta) g tt tk tv ws σ H Q = ta σ H fun vs H1 => goDe K vs g tt tk tv ws σ H1 Q := rfl
theorem go_de (hq : SqL K H a xs) (Pv : Addr → Nat → Hp → Prop)
    (h0 : ∀ p, H p = none → Pv p 0 (upd H p (.dK []))) (hl : ∀ p (i : Nat) H', H p = none → i ≤ xs.length → Pv p i H' → SqL K H' a xs)
    (hs : ∀ p (i : Nat) x H' T (N : Hp → Prop), H p = none → xs[i]? = some x → Pv p i H' → H' T = none → (∀ H2, Pv p (i + 1) H2 → N H2) → g (.ref T) (wipe σ ws) (upd H' T (.tup [.int (i : Nat), x])) fun σ2 H2 => wipe σ2 ws = wipe σ ws ∧ tt σ2 H2 fun b H3 =>
      if b = true then tk σ2 H3 fun y H4 => tv σ2 H4 fun z H5 => ∃ kvs k, y = kV k ∧ H5 p = some (.dK kvs) ∧ kvs.length < sizeLine ∧ N (upd H5 p (.dK (putK kvs k z))) else N H3)
    (hd : ∀ p H', H p = none → Pv p xs.length H' → Q (.ref p) H') : goDe K [.ref a] g tt tk tv ws σ H Q := dc_enum (fun _ z => z) hq Pv h0 hl hs hd
def goRng (vs : List V) (g : TG) (tb : TS) (D : Ends) (σ : L2.St) (H : Hp) : Prop := tFor (iRng1 fun _ H R => R vs H) g tb D σ H
theorem a_forR : tFor (iRng1 ta) g tb D σ H = ta σ H fun vs H1 => goRng vs g tb D σ H1 := rfl
theorem go_rng {k : Int} (n : Nat) (hk : k = (n : Int)) (hn : n ≤ 1000000000) (Pv : Nat → L2.St → Hp → Prop) (h0 : Pv 0 σ H)
    (hs : ∀ (i : Nat) σ H (N : L2.St → Hp → Prop), i < n → Pv i σ H → (∀ σ' H', Pv (i + 1) σ' H' → N σ' H') → g (.int (i : Int)) σ H fun σ2 H2 => tb { D with nx := N, ct := N, bk := D.nx } σ2 H2) (hd : ∀ σ H, Pv n σ H → D.nx σ H) :
    goRng [.int k] g tb D σ H := by
  subst hk
  exact f_rng n hn (fun _ z => z) Pv h0 hs hd
end
end Fw
namespace Fw
open PySem PySem.Spec PyProof.Rows L2
/-- x = a value that is made under a lock -/
theorem s_lock {te : TE} {i : Nat} {D : Ends} {σ : L2.St} {H : Hp} (h : tLockE te σ H fun v H' => D.nx (σ.set i (some v)) H') : tLock (tAsg te (gName i)) D σ H := h
theorem putK_le {kvs : List (Key × V)} {k : Key} {v : V} : (putK kvs k v).length ≤ kvs.length + 1 := by
  unfold putK
  split
  · rw [List.length_map]
    exact Nat.le_succ _
  · rw [List.length_append]
    exact Nat.le_refl _
/-- a dict whose keys are these texts (told twice or not) -/
def SetAt (H : Hp) (p : Addr) (l : List Str) : Prop := ∃ kvs, H p = some (.dK kvs) ∧ kvs.length ≤ l.length ∧ ∀ x, (valV kvs (.inr x)).isSome = decide (x ∈ l)
theorem SetAt.same {H H' : Hp} {p : Addr} {l : List Str} (h : SetAt H p l) (s : Same H H') : SetAt H' p l := by
  obtain ⟨kvs, e, h1, h2⟩ := h
  exact ⟨kvs, s _ _ e, h1, h2⟩
theorem SetAt.nil {H : Hp} {p : Addr} (h : H p = some (.dK [])) : SetAt H p [] := ⟨[], h, Nat.le_refl _, fun x => by simp; rfl⟩
theorem SetAt.put {H : Hp} {p : Addr} {l : List Str} (h : SetAt H p l) : ∃ kvs, H p = some (.dK kvs) ∧ kvs.length ≤ l.length ∧ (∀ x, (valV kvs (.inr x)).isSome = decide (x ∈ l)) ∧
    ∀ H' x v, SetAt (upd H' p (.dK (putK kvs (.inr x) v))) p (l ++ [x]) := by
  obtain ⟨kvs, e, h1, h2⟩ := h
  refine ⟨kvs, e, h1, h2, fun H' x v => ⟨_, upd_same, ?_, fun y => ?_⟩⟩
  · rw [List.length_append]
    exact Nat.le_trans putK_le (Nat.succ_le_succ h1)
  · rw [valV_put]
    by_cases c : y = x
    · simp [c]
    · rw [if_neg (fun z => c (by injection z)), h2]
      simp [c]
theorem nodup_take {l : List Str} {i : Nat} {x : Str} (h : l.Nodup) (e : l[i]? = some x) : x ∉ l.take i := fun z => by
  obtain ⟨j, hj, e1⟩ := List.mem_iff_getElem.mp z
  rw [List.length_take] at hj
  rw [List.getElem_take] at e1
  obtain ⟨hi, e2⟩ := List.getElem?_eq_some_iff.mp e
  exact (List.pairwise_iff_getElem.mp (List.nodup_iff_pairwise_ne.mp h)) j i (by omega) hi (by omega) (e1.trans e2.symm)
theorem mem_of_take {l : List Str} {i : Nat} {x : Str} (h : x ∈ l.take i) : x ∈ l := List.mem_of_mem_take h
end Fw
namespace Fw
open PySem PySem.Spec PyProof.Rows L2
/-! ### written dicts -/
def keysOf : List (V × V) → Option (List (Key × V))
  | [] => some []
  | (k, v) :: r => (match keyOf k with
    | some kk => (match keysOf r with
      | some kvs => some ((kk, v) :: kvs)
      | none => none)
    | none => none)
theorem keyOf_of {k : Key} : keyOf (kV k) = some k := by cases k <;> rfl
theorem keysOf_map : ∀ kvs : List (Key × V), keysOf (kvs.map fun kv => (kV kv.1, kv.2)) = some kvs
  | [] => rfl
  | (k, v) :: r => by
    show (match keyOf (kV k) with
      | some kk => (match keysOf (r.map fun kv : Key × V => (kV kv.1, kv.2)) with
        | some kvs => some ((kk, v) :: kvs)
        | none => none)
      | none => none) = _
    rw [keyOf_of, keysOf_map r]
theorem keysOf_some : ∀ {ps : List (V × V)} {kvs : List (Key × V)}, keysOf ps = some kvs → ps = kvs.map fun kv => (kV kv.1, kv.2)
  | [], kvs, h => by cases h; rfl
  | (k, v) :: r, kvs, h => by
    have h2 : (match keyOf k with
      | some kk => (match keysOf r with
        | some kvs => some ((kk, v) :: kvs)
        | none => none)
      | none => none) = some kvs := h
    split at h2
    · rename_i kk e
      split at h2
      · rename_i ks e2
        cases h2
        rw [List.map_cons, ← keysOf_some e2, ← keyOf_kV e]
      · cases h2
    · cases h2
section
variable {trs : List (TE × TE)} {tk tv : TE} {σ : L2.St} {H : Hp} {Q : VK} {QP : List (V × V) → Hp → Prop} {k v : V} {ps : List (V × V)}
theorem a_disp : tDisp trs σ H Q = ∀ p, H p = none → tPairs trs σ (upd H p (.dK [])) fun ps H2 => H2 p = some (.dK []) ∧ (match keysOf ps with
    | some kvs => kvs.length ≤ 15 ∧ Q (.ref p) (upd H2 p (.dK (mergeK [] kvs)))
    | none => False) := by
  unfold tDisp
  refine propext (forall_congr' fun p => forall_congr' fun hp => ?_)
  have e : (fun (ps : List (V × V)) (H2 : Hp) => H2 p = some (.dK []) ∧ ∃ kvs : List (Key × V), ps = kvs.map (fun kv => (kV kv.1, kv.2)) ∧ kvs.length ≤ 15 ∧ Q (.ref p) (upd H2 p (.dK (mergeK [] kvs)))) = fun ps H2 => H2 p = some (.dK []) ∧ (match keysOf ps with
      | some kvs => kvs.length ≤ 15 ∧ Q (.ref p) (upd H2 p (.dK (mergeK [] kvs)))
      | none => False) := by
    funext ps H2
    refine propext ⟨fun ⟨h1, kvs, e, h2⟩ => ⟨h1, by rw [e, keysOf_map]; exact h2⟩, fun ⟨h1, h2⟩ => ⟨h1, ?_⟩⟩
    split at h2
    · rename_i kvs e
      exact ⟨kvs, keysOf_some e, h2⟩
    · exact h2.elim
  rw [e]
theorem a_pnil : tPairs [] σ H QP = QP [] H := rfl
theorem a_pcons : tPairs ((tk, tv) :: trs) σ H QP = tk σ H fun k H1 => tv σ H1 fun v H2 => tPairs trs σ H2 fun ps H3 => QP ((k, v) :: ps) H3 := rfl
theorem v_keys0 : keysOf [] = some [] := rfl
theorem v_keys1 : keysOf ((k, v) :: ps) = (match keyOf k with
    | some kk => (match keysOf ps with
      | some kvs => some ((kk, v) :: kvs)
      | none => none)
    | none => none) := rfl
end
end Fw
set_option Elab.async false
set_option linter.all false
set_option maxRecDepth 100000
set_option maxHeartbeats 4000000
/-! collections.deque: made of a list, its truth, append, popleft -/
namespace Dq
open PySem PyProof.Rows
section
theorem slot_append : Slot "collections.deque" "append" "collections.deque.append" := .of (owner := "collections.deque") (n := "append") (by rw [typeLookup_type, builtinLookup_eq_fast]; kernel_rfl) (by decide +kernel) (by decide +kernel) (by decide +kernel) (by first | exact .inl (by decide +kernel) | exact .inr (by decide +kernel)) (by rw [isSubtype_type]; kernel_rfl)
theorem slot_popleft : Slot "collections.deque" "popleft" "collections.deque.popleft" := .of (owner := "collections.deque") (n := "popleft") (by rw [typeLookup_type, builtinLookup_eq_fast]; kernel_rfl) (by decide +kernel) (by decide +kernel) (by decide +kernel) (by first | exact .inl (by decide +kernel) | exact .inr (by decide +kernel)) (by rw [isSubtype_type]; kernel_rfl)
theorem ty_append : typeOf (.builtin "collections.deque.append") = pure (.type "method_descriptor") := by show builtinType _ = _; rw [builtinType_eq_fast]; kernel_rfl
theorem ty_popleft : typeOf (.builtin "collections.deque.popleft") = pure (.type "method_descriptor") := by show builtinType _ = _; rw [builtinType_eq_fast]; kernel_rfl
theorem en_append : entryFor table "collections.deque.append" = some Builtin.«collections.deque.append» := entryFor_of_tree (by kernel_rfl)
theorem en_popleft : entryFor table "collections.deque.popleft" = some Builtin.«collections.deque.popleft» := entryFor_of_tree (by kernel_rfl)
theorem en_extend : entryFor table "collections.deque.extend" = some Builtin.«collections.deque.extend» := entryFor_of_tree (by kernel_rfl)
theorem en_loop : entryFor table "collections.deque.extend.loop" = some Builtin.«collections.deque.extend.loop» := entryFor_of_tree (by kernel_rfl)
theorem pl_extend : plainId "collections.deque.extend" = true := by decide +kernel
theorem pl_loop : plainId "collections.deque.extend.loop" = true := by decide +kernel
theorem ar_append (a b : Value) : argsOk "collections.deque.append" ⟨[a, b], []⟩ := by unfold argsOk; kernel_rfl
theorem ar_popleft (a : Value) : argsOk "collections.deque.popleft" ⟨[a], []⟩ := by unfold argsOk; kernel_rfl
theorem ar_init2 (a b : Value) : argsOk "collections.deque.__init__" ⟨[a, b], []⟩ := by unfold argsOk; kernel_rfl
theorem tc1 (a : Value) : checkTypeCall "collections.deque" ⟨[a], []⟩ = pure () := by first | kernel_rfl | rfl
theorem nc1 (a : Value) : checkBuiltinCall "collections.deque.__new__" ⟨[.type "collections.deque", a], []⟩ = pure () := by first | kernel_rfl | rfl
theorem attrs : PlainAttrs "collections.deque" := ⟨⟨"collections.deque.__getattribute__", by rw [typeLookup_type, builtinLookup_eq_fast]; kernel_rfl, by decide +kernel⟩, by rw [typeLookup_type, builtinLookup_eq_fast]; kernel_rfl⟩
end
/-- the record of a deque that holds these -/
def arr (n : Int) (its : List Value) : Array Value := #[Value.none, rawInt n] ++ its.toArray
def dob (n : Int) (its : List Value) : Obj := recObj "collections.deque" (arr n its)
theorem arr_size {n : Int} {its : List Value} : (arr n its).size = its.length + 2 := by
  unfold arr
  rw [Array.size_append, List.size_toArray]
  exact Nat.add_comm _ _
theorem arr_items {n : Int} {its : List Value} : (arr n its).extract 2 (arr n its).size = its.toArray := by
  rw [arr_size]
  apply Array.ext'
  simp [arr]
theorem arr_1 {n : Int} {its : List Value} : (arr n its)[1]? = some (rawInt n) := by simp [arr]
theorem arr_0 {n : Int} {its : List Value} : (arr n its)[0]? = some Value.none := by simp [arr]
section
variable {prog : Program} {w : World} {A : Around} {E : Value → Shared → Prop} {s : Shared} {a : Addr} {n : Int} {its its' : List Value}
theorem w_items {Q : Array Value → Shared → Prop} (ha : s.heap.get? a = some (dob n its)) (q : Q its.toArray s) : wpAny (model prog w) A (Builtin.Deque.items (.ref a)) Q E s := by
  unfold Builtin.Deque.items
  refine wpAny_bind (wpAny_fieldsOf ha rfl (wpAny_pure ?_))
  show Q ((arr n its).extract 2 (arr n its).size) s
  rw [arr_items]
  exact q
theorem w_change {f : Array Value → Array Value} {Q : Unit → Shared → Prop} (ha : s.heap.get? a = some (dob n its)) (hf : f its.toArray = its'.toArray) (hz : its'.length ≤ sizeLine)
    (q : ∀ h', h'.get? a = some (dob (n + 1) its') → Heap.SameBut a s.heap h' → Q () { s with heap := h' }) : wpAny (model prog w) A (Builtin.Deque.change (.ref a) f) Q E s := by
  unfold Builtin.Deque.change
  refine wpAny_bind ?_
  unfold Builtin.Deque.state
  refine wpAny_bind (wpAny_field ha rfl arr_1 (wpAny_pure ?_))
  have e : (#[(arr n its).getD 0 .none, rawInt (if true = true then n + 1 else n)] ++ f ((arr n its).extract 2 (arr n its).size) : Array Value) = arr (n + 1) its' := by
    rw [arr_items, hf]
    simp [arr]
  refine wpAny_updateFields (vs := arr n its) ha rfl (q _ ?_ (Heap.SameBut.update ..)) ?_
  · rw [Heap.get?_update_self _ ha rfl]
    exact congrArg (fun z => some (recObj "collections.deque" z)) e
  · refine Nat.le_trans (Nat.le_of_eq (congrArg Array.size e)) ?_
    rw [arr_size]
    omega
theorem w_maxlen {Q : Option Nat → Shared → Prop} (ha : s.heap.get? a = some (dob n its)) (q : Q none s) : wpAny (model prog w) A (Builtin.Deque.maxlen (.ref a)) Q E s := by
  unfold Builtin.Deque.maxlen
  exact wpAny_bind (wpAny_field ha rfl arr_0 (wpAny_pure q))
theorem w_push {x : Value} {Q : Unit → Shared → Prop} (ha : s.heap.get? a = some (dob n its)) (hz : its.length < sizeLine)
    (q : ∀ h', h'.get? a = some (dob (n + 1) (its ++ [x])) → Heap.SameBut a s.heap h' → Q () { s with heap := h' }) : wpAny (model prog w) A (Builtin.Deque.pushRight (.ref a) x) Q E s := by
  unfold Builtin.Deque.pushRight
  refine wpAny_bind (w_change (its' := its ++ [x]) ha (by simp) (by rw [List.length_append]; exact hz) fun h' e sb => ?_)
  exact wpAny_bind (w_maxlen e (wpAny_pure (q h' e sb)))
/-- the loop of extend over a list: k items are left -/
theorem w_loop {l it : Addr} {xs : List Value} (hh : A.handled = none) : ∀ (k i : Nat) (s : Shared) (n : Int) (its : List Value) {R : Result → Shared → Prop}, xs.length - i = k → i ≤ xs.length → s.heap.IsListIter it l i → s.heap.IsList l xs.toArray → s.heap.get? a = some (dob n its) → a ≠ it → a ≠ l → it ≠ l →
    its.length + k ≤ sizeLine → (∀ h' n', h'.get? a = some (dob n' (its ++ xs.drop i)) → (∀ b o, b ≠ a → b ≠ it → s.heap.get? b = some o → h'.get? b = some o) → R (.ok (.ret .none)) { s with heap := h' }) →
    codeAny (model prog w) A (.builtin "collections.deque.extend.loop" ⟨[.ref a, .ref it, .none], []⟩) R s := by
  intro k
  induction k with
  | zero =>
    intro i s n its R hk hi st hl ha n1 n2 n3 hz q
    have e : xs.length ≤ i := by omega
    refine codeAny_builtin en_loop ?_
    rw [Around.under_plainId pl_loop _]
    unfold Builtin.«collections.deque.extend.loop»
    refine wpAny_bind (wpAny_pure ?_)
    refine wpAny_bind (wpAny_pyNext_list_end (A := A.in1) hh st hl (by simpa using e) fun h' sb => ?_)
    refine wpAny_pure (q h' n ?_ fun b o hb hb2 ho => sb b o hb2 ho)
    rw [List.drop_eq_nil_of_le e, List.append_nil]
    exact sb a _ n1 ha
  | succ k ih =>
    intro i s n its R hk hi st hl ha n1 n2 n3 hz q
    have lt : i < xs.length := by omega
    refine codeAny_builtin en_loop ?_
    rw [Around.under_plainId pl_loop _]
    unfold Builtin.«collections.deque.extend.loop»
    refine wpAny_bind (wpAny_pure ?_)
    refine wpAny_bind (wpAny_pyNext_list_item (x := xs[i]) st hl (by simp [lt]) fun h' st' sb => ?_)
    have ha' : h'.get? a = some (dob n its) := (sb.2 a n1).trans ha
    refine wpAny_bind (wpAny_field ha' rfl arr_0 ?_)
    refine wpAny_bind (w_maxlen ha' ?_)
    refine wpAny_bind (w_push ha' (by omega) fun h2 e2 sb2 => ?_)
    have keep : ∀ b o, b ≠ a → b ≠ it → s.heap.get? b = some o → h2.get? b = some o := fun b o hb hb2 ho => (sb2.2 b hb).trans ((sb.2 b hb2).trans ho)
    refine wpAny_pure ⟨plainId_quiet pl_loop _, ih (i + 1) _ (n + 1) (its ++ [xs[i]]) (by omega) lt ?_ ?_ e2 n1 n2 n3 ?_ fun h3 n3 e3 k3 => ?_⟩
    · exact st'.at fun o ho => (sb2.2 it (Ne.symm n1)).trans ho
    · exact hl.at fun o ho => keep l o (Ne.symm n2) (Ne.symm n3) ho
    · rw [List.length_append]
      simp only [List.length_singleton]
      omega
    · refine q h3 n3 ?_ fun b o hb hb2 ho => k3 b o hb hb2 (keep b o hb hb2 ho)
      rw [e3, List.append_assoc, List.drop_eq_getElem_cons lt]
      rfl
/-- extend by a list -/
theorem w_extend {l : Addr} {xs : List Value} {Q : Unit → Shared → Prop} (hh : A.handled = none) (hl : s.heap.IsList l xs.toArray) (ha : s.heap.get? a = some (dob n its)) (ne : a ≠ l) (hz : its.length + xs.length ≤ sizeLine)
    (q : ∀ h' n', h'.get? a = some (dob n' (its ++ xs)) → (∀ b o, b ≠ a → s.heap.get? b = some o → h'.get? b = some o) → Q () { s with heap := h' }) :
    wpAny (model prog w) A (Builtin.Deque.extend (.ref a) (.ref l)) Q E s := by
  unfold Builtin.Deque.extend
  refine wpAny_bind (wpAny_runValue (codeAny_builtin en_extend ?_))
  rw [Around.under_plainId pl_extend _]
  unfold Builtin.«collections.deque.extend»
  refine wpAny_bind (wpAny_pure ?_)
  have e : (Value.ref a == Value.ref l) = false := beq_eq_false_iff_ne.mpr fun z => ne (Value.ref.inj z)
  simp only [e, Bool.false_eq_true, if_false]
  refine wpAny_bind (wpAny_field ha rfl arr_0 ?_)
  refine wpAny_bind (wpAny_pyIter_list hl ?_)
  have la := Heap.lt_size ha
  have ll : l < s.heap.objs.size := by obtain ⟨o, h, _⟩ := hl; exact Heap.lt_size h
  refine wpAny_pure ⟨plainId_quiet pl_loop _, w_loop (xs := xs) hh xs.length 0 _ n its (Nat.sub_zero _) (Nat.zero_le _) ⟨_, Heap.get?_push_size _ rfl, rfl, rfl⟩ (hl.push _) (Heap.get?_push_of_some _ ha) (Nat.ne_of_lt la) ne (Nat.ne_of_gt ll) hz fun h' n' e' k' => ?_⟩
  exact wpAny_pure (q h' n' (by simpa using e') fun b o hb ho => k' b o hb (Nat.ne_of_lt (Heap.lt_size ho)) (Heap.get?_push_of_some _ ho))
/-- deque(l) -/
theorem w_new {Q₁ : Value → Shared → Prop} {x : Value} (h : Q₁ (.ref s.heap.objs.size) { s with heap := s.heap.push (dob 0 []) }) :
    codeAny (model prog w) A (.call (.builtin "collections.deque.__new__") ⟨[.type "collections.deque", x], []⟩) (wants Q₁ E) s := by
  refine codeAny_call_builtin F.dq_plain_new F.dq_entry_new (wpAny_of_eq (nc1 x) ?_)
  unfold Builtin.«collections.deque.__new__» Builtin.Deque.newArgs
  refine wpAny_bind (wpAny_bind (wpAny_of_eq (a := true) rfl (PySem.W.KFB.if_not rfl (wpAny_bind (wpAny_of_eq (a := true) F.dq_sub (PySem.W.KFB.if_not rfl (wpAny_pure ?_)))))))
  refine wpAny_bind ?_
  unfold Builtin.Deque.new
  rw [if_neg (show ¬ (#[] : Array Value).size > sizeLine by decide)]
  exact wpAny_bind (wpAny_pure (dq_made (wpAny_pure h)))
theorem w_call {l : Addr} {xs : List Value} {Q : Value → Shared → Prop} (hh : A.handled = none) (hl : s.heap.IsList l xs.toArray) (hz : xs.length ≤ sizeLine)
    (q : ∀ h' n', h'.get? s.heap.objs.size = some (dob n' xs) → (∀ b o, s.heap.get? b = some o → h'.get? b = some o) → Q (.ref s.heap.objs.size) { s with heap := h' }) :
    wpAny (model prog w) A (call (.type "collections.deque") [.ref l]) Q E s := by
  refine callType_codes (Q₁ := fun obj t => obj = .ref s.heap.objs.size ∧ t = { s with heap := s.heap.push (dob 0 []) }) F.dq_called (tc1 _) F.dq_entry_init (w_new ⟨rfl, rfl⟩) ?_
  rintro obj t ⟨rfl, rfl⟩
  have hg : (s.heap.push (dob 0 [])).get? s.heap.objs.size = some (dob 0 []) := Heap.get?_push_size _ rfl
  refine ⟨⟨_, hg, rfl⟩, ar_init2 _ _, ?_⟩
  have ll : l < s.heap.objs.size := by obtain ⟨o, h, _⟩ := hl; exact Heap.lt_size h
  unfold Builtin.«collections.deque.__init__»
  show wpAny _ _ (setField (.ref s.heap.objs.size) 0 .none >>= fun _ => Builtin.Deque.clear (.ref s.heap.objs.size) >>= fun _ => Builtin.Deque.extend (.ref s.heap.objs.size) (.ref l) >>= fun _ => ret .none) _ _ _
  refine wpAny_bind (wpAny_setField_rec (a := s.heap.objs.size) (vs := arr 0 []) hg (by rw [arr_size]; decide) fun h' hg' sb => ?_)
  have hg2 : h'.get? s.heap.objs.size = some (dob 0 []) := hg'.trans (by simp [dob, recObj, arr])
  refine wpAny_bind ?_
  unfold Builtin.Deque.clear
  refine wpAny_bind (w_items hg2 ?_)
  refine wpAny_pure ?_
  have hl2 : h'.IsList l xs.toArray := (hl.push _).at fun o e => (sb.2 l (Nat.ne_of_lt ll)).trans e
  refine wpAny_bind (w_extend (A := A.in1.in1) hh hl2 hg2 (Nat.ne_of_gt ll) (by simpa using hz) fun h2 n2 e2 k2 => ?_)
  refine wpAny_pure ⟨rfl, q h2 n2 (by simpa using e2) fun b o e => ?_⟩
  have hb := Nat.ne_of_lt (Heap.lt_size e)
  exact k2 b o hb ((sb.2 b hb).trans (Heap.get?_push_of_some _ e))
/-- its truth -/
theorem w_truthy {Q : Bool → Shared → Prop} (ha : s.heap.get? a = some (dob n its)) (hz : its.length ≤ sizeLine) (q : Q (!its.isEmpty) { s with toks := s.toks + 1 + 1 }) : wpAny (model prog w) A (truthy (.ref a)) Q E s := by
  have hT : s.TypeIs (.ref a) "collections.deque" := ⟨_, ha, rfl⟩
  have l63 : (its.length : Int) < 2 ^ 63 := by
    have : its.length ≤ 2 ^ 24 := hz
    omega
  have key : wpAny (model prog w) A (runValue (.builtin "len" ⟨[.ref a], []⟩)) (fun r t => r = .int its.length (s.toks + 1) ∧ t = { s with toks := s.toks + 1 + 1 }) E s := by
    refine wpAny_runValue (codeAny_builtin entry_len ?_)
    rw [Around.under_plainId plain_len _]
    refine wpAny_mono (Q := fun fin t => ∃ r, fin = .done (.ret r) ∧ r = .int its.length (s.toks + 1) ∧ t = { s with toks := s.toks + 1 + 1 }) ?_ (fun fin t z => by obtain ⟨r, rfl, hq⟩ := z; exact hq) fun _ _ e => e
    unfold Builtin.«len»
    refine wpAny_bind (m := oneArg "len" _) (wpAny_pure ?_)
    refine wpAny_bind (m := callSpecial? (.ref a) (Str.ofString "__len__")) (wpAny_callSpecial?_slot (name := Str.ofString "__len__") hT F.dq_slot_len (wpAny_call_entry F.dq_slot_len hT F.dq_entry_len ?_ (F.dq_args_len _)))
    show wpAny _ _ (Builtin.Deque.size (.ref a) >>= fun k => retInt k) _ _ s
    unfold Builtin.Deque.size
    refine wpAny_bind (wpAny_bind (wpAny_fieldsOf ha rfl (wpAny_pure ?_)))
    show wpAny _ _ (retInt (((arr n its).size - 2 : Nat) : Int)) _ _ _
    rw [arr_size, Nat.add_sub_cancel]
    refine wpAny_bind (wpAny_mkInt (wpAny_pure ⟨_, rfl, ?_⟩))
    refine wpAny_bind (wpAny_holding (wpAny_pure ?_))
    refine wpAny_bind (wpAny_letGo ?_)
    show wpAny _ _ (if ((its.length : Nat) : Int) < 0 then _ else _) _ _ _
    rw [if_neg (by omega)]
    show wpAny _ _ (if ((its.length : Nat) : Int) ≥ 2 ^ 63 then _ else _) _ _ _
    rw [if_neg (by omega)]
    exact wpAny_bind (wpAny_mkInt (wpAny_pure ⟨_, rfl, rfl, rfl⟩))
  have fin : ((its.length : Int) != 0) = !its.isEmpty := by cases its <;> simp <;> omega
  unfold truthy
  first
    | refine wpAny_bind (wpAny_callSpecial?_none (name := Str.ofString "__bool__") hT F.dq_noBool ?_)
    | refine wpAny_bind (wpAny_pure (wpAny_bind (wpAny_callSpecial?_none (name := Str.ofString "__bool__") hT F.dq_noBool ?_)))
  first
    | refine wpAny_bind (wpAny_specialOf (name := Str.ofString "__len__") hT F.dq_slot_len.lookup ?_)
    | refine wpAny_bind (wpAny_pure (wpAny_bind (wpAny_specialOf (name := Str.ofString "__len__") hT F.dq_slot_len.lookup ?_)))
  first
    | exact wpAny_bind (wpAny_mono key (fun r t z => by obtain ⟨rfl, rfl⟩ := z; exact wpAny_pure (by rw [fin]; exact q)) fun _ _ e => e)
    | exact wpAny_bind (wpAny_pure (wpAny_bind (wpAny_mono key (fun r t z => by obtain ⟨rfl, rfl⟩ := z; exact wpAny_pure (by rw [fin]; exact q)) fun _ _ e => e)))
end
end Dq

namespace Fw
open PySem PySem.Spec PyProof.Rows L2 Dq
/-- a deque of these values -/
def DqO (a : Addr) (xs : List V) : HO := .ext fun h => xs.length ≤ sizeLine ∧ ∃ its n, Vals xs its ∧ h.get? a = some (dob n its)
theorem dqO_ok {P : Program} {w : World} {H : Hp} {h : Heap} {a : Addr} {xs : List V} {its : List Value} {n : Int} (hz : xs.length ≤ sizeLine) (r : Vals xs its) (e : h.get? a = some (dob n its)) : ObjOk P w H h a (DqO a xs) :=
  ⟨⟨hz, its, n, r, e⟩, ⟨_, e⟩, fun _ _ ⟨z, i, m, q, p⟩ k => ⟨z, i, m, q, k _ p⟩⟩
section
variable {X : Cx} {pins : List (Addr × Obj)} {σ : L2.St} {H : Hp} {s : Shared} {a : Addr} {xs ys : List V}
theorem Inv.dq (I : Inv X pins σ H s) (e : H a = some (DqO a xs)) : xs.length ≤ sizeLine ∧ ∃ its n, Vals xs its ∧ s.heap.get? a = some (dob n its) := (I.hok a _ e).1
theorem Inv.dqW {h' : Heap} {t' : Nat} {its : List Value} {n : Int} (I : Inv X pins σ H s) (e : H a = some (DqO a xs)) (hz : ys.length ≤ sizeLine) (r : Vals ys its) (sb : Heap.SameBut a s.heap h') (new : h'.get? a = some (dob n its)) :
    Inv X pins σ (upd H a (DqO a ys)) { s with heap := h', toks := t' } :=
  I.write (by rw [e]; exact True.intro) (.inl rfl) (fun b u hb q => (sb.2 b hb).trans q) ⟨_, new⟩ (dqO_ok hz r new)
/-- deque(l) -/
def cDeq (K : PySem.W.Frag) : List V → Hp → VK → Prop := fun vs H Q => match vs with
  | [.ref l] => (match lstOf H l with
    | some xs => ∀ p, H p = none → Q (.ref p) (upd H p (DqO p xs))
    | none => False)
  | _ => False
theorem call_deq (hc : X.calm = true) : CallR X (.type "collections.deque") (cDeq X.K) := by
  intro pins s σ H vs us Q I r h
  unfold cDeq at h
  split at h
  · rename_i l
    split at h
    · rename_i xs e
      obtain ⟨u, rfl, ru⟩ := vals1 r
      cases (show u = Value.ref l from ru)
      obtain ⟨its, rv, pl, hz⟩ := I.list (sq_lst (K := X.K) e)
      have hl := rv.length
      refine w_call (A := X.A) (I.ok.hd hc) pl.isList (by omega) fun h' n' e' k => ⟨.ref s.heap.objs.size, _, I.laid (t' := s.toks) (o := DqO s.heap.objs.size xs) k (Nat.le_refl _) (dqO_ok (by omega) rv e'), rfl, h _ (I.hok.fresh (Nat.le_refl _))⟩
    · exact h.elim
  · exact h.elim
/-- the truth of a list or a deque -/
def vTruD : V → Hp → (Bool → Hp → Prop) → Prop := fun x H Q => match x with
  | .ref a => ∃ xs, H a = some (DqO a xs) ∧ Q (!xs.isEmpty) H
  | _ => False
theorem tru_dq : TruR X vTruD := by
  intro pins s σ H x v Q I r q
  unfold vTruD at q
  split at q
  · rename_i a
    obtain ⟨xs, e, q⟩ := q
    cases r
    obtain ⟨z, its, n, rv, e2⟩ := Inv.dq I e
    have hl := rv.length
    refine w_truthy e2 (by omega) ⟨H, I.tok _, ?_⟩
    have : its.isEmpty = xs.isEmpty := by cases rv <;> rfl
    rw [this]
    exact q
  · exact q.elim
def tTruD1 (te : TE) : TT := fun σ H Q => te σ H fun x H1 => vTruD x H1 Q
theorem pt_truD {e : Expr} {te : TE} (h : PE X e te) (hw : ∀ whole, isTrue e X.env whole = (do let v ← whole; standAt e.pos; holding [v] (truthy v)) := by intro _; rfl) : PT X e (tTruD1 te) := pt_truthR h tru_dq hw
/-! methods -/
def isDq (H : Hp) : V → Prop := fun x => ∃ a xs, x = .ref a ∧ H a = some (DqO a xs)
theorem dq_ty {y : V} {v : Value} (I : Inv X pins σ H s) (r : RelV y v) (ty : isDq H y) : s.TypeIs v "collections.deque" ∧ ∀ a, v = .ref a → ∃ ob, s.heap.get? a = some ob ∧ ob.dict = none := by
  obtain ⟨a, xs, rfl, e⟩ := ty
  cases r
  obtain ⟨z, its, n, rv, e2⟩ := Inv.dq I e
  refine ⟨⟨_, e2, rfl⟩, fun b hb => ?_⟩
  cases hb
  exact ⟨_, e2, rfl⟩
def tDqPop (to : TE) : TE := fun σ H Q => to σ H fun x H1 => (match x with
  | .ref a => ∃ y xs, H1 a = some (DqO a (y :: xs)) ∧ Q y (upd H1 a (DqO a xs))
  | _ => False)
def tDqApp (to te : TE) : TE := fun σ H Q => to σ H fun x H1 => isDq H1 x ∧ te σ H1 fun y H2 => (match x with
  | .ref a => ∃ xs, H2 a = some (DqO a xs) ∧ xs.length < sizeLine ∧ Q .non (upd H2 a (DqO a (xs ++ [y])))
  | _ => False)
variable {o e : Expr} {to te : TE} {apos cpos : Pos}
theorem pe_dqPop (ho : PE X o to) (hbase : attributeBase o "popleft" X.env (eval o X.env) = eval o X.env := by rfl) (hline : (apos.endLine == cpos.line) = true := by rfl) : PE X (.Call (.Attribute o "popleft" apos) [] [] cpos) (tDqPop to) := by
  refine ⟨fun pins s σ H Q I h => ?_⟩
  refine wpAny_Call_method0_late hbase hline (thn (ho.run pins s σ H _ I h) fun v s1 ⟨x, H1, I1, r1, q1⟩ => ?_)
  dsimp only at q1
  split at q1
  · rename_i a
    obtain ⟨y, xs, e1, q⟩ := q1
    obtain ⟨h1, h2⟩ := dq_ty I1 r1 ⟨a, _, rfl, e1⟩
    refine ⟨"collections.deque", _, attrs, slot_popleft, ty_popleft, h1, h2, Calls.callWith_builtin rfl (PySem.evalArgs_none ?_)⟩
    cases r1
    obtain ⟨z, its, n, rv, e2⟩ := Inv.dq I1 e1
    cases rv with
    | cons ry rr =>
      rename_i u us
      have hz : us.length ≤ sizeLine := by
        have := rr.length
        rw [List.length_cons] at z
        omega
      refine wpAny_call_entry slot_popleft h1 en_popleft ?_ (ar_popleft _)
      unfold Builtin.«collections.deque.popleft»
      refine wpAny_bind (wpAny_pure ?_)
      refine wpAny_bind (w_items e2 ?_)
      refine wpAny_bind (w_change (its' := us) e2 (by simp) hz fun h' e' sb => ?_)
      refine wpAny_pure ⟨_, rfl, y, _, Inv.dqW (t' := s1.toks) I1 e1 ?_ rr sb e', ry, q⟩
      have := rr.length
      omega
  · exact q1.elim
theorem pe_dqApp (ho : PE X o to) (he : PE X e te) (hbase : attributeBase o "append" X.env (eval o X.env) = eval o X.env := by rfl)
    (hfew : ((backTo cpos (starEach [e] X.env)).all (fun x => !x.1) && (backToKw cpos (keywordEach [] X.env)).all (fun x => x.1.isSome) && decide (([e] : List Expr).length + ([] : List Keyword).length + (if ([] : List Keyword).isEmpty then 0 else 1) < 30)) = true := by rfl)
    (hline : (apos.endLine == cpos.line) = true := by rfl) (ht : backTo cpos (starEach [e] X.env) = [(false, eval e X.env)] := by rfl) : PE X (.Call (.Attribute o "append" apos) [e] [] cpos) (tDqApp to te) := by
  refine ⟨fun pins s σ H Q I h => ?_⟩
  refine wpAny_Call_method_late hbase hfew hline ht (thn (ho.run pins s σ H _ I h) fun v s1 ⟨x, H1, I1, r1, ty, q1⟩ => ?_)
  obtain ⟨h1, h2⟩ := dq_ty I1 r1 ty
  refine ⟨"collections.deque", _, attrs, slot_append, ty_append, h1, h2, Calls.callWith_builtin rfl (Calls.evalArgs_plain (Calls.spliced_cons (thn (he.run pins s1 σ H1 _ I1 q1) fun u s2 ⟨y, H2, I2, r2, q2⟩ => Calls.spliced_nil ?_)))⟩
  dsimp only at q2
  split at q2
  · rename_i a
    obtain ⟨xs, e1, hz, q⟩ := q2
    cases r1
    obtain ⟨z, its, n, rv, e2⟩ := Inv.dq I2 e1
    have hl := rv.length
    refine wpAny_call_entry slot_append (T := "collections.deque") ⟨_, e2, rfl⟩ en_append ?_ (ar_append _ _)
    unfold Builtin.«collections.deque.append»
    refine wpAny_bind (wpAny_pure ?_)
    refine wpAny_bind (w_push e2 (by omega) fun h' e' sb => ?_)
    refine wpAny_pure ⟨_, rfl, .non, _, Inv.dqW (t' := s2.toks) I2 e1 ?_ (rv.append (.cons r2 .nil)) sb e', rfl, q⟩
    rw [List.length_append]
    exact hz
  · exact q2.elim
end
section
variable {K : PySem.W.Frag} {σ : L2.St} {H : Hp} {Q : VK} {QB : Bool → Hp → Prop} {to te : TE} {a : Addr} {y : V}
theorem v_deq : cDeq K [.ref a] H Q = (match lstOf H a with
    | some xs => ∀ p, H p = none → Q (.ref p) (upd H p (DqO p xs))
    | none => False) := rfl
theorem a_truD1 : tTruD1 te σ H QB = te σ H fun x H1 => vTruD x H1 QB := rfl
theorem v_truD : vTruD (.ref a) H QB = (∃ xs, H a = some (DqO a xs) ∧ QB (!xs.isEmpty) H) := rfl
theorem a_dqPop : tDqPop to σ H Q = to σ H fun x H1 => (match x with
  | .ref a => ∃ y xs, H1 a = some (DqO a (y :: xs)) ∧ Q y (upd H1 a (DqO a xs))
  | _ => False) := rfl
theorem a_dqApp : tDqApp to te σ H Q = to σ H fun x H1 => isDq H1 x ∧ te σ H1 fun y H2 => (match x with
  | .ref a => ∃ xs, H2 a = some (DqO a xs) ∧ xs.length < sizeLine ∧ Q .non (upd H2 a (DqO a (xs ++ [y])))
  | _ => False) := rfl
end
end Fw
set_option Elab.async false
set_option linter.all false
set_option maxRecDepth 100000
set_option maxHeartbeats 4000000
namespace Pf
open PySem PySem.Spec PyProof.Rows L2 Fw
/-! ### the text by places -/
def topS (i : Nat) : Stmt := PySem.Challenge.pw_escrowbook_k06_shortest_ways.main.body.getD i (.Pass ⟨0, 0, 0, 0⟩)
abbrev s_needing_of : Stmt := topS 2
abbrev n_needing_of : List Str := ["needs", "needing", "name", "wanted", "need"]
theorem sc_needing_of : FnScope ["needs", "needing", "name", "wanted", "need"] ["needs"] (defScope s_needing_of) := ⟨rfl, rfl, rfl, by decide +kernel, rfl, by decide +kernel, by decide +kernel⟩
abbrev s_greatest : Stmt := topS 4
abbrev n_greatest : List Str := ["full", "needs", "done", "needing", "name", "known", "failing", "need", "out"]
theorem sc_greatest : FnScope ["full", "needs", "done", "needing", "name", "known", "failing", "need", "out"] ["full", "needs", "done"] (defScope s_greatest) := ⟨rfl, rfl, rfl, by decide +kernel, rfl, by decide +kernel, by decide +kernel⟩
abbrev s_way_to : Stmt := topS 6
abbrev n_way_to : List Str := ["name", "reached_from", "way"]
theorem sc_way_to : FnScope ["name", "reached_from", "way"] ["name", "reached_from"] (defScope s_way_to) := ⟨rfl, rfl, rfl, by decide +kernel, rfl, by decide +kernel, by decide +kernel⟩
abbrev s_chain : Stmt := topS 5
abbrev n_chain : List Str := ["name", "full", "needs", "done", "full_names", "other", "done_names", "reached_from", "waiting", "here", "need"]
theorem sc_chain : FnScope ["name", "full", "needs", "done", "full_names", "other", "done_names", "reached_from", "waiting", "here", "need"] ["name", "full", "needs", "done"] (defScope s_chain) := ⟨rfl, rfl, rfl, by decide +kernel, rfl, by decide +kernel, by decide +kernel⟩
abbrev s_cell_at : Stmt := topS 8
abbrev n_cell_at : List Str := ["_law_script", "_law_k"]
theorem sc_cell_at : FnScope ["_law_script", "_law_k"] ["_law_script", "_law_k"] (defScope s_cell_at) := ⟨rfl, rfl, rfl, by decide +kernel, rfl, by decide +kernel, by decide +kernel⟩
abbrev s_mixed : Stmt := topS 9
abbrev n_mixed : List Str := ["_law_number", "_law_k"]
theorem sc_mixed : FnScope ["_law_number", "_law_k"] ["_law_number", "_law_k"] (defScope s_mixed) := ⟨rfl, rfl, rfl, by decide +kernel, rfl, by decide +kernel, by decide +kernel⟩
abbrev s_word : Stmt := topS 10
abbrev n_word : List Str := ["_law_k", "_law_cell", "_law_letters", "_law_told", "_law_rest", "_law_more", "_law_j", "_law_at"]
theorem sc_word : FnScope ["_law_k", "_law_cell", "_law_letters", "_law_told", "_law_rest", "_law_more", "_law_j", "_law_at"] ["_law_k", "_law_cell"] (defScope s_word) := ⟨rfl, rfl, rfl, by decide +kernel, rfl, by decide +kernel, by decide +kernel⟩
abbrev s_words : Stmt := topS 11
abbrev n_words : List Str := ["_law_script", "_law_count", "_law_k"]
theorem sc_words : FnScope ["_law_script", "_law_count", "_law_k"] ["_law_script"] (defScope s_words) := ⟨rfl, rfl, rfl, by decide +kernel, rfl, by decide +kernel, by decide +kernel⟩
abbrev s_needs_by : Stmt := topS 12
abbrev n_needs_by : List Str := ["_law_cell", "_law_words_here", "_law_size", "_law_rest", "_law_needs", "_law_j"]
theorem sc_needs_by : FnScope ["_law_cell", "_law_words_here", "_law_size", "_law_rest", "_law_needs", "_law_j"] ["_law_cell", "_law_words_here"] (defScope s_needs_by) := ⟨rfl, rfl, rfl, by decide +kernel, rfl, by decide +kernel, by decide +kernel⟩
abbrev s_steps : Stmt := topS 13
abbrev n_steps : List Str := ["_law_words_here", "_law_full", "_law_needs", "_law_done", "_law_steps_here", "_law_name", "_law_turn", "_law_fresh", "_law_near", "_law_need"]
theorem sc_steps : FnScope ["_law_words_here", "_law_full", "_law_needs", "_law_done", "_law_steps_here", "_law_name", "_law_turn", "_law_fresh", "_law_near", "_law_need"] ["_law_words_here", "_law_full", "_law_needs", "_law_done"] (defScope s_steps) := ⟨rfl, rfl, rfl, by decide +kernel, rfl, by decide +kernel, by decide +kernel⟩
abbrev s_law : Stmt := topS 14
abbrev n_law : List Str := ["_law_script", "_law_words_here", "_law_full", "_law_done", "_law_needs", "_law_k", "_law_cell", "_law_name", "_law_steps_here", "_law_due", "_law_here", "_law_need", "_law_found", "_law_one", "_law_held"]
theorem sc_law : FnScope ["_law_script", "_law_words_here", "_law_full", "_law_done", "_law_needs", "_law_k", "_law_cell", "_law_name", "_law_steps_here", "_law_due", "_law_here", "_law_need", "_law_found", "_law_one", "_law_held"] ["_law_script"] (defScope s_law) := ⟨rfl, rfl, rfl, by decide +kernel, rfl, by decide +kernel, by decide +kernel⟩
/-! ### what the top says -/
structure Blt (mg : Str → Option Value) : Prop where
  n_isinstance : mg "isinstance" = none
  n_len : mg "len" = none
  n_range : mg "range" = none
  n_str : mg "str" = none
  n_list : mg "list" = none

/-! ### the drawn numbers and words -/
def mixed (n k : Int) : Int := (n * 6364136223846793005 + k * 1442695040888963407 + 1013904223) % 2305843009213693951
theorem mixed_nn (n k : Int) : 0 ≤ mixed n k := Int.emod_nonneg _ (by decide)
def letters : Str := "abcdefghijklmnopqrstuvwxyz"
theorem letters_eq : letters.cps.toList = (List.range 26).map (fun k => 97 + k) := by decide +kernel
theorem letters_len : letters.length ≤ sizeLine := by decide +kernel
theorem letters_def : Str.ofString "abcdefghijklmnopqrstuvwxyz" = letters := rfl
theorem letter_at {i : Int} (h0 : 0 ≤ i) (h1 : i < 26) : atI letters.cps.toList i = some (97 + i.toNat) := by
  obtain ⟨j, rfl⟩ : ∃ j : Nat, i = (j : Int) := ⟨i.toNat, by omega⟩
  rw [letters_eq]
  refine atI_nat ?_
  rw [List.getElem?_map, List.getElem?_range (by omega)]
  rfl
def lt (i : Int) : Nat := 97 + (i % 26).toNat
def restN (r : Int) : Nat → Int
  | 0 => r
  | n + 1 => restN r n / 26
def moreL (r : Int) : Nat → List Nat
  | 0 => []
  | n + 1 => moreL r n ++ [lt (restN r n / 300)]
theorem moreL_len (r : Int) : ∀ n, (moreL r n).length = n
  | 0 => rfl
  | n + 1 => by
    show (moreL r n ++ [_]).length = _
    rw [List.length_append, moreL_len r n]
    rfl
def toldL (k : Nat) : List Nat := [lt (k / 26 : Nat), lt (k : Int)]
/-- the drawn rest -/
def rst (k : Nat) (cell : Int) : Int := if cell % 2 = 1 then mixed cell k else mixed cell 0
def mr (k : Nat) (cell : Int) : List Nat := moreL (rst k cell) (rst k cell / 12 % 11).toNat
theorem mr_len (k : Nat) (cell : Int) : (mr k cell).length ≤ 10 := by
  unfold mr
  rw [moreL_len]
  omega
def wordL (k : Nat) (cell : Int) : List Nat :=
  if cell % 2 = 1 ∧ mixed cell k % 12 = 11 ∧ k < 26 then [97 + k]
  else if cell % 2 = 1 then toldL k ++ mr k cell
  else (mr k cell).take (cell / 2 % ((mr k cell).length + 1 : Nat)).toNat ++ toldL k ++ (mr k cell).drop (cell / 2 % ((mr k cell).length + 1 : Nat)).toNat
def word (k : Nat) (cell : Int) : Str := ⟨(wordL k cell).toArray⟩
theorem word_len (k : Nat) (cell : Int) : (word k cell).length ≤ 12 := by
  show (wordL k cell).toArray.size ≤ 12
  rw [List.size_toArray]
  have h := mr_len k cell
  unfold wordL
  split
  · show 1 ≤ 12
    omega
  · split
    · rw [List.length_append]
      show 2 + _ ≤ 12
      omega
    · rw [List.length_append, List.length_append, List.length_take, List.length_drop]
      show _ + 2 + _ ≤ 12
      omega
theorem toldL_inj {j k : Nat} (hj : j < 676) (hk : k < 676) (e : toldL j = toldL k) : j = k := by
  unfold toldL lt at e
  simp only [List.cons.injEq, and_true] at e
  omega
theorem wordL_inj {j k : Nat} {cell : Int} (hj : j < 676) (hk : k < 676) (e : wordL j cell = wordL k cell) : j = k := by
  by_cases c : cell % 2 = 1
  · unfold wordL at e
    by_cases a : mixed cell j % 12 = 11 ∧ j < 26
    · by_cases b : mixed cell k % 12 = 11 ∧ k < 26
      · rw [if_pos ⟨c, a⟩, if_pos ⟨c, b⟩] at e
        simp only [List.cons.injEq, and_true] at e
        omega
      · rw [if_pos ⟨c, a⟩, if_neg (fun z => b z.2), if_pos c] at e
        have := congrArg List.length e
        rw [List.length_append] at this
        have t : (toldL k).length = 2 := rfl
        simp only [List.length_cons, List.length_nil] at this
        omega
    · by_cases b : mixed cell k % 12 = 11 ∧ k < 26
      · rw [if_neg (fun z => a z.2), if_pos c, if_pos ⟨c, b⟩] at e
        have := congrArg List.length e
        rw [List.length_append] at this
        have t : (toldL j).length = 2 := rfl
        simp only [List.length_cons, List.length_nil] at this
        omega
      · rw [if_neg (fun z => a z.2), if_pos c, if_neg (fun z => b z.2), if_pos c] at e
        exact toldL_inj hj hk (List.append_inj_left e rfl)
  · have m : mr j cell = mr k cell := by
      unfold mr rst
      rw [if_neg c, if_neg c]
    unfold wordL at e
    rw [if_neg (fun z => c z.1), if_neg c, if_neg (fun z => c z.1), if_neg c, m] at e
    have t : ∀ i, (toldL i).length = 2 := fun _ => rfl
    have e1 := List.append_inj_left e (by rw [List.length_append, List.length_append, t, t])
    exact toldL_inj hj hk (List.append_inj_right e1 rfl)
theorem word_inj {j k : Nat} {cell : Int} (hj : j < 676) (hk : k < 676) (e : word j cell = word k cell) : j = k := by
  refine wordL_inj (cell := cell) hj hk ?_
  have h : (wordL j cell).toArray = (wordL k cell).toArray := by
    injection e
  exact congrArg Array.toList h

def cellAt (ns : List Int) (k : Nat) : Int := (ns[k]?).getD 0

def cntOf (m : Int) (ns : List Int) : Nat := if cellAt ns 0 / 6 % 5 = 1 then (10 + cellAt ns 0 / 30 % m).toNat else (2 + cellAt ns 0 % 6).toNat
def wordsN (n : Nat) (c : Int) : List Str := (List.range n).map fun k => word k c
theorem wordsN_len (n : Nat) (c : Int) : (wordsN n c).length = n := by
  unfold wordsN
  rw [List.length_map, List.length_range]
theorem wordsN_nodup {n : Nat} (c : Int) (h : n ≤ 676) : (wordsN n c).Nodup := by
  unfold wordsN
  rw [List.nodup_iff_pairwise_ne, List.pairwise_map]
  refine List.Pairwise.imp_of_mem ?_ List.nodup_range
  intro i j hi hj ne e
  have := List.mem_range.mp hi
  have := List.mem_range.mp hj
  exact ne (word_inj (by omega) (by omega) e)
theorem wordsN_succ (n : Nat) (c : Int) : wordsN (n + 1) c = wordsN n c ++ [word n c] := by
  unfold wordsN
  rw [List.range_succ, List.map_append]
  rfl

def restN7 (r : Int) : Nat → Int
  | 0 => r
  | n + 1 => restN7 r n / 7
/-- the j-th need's place -/
def needAt (r : Int) (n j : Nat) : Nat := (restN7 r j % (n : Int)).toNat
def sizeOf' (cell : Int) : Nat := if cell / 4 % 4 = 1 then (cell / 16 % 9).toNat else (cell % 4).toNat
def needsL (cell : Int) (ws : List Str) (n : Nat) : List Str := (List.range n).map fun j => ws.getD (needAt (cell / 144) ws.length j) ""
def needsOf (cell : Int) (ws : List Str) : List Str := needsL cell ws (sizeOf' cell)
theorem needsL_succ (cell : Int) (ws : List Str) (n : Nat) : needsL cell ws (n + 1) = needsL cell ws n ++ [ws.getD (needAt (cell / 144) ws.length n) ""] := by
  unfold needsL
  rw [List.range_succ, List.map_append]
  rfl
theorem needsL_len (cell : Int) (ws : List Str) (n : Nat) : (needsL cell ws n).length = n := by
  unfold needsL
  rw [List.length_map, List.length_range]
theorem sizeOf_le (cell : Int) : sizeOf' cell ≤ 8 := by
  unfold sizeOf'
  split <;> omega
theorem needAt_lt {r : Int} {n j : Nat} (h : 0 < n) : needAt r n j < n := by
  unfold needAt
  have := Int.emod_lt_of_pos (restN7 r j) (b := (n : Int)) (by omega)
  have := Int.emod_nonneg (restN7 r j) (b := (n : Int)) (by omega)
  omega
theorem needs_mem {cell : Int} {ws : List Str} (h : 0 < ws.length) {x : Str} (hx : x ∈ needsOf cell ws) : x ∈ ws := by
  unfold needsOf needsL at hx
  obtain ⟨j, _, rfl⟩ := List.mem_map.mp hx
  have := needAt_lt (r := cell / 144) (j := j) h
  rw [List.getD_eq_getElem?_getD, List.getElem?_eq_getElem this]
  exact List.getElem_mem this

/-! ### texts that can be told apart -/
theorem lt_ok (i : Int) : lt i < 0x110000 := by unfold lt; omega
theorem moreL_ok (r : Int) : ∀ n, ∀ c ∈ moreL r n, c < 0x110000
  | 0 => fun c h => by cases h
  | n + 1 => fun c h => by
    rcases List.mem_append.mp h with h | h
    · exact moreL_ok r n c h
    · rw [List.mem_singleton.mp h]
      exact lt_ok _
theorem toldL_ok (k : Nat) : ∀ c ∈ toldL k, c < 0x110000 := fun c h => by
  unfold toldL at h
  rcases List.mem_cons.mp h with h | h
  · rw [h]; exact lt_ok _
  · rw [List.mem_singleton.mp h]; exact lt_ok _
theorem wordL_ok (k : Nat) (cell : Int) : ∀ c ∈ wordL k cell, c < 0x110000 := fun c h => by
  unfold wordL at h
  split at h
  · rename_i z
    rw [List.mem_singleton.mp h]
    omega
  · split at h
    · rcases List.mem_append.mp h with h | h
      · exact toldL_ok k c h
      · exact moreL_ok _ _ c h
    · rcases List.mem_append.mp h with h | h
      · rcases List.mem_append.mp h with h | h
        · exact moreL_ok _ _ c (List.mem_of_mem_take h)
        · exact toldL_ok k c h
      · exact moreL_ok _ _ c (List.mem_of_mem_drop h)
theorem word_ok (k : Nat) (cell : Int) : PyData.strOk (word k cell) = true := by
  unfold PyData.strOk word
  rw [Array.all_eq_true_iff_forall_mem]
  intro c hc
  exact decide_eq_true (wordL_ok k cell c (by simpa using hc))
theorem wordsN_ok {n : Nat} {c : Int} {x : Str} (h : x ∈ wordsN n c) : PyData.strOk x = true := by
  unfold wordsN at h
  obtain ⟨k, _, rfl⟩ := List.mem_map.mp h
  exact word_ok k c
/-! ### nets: full names with needs, done names -/
structure Net where
  full : List Str
  done : List Str
  nd : Str → List Str
structure Net.Ok (g : Net) : Prop where
  nodup : g.full.Nodup
  apart : ∀ x ∈ g.full, x ∉ g.done
  okF : ∀ x ∈ g.full, PyData.strOk x = true
  okD : ∀ x ∈ g.done, PyData.strOk x = true
  okN : ∀ x ∈ g.full, ∀ y ∈ g.nd x, PyData.strOk y = true
  lenF : g.full.length ≤ 60
  lenD : g.done.length ≤ 60
  lenN : ∀ x ∈ g.full, (g.nd x).length ≤ 8
/-- the pairs of a dict with texts as keys -/
def sK (ks : List Str) (f : Str → V) : List (Key × V) := ks.map fun x => (.inr x, f x)
def fset (f : Str → V) (x : Str) (v : V) : Str → V := fun y => if y = x then v else f y
theorem sK_len {ks : List Str} {f : Str → V} : (sK ks f).length = ks.length := by unfold sK; rw [List.length_map]
theorem sK_val {ks : List Str} {f : Str → V} {x : Str} (h : x ∈ ks) : valV (sK ks f) (.inr x) = some (f x) := by
  induction ks with
  | nil => cases h
  | cons y ks ih =>
    by_cases e : y = x
    · subst e
      exact valV_pos (p := ((.inr y : Key), f y)) rfl
    · refine (valV_neg (p := ((.inr y : Key), f y)) fun z => e (by injection z)).trans (ih ?_)
      rcases List.mem_cons.mp h with h | h
      · exact absurd h.symm e
      · exact h
theorem sK_none {ks : List Str} {f : Str → V} {x : Str} (h : x ∉ ks) : valV (sK ks f) (.inr x) = none := by
  induction ks with
  | nil => rfl
  | cons y ks ih =>
    have e : ¬ y = x := fun z => h (by rw [← z]; exact List.mem_cons_self)
    exact (valV_neg (p := ((.inr y : Key), f y)) fun z => e (by injection z)).trans (ih fun z => h (List.mem_cons_of_mem _ z))
theorem sK_is {ks : List Str} {f : Str → V} {x : Str} : (valV (sK ks f) (.inr x)).isSome = decide (x ∈ ks) := by
  by_cases h : x ∈ ks
  · rw [sK_val h, decide_eq_true h]
    rfl
  · rw [sK_none h, decide_eq_false h]
    rfl
theorem sK_congr {ks : List Str} {f g : Str → V} (h : ∀ x ∈ ks, f x = g x) : sK ks f = sK ks g := List.map_congr_left fun x hx => by rw [h x hx]
theorem sK_put {ks : List Str} {f : Str → V} {x : Str} {v : V} (h : x ∉ ks) : putK (sK ks f) (.inr x) v = sK (ks ++ [x]) (fset f x v) := by
  have e : ¬ ((sK ks f).any fun kv => decide (kv.1 = (.inr x : Key))) = true := by
    rw [valV_any, sK_is, decide_eq_false h]
    exact Bool.false_ne_true
  unfold putK
  rw [if_neg e]
  unfold sK
  rw [List.map_append]
  have e1 : fset f x v x = v := if_pos rfl
  rw [List.map_cons, List.map_nil, e1]
  congr 1
  exact sK_congr fun y hy => (if_neg fun z => h (by rw [← z]; exact hy)).symm
theorem sK_put' {ks : List Str} {f : Str → V} {x : Str} {v : V} (h : x ∈ ks) : putK (sK ks f) (.inr x) v = sK ks (fset f x v) := by
  have e : ((sK ks f).any fun kv => decide (kv.1 = (.inr x : Key))) = true := by
    rw [valV_any, sK_is, decide_eq_true h]
  unfold putK
  rw [if_pos e]
  unfold sK
  rw [List.map_map]
  refine List.map_congr_left fun y hy => ?_
  show (if (.inr y : Key) = .inr x then ((.inr y : Key), v) else (.inr y, f y)) = _
  by_cases c : y = x
  · rw [if_pos (by rw [c])]
    exact congrArg _ (if_pos c).symm
  · rw [if_neg fun z => c (by injection z)]
    exact congrArg _ (if_neg c).symm
/-- all but these stand as they stood -/
def SameX (A : List Addr) (H H' : Hp) : Prop := ∀ a, a ∉ A → ∀ o, H a = some o → H' a = some o
theorem Same.but {A : List Addr} {H H' : Hp} (s : Same H H') : SameX A H H' := fun a _ o h => s a o h
theorem SameX.trans {A : List Addr} {H H1 H2 : Hp} (a : SameX A H H1) (b : SameX A H1 H2) : SameX A H H2 := fun c n o h => b c n o (a c n o h)
theorem SameX.mut {A : List Addr} {H : Hp} {p : Addr} {o : HO} (h : p ∈ A) : SameX A H (upd H p o) := fun a n u e => by
  rw [upd_ne (fun z => n (by rw [z]; exact h))]
  exact e
/-- a dict of lists of texts, none of these at A -/
def DictAt (H : Hp) (d : Addr) (ks : List Str) (nd : Str → List Str) (A : List Addr) : Prop :=
  d ∉ A ∧ ∃ ad : Str → Addr, H d = some (.dK (sK ks fun x => .ref (ad x))) ∧ ∀ x ∈ ks, ad x ∉ A ∧ H (ad x) = some (.lst ((nd x).map V.str))
theorem DictAt.but {H H' : Hp} {d : Addr} {ks : List Str} {nd : Str → List Str} {A : List Addr} (s : SameX A H H') (h : DictAt H d ks nd A) : DictAt H' d ks nd A := by
  obtain ⟨n, ad, hd, hl⟩ := h
  exact ⟨n, ad, s _ n _ hd, fun x hx => ⟨(hl x hx).1, s _ (hl x hx).1 _ (hl x hx).2⟩⟩
theorem DictAt.same {H H' : Hp} {d : Addr} {ks : List Str} {nd : Str → List Str} {A : List Addr} (s : Same H H') (h : DictAt H d ks nd A) : DictAt H' d ks nd A := h.but (Same.but s)
theorem DictAt.less {H : Hp} {d : Addr} {ks : List Str} {nd : Str → List Str} {A B : List Addr} (s : ∀ a ∈ B, a ∈ A) (h : DictAt H d ks nd A) : DictAt H d ks nd B := by
  obtain ⟨n, ad, hd, hl⟩ := h
  exact ⟨fun z => n (s _ z), ad, hd, fun x hx => ⟨fun z => (hl x hx).1 (s _ z), (hl x hx).2⟩⟩
theorem DictAt.get {H : Hp} {d : Addr} {ks : List Str} {nd : Str → List Str} {A : List Addr} {x : Str} (h : DictAt H d ks nd A) (hx : x ∈ ks) : ∃ kvs p, H d = some (.dK kvs) ∧ valV kvs (.inr x) = some (.ref p) ∧ H p = some (.lst ((nd x).map V.str)) := by
  obtain ⟨n, ad, hd, hl⟩ := h
  exact ⟨_, ad x, hd, sK_val hx, (hl x hx).2⟩
theorem DictAt.has {H : Hp} {d : Addr} {ks : List Str} {nd : Str → List Str} {A : List Addr} (h : DictAt H d ks nd A) : ∃ kvs, H d = some (.dK kvs) ∧ ∀ x, (valV kvs (.inr x)).isSome = decide (x ∈ ks) := by
  obtain ⟨n, ad, hd, hl⟩ := h
  exact ⟨_, hd, fun x => sK_is⟩
theorem DictAt.neq {K : PySem.W.Frag} {H : Hp} {a b : Addr} {ks : List Str} {nd : Str → List Str} {A B : List Addr} {Q : VK} (h : DictAt H a ks nd A) (h2 : DictAt H b ks nd B) (q : Q (.bl false) H) : vNe K (.ref a) (.ref b) H Q := by
  obtain ⟨_, ad, ha, hl⟩ := h
  obtain ⟨_, bd, hb, hm⟩ := h2
  refine .inr ⟨a, b, _, _, rfl, rfl, ha, hb, by rw [sK_len, sK_len], fun p hp => ?_, q⟩
  obtain ⟨x, hx, rfl⟩ := List.mem_map.mp hp
  refine ⟨_, sK_val hx, .inr (.inr (.inl ⟨_, _, _, _, rfl, rfl, .inl (.inl (hl x hx).2), .inl (.inl (hm x hx).2), ?_⟩))⟩
  generalize nd x = ys
  induction ys with
  | nil => exact .nil
  | cons y ys ih => exact .cons (.inl ⟨rfl, rfl⟩) ih
theorem DictAt.nil {H : Hp} {d : Addr} {nd : Str → List Str} {A : List Addr} (n : d ∉ A) (h : H d = some (.dK [])) : DictAt H d [] nd A := ⟨n, fun _ => d, h, fun x hx => by cases hx⟩
/-- one more key, with a list of its own -/
theorem DictAt.put {H : Hp} {d : Addr} {ks : List Str} {nd : Str → List Str} {A : List Addr} {x : Str} (h : DictAt H d ks nd A) (hx : x ∉ ks) :
    ∃ kvs, H d = some (.dK kvs) ∧ kvs.length = ks.length ∧ ∀ (H' : Hp) (p : Addr), SameX A H H' → p ∉ A → H' p = some (.lst ((nd x).map V.str)) → DictAt (upd H' d (.dK (putK kvs (.inr x) (.ref p)))) d (ks ++ [x]) nd A := by
  obtain ⟨n, ad, e, hl⟩ := h
  refine ⟨_, e, sK_len, fun H' p sm hA hp => ⟨n, fun y => if y = x then p else ad y, ?_, fun y hy => ?_⟩⟩
  · rw [upd_same, sK_put hx]
    congr 2
    refine sK_congr fun y _ => ?_
    unfold fset
    by_cases c : y = x
    · simp [c]
    · simp [c]
  · have e' := sm _ n _ e
    have ne : ∀ a ys, H' a = some (.lst ys) → a ≠ d := fun a ys z w => by
      rw [w, e'] at z
      cases z
    by_cases c : y = x
    · subst c
      show (if y = y then p else ad y) ∉ A ∧ upd H' d _ (if y = y then p else ad y) = _
      rw [if_pos rfl, upd_ne (ne _ _ hp)]
      exact ⟨hA, hp⟩
    · simp only [if_neg c]
      have hy' : y ∈ ks := by
        rcases List.mem_append.mp hy with z | z
        · exact z
        · exact absurd (List.mem_singleton.mp z) c
      have z := sm _ (hl y hy').1 _ (hl y hy').2
      rw [upd_ne (ne _ _ z)]
      exact ⟨(hl y hy').1, z⟩
/-! ### the net of a script: o, m say which cells, n how many names -/
def cellK (o m : Nat) (ns : List Int) (k : Nat) : Int := mixed (cellAt ns (o + k % m)) k
def isF (o m : Nat) (ns : List Int) (k : Nat) : Bool := decide (cellK o m ns k % 6 < 4)
def isD (o m : Nat) (ns : List Int) (k : Nat) : Bool := decide (¬ cellK o m ns k % 6 < 4 ∧ cellK o m ns k % 6 = 4)
def fullN (o m : Nat) (ns : List Int) (n : Nat) : List Str := ((List.range n).filter (isF o m ns)).map fun k => word k (cellAt ns 1)
def doneN (o m : Nat) (ns : List Int) (n : Nat) : List Str := ((List.range n).filter (isD o m ns)).map fun k => word k (cellAt ns 1)
def wordsOf (ns : List Int) (n : Nat) : List Str := wordsN n (cellAt ns 1)
def ndOf (o m : Nat) (ns : List Int) (n : Nat) (x : Str) : List Str := needsOf (cellK o m ns ((wordsOf ns n).idxOf x) / 6) (wordsOf ns n)
def netOf (o m : Nat) (ns : List Int) (n : Nat) : Net := ⟨fullN o m ns n, doneN o m ns n, ndOf o m ns n⟩
theorem idx_word {ns : List Int} {n k : Nat} (hn : n ≤ 676) (hk : k < n) : (wordsOf ns n).idxOf (word k (cellAt ns 1)) = k := by
  have hl : (wordsOf ns n).length = n := wordsN_len _ _
  have e : ∀ j (hj : j < (wordsOf ns n).length), (wordsOf ns n)[j] = word j (cellAt ns 1) := fun j hj => by
    have z : ∀ (j : Nat) (hj : j < ((List.range n).map fun k => word k (cellAt ns 1)).length), ((List.range n).map fun k => word k (cellAt ns 1))[j] = word j (cellAt ns 1) := fun j hj => by
      rw [List.getElem_map, List.getElem_range]
    exact z j hj
  have h1 := List.idxOf_lt_length_of_mem (show word k (cellAt ns 1) ∈ wordsOf ns n from List.mem_map.mpr ⟨k, List.mem_range.mpr hk, rfl⟩)
  have h2 : (wordsOf ns n)[(wordsOf ns n).idxOf (word k (cellAt ns 1))] = word k (cellAt ns 1) := List.getElem_idxOf h1
  rw [e] at h2
  exact word_inj (by omega) (by omega) h2
theorem fullN_succ {o m : Nat} {ns : List Int} {n : Nat} : fullN o m ns (n + 1) = fullN o m ns n ++ (if isF o m ns n = true then [word n (cellAt ns 1)] else []) := by
  unfold fullN
  rw [List.range_succ, List.filter_append, List.map_append]
  congr 1
  by_cases c : isF o m ns n = true
  · rw [if_pos c, List.filter_cons_of_pos c]
    rfl
  · rw [if_neg c, List.filter_cons_of_neg c]
    rfl
theorem doneN_succ {o m : Nat} {ns : List Int} {n : Nat} : doneN o m ns (n + 1) = doneN o m ns n ++ (if isD o m ns n = true then [word n (cellAt ns 1)] else []) := by
  unfold doneN
  rw [List.range_succ, List.filter_append, List.map_append]
  congr 1
  by_cases c : isD o m ns n = true
  · rw [if_pos c, List.filter_cons_of_pos c]
    rfl
  · rw [if_neg c, List.filter_cons_of_neg c]
    rfl
theorem fullN_mem {o m : Nat} {ns : List Int} {n : Nat} {x : Str} : x ∈ fullN o m ns n ↔ ∃ k, k < n ∧ isF o m ns k = true ∧ x = word k (cellAt ns 1) := by
  unfold fullN
  rw [List.mem_map]
  constructor
  · rintro ⟨k, hk, rfl⟩
    obtain ⟨h1, h2⟩ := List.mem_filter.mp hk
    exact ⟨k, List.mem_range.mp h1, h2, rfl⟩
  · rintro ⟨k, h1, h2, rfl⟩
    exact ⟨k, List.mem_filter.mpr ⟨List.mem_range.mpr h1, h2⟩, rfl⟩
theorem doneN_mem {o m : Nat} {ns : List Int} {n : Nat} {x : Str} : x ∈ doneN o m ns n ↔ ∃ k, k < n ∧ isD o m ns k = true ∧ x = word k (cellAt ns 1) := by
  unfold doneN
  rw [List.mem_map]
  constructor
  · rintro ⟨k, hk, rfl⟩
    obtain ⟨h1, h2⟩ := List.mem_filter.mp hk
    exact ⟨k, List.mem_range.mp h1, h2, rfl⟩
  · rintro ⟨k, h1, h2, rfl⟩
    exact ⟨k, List.mem_filter.mpr ⟨List.mem_range.mpr h1, h2⟩, rfl⟩
theorem word_fresh {o m : Nat} {ns : List Int} {n : Nat} (hn : n < 676) : word n (cellAt ns 1) ∉ fullN o m ns n := fun h => by
  obtain ⟨k, hk, _, e⟩ := fullN_mem.mp h
  have := word_inj (by omega) (by omega) e
  omega
theorem word_in {ns : List Int} {n k : Nat} (h : k < n) : word k (cellAt ns 1) ∈ wordsOf ns n := List.mem_map.mpr ⟨k, List.mem_range.mpr h, rfl⟩
theorem fullN_sub {o m : Nat} {ns : List Int} {n : Nat} {x : Str} (h : x ∈ fullN o m ns n) : x ∈ wordsOf ns n := by
  obtain ⟨k, hk, _, rfl⟩ := fullN_mem.mp h
  exact word_in hk
theorem fullN_len {o m : Nat} {ns : List Int} {n : Nat} : (fullN o m ns n).length ≤ n := by
  unfold fullN
  rw [List.length_map]
  exact Nat.le_trans (List.length_filter_le _ _) (by rw [List.length_range]; exact Nat.le_refl _)
theorem doneN_len {o m : Nat} {ns : List Int} {n : Nat} : (doneN o m ns n).length ≤ n := by
  unfold doneN
  rw [List.length_map]
  exact Nat.le_trans (List.length_filter_le _ _) (by rw [List.length_range]; exact Nat.le_refl _)
theorem ndOf_word {o m : Nat} {ns : List Int} {n k : Nat} (hn : n ≤ 676) (hk : k < n) : ndOf o m ns n (word k (cellAt ns 1)) = needsOf (cellK o m ns k / 6) (wordsOf ns n) := by
  unfold ndOf
  rw [idx_word hn hk]
theorem ndOf_len {o m : Nat} {ns : List Int} {n : Nat} {x : Str} : (ndOf o m ns n x).length ≤ 8 := by
  unfold ndOf needsOf
  rw [needsL_len]
  exact sizeOf_le _
theorem ndOf_sub {o m : Nat} {ns : List Int} {n : Nat} {x y : Str} (h0 : 0 < n) (h : y ∈ ndOf o m ns n x) : y ∈ wordsOf ns n :=
  needs_mem (by rw [show (wordsOf ns n).length = n from wordsN_len _ _]; exact h0) h
theorem netOf_ok {o m : Nat} {ns : List Int} {n : Nat} (h0 : 0 < n) (hn : n ≤ 60) : (netOf o m ns n).Ok where
  nodup := by
    show (fullN o m ns n).Nodup
    unfold fullN
    rw [List.nodup_iff_pairwise_ne, List.pairwise_map]
    refine List.Pairwise.imp_of_mem ?_ (List.Pairwise.filter _ List.nodup_range)
    intro i j hi hj ne e
    have := List.mem_range.mp (List.mem_filter.mp hi).1
    have := List.mem_range.mp (List.mem_filter.mp hj).1
    exact ne (word_inj (by omega) (by omega) e)
  apart := fun x hx hd => by
    obtain ⟨k, hk, h1, rfl⟩ := fullN_mem.mp hx
    obtain ⟨j, hj, h2, e⟩ := doneN_mem.mp hd
    have ej : k = j := word_inj (by omega) (by omega) e
    subst ej
    unfold isF at h1
    unfold isD at h2
    exact (of_decide_eq_true h2).1 (of_decide_eq_true h1)
  okF := fun x hx => wordsN_ok (fullN_sub hx)
  okD := fun x hx => by
    obtain ⟨j, hj, h2, rfl⟩ := doneN_mem.mp hx
    exact word_ok _ _
  okN := fun x hx y hy => wordsN_ok (ndOf_sub h0 hy)
  lenF := Nat.le_trans fullN_len hn
  lenD := Nat.le_trans doneN_len hn
  lenN := fun x hx => ndOf_len
theorem sub_step {full rest : List Str} {x : Str} {k : Nat} (h : (x :: rest).Sublist (full.drop k)) : x ∈ full.drop k ∧ full.idxOf x < full.length ∧ rest.Sublist (full.drop (full.idxOf x + 1)) := by
  obtain ⟨r1, r2, e, hx, hr⟩ := List.cons_sublist_iff.mp h
  have h2 : full = full.take k ++ r1 ++ r2 := by rw [List.append_assoc, ← e, List.take_append_drop]
  have hm : x ∈ full.take k ++ r1 := List.mem_append_right _ hx
  have hf : x ∈ full := List.mem_of_mem_drop (by rw [e]; exact List.mem_append_left _ hx)
  refine ⟨by rw [e]; exact List.mem_append_left _ hx, List.idxOf_lt_length_of_mem hf, ?_⟩
  generalize full.take k ++ r1 = a at h2 hm
  subst h2
  have lt : (a ++ r2).idxOf x < a.length := by
    rw [List.idxOf_append, if_pos hm]
    exact List.idxOf_lt_length_of_mem hm
  refine List.Sublist.trans hr ?_
  have e2 : r2 = (a ++ r2).drop a.length := by rw [List.drop_left]
  rw [e2]
  conv => rhs; rw [List.drop_left]
  exact List.drop_sublist_drop_left _ (by omega)
/-! ### the greatest set that can be done -/
namespace Net
def met (g : Net) (S : List Str) (x : Str) : Bool := decide (∀ y ∈ g.nd x, y ∈ S ∨ y ∈ g.done)
def cutN (g : Net) : Nat → List Str
  | 0 => g.full
  | n + 1 => (g.cutN n).filter (g.met (g.cutN n))
def great (g : Net) : List Str := g.cutN g.full.length
variable {g : Net}
theorem cutN_sub (n : Nat) : (g.cutN n).Sublist g.full := by
  induction n with
  | zero => exact List.Sublist.refl _
  | succ n ih => exact List.Sublist.trans List.filter_sublist ih
theorem cutN_stop {n : Nat} (h : (g.cutN (n + 1)).length = (g.cutN n).length) : ∀ k, g.cutN (n + k) = g.cutN n := by
  have e : g.cutN (n + 1) = g.cutN n := List.Sublist.eq_of_length List.filter_sublist h
  intro k
  induction k with
  | zero => rfl
  | succ k ih =>
    show (g.cutN (n + k)).filter (g.met (g.cutN (n + k))) = _
    rw [ih]
    exact e
theorem cutN_len : ∀ n, (∃ k, k < n ∧ g.cutN (k + 1) = g.cutN k) ∨ (g.cutN n).length + n ≤ g.full.length
  | 0 => .inr (Nat.le_refl _)
  | n + 1 => by
    rcases cutN_len n with ⟨k, hk, e⟩ | h
    · exact .inl ⟨k, by omega, e⟩
    · by_cases c : g.cutN (n + 1) = g.cutN n
      · exact .inl ⟨n, by omega, c⟩
      · have le : (g.cutN (n + 1)).length ≤ (g.cutN n).length := List.length_filter_le _ _
        have ne : (g.cutN (n + 1)).length ≠ (g.cutN n).length := fun z => c (List.Sublist.eq_of_length List.filter_sublist z)
        exact .inr (by omega)
theorem great_fix : g.great.filter (g.met g.great) = g.great := by
  unfold great
  rcases cutN_len (g := g) (g.full.length + 1) with ⟨k, hk, e⟩ | h
  · have s := cutN_stop (n := k) (congrArg List.length e) (g.full.length - k)
    have ek : k + (g.full.length - k) = g.full.length := by omega
    rw [ek] at s
    rw [s]
    exact e
  · omega
/-- what is reached when nothing is cut any more is the greatest -/
theorem great_of {n : Nat} (h : (g.cutN (n + 1)).length = (g.cutN n).length) : g.cutN n = g.great := by
  unfold great
  rcases Nat.le_total n g.full.length with c | c
  · have := cutN_stop h (g.full.length - n)
    rw [show n + (g.full.length - n) = g.full.length from by omega] at this
    exact this.symm
  · have f : (g.cutN (g.full.length + 1)).length = (g.cutN g.full.length).length := congrArg List.length great_fix
    have := cutN_stop f (n - g.full.length)
    rw [show g.full.length + (n - g.full.length) = n from by omega] at this
    exact this
theorem great_sub : g.great.Sublist g.full := cutN_sub _
theorem great_met {x : Str} (hx : x ∈ g.great) : ∀ y ∈ g.nd x, y ∈ g.great ∨ y ∈ g.done := by
  rw [← great_fix] at hx
  exact of_decide_eq_true (List.mem_filter.mp hx).2
/-- each set that can be done lies in it -/
theorem great_all {S : Str → Prop} (hS : ∀ x, S x → x ∈ g.full ∧ ∀ y ∈ g.nd x, S y ∨ y ∈ g.done) {x : Str} (hx : S x) : x ∈ g.great := by
  have : ∀ n x, S x → x ∈ g.cutN n := fun n => by
    induction n with
    | zero => exact fun x hx => (hS x hx).1
    | succ n ih =>
      intro x hx
      refine List.mem_filter.mpr ⟨ih x hx, decide_eq_true fun y hy => ?_⟩
      rcases (hS x hx).2 y hy with z | z
      · exact .inl (ih y z)
      · exact .inr z
  exact this _ x hx
end Net

/-! ### the ways -/
namespace Net
def lack (g : Net) (x : Str) : Bool := decide (x ∉ g.full ∧ x ∉ g.done)
/-- within n steps of one that lacks -/
def near (g : Net) : Nat → Str → Bool
  | 0, x => g.lack x
  | n + 1, x => g.near n x || (decide (x ∈ g.full) && (g.nd x).any (g.near n))
def way (g : Net) : Nat → Str → List Str
  | 0, x => [x]
  | n + 1, x => if g.near n x = true then g.way n x else x :: (match (g.nd x).find? (g.near n) with
    | some y => g.way n y
    | none => [])
def chain (g : Net) (x : Str) : List Str := if g.near g.full.length x = true then g.way g.full.length x else []
/-- a way by needs, through full ones, to one that is neither full nor done -/
inductive Walk (g : Net) : List Str → Prop
  | last {x : Str} : x ∉ g.full → x ∉ g.done → Walk g [x]
  | step {x y : Str} {l : List Str} : x ∈ g.full → y ∈ g.nd x → Walk g (y :: l) → Walk g (x :: y :: l)
variable {g : Net}
theorem near_up {x : Str} : ∀ {n m : Nat}, n ≤ m → g.near n x = true → g.near m x = true := by
  intro n m h
  induction m with
  | zero => intro z; rw [Nat.le_zero.mp h] at z; exact z
  | succ m ih =>
    intro z
    rcases Nat.lt_or_ge n (m + 1) with c | c
    · show (g.near m x || _) = true
      rw [ih (by omega) z]
      rfl
    · rw [Nat.le_antisymm h c] at z
      exact z
theorem near_out {x : Str} (h : x ∉ g.full) : ∀ n, g.near n x = g.lack x
  | 0 => rfl
  | n + 1 => by
    show (g.near n x || (decide (x ∈ g.full) && _)) = _
    rw [near_out h n, decide_eq_false h, Bool.false_and, Bool.or_false]
theorem way_walk : ∀ n x, g.near n x = true → ∃ l, g.way n x = x :: l ∧ Walk g (x :: l)
  | 0, x, h => ⟨[], rfl, .last (of_decide_eq_true h).1 (of_decide_eq_true h).2⟩
  | n + 1, x, h => by
    by_cases c : g.near n x = true
    · obtain ⟨l, e, w⟩ := way_walk n x c
      exact ⟨l, by rw [way, if_pos c]; exact e, w⟩
    · have h2 : (g.near n x || (decide (x ∈ g.full) && (g.nd x).any (g.near n))) = true := h
      rw [Bool.not_eq_true] at c
      rw [c, Bool.false_or, Bool.and_eq_true] at h2
      obtain ⟨hf, ha⟩ := h2
      obtain ⟨y0, hy0, hn0⟩ := List.any_eq_true.mp ha
      cases hfd : (g.nd x).find? (g.near n) with
      | none => exact absurd hn0 (List.find?_eq_none.mp hfd y0 hy0)
      | some y =>
        have hn := List.find?_some hfd
        obtain ⟨l, e, w⟩ := way_walk n y hn
        refine ⟨y :: l, ?_, .step (of_decide_eq_true hf) (List.mem_of_find?_eq_some hfd) w⟩
        rw [way, if_neg (by rw [c]; exact Bool.false_ne_true), hfd, ← e]
theorem chain_out {x : Str} (h : x ∉ g.full) : g.chain x = if x ∈ g.done then [] else [x] := by
  have hw : ∀ n, g.near n x = true → g.way n x = [x] := fun n => by
    induction n with
    | zero => exact fun _ => rfl
    | succ n ih =>
      intro z
      have z2 : g.near n x = true := by rw [near_out h n, ← near_out h (n + 1)]; exact z
      rw [way, if_pos z2]
      exact ih z2
  unfold chain
  by_cases c : x ∈ g.done
  · have : g.near g.full.length x = false := by
      rw [near_out h]
      exact decide_eq_false fun z => z.2 c
    rw [this, if_neg Bool.false_ne_true, if_pos c]
  · have : g.near g.full.length x = true := by
      rw [near_out h]
      exact decide_eq_true ⟨h, c⟩
    rw [if_pos this, if_neg c]
    exact hw _ this
theorem chain_walk (x : Str) : g.chain x = [] ∨ ∃ l, g.chain x = x :: l ∧ Walk g (x :: l) := by
  unfold chain
  by_cases c : g.near g.full.length x = true
  · rw [if_pos c]
    exact .inr (way_walk _ x c)
  · rw [if_neg c]
    exact .inl rfl
theorem Walk.at {l : List Str} (w : Walk g l) : ∀ {i : Nat} {x y : Str}, l[i]? = some x → l[i + 1]? = some y → x ∈ g.full ∧ y ∈ g.nd x := by
  induction w with
  | last _ _ => intro i x y _ h2; cases h2
  | step hx hy _ ih =>
    intro i a b h1 h2
    cases i with
    | zero =>
      cases h1
      cases h2
      exact ⟨hx, hy⟩
    | succ i => exact ih h1 h2
theorem Walk.end {l : List Str} (w : Walk g l) : ∀ {x : Str}, l[l.length - 1]? = some x → x ∉ g.full ∧ x ∉ g.done := by
  induction w with
  | last h1 h2 => intro x h; cases h; exact ⟨h1, h2⟩
  | step hx hy _ ih =>
    intro a h
    exact ih h
theorem Walk.ne {l : List Str} (w : Walk g l) : l ≠ [] := by cases w <;> exact fun z => by cases z
theorem Walk.ok (o : g.Ok) {l : List Str} (w : Walk g l) : ∀ {x : Str} {r : List Str}, l = x :: r → PyData.strOk x = true → ∀ y ∈ l, PyData.strOk y = true := by
  induction w with
  | last _ _ =>
    intro x r e h y hy
    cases e
    rw [List.mem_singleton.mp hy]
    exact h
  | step hx hn _ ih =>
    intro x r e h y hy
    injection e with e1 e2
    subst e1
    rcases List.mem_cons.mp hy with z | z
    · rw [z]
      exact h
    · exact ih rfl (o.okN _ hx _ hn) y z
theorem chain_ok (o : g.Ok) {x : Str} (h : PyData.strOk x = true) : ∀ y ∈ g.chain x, PyData.strOk y = true := by
  rcases chain_walk (g := g) x with e | ⟨r, e, w⟩
  · rw [e]
    exact fun _ z => by cases z
  · rw [e]
    exact w.ok o rfl h
theorem filt_mono {p q : Str → Bool} : ∀ {l : List Str}, (∀ x ∈ l, p x = true → q x = true) → (l.filter p).length ≤ (l.filter q).length ∧ ((l.filter q).length ≤ (l.filter p).length → ∀ x ∈ l, q x = true → p x = true) := by
  intro l
  induction l with
  | nil => exact fun _ => ⟨Nat.le_refl _, fun _ x hx => by cases hx⟩
  | cons a l ih =>
    intro h
    obtain ⟨h1, h2⟩ := ih fun x hx => h x (List.mem_cons_of_mem _ hx)
    by_cases cq : q a = true
    · by_cases cp : p a = true
      · rw [List.filter_cons_of_pos cq, List.filter_cons_of_pos cp]
        refine ⟨Nat.succ_le_succ h1, fun le x hx hq => ?_⟩
        rcases List.mem_cons.mp hx with e | e
        · rw [e]
          exact cp
        · exact h2 (Nat.le_of_succ_le_succ le) x e hq
      · rw [List.filter_cons_of_pos cq, List.filter_cons_of_neg cp]
        exact ⟨Nat.le_succ_of_le h1, fun le => absurd (Nat.lt_of_lt_of_le (Nat.lt_succ_of_le h1) le) (Nat.lt_irrefl _)⟩
    · have cp : ¬ p a = true := fun z => cq (h a List.mem_cons_self z)
      rw [List.filter_cons_of_neg cq, List.filter_cons_of_neg cp]
      refine ⟨h1, fun le x hx hq => ?_⟩
      rcases List.mem_cons.mp hx with e | e
      · rw [e] at hq
        exact absurd hq cq
      · exact h2 le x e hq
theorem near_step {n : Nat} (h : ∀ x, g.near (n + 1) x = g.near n x) : ∀ k x, g.near (n + k) x = g.near n x
  | 0, _ => rfl
  | k + 1, x => by
    have e : ∀ y, g.near (n + k) y = g.near n y := near_step h k
    have : g.near (n + k + 1) x = g.near (n + 1) x := by
      show (g.near (n + k) x || (decide (x ∈ g.full) && (g.nd x).any (g.near (n + k)))) = (g.near n x || (decide (x ∈ g.full) && (g.nd x).any (g.near n)))
      rw [funext e]
    exact this.trans (h x)
theorem near_len : ∀ n, (∃ k, k < n ∧ ∀ x, g.near (k + 1) x = g.near k x) ∨ n ≤ (g.full.filter (g.near n)).length
  | 0 => .inr (Nat.zero_le _)
  | n + 1 => by
    rcases near_len n with ⟨k, hk, e⟩ | h
    · exact .inl ⟨k, by omega, e⟩
    · obtain ⟨h1, h2⟩ := filt_mono (p := g.near n) (q := g.near (n + 1)) (l := g.full) fun x _ z => near_up (Nat.le_succ n) z
      by_cases c : (g.full.filter (g.near (n + 1))).length ≤ (g.full.filter (g.near n)).length
      · refine .inl ⟨n, by omega, fun x => ?_⟩
        by_cases m : x ∈ g.full
        · cases z : g.near n x with
          | true => exact near_up (Nat.le_succ n) z
          | false =>
            cases z2 : g.near (n + 1) x with
            | false => rfl
            | true => exact absurd (h2 c x m z2) (by rw [z]; exact Bool.false_ne_true)
        · rw [near_out m, near_out m]
      · exact .inr (by omega)
/-- no more steps than there are full names are of use -/
theorem near_stop (k : Nat) (x : Str) : g.near (g.full.length + k) x = g.near g.full.length x := by
  rcases near_len (g := g) (g.full.length + 1) with ⟨j, hj, e⟩ | h
  · have s := near_step e
    have e1 := s (g.full.length + k - j) x
    have e2 := s (g.full.length - j) x
    rw [show j + (g.full.length + k - j) = g.full.length + k from by omega] at e1
    rw [show j + (g.full.length - j) = g.full.length from by omega] at e2
    rw [e1, e2]
  · have := List.length_filter_le (g.near (g.full.length + 1)) g.full
    omega
theorem near_not {x : Str} (o : g.Ok) : ∀ {n : Nat}, g.near n x = true → x ∉ g.great := by
  intro n
  induction n generalizing x with
  | zero => exact fun h m => (of_decide_eq_true h).1 (List.Sublist.mem m great_sub)
  | succ n ih =>
    intro h m
    have hf := List.Sublist.mem m great_sub
    have h2 : (g.near n x || (decide (x ∈ g.full) && (g.nd x).any (g.near n))) = true := h
    rcases Bool.or_eq_true _ _ ▸ h2 with z | z
    · exact ih z m
    · obtain ⟨y, hy, hn⟩ := List.any_eq_true.mp (Bool.and_eq_true _ _ ▸ z).2
      rcases great_met m y hy with a | a
      · exact ih hn a
      · have nf : y ∉ g.full := fun z => o.apart y z a
        rw [near_out nf] at hn
        exact (of_decide_eq_true hn).2 a
/-- the names that can be done are those from which no way leads out -/
theorem great_iff (o : g.Ok) {x : Str} (hx : x ∈ g.full) : x ∈ g.great ↔ g.near g.full.length x = false := by
  constructor
  · intro h
    cases z : g.near g.full.length x with
    | false => rfl
    | true => exact absurd h (near_not o z)
  · intro h
    refine great_all (S := fun y => y ∈ g.full ∧ g.near g.full.length y = false) (fun y hy => ⟨hy.1, fun u hu => ?_⟩) ⟨hx, h⟩
    have e : g.near (g.full.length + 1) y = false := by rw [near_stop]; exact hy.2
    have e2 : (g.near g.full.length y || (decide (y ∈ g.full) && (g.nd y).any (g.near g.full.length))) = false := e
    rw [hy.2, decide_eq_true hy.1, Bool.false_or, Bool.true_and, List.any_eq_false] at e2
    have hu2 := e2 u hu
    rw [Bool.not_eq_true] at hu2
    by_cases m : u ∈ g.full
    · exact .inl ⟨m, hu2⟩
    · rw [near_out m] at hu2
      have := of_decide_eq_false hu2
      exact .inr (Decidable.byContradiction fun z => this ⟨m, z⟩)
theorem chain_nil_iff (o : g.Ok) {x : Str} (hx : x ∈ g.full) : g.chain x = [] ↔ x ∈ g.great := by
  rw [great_iff o hx]
  unfold chain
  by_cases c : g.near g.full.length x = true
  · rw [if_pos c]
    obtain ⟨l, e, _⟩ := way_walk _ x c
    rw [e]
    exact ⟨fun z => (by cases z), fun z => (by rw [c] at z; cases z)⟩
  · rw [if_neg c]
    exact ⟨fun _ => (by simpa using c), fun _ => rfl⟩
theorem way_len : ∀ n x, (g.way n x).length ≤ n + 1
  | 0, _ => Nat.le_refl _
  | n + 1, x => by
    rw [way]
    split
    · exact Nat.le_succ_of_le (way_len n x)
    · split
      · exact Nat.succ_le_succ (way_len n _)
      · exact Nat.succ_le_succ (Nat.zero_le _)
theorem chain_len (x : Str) : (g.chain x).length ≤ g.full.length + 1 := by
  unfold chain
  split
  · exact way_len _ _
  · exact Nat.zero_le _
/-- how many steps it takes, when it takes at most n -/
def dst (g : Net) : Nat → Str → Nat
  | 0, _ => 0
  | n + 1, x => if g.near n x = true then g.dst n x else n + 1
theorem dst_le : ∀ n x, g.dst n x ≤ n
  | 0, _ => Nat.le_refl _
  | n + 1, x => by
    rw [dst]
    split
    · exact Nat.le_succ_of_le (dst_le n x)
    · exact Nat.le_refl _
theorem dst_near : ∀ {n x}, g.near n x = true → ∀ m, g.near m x = true ↔ g.dst n x ≤ m
  | 0, x, h, m => ⟨fun _ => Nat.zero_le _, fun _ => near_up (Nat.zero_le m) h⟩
  | n + 1, x, h, m => by
    rw [dst]
    split
    · rename_i c
      exact dst_near c m
    · rename_i c
      constructor
      · intro z
        rcases Nat.lt_or_ge m (n + 1) with l | l
        · exact absurd (near_up (Nat.le_of_lt_succ l) z) c
        · exact l
      · exact fun z => near_up z h
theorem dst_up {n m : Nat} {x : Str} (h : g.near n x = true) (l : n ≤ m) : g.dst m x = g.dst n x := by
  have h2 := near_up l h
  have a := (dst_near h (g.dst m x)).mp ((dst_near h2 _).mpr (Nat.le_refl _))
  have b := (dst_near h2 (g.dst n x)).mp ((dst_near h _).mpr (Nat.le_refl _))
  omega
/-- in front of a way stands the name, behind it a way from the first need that is one step nearer -/
theorem way_cons : ∀ n x, g.near n x = true → (g.dst n x = 0 ∧ g.way n x = [x]) ∨
    ∃ y d, g.dst n x = d + 1 ∧ x ∈ g.full ∧ y ∈ g.nd x ∧ g.near n y = true ∧ g.dst n y = d ∧ ((g.nd x).filter fun z => g.near n z && decide (g.dst n z = d)).head? = some y ∧ g.way n x = x :: g.way n y
  | 0, x, h => .inl ⟨rfl, rfl⟩
  | n + 1, x, h => by
    by_cases c : g.near n x = true
    · rcases way_cons n x c with ⟨e1, e2⟩ | ⟨y, d, e1, e2, e3, e4, e5, e6, e7⟩
      · refine .inl ⟨?_, ?_⟩
        · rw [dst, if_pos c]; exact e1
        · rw [way, if_pos c]; exact e2
      · refine .inr ⟨y, d, ?_, e2, e3, near_up (Nat.le_succ n) e4, ?_, ?_, ?_⟩
        · rw [dst, if_pos c]; exact e1
        · rw [dst_up e4 (Nat.le_succ n)]; exact e5
        · rw [← e6]
          congr 1
          refine List.filter_congr fun z hz => ?_
          have hd : d ≤ n := by have := dst_le (g := g) n x; omega
          cases hz2 : g.near n z with
          | true => rw [near_up (Nat.le_succ n) hz2, dst_up hz2 (Nat.le_succ n)]
          | false =>
            rw [Bool.false_and]
            cases hz3 : g.near (n + 1) z with
            | false => rfl
            | true =>
              rw [dst, if_neg (by rw [hz2]; exact Bool.false_ne_true), Bool.true_and]
              exact decide_eq_false (by omega)
        · rw [way, if_pos c, way, if_pos e4]; exact e7
    · have h2 : (g.near n x || (decide (x ∈ g.full) && (g.nd x).any (g.near n))) = true := h
      have cf : g.near n x = false := by rw [← Bool.not_eq_true]; exact c
      rw [cf, Bool.false_or, Bool.and_eq_true] at h2
      obtain ⟨hf, ha⟩ := h2
      obtain ⟨y0, hy0, hn0⟩ := List.any_eq_true.mp ha
      cases hfd : (g.nd x).find? (g.near n) with
      | none => exact absurd hn0 (List.find?_eq_none.mp hfd y0 hy0)
      | some y =>
        have hn := List.find?_some hfd
        have dz : ∀ z ∈ g.nd x, g.near n z = true → g.dst n z = n := fun z hz hnz => by
          have l := dst_le (g := g) n z
          rcases Nat.lt_or_ge (g.dst n z) n with lt | ge
          · exfalso
            obtain ⟨m, rfl⟩ : ∃ m, n = m + 1 := ⟨n - 1, by omega⟩
            have nz : g.near m z = true := (dst_near hnz m).mpr (by omega)
            refine c ?_
            show (g.near m x || (decide (x ∈ g.full) && (g.nd x).any (g.near m))) = true
            rw [hf, Bool.true_and, Bool.or_eq_true]
            exact .inr (List.any_eq_true.mpr ⟨z, hz, nz⟩)
          · omega
        have hym := List.mem_of_find?_eq_some hfd
        refine .inr ⟨y, n, ?_, of_decide_eq_true hf, hym, near_up (Nat.le_succ n) hn, ?_, ?_, ?_⟩
        · rw [dst, if_neg c]
        · rw [dst_up hn (Nat.le_succ n)]; exact dz y hym hn
        · rw [← hfd, ← List.head?_filter]
          congr 1
          refine List.filter_congr fun z hz => ?_
          cases hz2 : g.near n z with
          | true =>
            rw [near_up (Nat.le_succ n) hz2, dst_up hz2 (Nat.le_succ n), dz z hz hz2]
            simp
          | false =>
            cases hz3 : g.near (n + 1) z with
            | false => rfl
            | true =>
              rw [dst, if_neg (by rw [hz2]; exact Bool.false_ne_true), Bool.true_and]
              exact decide_eq_false (by omega)
        · rw [way, if_neg c, hfd, way, if_pos hn]
theorem way_dst : ∀ (k n : Nat) (x : Str), g.near n x = true → g.dst n x = k → (g.way n x).length = k + 1
  | 0, n, x, h, e => by
    rcases way_cons n x h with ⟨_, e2⟩ | ⟨y, d, e1, _⟩
    · rw [e2]; rfl
    · omega
  | k + 1, n, x, h, e => by
    rcases way_cons n x h with ⟨e1, _⟩ | ⟨y, d, e1, _, _, e4, e5, _, e7⟩
    · omega
    · rw [e7, List.length_cons, way_dst k n y e4 (by omega)]
theorem way_up {x : Str} : ∀ {n m : Nat}, n ≤ m → g.near n x = true → g.way m x = g.way n x := by
  intro n m l h
  induction m with
  | zero => rw [Nat.le_zero.mp l]
  | succ m ih =>
    rcases Nat.lt_or_ge n (m + 1) with c | c
    · rw [way, if_pos (near_up (Nat.le_of_lt_succ c) h)]
      exact ih (Nat.le_of_lt_succ c)
    · rw [Nat.le_antisymm l c]
theorem chain_at {x : Str} {m : Nat} (l : g.full.length ≤ m) : g.chain x = if g.near m x = true then g.way m x else [] := by
  have e : g.near m x = g.near g.full.length x := by
    have := near_stop (g := g) (m - g.full.length) x
    rw [show g.full.length + (m - g.full.length) = m from by omega] at this
    exact this
  unfold chain
  rw [e]
  by_cases c : g.near g.full.length x = true
  · rw [if_pos c, if_pos c, way_up l c]
  · rw [if_neg c, if_neg c]
end Net

/-! ### needs the other way round -/
abbrev Turn := List Str × (Str → List Str)
def addP (s : Turn) (p : Str × Str) : Turn := (if p.1 ∈ s.1 then s.1 else s.1 ++ [p.1], fun y => if y = p.1 then s.2 y ++ [p.2] else s.2 y)
def pairsOf (ks : List Str) (nd : Str → List Str) : List (Str × Str) := ks.flatMap fun x => (nd x).map fun y => (y, x)
def turned (l : List (Str × Str)) : Turn := l.foldl addP ([], fun _ => [])
theorem turned_snoc (l : List (Str × Str)) (p : Str × Str) : turned (l ++ [p]) = addP (turned l) p := by
  unfold turned
  rw [List.foldl_append]
  rfl
/-- a list by its last: for inductions -/
theorem snoc_ind {α : Type} {P : List α → Prop} (h0 : P []) (h1 : ∀ l a, P l → P (l ++ [a])) : ∀ l, P l := fun l => by
  have : ∀ n (l : List α), l.length = n → P l := fun n => by
    induction n with
    | zero => intro l h; rw [List.eq_nil_of_length_eq_zero h]; exact h0
    | succ n ih =>
      intro l h
      have ne : l ≠ [] := fun e => by rw [e] at h; cases h
      rw [← List.dropLast_concat_getLast ne]
      exact h1 _ _ (ih _ (by rw [List.length_dropLast]; omega))
  exact this _ l rfl
theorem turned_val (l : List (Str × Str)) : ∀ {x y : Str}, x ∈ (turned l).2 y ↔ (y, x) ∈ l := by
  refine snoc_ind (P := fun l => ∀ {x y : Str}, x ∈ (turned l).2 y ↔ (y, x) ∈ l) ?_ ?_ l
  · intro x y
    exact ⟨fun z => (by cases z), fun z => (by cases z)⟩
  · rintro l ⟨p1, p2⟩ ih x y
    rw [turned_snoc]
    show x ∈ (if y = p1 then (turned l).2 y ++ [p2] else (turned l).2 y) ↔ _
    rw [List.mem_append, List.mem_singleton, Prod.mk.injEq]
    by_cases c : y = p1
    · rw [if_pos c, List.mem_append, List.mem_singleton, ih]
      exact ⟨fun z => z.elim .inl fun z => .inr ⟨c, z⟩, fun z => z.elim .inl fun z => .inr z.2⟩
    · rw [if_neg c, ih]
      exact ⟨.inl, fun z => z.elim id fun z => absurd z.1 c⟩
theorem turned_key (l : List (Str × Str)) : ∀ {y : Str}, y ∈ (turned l).1 ↔ ∃ x, (y, x) ∈ l := by
  refine snoc_ind (P := fun l => ∀ {y : Str}, y ∈ (turned l).1 ↔ ∃ x, (y, x) ∈ l) ?_ ?_ l
  · intro y
    exact ⟨fun z => (by cases z), fun ⟨_, z⟩ => (by cases z)⟩
  · rintro l ⟨p1, p2⟩ ih y
    rw [turned_snoc]
    show y ∈ (if p1 ∈ (turned l).1 then (turned l).1 else (turned l).1 ++ [p1]) ↔ _
    constructor
    · intro z
      have : y ∈ (turned l).1 ∨ y = p1 := by
        split at z
        · exact .inl z
        · rcases List.mem_append.mp z with z | z
          · exact .inl z
          · exact .inr (List.mem_singleton.mp z)
      rcases this with z | z
      · obtain ⟨x, hx⟩ := ih.mp z
        exact ⟨x, List.mem_append_left _ hx⟩
      · exact ⟨p2, List.mem_append_right _ (by rw [z]; exact List.mem_singleton_self _)⟩
    · rintro ⟨x, hx⟩
      have : y ∈ (turned l).1 ∨ y = p1 := by
        rcases List.mem_append.mp hx with z | z
        · exact .inl (ih.mpr ⟨x, z⟩)
        · rw [List.mem_singleton, Prod.mk.injEq] at z
          exact .inr z.1
      split
      · rename_i c
        rcases this with z | z
        · exact z
        · rw [z]; exact c
      · rcases this with z | z
        · exact List.mem_append_left _ z
        · rw [z]; exact List.mem_append_right _ (List.mem_singleton_self _)
theorem turned_len (l : List (Str × Str)) : (turned l).1.length ≤ l.length ∧ ∀ y, ((turned l).2 y).length ≤ l.length := by
  refine snoc_ind (P := fun l => (turned l).1.length ≤ l.length ∧ ∀ y, ((turned l).2 y).length ≤ l.length) ?_ ?_ l
  · exact ⟨Nat.le_refl _, fun _ => Nat.le_refl _⟩
  · rintro l ⟨p1, p2⟩ ⟨h1, h2⟩
    rw [turned_snoc, List.length_append]
    refine ⟨?_, fun y => ?_⟩
    · show (if p1 ∈ (turned l).1 then (turned l).1 else (turned l).1 ++ [p1]).length ≤ _
      split
      · exact Nat.le_succ_of_le h1
      · rw [List.length_append]
        exact Nat.succ_le_succ h1
    · show (if y = p1 then (turned l).2 y ++ [p2] else (turned l).2 y).length ≤ _
      have := h2 y
      split
      · rw [List.length_append]
        exact Nat.succ_le_succ this
      · exact Nat.le_succ_of_le this
theorem pairs_mem {ks : List Str} {nd : Str → List Str} {x y : Str} : (y, x) ∈ pairsOf ks nd ↔ x ∈ ks ∧ y ∈ nd x := by
  unfold pairsOf
  rw [List.mem_flatMap]
  constructor
  · rintro ⟨z, hz, h⟩
    obtain ⟨w, hw, e⟩ := List.mem_map.mp h
    cases e
    exact ⟨hz, hw⟩
  · rintro ⟨h1, h2⟩
    exact ⟨x, h1, List.mem_map.mpr ⟨y, h2, rfl⟩⟩
theorem pairs_snoc {ks : List Str} {nd : Str → List Str} {x : Str} : pairsOf (ks ++ [x]) nd = pairsOf ks nd ++ (nd x).map fun y => (y, x) := by
  unfold pairsOf
  rw [List.flatMap_append, List.flatMap_singleton]
theorem pairs_len {ks : List Str} {nd : Str → List Str} {m : Nat} (h : ∀ x ∈ ks, (nd x).length ≤ m) : (pairsOf ks nd).length ≤ ks.length * m := by
  induction ks with
  | nil => exact Nat.zero_le _
  | cons a ks ih =>
    have e : pairsOf (a :: ks) nd = ((nd a).map fun y => (y, a)) ++ pairsOf ks nd := rfl
    rw [e, List.length_append, List.length_map, List.length_cons, Nat.succ_mul]
    have := h a List.mem_cons_self
    have := ih fun x hx => h x (List.mem_cons_of_mem _ hx)
    omega
/-- a dict of lists of texts, all new since Hb, each list a key's own -/
def NeedAt (Hb H : Hp) (p : Addr) (s : Turn) : Prop := Same Hb H ∧ Hb p = none ∧ ∃ ad : Str → Addr, H p = some (.dK (sK s.1 fun x => .ref (ad x))) ∧ ∀ x ∈ s.1, Hb (ad x) = none ∧ H (ad x) = some (.lst ((s.2 x).map V.str)) ∧ ∀ y ∈ s.1, ad y = ad x → y = x
theorem NeedAt.dict {Hb H : Hp} {p : Addr} {s : Turn} (h : NeedAt Hb H p s) : ∃ kvs, H p = some (.dK kvs) ∧ kvs.length = s.1.length := by
  obtain ⟨_, _, ad, e, _⟩ := h
  exact ⟨_, e, sK_len⟩
theorem NeedAt.same {Hb H H' : Hp} {p : Addr} {s : Turn} (h : NeedAt Hb H p s) (sm : Same H H') : NeedAt Hb H' p s := by
  obtain ⟨h1, h2, ad, h3, h4⟩ := h
  exact ⟨Same.trans h1 sm, h2, ad, sm _ _ h3, fun x hx => ⟨(h4 x hx).1, sm _ _ (h4 x hx).2.1, (h4 x hx).2.2⟩⟩
/-- of a frozen dict's time -/
theorem NeedAt.unlock {H H2 : Hp} {p d : Addr} {o f : HO} {s : Turn} (hd : H d = some o) (h : NeedAt (upd H d f) H2 p s) : NeedAt H (upd H2 d o) p s := by
  obtain ⟨h1, h2, ad, h3, h4⟩ := h
  obtain ⟨n1, n2⟩ := none_lock h2
  refine ⟨same_unlock hd h1, n2, ad, (by rw [upd_ne n1]; exact h3), fun x hx => ?_⟩
  obtain ⟨k1, k2, k3⟩ := h4 x hx
  obtain ⟨m1, m2⟩ := none_lock k1
  exact ⟨m2, (by rw [upd_ne m1]; exact k2), k3⟩
/-- one more pair: needing.setdefault(y, []).append(x) -/
theorem NeedAt.add {Hb H : Hp} {p q : Addr} {s : Turn} {x y : Str} {kvs : List (Key × V)} (hE : ∀ y, y ∉ s.1 → s.2 y = []) (h : NeedAt Hb H p s) (e : H p = some (.dK kvs)) (hq : H q = none) :
    (∀ v, valV kvs (.inr y) = some v → ∃ a xs, v = .ref a ∧ a ≠ q ∧ H a = some (.lst xs) ∧ xs.length = (s.2 y).length ∧ NeedAt Hb (upd (upd H q (.lst [])) a (.lst (xs ++ [.str x]))) p (addP s (y, x))) ∧
    (valV kvs (.inr y) = none → NeedAt Hb (upd (upd (upd H q (.lst [])) p (.dK (putK kvs (.inr y) (.ref q)))) q (.lst ([] ++ [.str x]))) p (addP s (y, x))) := by
  obtain ⟨h1, h2, ad, h3, h4⟩ := h
  rw [h3] at e
  cases e
  have hqb := same_none h1 hq
  have pq : p ≠ q := fun z => by rw [z, hq] at h3; cases h3
  constructor
  · intro v hv
    have hy : y ∈ s.1 := Decidable.byContradiction fun z => by rw [sK_none z] at hv; cases hv
    rw [sK_val hy] at hv
    cases hv
    obtain ⟨k1, k2, k3⟩ := h4 y hy
    have aq : ad y ≠ q := fun z => by rw [z, hq] at k2; cases k2
    have pa : p ≠ ad y := fun z => by rw [← z, h3] at k2; cases k2
    refine ⟨ad y, _, rfl, aq, k2, List.length_map .., same_mut (same_mut h1 hqb) k1, h2, ad, ?_, fun z hz => ?_⟩
    · show (_ : Option HO) = some (.dK (sK (if y ∈ s.1 then s.1 else s.1 ++ [y]) _))
      rw [if_pos hy, upd_ne pa, upd_ne pq]
      exact h3
    · have hz' : z ∈ s.1 := by
        have hz2 : z ∈ (if y ∈ s.1 then s.1 else s.1 ++ [y]) := hz
        rw [if_pos hy] at hz2
        exact hz2
      obtain ⟨m1, m2, m3⟩ := h4 z hz'
      refine ⟨m1, ?_, fun w hw => m3 w (by
        have hw2 : w ∈ (if y ∈ s.1 then s.1 else s.1 ++ [y]) := hw
        rw [if_pos hy] at hw2
        exact hw2)⟩
      show (_ : Option HO) = some (.lst ((if z = y then s.2 z ++ [x] else s.2 z).map V.str))
      by_cases c : z = y
      · rw [if_pos c, c, upd_same, List.map_append]
        rfl
      · have zq : ad z ≠ q := fun t => by rw [t, hq] at m2; cases m2
        rw [if_neg c, upd_ne (fun t => c (k3 z hz' t)), upd_ne zq]
        exact m2
  · intro hv
    have hy : y ∉ s.1 := fun z => by rw [sK_val z] at hv; cases hv
    refine ⟨same_mut (same_mut (same_mut h1 hqb) h2) hqb, h2, fun z => if z = y then q else ad z, ?_, fun z hz => ?_⟩
    · show (_ : Option HO) = some (.dK (sK (if y ∈ s.1 then s.1 else s.1 ++ [y]) _))
      rw [if_neg hy, upd_ne pq, upd_same, sK_put hy]
      congr 2
      refine sK_congr fun z _ => ?_
      unfold fset
      by_cases c : z = y <;> simp [c]
    · have hz2 : z ∈ s.1 ∨ z = y := by
        have hz2 : z ∈ (if y ∈ s.1 then s.1 else s.1 ++ [y]) := hz
        rw [if_neg hy] at hz2
        rcases List.mem_append.mp hz2 with t | t
        · exact .inl t
        · exact .inr (List.mem_singleton.mp t)
      have inj : ∀ w ∈ (addP s (y, x)).1, w ∈ s.1 ∨ w = y := fun w hw => by
        have hw2 : w ∈ (if y ∈ s.1 then s.1 else s.1 ++ [y]) := hw
        rw [if_neg hy] at hw2
        rcases List.mem_append.mp hw2 with t | t
        · exact .inl t
        · exact .inr (List.mem_singleton.mp t)
      show Hb (if z = y then q else ad z) = none ∧ (_ : Option HO) = some (.lst ((if z = y then s.2 z ++ [x] else s.2 z).map V.str)) ∧ ∀ w ∈ (addP s (y, x)).1, (if w = y then q else ad w) = (if z = y then q else ad z) → w = z
      by_cases c : z = y
      · simp only [if_pos c]
        refine ⟨hqb, ?_, fun w hw t => ?_⟩
        · rw [upd_same, c]
          have e0 : s.2 y = [] := hE y hy
          rw [e0]
          rfl
        · rcases inj w hw with u | u
          · have wy : w ≠ y := fun t => hy (t ▸ u)
            rw [if_neg wy] at t
            have := (h4 w u).2.1
            rw [t, hq] at this
            cases this
          · rw [u, c]
      · have hz' : z ∈ s.1 := hz2.elim id fun t => absurd t c
        obtain ⟨m1, m2, m3⟩ := h4 z hz'
        have zq : ad z ≠ q := fun t => by rw [t, hq] at m2; cases m2
        have zp : ad z ≠ p := fun t => by rw [t, h3] at m2; cases m2
        simp only [if_neg c]
        refine ⟨m1, ?_, fun w hw t => ?_⟩
        · rw [upd_ne zq, upd_ne zp, upd_ne zq]
          exact m2
        · by_cases wy : w = y
          · rw [if_pos wy] at t
            exact absurd t.symm zq
          · rw [if_neg wy] at t
            exact m3 w ((inj w hw).elim id fun u => absurd u wy) t

theorem turned_nil (l : List (Str × Str)) : ∀ y, y ∉ (turned l).1 → (turned l).2 y = [] := fun y hy => by
  cases e : (turned l).2 y with
  | nil => rfl
  | cons x r =>
    have : x ∈ (turned l).2 y := by rw [e]; exact List.mem_cons_self
    exact absurd ((turned_key l).mpr ⟨x, (turned_val l).mp this⟩) hy
theorem sK_get {ks : List Str} {f : Str → V} {i : Nat} {k : Key} {v : V} (h : (sK ks f)[i]? = some (k, v)) : ∃ x, ks[i]? = some x ∧ k = .inr x ∧ v = f x := by
  unfold sK at h
  rw [List.getElem?_map] at h
  obtain ⟨x, h1, h2⟩ := Option.map_eq_some_iff.mp h
  cases h2
  exact ⟨x, h1, rfl, rfl⟩
theorem take_get {α : Type} {l : List α} {i : Nat} {x : α} (h : l[i]? = some x) : l.take (i + 1) = l.take i ++ [x] := by
  rw [List.take_add_one, h]
  rfl

/-! ### what fails, and what needs it -/
namespace Net
variable {g : Net}
/-- what holds between the rounds: what waits and what is out can not be done; a need of one that is in is done, in, or waits -/
structure Cutting (g : Net) (wait out : List Str) : Prop where
  w : ∀ x ∈ wait, x ∉ g.great ∧ x ∉ g.done
  nd : out.Nodup
  sub : ∀ x ∈ out, x ∈ g.full ∧ x ∉ g.great
  cl : ∀ x ∈ g.full, x ∉ out → ∀ y ∈ g.nd x, y ∈ g.done ∨ (y ∈ g.full ∧ y ∉ out) ∨ y ∈ wait
theorem Cutting.len {wait out : List Str} (h : Cutting g wait out) : out.length ≤ g.full.length := by
  have : ∀ (l m : List Str), l.Nodup → (∀ x ∈ l, x ∈ m) → l.length ≤ m.length := fun l => by
    induction l with
    | nil => exact fun _ _ _ => Nat.zero_le _
    | cons a l ih =>
      intro m nd s
      have am := s a List.mem_cons_self
      have nd2 := List.nodup_cons.mp nd
      have h1 := ih (m.erase a) nd2.2 fun x hx => (List.mem_erase_of_ne (fun e => nd2.1 (by rw [← e]; exact hx))).mpr (s x (List.mem_cons_of_mem _ hx))
      have h2 := List.length_erase_of_mem am
      have h3 : 0 < m.length := List.length_pos_of_mem am
      rw [List.length_cons]
      omega
  exact this _ _ h.nd fun x hx => (h.sub x hx).1
theorem Cutting.done_ (ok : g.Ok) {out : List Str} (h : Cutting g [] out) : g.full.filter (fun x => !decide (x ∈ out)) = g.great := by
  have e1 : ∀ x ∈ g.full, (!decide (x ∈ out)) = decide (x ∈ g.great) := fun x hx => by
    by_cases c : x ∈ out
    · rw [decide_eq_true c, decide_eq_false (h.sub x c).2]
      rfl
    · rw [decide_eq_false c, decide_eq_true]
      · rfl
      · refine great_all (S := fun y => y ∈ g.full ∧ y ∉ out) (fun y hy => ⟨hy.1, fun z hz => ?_⟩) ⟨hx, c⟩
        rcases h.cl y hy.1 hy.2 z hz with k | k | k
        · exact .inr k
        · exact .inl k
        · cases k
  rw [List.filter_congr e1]
  have : ∀ l m : List Str, l.Sublist m → m.Nodup → m.filter (fun x => decide (x ∈ l)) = l := fun l m s => by
    induction s with
    | slnil => exact fun _ => rfl
    | cons a s ih =>
      rename_i l1 l2
      intro nd
      have nd2 := List.nodup_cons.mp nd
      rw [List.filter_cons_of_neg (by simpa using fun z => nd2.1 (s.mem z))]
      exact ih nd2.2
    | cons_cons a s ih =>
      rename_i l1 l2
      intro nd
      have nd2 := List.nodup_cons.mp nd
      rw [List.filter_cons_of_pos (by simp)]
      congr 1
      rw [← ih nd2.2]
      refine List.filter_congr fun x hx => ?_
      have : x ≠ a := fun e => nd2.1 (by rw [← e]; exact hx)
      simp [this, ih nd2.2]
  exact this _ _ great_sub ok.nodup
/-- one name that needs what fails -/
theorem Cutting.add (ok : g.Ok) {wait out : List Str} {x : Str} (h : Cutting g wait out) (hx : x ∈ g.full) (hn : x ∉ g.great) (ho : x ∉ out) : Cutting g (wait ++ [x]) (out ++ [x]) where
  w := fun y hy => by
    rcases List.mem_append.mp hy with z | z
    · exact h.w y z
    · rw [List.mem_singleton.mp z]
      exact ⟨hn, ok.apart x hx⟩
  nd := by
    rw [List.nodup_append]
    exact ⟨h.nd, List.nodup_cons.mpr ⟨fun z => (by cases z), List.nodup_nil⟩, fun a ha b hb e => ho (by rw [← List.mem_singleton.mp hb, ← e]; exact ha)⟩
  sub := fun y hy => by
    rcases List.mem_append.mp hy with z | z
    · exact h.sub y z
    · rw [List.mem_singleton.mp z]
      exact ⟨hx, hn⟩
  cl := fun y hy hyo z hz => by
    rcases h.cl y hy (fun k => hyo (List.mem_append_left _ k)) z hz with k | k | k
    · exact .inl k
    · by_cases c : z = x
      · exact .inr (.inr (List.mem_append_right _ (by rw [c]; exact List.mem_singleton_self _)))
      · exact .inr (.inl ⟨k.1, fun m => (List.mem_append.mp m).elim k.2 fun m => c (List.mem_singleton.mp m)⟩)
    · exact .inr (.inr (List.mem_append_left _ k))
end Net

/-! ### the shortest way, and how a search by rounds finds it -/
namespace Net
variable {g : Net}
/-- a way of d steps that is the shortest from each of its names, by the first such need -/
inductive Opt (g : Net) : Nat → List Str → Prop
  | last {x : Str} : g.near 0 x = true → Opt g 0 [x]
  | step {x y : Str} {d : Nat} {l : List Str} : x ∈ g.full → g.near d x = false → (g.nd x).find? (g.near d) = some y → Opt g d (y :: l) → Opt g (d + 1) (x :: y :: l)
theorem Opt.near {d : Nat} {x : Str} {l : List Str} (o : Opt g d (x :: l)) : g.near d x = true := by
  cases o with
  | last h => exact h
  | step hf _ hfd o =>
    show (g.near _ x || (decide (x ∈ g.full) && (g.nd x).any (g.near _))) = true
    rw [decide_eq_true hf, Bool.true_and, Bool.or_eq_true]
    exact .inr (List.any_eq_true.mpr ⟨_, List.mem_of_find?_eq_some hfd, List.find?_some hfd⟩)
theorem near_succ {x y : Str} {m : Nat} (hf : x ∈ g.full) (hy : y ∈ g.nd x) (h : g.near m y = true) : g.near (m + 1) x = true := by
  show (g.near m x || (decide (x ∈ g.full) && (g.nd x).any (g.near m))) = true
  rw [decide_eq_true hf, Bool.true_and, Bool.or_eq_true]
  exact .inr (List.any_eq_true.mpr ⟨y, hy, h⟩)
theorem way_opt : ∀ (n : Nat) (x : Str), g.near n x = true → ∃ d l, d ≤ n ∧ g.way n x = x :: l ∧ Opt g d (x :: l)
  | 0, x, h => ⟨0, [], Nat.le_refl _, rfl, .last h⟩
  | n + 1, x, h => by
    by_cases c : g.near n x = true
    · obtain ⟨d, l, h1, h2, h3⟩ := way_opt n x c
      exact ⟨d, l, Nat.le_succ_of_le h1, by rw [way, if_pos c]; exact h2, h3⟩
    · have h2 : (g.near n x || (decide (x ∈ g.full) && (g.nd x).any (g.near n))) = true := h
      rw [Bool.not_eq_true] at c
      rw [c, Bool.false_or, Bool.and_eq_true] at h2
      have hf := of_decide_eq_true h2.1
      obtain ⟨y0, hy0, hn0⟩ := List.any_eq_true.mp h2.2
      cases hfd : (g.nd x).find? (g.near n) with
      | none => exact absurd hn0 (List.find?_eq_none.mp hfd y0 hy0)
      | some y =>
        obtain ⟨d, l, h3, h4, h5⟩ := way_opt n y (List.find?_some hfd)
        have e : d = n := by
          rcases Nat.lt_or_ge d n with lt | ge
          · have := near_up (m := n) (by omega) (near_succ hf (List.mem_of_find?_eq_some hfd) h5.near)
            rw [c] at this
            cases this
          · omega
        subst e
        exact ⟨d + 1, y :: l, Nat.le_refl _, (by rw [way, if_neg (by rw [c]; exact Bool.false_ne_true), hfd]; exact congrArg _ h4), .step hf c hfd h5⟩
theorem near_lack {x : Str} (hf : x ∉ g.full) (hd : x ∉ g.done) (m : Nat) : g.near m x = true := by
  rw [near_out hf]
  exact decide_eq_true ⟨hf, hd⟩
theorem near_done {x : Str} (hf : x ∉ g.full) (hd : x ∈ g.done) (m : Nat) : g.near m x = false := by
  rw [near_out hf]
  exact decide_eq_false fun z => z.2 hd
end Net
theorem nodup_le : ∀ (l m : List Str), l.Nodup → (∀ x ∈ l, x ∈ m) → l.length ≤ m.length := fun l => by
  induction l with
  | nil => exact fun _ _ _ => Nat.zero_le _
  | cons a l ih =>
    intro m nd s
    have am := s a List.mem_cons_self
    have nd2 := List.nodup_cons.mp nd
    have h1 := ih (m.erase a) nd2.2 fun x hx => (List.mem_erase_of_ne (fun e => nd2.1 (by rw [← e]; exact hx))).mpr (s x (List.mem_cons_of_mem _ hx))
    have h2 := List.length_erase_of_mem am
    have h3 : 0 < m.length := List.length_pos_of_mem am
    rw [List.length_cons]
    omega
/-- from the last name to the first, each told its forerunner -/
inductive Up (ks : List Str) (f : Str → V) : List Str → Prop
  | one {x : Str} : x ∈ ks → f x = .non → Up ks f [x]
  | more {x y : Str} {l : List Str} : x ∈ ks → f x = .str y → Up ks f (y :: l) → Up ks f (x :: y :: l)
theorem Up.mem {ks : List Str} {f : Str → V} {x : Str} {l : List Str} (u : Up ks f (x :: l)) : x ∈ ks := by cases u <;> assumption
theorem Up.add {ks : List Str} {f : Str → V} {l : List Str} {y : Str} {v : V} (u : Up ks f l) (hy : y ∉ ks) : Up (ks ++ [y]) (fset f y v) l := by
  induction u with
  | one h e => exact .one (List.mem_append_left _ h) (by rw [fset, if_neg (fun z => hy (by rw [← z]; exact h))]; exact e)
  | more h e _ ih => exact .more (List.mem_append_left _ h) (by rw [fset, if_neg (fun z => hy (by rw [← z]; exact h))]; exact e) ih
/-- a search by rounds: what waits, who is reached by whom -/
structure Bfs (g : Net) (x0 : Str) (q ks : List Str) (f : Str → V) : Prop where
  nd : ks.Nodup
  qk : ∀ v ∈ q, v ∈ ks
  nod : ∀ v ∈ ks, v ∉ g.done
  sub : ∀ v ∈ ks, v = x0 ∨ ∃ u ∈ g.full, v ∈ g.nd u
  way : (∀ v ∈ ks, ∀ m, g.near m v = false) ∨
    ∃ (pre : List Str) (h : Str) (l : List Str) (d : Nat) (lv : Str → Nat) (A B : List Str), g.chain x0 = pre ++ h :: l ∧ g.Opt d (h :: l) ∧ q = A ++ h :: B ∧ Up ks f (h :: pre.reverse) ∧ lv h = pre.length ∧
      (∀ v ∈ ks, ∀ m, g.near m v = true → pre.length + d ≤ lv v + m) ∧
      (∀ u ∈ A, lv u ≤ pre.length ∧ (lv u = pre.length → g.near d u = false)) ∧
      (∀ v ∈ ks, lv v ≤ pre.length + 1 ∧ (lv v = pre.length + 1 → ∀ e, d = e + 1 → g.near e v = false))
theorem Bfs.start {g : Net} {x0 : Str} (hd : x0 ∉ g.done) : Bfs g x0 [x0] [x0] (fun _ => .non) where
  nd := List.nodup_cons.mpr ⟨fun z => (by cases z), List.nodup_nil⟩
  qk := fun v h => h
  nod := fun v h => by rw [List.mem_singleton.mp h]; exact hd
  sub := fun v h => .inl (List.mem_singleton.mp h)
  way := by
    by_cases c : g.near g.full.length x0 = true
    · obtain ⟨d, l, h1, h2, h3⟩ := Net.way_opt _ x0 c
      refine .inr ⟨[], x0, l, d, fun _ => 0, [], [], ?_, h3, rfl, .one List.mem_cons_self rfl, rfl, fun v hv m hm => ?_, (fun u hu => by cases hu), fun v hv => ⟨Nat.zero_le _, fun z => by cases z⟩⟩
      · unfold Net.chain
        rw [if_pos c]
        exact h2
      · rw [List.mem_singleton.mp hv] at hm
        cases h3 with
        | last _ => exact Nat.zero_le _
        | step hf hn hfd o2 =>
          rename_i y e l
          rcases Nat.lt_or_ge m (e + 1) with lt | ge
          · have := Net.near_up (m := e) (by omega) hm
            rw [hn] at this
            cases this
          · simp only [List.length_nil, Nat.zero_add]
            exact ge
    · refine .inl fun v hv m => ?_
      rw [List.mem_singleton.mp hv]
      rw [Bool.not_eq_true] at c
      cases e : g.near m x0 with
      | false => rfl
      | true =>
        rcases Nat.le_total m g.full.length with h | h
        · rw [Net.near_up h e] at c; cases c
        · have := Net.near_stop (g := g) (m - g.full.length) x0
          rw [show g.full.length + (m - g.full.length) = m from by omega, e, c] at this
          cases this
/-- the first that waits is not full: its way is the answer -/
theorem Bfs.found {g : Net} {x0 x : Str} {q ks : List Str} {f : Str → V} (b : Bfs g x0 (x :: q) ks f) (hx : x ∉ g.full) : ∃ l, Up ks f (x :: l) ∧ g.chain x0 = (x :: l).reverse := by
  have xk := b.qk x List.mem_cons_self
  have hn := Net.near_lack hx (b.nod x xk)
  rcases b.way with w | ⟨pre, h, l, d, lv, A, B, e1, o, e2, up, hl, c1, c2, c3⟩
  · have := w x xk 0
    rw [hn 0] at this
    cases this
  · cases A with
    | cons a A =>
      injection e2 with e2 _
      subst e2
      obtain ⟨z1, z2⟩ := c2 x List.mem_cons_self
      have := c1 x xk 0 (hn 0)
      have := z2 (by omega)
      rw [hn d] at this
      cases this
    | nil =>
      injection e2 with e2 _
      subst e2
      cases o with
      | last _ => exact ⟨_, up, by rw [e1, List.reverse_cons, List.reverse_reverse]⟩
      | step hf _ _ _ => exact absurd hf hx
/-- nothing waits any more: there is no way -/
theorem Bfs.none_ {g : Net} {x0 : Str} {ks : List Str} {f : Str → V} (b : Bfs g x0 [] ks f) (hx : x0 ∈ ks) : g.chain x0 = [] := by
  rcases b.way with w | ⟨pre, h, l, d, lv, A, B, e1, o, e2, up, hl, c1, c2, c3⟩
  · unfold Net.chain
    rw [w x0 hx, if_neg Bool.false_ne_true]
  · cases A <;> cases e2
/-- within the turn of a full name x: its first needs, ps, are looked at -/
structure BfsIn (g : Net) (x0 x : Str) (ps q ks : List Str) (f : Str → V) : Prop where
  nd : ks.Nodup
  qk : ∀ v ∈ q, v ∈ ks
  nod : ∀ v ∈ ks, v ∉ g.done
  sub : ∀ v ∈ ks, v = x0 ∨ ∃ u ∈ g.full, v ∈ g.nd u
  way : (∀ v ∈ ks, ∀ m, g.near m v = false) ∨
    (∃ (pre : List Str) (h : Str) (l : List Str) (d : Nat) (lv : Str → Nat) (A B : List Str), g.chain x0 = pre ++ h :: l ∧ g.Opt d (h :: l) ∧ q = A ++ h :: B ∧ Up ks f (h :: pre.reverse) ∧ lv h = pre.length ∧
      (∀ v ∈ ks, ∀ m, g.near m v = true → pre.length + d ≤ lv v + m) ∧
      (∀ u ∈ A, lv u ≤ pre.length ∧ (lv u = pre.length → g.near d u = false)) ∧
      (∀ v ∈ ks, lv v ≤ pre.length + 1 ∧ (lv v = pre.length + 1 → ∀ e, d = e + 1 → g.near e v = false)) ∧
      lv x ≤ pre.length ∧ (lv x = pre.length → g.near d x = false)) ∨
    (∃ (pre : List Str) (y : Str) (l : List Str) (e : Nat) (lv : Str → Nat), g.chain x0 = pre ++ x :: y :: l ∧ g.near e x = false ∧ (g.nd x).find? (g.near e) = some y ∧ g.Opt e (y :: l) ∧ Up ks f (x :: pre.reverse) ∧ lv x = pre.length ∧
      (∀ v ∈ ks, ∀ m, g.near m v = true → pre.length + (e + 1) ≤ lv v + m) ∧
      (∀ v ∈ ks, lv v ≤ pre.length + 1 ∧ (lv v = pre.length + 1 → g.near e v = false)) ∧ (∀ z ∈ ps, g.near e z = false))
  xk : x ∈ ks
  xf : x ∈ g.full
theorem Bfs.turn {g : Net} {x0 x : Str} {q ks : List Str} {f : Str → V} (b : Bfs g x0 (x :: q) ks f) (hx : x ∈ g.full) : BfsIn g x0 x [] q ks f where
  nd := b.nd
  qk := fun v h => b.qk v (List.mem_cons_of_mem _ h)
  nod := b.nod
  sub := b.sub
  xk := b.qk x List.mem_cons_self
  xf := hx
  way := by
    rcases b.way with w | ⟨pre, h, l, d, lv, A, B, e1, o, e2, up, hl, c1, c2, c3⟩
    · exact .inl w
    · cases A with
      | cons a A =>
        injection e2 with e2 e3
        subst e2
        obtain ⟨z1, z2⟩ := c2 x List.mem_cons_self
        exact .inr (.inl ⟨pre, h, l, d, lv, A, B, e1, o, e3, up, hl, c1, fun u hu => c2 u (List.mem_cons_of_mem _ hu), c3, z1, z2⟩)
      | nil =>
        injection e2 with e2 e3
        subst e2
        cases o with
        | last hn => exact absurd hx (of_decide_eq_true hn).1
        | step hf hn hfd o =>
          exact .inr (.inr ⟨pre, _, _, _, lv, e1, hn, hfd, o, up, hl, c1, fun v hv => ⟨(c3 v hv).1, fun z => (c3 v hv).2 z _ rfl⟩, fun z hz => by cases hz⟩)
/-- a need that is done or reached -/
theorem BfsIn.skip {g : Net} {x0 x y : Str} {ps q ks : List Str} {f : Str → V} (ok : g.Ok) (b : BfsIn g x0 x ps q ks f) (h : y ∈ g.done ∨ y ∈ ks) : BfsIn g x0 x (ps ++ [y]) q ks f where
  nd := b.nd
  qk := b.qk
  nod := b.nod
  sub := b.sub
  xk := b.xk
  xf := b.xf
  way := by
    rcases b.way with w | w | ⟨pre, y', l, e, lv, e1, hn, hfd, o, up, hl, c1, c2, c3⟩
    · exact .inl w
    · exact .inr (.inl w)
    · refine .inr (.inr ⟨pre, y', l, e, lv, e1, hn, hfd, o, up, hl, c1, c2, fun z hz => ?_⟩)
      rcases List.mem_append.mp hz with k | k
      · exact c3 z k
      · rw [List.mem_singleton.mp k]
        rcases h with k | k
        · exact Net.near_done (fun z => ok.apart y z k) k e
        · obtain ⟨z1, z2⟩ := c2 y k
          cases en : g.near e y with
          | false => rfl
          | true =>
            have := c1 y k e en
            have := z2 (by omega)
            rw [en] at this
            cases this
/-- a need that is new -/
theorem BfsIn.new {g : Net} {x0 x y : Str} {ps q ks r : List Str} {f : Str → V} (b : BfsIn g x0 x ps q ks f) (hnd : g.nd x = ps ++ y :: r) (hd : y ∉ g.done) (hk : y ∉ ks) : BfsIn g x0 x (ps ++ [y]) (q ++ [y]) (ks ++ [y]) (fset f y (.str x)) where
  nd := by
    rw [List.nodup_append]
    exact ⟨b.nd, List.nodup_cons.mpr ⟨fun z => (by cases z), List.nodup_nil⟩, fun a ha c hc e => hk (by rw [← List.mem_singleton.mp hc, ← e]; exact ha)⟩
  qk := fun v hv => by
    rcases List.mem_append.mp hv with z | z
    · exact List.mem_append_left _ (b.qk v z)
    · exact List.mem_append_right _ z
  nod := fun v hv => by
    rcases List.mem_append.mp hv with z | z
    · exact b.nod v z
    · rw [List.mem_singleton.mp z]; exact hd
  sub := fun v hv => by
    rcases List.mem_append.mp hv with z | z
    · exact b.sub v z
    · rw [List.mem_singleton.mp z]
      exact .inr ⟨x, b.xf, by rw [hnd]; exact List.mem_append_right _ List.mem_cons_self⟩
  xk := List.mem_append_left _ b.xk
  xf := b.xf
  way := by
    have yn : y ∈ g.nd x := by rw [hnd]; exact List.mem_append_right _ List.mem_cons_self
    have nek : ∀ v ∈ ks, v ≠ y := fun v hv e => hk (by rw [← e]; exact hv)
    rcases b.way with w | ⟨pre, h, l, d, lv, A, B, e1, o, e2, up, hl, c1, c2, c3, z1, z2⟩ | ⟨pre, y', l, e, lv, e1, hn, hfd, o, up, hl, c1, c2, c3⟩
    · refine .inl fun v hv m => ?_
      rcases List.mem_append.mp hv with z | z
      · exact w v z m
      · rw [List.mem_singleton.mp z]
        cases en : g.near m y with
        | false => rfl
        | true =>
          have := w x b.xk (m + 1)
          rw [Net.near_succ b.xf yn en] at this
          cases this
    · have lvk : ∀ v ∈ ks, (if v = y then lv x + 1 else lv v) = lv v := fun v hv => if_neg (nek v hv)
      refine .inr (.inl ⟨pre, h, l, d, fun v => if v = y then lv x + 1 else lv v, A, B ++ [y], e1, o, by rw [e2, List.append_assoc]; rfl, up.add hk, ?_, fun v hv m hm => ?_, fun u hu => ?_, fun v hv => ?_, ?_, ?_⟩)
      · show (if h = y then lv x + 1 else lv h) = _
        rw [lvk h up.mem]
        exact hl
      · show _ ≤ (if v = y then lv x + 1 else lv v) + m
        rcases List.mem_append.mp hv with z | z
        · rw [lvk v z]
          exact c1 v z m hm
        · have ev := List.mem_singleton.mp z
          rw [ev] at hm
          rw [if_pos ev]
          have := c1 x b.xk (m + 1) (Net.near_succ b.xf yn hm)
          omega
      · have uk : u ∈ ks := b.qk u (by rw [e2]; exact List.mem_append_left _ hu)
        show (if u = y then lv x + 1 else lv u) ≤ _ ∧ ((if u = y then lv x + 1 else lv u) = _ → _)
        rw [lvk u uk]
        exact c2 u hu
      · show (if v = y then lv x + 1 else lv v) ≤ _ ∧ ((if v = y then lv x + 1 else lv v) = _ → _)
        rcases List.mem_append.mp hv with z | z
        · rw [lvk v z]
          exact c3 v z
        · have ev := List.mem_singleton.mp z
          rw [if_pos ev, ev]
          refine ⟨by omega, fun k e he => ?_⟩
          have := z2 (by omega)
          cases en : g.near e y with
          | false => rfl
          | true =>
            rw [he, Net.near_succ b.xf yn en] at this
            cases this
      · show (if x = y then lv x + 1 else lv x) ≤ _
        rw [lvk x b.xk]
        exact z1
      · show (if x = y then lv x + 1 else lv x) = _ → _
        rw [lvk x b.xk]
        exact z2
    · have lvk : ∀ v ∈ ks, (if v = y then pre.length + 1 else lv v) = lv v := fun v hv => if_neg (nek v hv)
      have n1 : ∀ v ∈ ks ++ [y], ∀ m, g.near m v = true → pre.length + (e + 1) ≤ (if v = y then pre.length + 1 else lv v) + m := fun v hv m hm => by
        rcases List.mem_append.mp hv with z | z
        · rw [lvk v z]
          exact c1 v z m hm
        · have ev := List.mem_singleton.mp z
          rw [ev] at hm
          rw [if_pos ev]
          have := c1 x b.xk (m + 1) (Net.near_succ b.xf yn hm)
          omega
      by_cases ey : g.near e y = true
      · -- the way goes on here
        have hfd2 : (g.nd x).find? (g.near e) = some y := by
          rw [hnd, List.find?_append, List.find?_eq_none.mpr (fun z hz => by rw [c3 z hz]; exact Bool.false_ne_true), List.find?_cons_of_pos ey]
          rfl
        rw [hfd] at hfd2
        cases hfd2
        refine .inr (.inl ⟨pre ++ [x], y, l, e, fun v => if v = y then pre.length + 1 else lv v, q, [], by rw [e1, List.append_assoc]; rfl, o, rfl, ?_, ?_, fun v hv m hm => ?_, fun u hu => ?_, fun v hv => ?_, ?_, ?_⟩)
        · rw [List.reverse_append]
          exact .more (List.mem_append_right _ (List.mem_singleton_self _)) (by rw [fset, if_pos rfl]) (up.add hk)
        · show (if y = y then _ else _) = _
          rw [if_pos rfl, List.length_append]
          rfl
        · rw [List.length_append, List.length_singleton]
          have := n1 v hv m hm
          show _ ≤ (if v = y then pre.length + 1 else lv v) + m
          omega
        · have uk := b.qk u hu
          show (if u = y then pre.length + 1 else lv u) ≤ _ ∧ ((if u = y then pre.length + 1 else lv u) = _ → _)
          rw [lvk u uk, List.length_append]
          exact c2 u uk
        · show (if v = y then pre.length + 1 else lv v) ≤ _ ∧ ((if v = y then pre.length + 1 else lv v) = _ → _)
          rw [List.length_append, List.length_singleton]
          rcases List.mem_append.mp hv with z | z
          · rw [lvk v z]
            have := (c2 v z).1
            exact ⟨by omega, fun k => by omega⟩
          · rw [if_pos (List.mem_singleton.mp z)]
            exact ⟨by omega, fun k => by omega⟩
        · show (if x = y then _ else lv x) ≤ _
          rw [lvk x b.xk, List.length_append]
          omega
        · show (if x = y then _ else lv x) = _ → _
          rw [lvk x b.xk, List.length_append, List.length_singleton]
          intro k
          omega
      · rw [Bool.not_eq_true] at ey
        refine .inr (.inr ⟨pre, y', l, e, fun v => if v = y then pre.length + 1 else lv v, e1, hn, hfd, o, up.add hk, ?_, n1, fun v hv => ?_, fun z hz => ?_⟩)
        · show (if x = y then _ else lv x) = _
          rw [lvk x b.xk]
          exact hl
        · show (if v = y then pre.length + 1 else lv v) ≤ _ ∧ ((if v = y then pre.length + 1 else lv v) = _ → _)
          rcases List.mem_append.mp hv with z | z
          · rw [lvk v z]
            exact c2 v z
          · have ev := List.mem_singleton.mp z
            rw [if_pos ev, ev]
            exact ⟨Nat.le_refl _, fun _ => ey⟩
        · rcases List.mem_append.mp hz with k | k
          · exact c3 z k
          · rw [List.mem_singleton.mp k]; exact ey
/-- all needs of x are looked at -/
theorem BfsIn.done_ {g : Net} {x0 x : Str} {q ks : List Str} {f : Str → V} (b : BfsIn g x0 x (g.nd x) q ks f) : Bfs g x0 q ks f where
  nd := b.nd
  qk := b.qk
  nod := b.nod
  sub := b.sub
  way := by
    rcases b.way with w | ⟨pre, h, l, d, lv, A, B, e1, o, e2, up, hl, c1, c2, c3, z1, z2⟩ | ⟨pre, y', l, e, lv, e1, hn, hfd, o, up, hl, c1, c2, c3⟩
    · exact .inl w
    · exact .inr ⟨pre, h, l, d, lv, A, B, e1, o, e2, up, hl, c1, c2, c3⟩
    · have := c3 y' (List.mem_of_find?_eq_some hfd)
      rw [List.find?_some hfd] at this
      cases this
theorem reach_len {g : Net} {x0 : Str} {ks : List Str} (ok : g.Ok) (nd : ks.Nodup) (sub : ∀ v ∈ ks, v = x0 ∨ ∃ u ∈ g.full, v ∈ g.nd u) : ks.length ≤ 481 := by
  refine Nat.le_trans (nodup_le ks (x0 :: g.full.flatMap g.nd) nd fun v hv => ?_) ?_
  · rcases sub v hv with z | ⟨u, h1, h2⟩
    · rw [z]; exact List.mem_cons_self
    · exact List.mem_cons_of_mem _ (List.mem_flatMap.mpr ⟨u, h1, h2⟩)
  · have : ∀ l : List Str, (∀ x ∈ l, (g.nd x).length ≤ 8) → (l.flatMap g.nd).length ≤ l.length * 8 := fun l => by
      induction l with
      | nil => exact fun _ => Nat.le_refl _
      | cons a l ih =>
        intro h
        rw [List.flatMap_cons, List.length_append, List.length_cons, Nat.succ_mul]
        have := h a List.mem_cons_self
        have := ih fun x hx => h x (List.mem_cons_of_mem _ hx)
        omega
    have h2 := this g.full ok.lenN
    have := ok.lenF
    rw [List.length_cons]
    omega
theorem Bfs.len {g : Net} {x0 : Str} {q ks : List Str} {f : Str → V} (ok : g.Ok) (b : Bfs g x0 q ks f) : ks.length ≤ 481 := reach_len ok b.nd b.sub

theorem ne_of_pair {H : Hp} {p q : Addr} {o : HO} (h : upd H p o q = none) : q ≠ p ∧ H q = none := by
  by_cases e : q = p
  · subst e
    rw [upd_same] at h
    cases h
  · rw [upd_ne e] at h
    exact ⟨e, h⟩

section
variable {P : Program} {w : World} {K : PySem.W.Frag} {mg : Str → Option Value} {base : Heap}


def sp_needing_of : Sp := fun vs H Q _ => match vs with
  | [.ref d] => ∃ ks nd, DictAt H d ks nd [] ∧ ks.length ≤ 100 ∧ (∀ x ∈ ks, (nd x).length ≤ 8) ∧ ∀ p H', NeedAt H H' p (turned (pairsOf ks nd)) → Q (.ref p) H'
  | _ => False

def sp_greatest : Sp := fun vs H Q _ => match vs with
  | [.ref a, .ref d, .ref b] => ∃ g : Net, g.Ok ∧ H a = some (.lst (g.full.map V.str)) ∧ DictAt H d g.full g.nd [] ∧ H b = some (.lst (g.done.map V.str)) ∧ ∀ p H', Same H H' → H p = none → H' p = some (.lst (g.great.map V.str)) → Q (.ref p) H'
  | _ => False

def sp_way_to : Sp := fun vs H Q _ => match vs with
  | [.str x, .ref d] => ∃ ks f l, H d = some (.dK (sK ks f)) ∧ Up ks f (x :: l) ∧ l.length ≤ 1000 ∧ ∀ p H', Same H H' → H p = none → H' p = some (.lst ((x :: l).reverse.map V.str)) → Q (.ref p) H'
  | _ => False

def sp_chain : Sp := fun vs H Q _ => match vs with
  | [.str x, .ref a, .ref d, .ref b] => ∃ g : Net, g.Ok ∧ H a = some (.lst (g.full.map V.str)) ∧ DictAt H d g.full g.nd [] ∧ H b = some (.lst (g.done.map V.str)) ∧ PyData.strOk x = true ∧ ∀ p H', Same H H' → H p = none → H' p = some (.lst ((g.chain x).map V.str)) → Q (.ref p) H'
  | _ => False
def sp_cell_at (K : PySem.W.Frag) : Sp := fun vs H Q _ => match vs with
  | [.ref a, .int k] => ∃ (ns : List Int) (j : Nat), SqL K H a (ns.map V.int) ∧ k = (j : Int) ∧ Q (.int (cellAt ns j)) H
  | _ => False
theorem cell_use {K : PySem.W.Frag} {a : Addr} {ns : List Int} (j : Nat) {k : Int} {H : Hp} {Q : VK} {E : XK} (hS : SqL K H a (ns.map V.int)) (e : k = (j : Int)) (q : Q (.int (cellAt ns j)) H) : sp_cell_at K [.ref a, .int k] H Q E := ⟨ns, j, hS, e, q⟩

def sp_mixed : Sp := fun vs H Q _ => match vs with
  | [.int n, .int k] => Q (.int (mixed n k)) H
  | _ => False

def sp_word : Sp := fun vs H Q _ => match vs with
  | [.int k, .int cell] => ∃ j : Nat, k = (j : Int) ∧ Q (.str (word j cell)) H
  | _ => False
theorem word_use (j : Nat) {k cell : Int} {H : Hp} {Q : VK} {E : XK} (e : k = (j : Int)) (q : Q (.str (word j cell)) H) : sp_word [.int k, .int cell] H Q E := ⟨j, e, q⟩
def sp_words (K : PySem.W.Frag) : Sp := fun vs H Q _ => match vs with
  | [.ref a] => ∃ ns : List Int, SqL K H a (ns.map V.int) ∧ ∀ p H', Same H H' → H p = none → H' p = some (.lst ((wordsN (cntOf 31 ns) (cellAt ns 1)).map V.str)) → Q (.ref p) H'
  | _ => False
def sp_needs_by : Sp := fun vs H Q _ => match vs with
  | [.int cell, .ref l] => ∃ ws : List Str, H l = some (.lst (ws.map V.str)) ∧ 0 < ws.length ∧ ws.length ≤ 1000 ∧ ∀ p H', Same H H' → H p = none → H' p = some (.lst ((needsOf cell ws).map V.str)) → Q (.ref p) H'
  | _ => False

/-- the names with a way, each with its steps -/
def StepsAt (H : Hp) (p : Addr) (ws : List Str) (g : Net) (n : Nat) : Prop := ∃ ks : List Str, (∀ x ∈ ks, x ∈ ws) ∧ (∀ x ∈ ws, x ∈ ks ↔ g.near n x = true) ∧ ks.length ≤ 10000 ∧ H p = some (.dK (sK ks fun x => .int (g.dst n x + 1 : Nat)))
def sp_steps : Sp := fun vs H Q _ => match vs with
  | [.ref c, .ref a, .ref d, .ref b] => ∃ (g : Net) (ws : List Str), g.Ok ∧ H a = some (.lst (g.full.map V.str)) ∧ DictAt H d g.full g.nd [] ∧ H b = some (.lst (g.done.map V.str)) ∧ H c = some (.lst (ws.map V.str)) ∧ ws.length ≤ 100 ∧ (∀ x ∈ g.full, x ∈ ws) ∧ (∀ x ∈ g.full, ∀ y ∈ g.nd x, y ∈ ws) ∧
      ∀ p H', Same H H' → H p = none → StepsAt H' p ws g ws.length → Q (.ref p) H'
  | _ => False
theorem draw {K : PySem.W.Frag} {n : Nat} {ns : List Int} {tail : L2.St} {D : Ends} {H1 : Hp} {a pw p p1 p2 : Addr} (hS : SqL K H1 a (ns.map V.int)) (hW : H1 pw = some (.lst ((wordsOf ns n).map V.str))) (h0 : 0 < n) (hn : n ≤ 60)
    (hp : H1 p = none) (hp1 : upd H1 p (.lst []) p1 = none) (hp2 : upd (upd H1 p (.lst [])) p1 (.lst []) p2 = none)
    (hd : ∀ v5 v6 H2, Same H1 H2 → H2 p = some (.lst ((fullN 3 60 ns n).map V.str)) → H2 p1 = some (.lst ((doneN 3 60 ns n).map V.str)) → DictAt H2 p2 (fullN 3 60 ns n) (ndOf 3 60 ns n) [p, p1] →
      D.nx (some (.ref a) :: some (.ref pw) :: some (.ref p) :: some (.ref p1) :: some (.ref p2) :: v5 :: v6 :: tail) H2) :
    tFor (iRng1 (tCons (tCB cLen (tCons (tVar 1) tNil)) tNil)) (gName 5)
      (tSeq
        (tAsg
          (tFn sp_mixed
            (tCons
              (tFn (sp_cell_at K)
                (tCons (tVar 0)
                  (tCons (tOp vAdd (tC (V.int 3)) (tOp vMod (tVar 5) (tC (V.int 60)))) tNil)))
              (tCons (tVar 5) tNil)))
          (gName 6))
        (tIfS (tTest (tOp vLt (tOp vMod (tVar 6) (tC (V.int 6))) (tC (V.int 4))))
          (tSeq (tDrop (tBM K "list" rAppend (tVar 2) (tCons (tOp vIx (tVar 1) (tVar 5)) tNil)))
            (tAsg (tFn sp_needs_by (tCons (tOp vDiv (tVar 6) (tC (V.int 6))) (tCons (tVar 1) tNil)))
              (gSub (tVar 4) (tOp vIx (tVar 1) (tVar 5)) vSet)))
          (tIfS (tTest (tOp (vEq K) (tOp vMod (tVar 6) (tC (V.int 6))) (tC (V.int 4))))
            (tDrop (tBM K "list" rAppend (tVar 3) (tCons (tOp vIx (tVar 1) (tVar 5)) tNil))) tNext))) D
      (some (.ref a) :: some (.ref pw) :: some (.ref p) :: some (.ref p1) :: some (.ref p2) :: none :: none :: tail) (upd (upd (upd H1 p (.lst [])) p1 (.lst [])) p2 (.dK [])) := by
  obtain ⟨n1, hp1'⟩ := ne_of_pair hp1
  obtain ⟨n2, hp2'⟩ := ne_of_pair hp2
  obtain ⟨n3, hp2''⟩ := ne_of_pair hp2'
  have wl : (wordsOf ns n).length = n := wordsN_len _ _
  have hpw : p ≠ pw := fun e => by rw [e, hW] at hp; cases hp
  have sm0 : Same H1 (upd (upd (upd H1 p (.lst [])) p1 (.lst [])) p2 (.dK [])) := same_mut (same_mut (same_new hp) hp1') hp2''
  have hW0 := sm0 _ _ hW
  refine f_rng n (by omega) (fun R z => ?_) (fun i σ2 H2 => Same H1 H2 ∧ H2 p = some (.lst ((fullN 3 60 ns i).map V.str)) ∧ H2 p1 = some (.lst ((doneN 3 60 ns i).map V.str)) ∧ DictAt H2 p2 (fullN 3 60 ns i) (ndOf 3 60 ns n) [p, p1] ∧
      ∃ v5 v6, σ2 = some (.ref a) :: some (.ref pw) :: some (.ref p) :: some (.ref p1) :: some (.ref p2) :: v5 :: v6 :: tail) ⟨sm0, ?_, ?_, (.nil (by simp [n2, n3]) upd_same), none, none, rfl⟩ ?_ ?_
  · simp -dsimp +contextual only [↓Fw.a_disp, ↓Fw.a_pnil, ↓Fw.a_pcons, Fw.v_keys0, Fw.v_keys1, Fw.v_deq, ↓Fw.a_truD1, Fw.v_truD, ↓Fw.a_dqPop, ↓Fw.a_dqApp, Fw.v_isD, ↓Fw.a_dget2, ↓Fw.b_dsetd, ↓Fw.a_star, Fw.v_pop, Fw.v_reverse, ↓Fw.a_tru1, Fw.v_tru_r, ↓Fw.a_gseq, ↓Fw.b_gcons, ↓Fw.b_gnil, ↓Fw.a_seq, ↓Fw.a_next, ↓Fw.a_brk, ↓Fw.a_cont, ↓Fw.a_asg, ↓Fw.a_name, ↓Fw.a_gsub, ↓Fw.b_var, ↓Fw.a_c, ↓Fw.a_op, ↓Fw.a_un, ↓Fw.a_cons, ↓Fw.a_nil, ↓Fw.a_ret, ↓Fw.a_retN, ↓Fw.a_drop, ↓Fw.a_if, ↓Fw.b_test, ↓Fw.b_B, ↓Fw.a_and, ↓Fw.a_or, ↓Fw.a_not, ↓Fw.b_andV, ↓Fw.b_orV, ↓Fw.b_notV, ↓Fw.a_ifE, ↓Fw.a_fn, ↓Fw.a_fnX, ↓Fw.a_hold, ↓Fw.a_holdX, ↓Fw.a_ne_rr, ↓Fw.a_eq_rr, ↓Fw.a_at, ↓Fw.a_atS, ↓Fw.a_step, Fw.v_step, Fw.v_min2, Fw.v_max2, Fw.v_clear, ↓Fw.a_mt, ↓Fw.a_mtX, ↓Fw.a_mk, ↓Fw.a_cb, ↓Fw.a_lst, ↓Fw.a_tup, ↓Fw.a_chain, ↓Fw.a_dnew, ↓Fw.a_start, Fw.v_rU, Int.reduceNeg, Fw.v_add_ii, Fw.v_add_ss, Fw.v_sub_ii, Fw.v_mul_ii, Fw.v_div_ii, Fw.v_mod_ii, Fw.v_pow_ii, Fw.v_lt_ii, Fw.v_gt_ii, Fw.v_le_ii, Fw.v_ge_ii, Fw.v_le_ss, Fw.v_eqS_ii, Fw.v_eqS_ss, Fw.v_neS_ii, Fw.v_neS_ss, Fw.v_eq_ii, Fw.v_eq_ss, Fw.v_eq_bb, Fw.v_ne_ii, Fw.v_ne_ss, Fw.v_ne_bb, Fw.v_ne_tt, Fw.v_eq_tt, Fw.v_in_sc, Fw.v_ix_s, Fw.v_len_s, Fw.v_type, Fw.v_is, ↓Fw.a_bm, ↓Fw.a_bm0, ↓Fw.a_sl, ↓Fw.a_nopart, ↓Fw.a_part, Fw.v_sl_s, Fw.v_sl_r, Fw.v_app, Fw.v_add_rr, ↓Fw.b_ix_r, Fw.b_ix_r, Fw.v_in_r, Fw.v_set_r, Fw.v_len_r, Fw.v_list_r, Fw.v_listA, Fw.v_dictA, Fw.v_int_i, Fw.v_int_b, Fw.v_key_i, Fw.v_key_s, Fw.v_lst, Fw.v_tup, Fw.v_dic, Fw.v_ty_r, Fw.v_ty_s, Fw.v_ty_i, Fw.v_ty_b, Fw.v_ty_n, Fw.v_tyL, Fw.v_same, Fw.v_old, Fw.v_ne, Fw.v_upd, Fw.v_flat_s, Fw.v_inStrs, ↓Fw.a_yes, Fw.v_wipe0, Fw.v_wipe1, Fw.cx_K, Int.reduceToNat, List.length_replicate, Nat.sub_self, Nat.reduceSub, Nat.reduceAdd, List.replicate_zero, List.replicate_succ, List.append_nil, List.length_cons, List.length_nil, List.map_cons, List.map_nil, List.cons_append, List.nil_append, List.getElem?_cons_zero, List.getElem?_cons_succ, List.set_cons_zero, List.set_cons_succ, Option.some.injEq, V.int.injEq, V.bl.injEq, V.ref.injEq, V.str.injEq, exists_eq_left', exists_eq_left, exists_eq_right, exists_and_left, HO.lst.injEq, HO.dK.injEq, HO.tup.injEq, Option.isSome_some, true_and, and_true, Fw.v_m_bool, Fw.v_m_int, Fw.v_m_str, Fw.v_m_list, Fw.v_m_tuple, Fw.v_m_dict, Fw.v_flats, Bool.xor_true, Bool.xor_false, Bool.not_eq_true', decide_eq_false_iff_not, not_true_eq_false, not_false_eq_true, decide_true, decide_false, decide_eq_true_eq, ite_true, ite_false, Bool.not_true, Bool.not_false, Bool.false_eq_true, reduceCtorEq, Fw.isT_NoneType_bool, Fw.isT_NoneType_int, Fw.isT_NoneType_str, Fw.isT_NoneType_list, Fw.isT_NoneType_tuple, Fw.isT_NoneType_dict, Fw.isT_bool_bool, Fw.isT_bool_int, Fw.isT_bool_str, Fw.isT_bool_list, Fw.isT_bool_tuple, Fw.isT_bool_dict, Fw.isT_int_bool, Fw.isT_int_int, Fw.isT_int_str, Fw.isT_int_list, Fw.isT_int_tuple, Fw.isT_int_dict, Fw.isT_str_bool, Fw.isT_str_int, Fw.isT_str_str, Fw.isT_str_list, Fw.isT_str_tuple, Fw.isT_str_dict, Fw.isT_list_bool, Fw.isT_list_int, Fw.isT_list_str, Fw.isT_list_list, Fw.isT_list_tuple, Fw.isT_list_dict, Fw.isT_tuple_bool, Fw.isT_tuple_int, Fw.isT_tuple_str, Fw.isT_tuple_list, Fw.isT_tuple_tuple, Fw.isT_tuple_dict, Fw.isT_dict_bool, Fw.isT_dict_int, Fw.isT_dict_str, Fw.isT_dict_list, Fw.isT_dict_tuple, Fw.isT_dict_dict, hW0, List.length_map, wl]
    exact z
  · rw [upd_ne (Ne.symm n3), upd_ne (Ne.symm n1), upd_same]
    rfl
  · rw [upd_ne (Ne.symm n2), upd_same]
    rfl
  · rintro i σ2 H2 N hi ⟨sm, hF, hD, hN2, v5, v6, rfl⟩ hN
    have hW2 := sm _ _ hW
    have gw : atI ((wordsOf ns n).map V.str) (i : Int) = some (.str (word i (cellAt ns 1))) := by
      refine atI_nat ?_
      unfold wordsOf wordsN
      rw [List.map_map, List.getElem?_map, List.getElem?_range hi]
      rfl
    have lF := fullN_len (o := 3) (m := 60) (ns := ns) (n := i)
    have lD := doneN_len (o := 3) (m := 60) (ns := ns) (n := i)
    simp -dsimp +contextual only [↓Fw.a_disp, ↓Fw.a_pnil, ↓Fw.a_pcons, Fw.v_keys0, Fw.v_keys1, Fw.v_deq, ↓Fw.a_truD1, Fw.v_truD, ↓Fw.a_dqPop, ↓Fw.a_dqApp, Fw.v_isD, ↓Fw.a_dget2, ↓Fw.b_dsetd, ↓Fw.a_star, Fw.v_pop, Fw.v_reverse, ↓Fw.a_tru1, Fw.v_tru_r, ↓Fw.a_gseq, ↓Fw.b_gcons, ↓Fw.b_gnil, ↓Fw.a_seq, ↓Fw.a_next, ↓Fw.a_brk, ↓Fw.a_cont, ↓Fw.a_asg, ↓Fw.a_name, ↓Fw.a_gsub, ↓Fw.b_var, ↓Fw.a_c, ↓Fw.a_op, ↓Fw.a_un, ↓Fw.a_cons, ↓Fw.a_nil, ↓Fw.a_ret, ↓Fw.a_retN, ↓Fw.a_drop, ↓Fw.a_if, ↓Fw.b_test, ↓Fw.b_B, ↓Fw.a_and, ↓Fw.a_or, ↓Fw.a_not, ↓Fw.b_andV, ↓Fw.b_orV, ↓Fw.b_notV, ↓Fw.a_ifE, ↓Fw.a_fn, ↓Fw.a_fnX, ↓Fw.a_hold, ↓Fw.a_holdX, ↓Fw.a_ne_rr, ↓Fw.a_eq_rr, ↓Fw.a_at, ↓Fw.a_atS, ↓Fw.a_step, Fw.v_step, Fw.v_min2, Fw.v_max2, Fw.v_clear, ↓Fw.a_mt, ↓Fw.a_mtX, ↓Fw.a_mk, ↓Fw.a_cb, ↓Fw.a_lst, ↓Fw.a_tup, ↓Fw.a_chain, ↓Fw.a_dnew, ↓Fw.a_start, Fw.v_rU, Int.reduceNeg, Fw.v_add_ii, Fw.v_add_ss, Fw.v_sub_ii, Fw.v_mul_ii, Fw.v_div_ii, Fw.v_mod_ii, Fw.v_pow_ii, Fw.v_lt_ii, Fw.v_gt_ii, Fw.v_le_ii, Fw.v_ge_ii, Fw.v_le_ss, Fw.v_eqS_ii, Fw.v_eqS_ss, Fw.v_neS_ii, Fw.v_neS_ss, Fw.v_eq_ii, Fw.v_eq_ss, Fw.v_eq_bb, Fw.v_ne_ii, Fw.v_ne_ss, Fw.v_ne_bb, Fw.v_ne_tt, Fw.v_eq_tt, Fw.v_in_sc, Fw.v_ix_s, Fw.v_len_s, Fw.v_type, Fw.v_is, ↓Fw.a_bm, ↓Fw.a_bm0, ↓Fw.a_sl, ↓Fw.a_nopart, ↓Fw.a_part, Fw.v_sl_s, Fw.v_sl_r, Fw.v_app, Fw.v_add_rr, ↓Fw.b_ix_r, Fw.b_ix_r, Fw.v_in_r, Fw.v_set_r, Fw.v_len_r, Fw.v_list_r, Fw.v_listA, Fw.v_dictA, Fw.v_int_i, Fw.v_int_b, Fw.v_key_i, Fw.v_key_s, Fw.v_lst, Fw.v_tup, Fw.v_dic, Fw.v_ty_r, Fw.v_ty_s, Fw.v_ty_i, Fw.v_ty_b, Fw.v_ty_n, Fw.v_tyL, Fw.v_same, Fw.v_old, Fw.v_ne, Fw.v_upd, Fw.v_flat_s, Fw.v_inStrs, ↓Fw.a_yes, Fw.v_wipe0, Fw.v_wipe1, Fw.cx_K, Int.reduceToNat, List.length_replicate, Nat.sub_self, Nat.reduceSub, Nat.reduceAdd, List.replicate_zero, List.replicate_succ, List.append_nil, List.length_cons, List.length_nil, List.map_cons, List.map_nil, List.cons_append, List.nil_append, List.getElem?_cons_zero, List.getElem?_cons_succ, List.set_cons_zero, List.set_cons_succ, Option.some.injEq, V.int.injEq, V.bl.injEq, V.ref.injEq, V.str.injEq, exists_eq_left', exists_eq_left, exists_eq_right, exists_and_left, HO.lst.injEq, HO.dK.injEq, HO.tup.injEq, Option.isSome_some, true_and, and_true, Fw.v_m_bool, Fw.v_m_int, Fw.v_m_str, Fw.v_m_list, Fw.v_m_tuple, Fw.v_m_dict, Fw.v_flats, Bool.xor_true, Bool.xor_false, Bool.not_eq_true', decide_eq_false_iff_not, not_true_eq_false, not_false_eq_true, decide_true, decide_false, decide_eq_true_eq, ite_true, ite_false, Bool.not_true, Bool.not_false, Bool.false_eq_true, reduceCtorEq, Fw.isT_NoneType_bool, Fw.isT_NoneType_int, Fw.isT_NoneType_str, Fw.isT_NoneType_list, Fw.isT_NoneType_tuple, Fw.isT_NoneType_dict, Fw.isT_bool_bool, Fw.isT_bool_int, Fw.isT_bool_str, Fw.isT_bool_list, Fw.isT_bool_tuple, Fw.isT_bool_dict, Fw.isT_int_bool, Fw.isT_int_int, Fw.isT_int_str, Fw.isT_int_list, Fw.isT_int_tuple, Fw.isT_int_dict, Fw.isT_str_bool, Fw.isT_str_int, Fw.isT_str_str, Fw.isT_str_list, Fw.isT_str_tuple, Fw.isT_str_dict, Fw.isT_list_bool, Fw.isT_list_int, Fw.isT_list_str, Fw.isT_list_list, Fw.isT_list_tuple, Fw.isT_list_dict, Fw.isT_tuple_bool, Fw.isT_tuple_int, Fw.isT_tuple_str, Fw.isT_tuple_list, Fw.isT_tuple_tuple, Fw.isT_tuple_dict, Fw.isT_dict_bool, Fw.isT_dict_int, Fw.isT_dict_str, Fw.isT_dict_list, Fw.isT_dict_tuple, Fw.isT_dict_dict]
    refine ⟨by decide, cell_use (3 + i % 60) (sm.seq hS) (by omega) ?_⟩
    unfold sp_mixed
    simp -dsimp +contextual only [↓Fw.a_disp, ↓Fw.a_pnil, ↓Fw.a_pcons, Fw.v_keys0, Fw.v_keys1, Fw.v_deq, ↓Fw.a_truD1, Fw.v_truD, ↓Fw.a_dqPop, ↓Fw.a_dqApp, Fw.v_isD, ↓Fw.a_dget2, ↓Fw.b_dsetd, ↓Fw.a_star, Fw.v_pop, Fw.v_reverse, ↓Fw.a_tru1, Fw.v_tru_r, ↓Fw.a_gseq, ↓Fw.b_gcons, ↓Fw.b_gnil, ↓Fw.a_seq, ↓Fw.a_next, ↓Fw.a_brk, ↓Fw.a_cont, ↓Fw.a_asg, ↓Fw.a_name, ↓Fw.a_gsub, ↓Fw.b_var, ↓Fw.a_c, ↓Fw.a_op, ↓Fw.a_un, ↓Fw.a_cons, ↓Fw.a_nil, ↓Fw.a_ret, ↓Fw.a_retN, ↓Fw.a_drop, ↓Fw.a_if, ↓Fw.b_test, ↓Fw.b_B, ↓Fw.a_and, ↓Fw.a_or, ↓Fw.a_not, ↓Fw.b_andV, ↓Fw.b_orV, ↓Fw.b_notV, ↓Fw.a_ifE, ↓Fw.a_fn, ↓Fw.a_fnX, ↓Fw.a_hold, ↓Fw.a_holdX, ↓Fw.a_ne_rr, ↓Fw.a_eq_rr, ↓Fw.a_at, ↓Fw.a_atS, ↓Fw.a_step, Fw.v_step, Fw.v_min2, Fw.v_max2, Fw.v_clear, ↓Fw.a_mt, ↓Fw.a_mtX, ↓Fw.a_mk, ↓Fw.a_cb, ↓Fw.a_lst, ↓Fw.a_tup, ↓Fw.a_chain, ↓Fw.a_dnew, ↓Fw.a_start, Fw.v_rU, Int.reduceNeg, Fw.v_add_ii, Fw.v_add_ss, Fw.v_sub_ii, Fw.v_mul_ii, Fw.v_div_ii, Fw.v_mod_ii, Fw.v_pow_ii, Fw.v_lt_ii, Fw.v_gt_ii, Fw.v_le_ii, Fw.v_ge_ii, Fw.v_le_ss, Fw.v_eqS_ii, Fw.v_eqS_ss, Fw.v_neS_ii, Fw.v_neS_ss, Fw.v_eq_ii, Fw.v_eq_ss, Fw.v_eq_bb, Fw.v_ne_ii, Fw.v_ne_ss, Fw.v_ne_bb, Fw.v_ne_tt, Fw.v_eq_tt, Fw.v_in_sc, Fw.v_ix_s, Fw.v_len_s, Fw.v_type, Fw.v_is, ↓Fw.a_bm, ↓Fw.a_bm0, ↓Fw.a_sl, ↓Fw.a_nopart, ↓Fw.a_part, Fw.v_sl_s, Fw.v_sl_r, Fw.v_app, Fw.v_add_rr, ↓Fw.b_ix_r, Fw.b_ix_r, Fw.v_in_r, Fw.v_set_r, Fw.v_len_r, Fw.v_list_r, Fw.v_listA, Fw.v_dictA, Fw.v_int_i, Fw.v_int_b, Fw.v_key_i, Fw.v_key_s, Fw.v_lst, Fw.v_tup, Fw.v_dic, Fw.v_ty_r, Fw.v_ty_s, Fw.v_ty_i, Fw.v_ty_b, Fw.v_ty_n, Fw.v_tyL, Fw.v_same, Fw.v_old, Fw.v_ne, Fw.v_upd, Fw.v_flat_s, Fw.v_inStrs, ↓Fw.a_yes, Fw.v_wipe0, Fw.v_wipe1, Fw.cx_K, Int.reduceToNat, List.length_replicate, Nat.sub_self, Nat.reduceSub, Nat.reduceAdd, List.replicate_zero, List.replicate_succ, List.append_nil, List.length_cons, List.length_nil, List.map_cons, List.map_nil, List.cons_append, List.nil_append, List.getElem?_cons_zero, List.getElem?_cons_succ, List.set_cons_zero, List.set_cons_succ, Option.some.injEq, V.int.injEq, V.bl.injEq, V.ref.injEq, V.str.injEq, exists_eq_left', exists_eq_left, exists_eq_right, exists_and_left, HO.lst.injEq, HO.dK.injEq, HO.tup.injEq, Option.isSome_some, true_and, and_true, Fw.v_m_bool, Fw.v_m_int, Fw.v_m_str, Fw.v_m_list, Fw.v_m_tuple, Fw.v_m_dict, Fw.v_flats, Bool.xor_true, Bool.xor_false, Bool.not_eq_true', decide_eq_false_iff_not, not_true_eq_false, not_false_eq_true, decide_true, decide_false, decide_eq_true_eq, ite_true, ite_false, Bool.not_true, Bool.not_false, Bool.false_eq_true, reduceCtorEq, Fw.isT_NoneType_bool, Fw.isT_NoneType_int, Fw.isT_NoneType_str, Fw.isT_NoneType_list, Fw.isT_NoneType_tuple, Fw.isT_NoneType_dict, Fw.isT_bool_bool, Fw.isT_bool_int, Fw.isT_bool_str, Fw.isT_bool_list, Fw.isT_bool_tuple, Fw.isT_bool_dict, Fw.isT_int_bool, Fw.isT_int_int, Fw.isT_int_str, Fw.isT_int_list, Fw.isT_int_tuple, Fw.isT_int_dict, Fw.isT_str_bool, Fw.isT_str_int, Fw.isT_str_str, Fw.isT_str_list, Fw.isT_str_tuple, Fw.isT_str_dict, Fw.isT_list_bool, Fw.isT_list_int, Fw.isT_list_str, Fw.isT_list_list, Fw.isT_list_tuple, Fw.isT_list_dict, Fw.isT_tuple_bool, Fw.isT_tuple_int, Fw.isT_tuple_str, Fw.isT_tuple_list, Fw.isT_tuple_tuple, Fw.isT_tuple_dict, Fw.isT_dict_bool, Fw.isT_dict_int, Fw.isT_dict_str, Fw.isT_dict_list, Fw.isT_dict_tuple, Fw.isT_dict_dict, hW2, hF, hD, gw, List.length_map]
    have cell : mixed (cellAt ns (3 + i % 60)) (i : Int) = cellK 3 60 ns i := rfl
    rw [cell]
    refine ⟨by decide, ite2 (fun c => ⟨Nat.lt_of_le_of_lt lF (Nat.lt_of_lt_of_le (show i < 100 by omega) (by decide)), ⟨by decide, by decide⟩, ?_⟩) fun c => ?_⟩
    · have hW3 : upd H2 p (.lst ((fullN 3 60 ns i).map V.str ++ [.str (word i (cellAt ns 1))])) pw = some (.lst ((wordsOf ns n).map V.str)) := by
        rw [upd_ne (Ne.symm hpw)]
        exact hW2
      refine ⟨_, hW3, by omega, by omega, fun q H3 sm3 hq hQ => ?_⟩
      have hW4 := sm3 _ _ hW3
      have sm4 : Same H1 H3 := Same.trans (same_mut sm hp) sm3
      have hF4 : H3 p = some (.lst ((fullN 3 60 ns (i + 1)).map V.str)) := by
        refine sm3 _ _ ?_
        rw [upd_same, fullN_succ, if_pos (show isF 3 60 ns i = true from decide_eq_true c), List.map_append]
        rfl
      have hD4 : H3 p1 = some (.lst ((doneN 3 60 ns (i + 1)).map V.str)) := by
        refine sm3 _ _ ?_
        rw [upd_ne n1, doneN_succ, if_neg (show ¬ isD 3 60 ns i = true from fun z => (of_decide_eq_true z).1 c), List.append_nil]
        exact hD
      obtain ⟨kvs, hK, hkl, hput⟩ := hN2.put (word_fresh (o := 3) (m := 60) (ns := ns) (n := i) (by omega))
      have e2p : p2 ≠ p := n3
      have hK4 : H3 p2 = some (.dK kvs) := sm3 _ _ (by rw [upd_ne n3]; exact hK)
      simp -dsimp +contextual only [↓Fw.a_disp, ↓Fw.a_pnil, ↓Fw.a_pcons, Fw.v_keys0, Fw.v_keys1, Fw.v_deq, ↓Fw.a_truD1, Fw.v_truD, ↓Fw.a_dqPop, ↓Fw.a_dqApp, Fw.v_isD, ↓Fw.a_dget2, ↓Fw.b_dsetd, ↓Fw.a_star, Fw.v_pop, Fw.v_reverse, ↓Fw.a_tru1, Fw.v_tru_r, ↓Fw.a_gseq, ↓Fw.b_gcons, ↓Fw.b_gnil, ↓Fw.a_seq, ↓Fw.a_next, ↓Fw.a_brk, ↓Fw.a_cont, ↓Fw.a_asg, ↓Fw.a_name, ↓Fw.a_gsub, ↓Fw.b_var, ↓Fw.a_c, ↓Fw.a_op, ↓Fw.a_un, ↓Fw.a_cons, ↓Fw.a_nil, ↓Fw.a_ret, ↓Fw.a_retN, ↓Fw.a_drop, ↓Fw.a_if, ↓Fw.b_test, ↓Fw.b_B, ↓Fw.a_and, ↓Fw.a_or, ↓Fw.a_not, ↓Fw.b_andV, ↓Fw.b_orV, ↓Fw.b_notV, ↓Fw.a_ifE, ↓Fw.a_fn, ↓Fw.a_fnX, ↓Fw.a_hold, ↓Fw.a_holdX, ↓Fw.a_ne_rr, ↓Fw.a_eq_rr, ↓Fw.a_at, ↓Fw.a_atS, ↓Fw.a_step, Fw.v_step, Fw.v_min2, Fw.v_max2, Fw.v_clear, ↓Fw.a_mt, ↓Fw.a_mtX, ↓Fw.a_mk, ↓Fw.a_cb, ↓Fw.a_lst, ↓Fw.a_tup, ↓Fw.a_chain, ↓Fw.a_dnew, ↓Fw.a_start, Fw.v_rU, Int.reduceNeg, Fw.v_add_ii, Fw.v_add_ss, Fw.v_sub_ii, Fw.v_mul_ii, Fw.v_div_ii, Fw.v_mod_ii, Fw.v_pow_ii, Fw.v_lt_ii, Fw.v_gt_ii, Fw.v_le_ii, Fw.v_ge_ii, Fw.v_le_ss, Fw.v_eqS_ii, Fw.v_eqS_ss, Fw.v_neS_ii, Fw.v_neS_ss, Fw.v_eq_ii, Fw.v_eq_ss, Fw.v_eq_bb, Fw.v_ne_ii, Fw.v_ne_ss, Fw.v_ne_bb, Fw.v_ne_tt, Fw.v_eq_tt, Fw.v_in_sc, Fw.v_ix_s, Fw.v_len_s, Fw.v_type, Fw.v_is, ↓Fw.a_bm, ↓Fw.a_bm0, ↓Fw.a_sl, ↓Fw.a_nopart, ↓Fw.a_part, Fw.v_sl_s, Fw.v_sl_r, Fw.v_app, Fw.v_add_rr, ↓Fw.b_ix_r, Fw.b_ix_r, Fw.v_in_r, Fw.v_set_r, Fw.v_len_r, Fw.v_list_r, Fw.v_listA, Fw.v_dictA, Fw.v_int_i, Fw.v_int_b, Fw.v_key_i, Fw.v_key_s, Fw.v_lst, Fw.v_tup, Fw.v_dic, Fw.v_ty_r, Fw.v_ty_s, Fw.v_ty_i, Fw.v_ty_b, Fw.v_ty_n, Fw.v_tyL, Fw.v_same, Fw.v_old, Fw.v_ne, Fw.v_upd, Fw.v_flat_s, Fw.v_inStrs, ↓Fw.a_yes, Fw.v_wipe0, Fw.v_wipe1, Fw.cx_K, Int.reduceToNat, List.length_replicate, Nat.sub_self, Nat.reduceSub, Nat.reduceAdd, List.replicate_zero, List.replicate_succ, List.append_nil, List.length_cons, List.length_nil, List.map_cons, List.map_nil, List.cons_append, List.nil_append, List.getElem?_cons_zero, List.getElem?_cons_succ, List.set_cons_zero, List.set_cons_succ, Option.some.injEq, V.int.injEq, V.bl.injEq, V.ref.injEq, V.str.injEq, exists_eq_left', exists_eq_left, exists_eq_right, exists_and_left, HO.lst.injEq, HO.dK.injEq, HO.tup.injEq, Option.isSome_some, true_and, and_true, Fw.v_m_bool, Fw.v_m_int, Fw.v_m_str, Fw.v_m_list, Fw.v_m_tuple, Fw.v_m_dict, Fw.v_flats, Bool.xor_true, Bool.xor_false, Bool.not_eq_true', decide_eq_false_iff_not, not_true_eq_false, not_false_eq_true, decide_true, decide_false, decide_eq_true_eq, ite_true, ite_false, Bool.not_true, Bool.not_false, Bool.false_eq_true, reduceCtorEq, Fw.isT_NoneType_bool, Fw.isT_NoneType_int, Fw.isT_NoneType_str, Fw.isT_NoneType_list, Fw.isT_NoneType_tuple, Fw.isT_NoneType_dict, Fw.isT_bool_bool, Fw.isT_bool_int, Fw.isT_bool_str, Fw.isT_bool_list, Fw.isT_bool_tuple, Fw.isT_bool_dict, Fw.isT_int_bool, Fw.isT_int_int, Fw.isT_int_str, Fw.isT_int_list, Fw.isT_int_tuple, Fw.isT_int_dict, Fw.isT_str_bool, Fw.isT_str_int, Fw.isT_str_str, Fw.isT_str_list, Fw.isT_str_tuple, Fw.isT_str_dict, Fw.isT_list_bool, Fw.isT_list_int, Fw.isT_list_str, Fw.isT_list_list, Fw.isT_list_tuple, Fw.isT_list_dict, Fw.isT_tuple_bool, Fw.isT_tuple_int, Fw.isT_tuple_str, Fw.isT_tuple_list, Fw.isT_tuple_tuple, Fw.isT_tuple_dict, Fw.isT_dict_bool, Fw.isT_dict_int, Fw.isT_dict_str, Fw.isT_dict_list, Fw.isT_dict_tuple, Fw.isT_dict_dict, hW4, gw, hK4]
      refine ⟨by rw [hkl]; exact Nat.lt_of_le_of_lt lF (Nat.lt_of_lt_of_le (show i < 100 by omega) (by decide)), hN _ _ ⟨same_mut sm4 hp2'', ?_, ?_, ?_, _, _, rfl⟩⟩
      · rw [upd_ne (Ne.symm n3)]
        exact hF4
      · rw [upd_ne (Ne.symm n2)]
        exact hD4
      · rw [fullN_succ, if_pos (show isF 3 60 ns i = true from decide_eq_true c)]
        refine hput H3 q (SameX.trans (SameX.mut List.mem_cons_self) (Same.but sm3)) ?_ ?_
        · intro z
          rcases List.mem_cons.mp z with z | z
          · subst z
            rw [upd_same] at hq
            cases hq
          · rw [List.mem_singleton.mp z, upd_ne n1, hD] at hq
            cases hq
        · rw [hQ, ndOf_word (by omega) hi]
    · refine ⟨by decide, ite2 (fun c2 => ⟨Nat.lt_of_le_of_lt lD (Nat.lt_of_lt_of_le (show i < 100 by omega) (by decide)), ?_⟩) fun c2 => ?_⟩
      · have nF : ¬ isF 3 60 ns i = true := fun z => c (of_decide_eq_true z)
        refine hN _ _ ⟨same_mut sm hp1', ?_, ?_, ?_, _, _, rfl⟩
        · rw [upd_ne (Ne.symm n1), fullN_succ, if_neg nF, List.append_nil]
          exact hF
        · rw [upd_same, doneN_succ, if_pos (show isD 3 60 ns i = true from decide_eq_true ⟨c, c2⟩), List.map_append]
          rfl
        · rw [fullN_succ, if_neg nF, List.append_nil]
          exact hN2.but (SameX.mut (by simp))
      · have nF : ¬ isF 3 60 ns i = true := fun z => c (of_decide_eq_true z)
        have nD : ¬ isD 3 60 ns i = true := fun z => c2 (of_decide_eq_true z).2
        refine hN _ _ ⟨sm, ?_, ?_, ?_, _, _, rfl⟩
        · rw [fullN_succ, if_neg nF, List.append_nil]
          exact hF
        · rw [doneN_succ, if_neg nD, List.append_nil]
          exact hD
        · rw [fullN_succ, if_neg nF, List.append_nil]
          exact hN2
  · rintro σ2 H2 ⟨sm, hF, hD, hN2, v5, v6, rfl⟩
    exact hd v5 v6 H2 sm hF hD hN2

def sp_law (K : PySem.W.Frag) : Sp := fun vs H Q _ => match vs with
  | [.ref a] => (∃ ns : List Int, SqL K H a (ns.map V.int)) ∧ ∀ H', Q (.bl true) H'
  | _ => False
/-! ### needing_of -/
theorem ok_needing_of (S : Src K mg "needing_of" ["needs"] s_needing_of) (B : Blt mg) : Fn P w K mg base 1 "needing_of" ["needs"] (sp_needing_of) := by
  have sc := sc_needing_of
  refine fn_mk S sc (fun vs H Q E h => ?_) (fun f cdv A outer s H vs Q E hr h => ⟨_, (pss_cons (ps_set (i := 1) sc.nd rfl (by first | exact Or.inl rfl | exact Or.inr rfl) pe_dnewK)
     (pss_cons (ps_lock (ps_for PassesOwn.never rfl (pi_items (pv 0)) (pg_seq (n := 2) rfl (pgs_cons (pg_name (i := 2) sc.nd rfl (by first | exact Or.inl rfl | exact Or.inr rfl)) (pgs_cons (pg_name (i := 3) sc.nd rfl (by first | exact Or.inl rfl | exact Or.inr rfl)) pgs_nil)))
     (pss_one (ps_for PassesOwn.never rfl (pi_list (pv 3)) (pg_name (i := 4) sc.nd rfl (by first | exact Or.inl rfl | exact Or.inr rfl))
     (pss_one (ps_expr (pe_bm PySem.F.plainAttrs_list PySem.F.slot_list_append PySem.F.type_list_append mt_append (pe_dsetd (pv 1) (pv 4) (pe_lst pa_nil) ⟨rfl, rfl, rfl, rfl⟩) (pa_cons (pv 2) pa_nil))))))))
     (pss_one (ps_ret (pv 1))))), ?_⟩)
  · unfold sp_needing_of at h; split at h <;> first | rfl | exact h.elim
  · unfold sp_needing_of at h
    split at h
    · rename_i d
      obtain ⟨ks, nd, ⟨_, ad, hD, hL⟩, lk, ln, q⟩ := h
      simp -dsimp only [↓Fw.a_disp, ↓Fw.a_pnil, ↓Fw.a_pcons, Fw.v_keys0, Fw.v_keys1, Fw.v_deq, ↓Fw.a_truD1, Fw.v_truD, ↓Fw.a_dqPop, ↓Fw.a_dqApp, Fw.v_isD, ↓Fw.a_dget2, ↓Fw.b_dsetd, ↓Fw.a_star, Fw.v_pop, Fw.v_reverse, ↓Fw.a_tru1, Fw.v_tru_r, ↓Fw.a_gseq, ↓Fw.b_gcons, ↓Fw.b_gnil, ↓Fw.a_seq, ↓Fw.a_next, ↓Fw.a_brk, ↓Fw.a_cont, ↓Fw.a_asg, ↓Fw.a_name, ↓Fw.a_gsub, ↓Fw.b_var, ↓Fw.a_c, ↓Fw.a_op, ↓Fw.a_un, ↓Fw.a_cons, ↓Fw.a_nil, ↓Fw.a_ret, ↓Fw.a_retN, ↓Fw.a_drop, ↓Fw.a_if, ↓Fw.b_test, ↓Fw.b_B, ↓Fw.a_and, ↓Fw.a_or, ↓Fw.a_not, ↓Fw.b_andV, ↓Fw.b_orV, ↓Fw.b_notV, ↓Fw.a_ifE, ↓Fw.a_fn, ↓Fw.a_fnX, ↓Fw.a_hold, ↓Fw.a_holdX, ↓Fw.a_ne_rr, ↓Fw.a_eq_rr, ↓Fw.a_at, ↓Fw.a_atS, ↓Fw.a_step, Fw.v_step, Fw.v_min2, Fw.v_max2, Fw.v_clear, ↓Fw.a_mt, ↓Fw.a_mtX, ↓Fw.a_mk, ↓Fw.a_cb, ↓Fw.a_lst, ↓Fw.a_tup, ↓Fw.a_chain, ↓Fw.a_dnew, ↓Fw.a_start, Fw.v_rU, Int.reduceNeg, Fw.v_add_ii, Fw.v_add_ss, Fw.v_sub_ii, Fw.v_mul_ii, Fw.v_div_ii, Fw.v_mod_ii, Fw.v_pow_ii, Fw.v_lt_ii, Fw.v_gt_ii, Fw.v_le_ii, Fw.v_ge_ii, Fw.v_le_ss, Fw.v_eqS_ii, Fw.v_eqS_ss, Fw.v_neS_ii, Fw.v_neS_ss, Fw.v_eq_ii, Fw.v_eq_ss, Fw.v_eq_bb, Fw.v_ne_ii, Fw.v_ne_ss, Fw.v_ne_bb, Fw.v_ne_tt, Fw.v_eq_tt, Fw.v_in_sc, Fw.v_ix_s, Fw.v_len_s, Fw.v_type, Fw.v_is, ↓Fw.a_bm, ↓Fw.a_bm0, ↓Fw.a_sl, ↓Fw.a_nopart, ↓Fw.a_part, Fw.v_sl_s, Fw.v_sl_r, Fw.v_app, Fw.v_add_rr, ↓Fw.b_ix_r, Fw.b_ix_r, Fw.v_in_r, Fw.v_set_r, Fw.v_len_r, Fw.v_list_r, Fw.v_listA, Fw.v_dictA, Fw.v_int_i, Fw.v_int_b, Fw.v_key_i, Fw.v_key_s, Fw.v_lst, Fw.v_tup, Fw.v_dic, Fw.v_ty_r, Fw.v_ty_s, Fw.v_ty_i, Fw.v_ty_b, Fw.v_ty_n, Fw.v_tyL, Fw.v_same, Fw.v_old, Fw.v_ne, Fw.v_upd, Fw.v_flat_s, Fw.v_inStrs, ↓Fw.a_yes, Fw.v_wipe0, Fw.v_wipe1, Fw.cx_K, Int.reduceToNat, List.length_replicate, Nat.sub_self, Nat.reduceSub, Nat.reduceAdd, List.replicate_zero, List.replicate_succ, List.append_nil, List.length_cons, List.length_nil, List.map_cons, List.map_nil, List.cons_append, List.nil_append, List.getElem?_cons_zero, List.getElem?_cons_succ, List.set_cons_zero, List.set_cons_succ, Option.some.injEq, V.int.injEq, V.bl.injEq, V.ref.injEq, V.str.injEq, exists_eq_left', exists_eq_left, exists_eq_right, exists_and_left, HO.lst.injEq, HO.dK.injEq, HO.tup.injEq, Option.isSome_some, true_and, and_true, Fw.v_m_bool, Fw.v_m_int, Fw.v_m_str, Fw.v_m_list, Fw.v_m_tuple, Fw.v_m_dict, Fw.v_flats, Bool.xor_true, Bool.xor_false, Bool.not_eq_true', decide_eq_false_iff_not, not_true_eq_false, not_false_eq_true, decide_true, decide_false, decide_eq_true_eq, ite_true, ite_false, Bool.not_true, Bool.not_false, Bool.false_eq_true, reduceCtorEq, Fw.isT_NoneType_bool, Fw.isT_NoneType_int, Fw.isT_NoneType_str, Fw.isT_NoneType_list, Fw.isT_NoneType_tuple, Fw.isT_NoneType_dict, Fw.isT_bool_bool, Fw.isT_bool_int, Fw.isT_bool_str, Fw.isT_bool_list, Fw.isT_bool_tuple, Fw.isT_bool_dict, Fw.isT_int_bool, Fw.isT_int_int, Fw.isT_int_str, Fw.isT_int_list, Fw.isT_int_tuple, Fw.isT_int_dict, Fw.isT_str_bool, Fw.isT_str_int, Fw.isT_str_str, Fw.isT_str_list, Fw.isT_str_tuple, Fw.isT_str_dict, Fw.isT_list_bool, Fw.isT_list_int, Fw.isT_list_str, Fw.isT_list_list, Fw.isT_list_tuple, Fw.isT_list_dict, Fw.isT_tuple_bool, Fw.isT_tuple_int, Fw.isT_tuple_str, Fw.isT_tuple_list, Fw.isT_tuple_tuple, Fw.isT_tuple_dict, Fw.isT_dict_bool, Fw.isT_dict_int, Fw.isT_dict_str, Fw.isT_dict_list, Fw.isT_dict_tuple, Fw.isT_dict_dict]
      refine fun p hp => ?_
      have hD1 : upd H p (.dK []) d = some (.dK (sK ks fun x => .ref (ad x))) := same_new hp _ _ hD
      have pd : p ≠ d := fun z => by rw [z, hD] at hp; cases hp
      have le : (pairsOf ks nd).length ≤ 800 := Nat.le_trans (pairs_len ln) (by omega)
      have lb : ∀ l : List (Str × Str), l.length ≤ 800 → (turned l).1.length < sizeLine ∧ ∀ y, ((turned l).2 y).length < sizeLine := fun l hl =>
        ⟨Nat.lt_of_le_of_lt (Nat.le_trans (turned_len l).1 hl) (by decide), fun y => Nat.lt_of_le_of_lt (Nat.le_trans ((turned_len l).2 y) hl) (by decide)⟩
      have lp : ∀ i, (pairsOf (ks.take i) nd).length ≤ (pairsOf ks nd).length := fun i => by
        have e : pairsOf ks nd = pairsOf (ks.take i) nd ++ pairsOf (ks.drop i) nd := by
          unfold pairsOf
          rw [← List.flatMap_append, List.take_append_drop]
        rw [e, List.length_append]
        exact Nat.le_add_right _ _
      refine f_items (kvs := sK ks fun x => .ref (ad x)) (d := d) hD1 (fun od R z => by
        simp -dsimp only [↓Fw.a_disp, ↓Fw.a_pnil, ↓Fw.a_pcons, Fw.v_keys0, Fw.v_keys1, Fw.v_deq, ↓Fw.a_truD1, Fw.v_truD, ↓Fw.a_dqPop, ↓Fw.a_dqApp, Fw.v_isD, ↓Fw.a_dget2, ↓Fw.b_dsetd, ↓Fw.a_star, Fw.v_pop, Fw.v_reverse, ↓Fw.a_tru1, Fw.v_tru_r, ↓Fw.a_gseq, ↓Fw.b_gcons, ↓Fw.b_gnil, ↓Fw.a_seq, ↓Fw.a_next, ↓Fw.a_brk, ↓Fw.a_cont, ↓Fw.a_asg, ↓Fw.a_name, ↓Fw.a_gsub, ↓Fw.b_var, ↓Fw.a_c, ↓Fw.a_op, ↓Fw.a_un, ↓Fw.a_cons, ↓Fw.a_nil, ↓Fw.a_ret, ↓Fw.a_retN, ↓Fw.a_drop, ↓Fw.a_if, ↓Fw.b_test, ↓Fw.b_B, ↓Fw.a_and, ↓Fw.a_or, ↓Fw.a_not, ↓Fw.b_andV, ↓Fw.b_orV, ↓Fw.b_notV, ↓Fw.a_ifE, ↓Fw.a_fn, ↓Fw.a_fnX, ↓Fw.a_hold, ↓Fw.a_holdX, ↓Fw.a_ne_rr, ↓Fw.a_eq_rr, ↓Fw.a_at, ↓Fw.a_atS, ↓Fw.a_step, Fw.v_step, Fw.v_min2, Fw.v_max2, Fw.v_clear, ↓Fw.a_mt, ↓Fw.a_mtX, ↓Fw.a_mk, ↓Fw.a_cb, ↓Fw.a_lst, ↓Fw.a_tup, ↓Fw.a_chain, ↓Fw.a_dnew, ↓Fw.a_start, Fw.v_rU, Int.reduceNeg, Fw.v_add_ii, Fw.v_add_ss, Fw.v_sub_ii, Fw.v_mul_ii, Fw.v_div_ii, Fw.v_mod_ii, Fw.v_pow_ii, Fw.v_lt_ii, Fw.v_gt_ii, Fw.v_le_ii, Fw.v_ge_ii, Fw.v_le_ss, Fw.v_eqS_ii, Fw.v_eqS_ss, Fw.v_neS_ii, Fw.v_neS_ss, Fw.v_eq_ii, Fw.v_eq_ss, Fw.v_eq_bb, Fw.v_ne_ii, Fw.v_ne_ss, Fw.v_ne_bb, Fw.v_ne_tt, Fw.v_eq_tt, Fw.v_in_sc, Fw.v_ix_s, Fw.v_len_s, Fw.v_type, Fw.v_is, ↓Fw.a_bm, ↓Fw.a_bm0, ↓Fw.a_sl, ↓Fw.a_nopart, ↓Fw.a_part, Fw.v_sl_s, Fw.v_sl_r, Fw.v_app, Fw.v_add_rr, ↓Fw.b_ix_r, Fw.b_ix_r, Fw.v_in_r, Fw.v_set_r, Fw.v_len_r, Fw.v_list_r, Fw.v_listA, Fw.v_dictA, Fw.v_int_i, Fw.v_int_b, Fw.v_key_i, Fw.v_key_s, Fw.v_lst, Fw.v_tup, Fw.v_dic, Fw.v_ty_r, Fw.v_ty_s, Fw.v_ty_i, Fw.v_ty_b, Fw.v_ty_n, Fw.v_tyL, Fw.v_same, Fw.v_old, Fw.v_ne, Fw.v_upd, Fw.v_flat_s, Fw.v_inStrs, ↓Fw.a_yes, Fw.v_wipe0, Fw.v_wipe1, Fw.cx_K, Int.reduceToNat, List.length_replicate, Nat.sub_self, Nat.reduceSub, Nat.reduceAdd, List.replicate_zero, List.replicate_succ, List.append_nil, List.length_cons, List.length_nil, List.map_cons, List.map_nil, List.cons_append, List.nil_append, List.getElem?_cons_zero, List.getElem?_cons_succ, List.set_cons_zero, List.set_cons_succ, Option.some.injEq, V.int.injEq, V.bl.injEq, V.ref.injEq, V.str.injEq, exists_eq_left', exists_eq_left, exists_eq_right, exists_and_left, HO.lst.injEq, HO.dK.injEq, HO.tup.injEq, Option.isSome_some, true_and, and_true, Fw.v_m_bool, Fw.v_m_int, Fw.v_m_str, Fw.v_m_list, Fw.v_m_tuple, Fw.v_m_dict, Fw.v_flats, Bool.xor_true, Bool.xor_false, Bool.not_eq_true', decide_eq_false_iff_not, not_true_eq_false, not_false_eq_true, decide_true, decide_false, decide_eq_true_eq, ite_true, ite_false, Bool.not_true, Bool.not_false, Bool.false_eq_true, reduceCtorEq, Fw.isT_NoneType_bool, Fw.isT_NoneType_int, Fw.isT_NoneType_str, Fw.isT_NoneType_list, Fw.isT_NoneType_tuple, Fw.isT_NoneType_dict, Fw.isT_bool_bool, Fw.isT_bool_int, Fw.isT_bool_str, Fw.isT_bool_list, Fw.isT_bool_tuple, Fw.isT_bool_dict, Fw.isT_int_bool, Fw.isT_int_int, Fw.isT_int_str, Fw.isT_int_list, Fw.isT_int_tuple, Fw.isT_int_dict, Fw.isT_str_bool, Fw.isT_str_int, Fw.isT_str_str, Fw.isT_str_list, Fw.isT_str_tuple, Fw.isT_str_dict, Fw.isT_list_bool, Fw.isT_list_int, Fw.isT_list_str, Fw.isT_list_list, Fw.isT_list_tuple, Fw.isT_list_dict, Fw.isT_tuple_bool, Fw.isT_tuple_int, Fw.isT_tuple_str, Fw.isT_tuple_list, Fw.isT_tuple_tuple, Fw.isT_tuple_dict, Fw.isT_dict_bool, Fw.isT_dict_int, Fw.isT_dict_str, Fw.isT_dict_list, Fw.isT_dict_tuple, Fw.isT_dict_dict]
        exact z) (fun od i σ2 H2 => NeedAt (upd H d (.frz od (.dK (sK ks fun x => .ref (ad x))))) H2 p (turned (pairsOf (ks.take i) nd)) ∧ ∃ v2 v3 v4 : Option V, σ2 = [some (.ref d), some (.ref p), v2, v3, v4])
        (fun od => ⟨⟨?_, ?_, fun _ => p, ?_, fun x hx => by cases hx⟩, none, none, none, rfl⟩) (fun od i σ2 H2 z => z.1.1 _ _ upd_same) ?_ ?_
      · intro b u e
        by_cases c : b = d
        · rw [c, upd_same] at e ⊢
          exact e
        · rw [upd_ne c] at e ⊢
          exact same_new hp _ _ e
      · rw [upd_ne pd]
        exact hp
      · rw [upd_ne pd, upd_same]
        rfl
      · rintro od i k v σ2 H2 T N hk ⟨hN2, v2, v3, v4, rfl⟩ hT hN
        obtain ⟨x, hx, rfl, rfl⟩ := sK_get hk
        have xm : x ∈ ks := List.mem_of_getElem? hx
        have hLx := hL x xm
        generalize hF : upd H d (.frz od (.dK (sK ks fun x => .ref (ad x)))) = HF at hN2 hN
        have hLF : HF (ad x) = some (.lst ((nd x).map V.str)) := by rw [← hF]; exact at_lock hD hLx.2 (fun z => by cases z)
        have hN3 := hN2.same (same_new hT (o := .tup [.str x, .ref (ad x)]))
        have e1 : kV (.inr x : Key) = .str x := rfl
        rw [e1]
        have hTt : upd H2 T (.tup [.str x, .ref (ad x)]) T = some (.tup [.str x, .ref (ad x)]) := upd_same
        generalize upd H2 T (.tup [.str x, .ref (ad x)]) = H3 at hN3 hTt ⊢
        simp -dsimp only [↓Fw.a_disp, ↓Fw.a_pnil, ↓Fw.a_pcons, Fw.v_keys0, Fw.v_keys1, Fw.v_deq, ↓Fw.a_truD1, Fw.v_truD, ↓Fw.a_dqPop, ↓Fw.a_dqApp, Fw.v_isD, ↓Fw.a_dget2, ↓Fw.b_dsetd, ↓Fw.a_star, Fw.v_pop, Fw.v_reverse, ↓Fw.a_tru1, Fw.v_tru_r, ↓Fw.a_gseq, ↓Fw.b_gcons, ↓Fw.b_gnil, ↓Fw.a_seq, ↓Fw.a_next, ↓Fw.a_brk, ↓Fw.a_cont, ↓Fw.a_asg, ↓Fw.a_name, ↓Fw.a_gsub, ↓Fw.b_var, ↓Fw.a_c, ↓Fw.a_op, ↓Fw.a_un, ↓Fw.a_cons, ↓Fw.a_nil, ↓Fw.a_ret, ↓Fw.a_retN, ↓Fw.a_drop, ↓Fw.a_if, ↓Fw.b_test, ↓Fw.b_B, ↓Fw.a_and, ↓Fw.a_or, ↓Fw.a_not, ↓Fw.b_andV, ↓Fw.b_orV, ↓Fw.b_notV, ↓Fw.a_ifE, ↓Fw.a_fn, ↓Fw.a_fnX, ↓Fw.a_hold, ↓Fw.a_holdX, ↓Fw.a_ne_rr, ↓Fw.a_eq_rr, ↓Fw.a_at, ↓Fw.a_atS, ↓Fw.a_step, Fw.v_step, Fw.v_min2, Fw.v_max2, Fw.v_clear, ↓Fw.a_mt, ↓Fw.a_mtX, ↓Fw.a_mk, ↓Fw.a_cb, ↓Fw.a_lst, ↓Fw.a_tup, ↓Fw.a_chain, ↓Fw.a_dnew, ↓Fw.a_start, Fw.v_rU, Int.reduceNeg, Fw.v_add_ii, Fw.v_add_ss, Fw.v_sub_ii, Fw.v_mul_ii, Fw.v_div_ii, Fw.v_mod_ii, Fw.v_pow_ii, Fw.v_lt_ii, Fw.v_gt_ii, Fw.v_le_ii, Fw.v_ge_ii, Fw.v_le_ss, Fw.v_eqS_ii, Fw.v_eqS_ss, Fw.v_neS_ii, Fw.v_neS_ss, Fw.v_eq_ii, Fw.v_eq_ss, Fw.v_eq_bb, Fw.v_ne_ii, Fw.v_ne_ss, Fw.v_ne_bb, Fw.v_ne_tt, Fw.v_eq_tt, Fw.v_in_sc, Fw.v_ix_s, Fw.v_len_s, Fw.v_type, Fw.v_is, ↓Fw.a_bm, ↓Fw.a_bm0, ↓Fw.a_sl, ↓Fw.a_nopart, ↓Fw.a_part, Fw.v_sl_s, Fw.v_sl_r, Fw.v_app, Fw.v_add_rr, ↓Fw.b_ix_r, Fw.b_ix_r, Fw.v_in_r, Fw.v_set_r, Fw.v_len_r, Fw.v_list_r, Fw.v_listA, Fw.v_dictA, Fw.v_int_i, Fw.v_int_b, Fw.v_key_i, Fw.v_key_s, Fw.v_lst, Fw.v_tup, Fw.v_dic, Fw.v_ty_r, Fw.v_ty_s, Fw.v_ty_i, Fw.v_ty_b, Fw.v_ty_n, Fw.v_tyL, Fw.v_same, Fw.v_old, Fw.v_ne, Fw.v_upd, Fw.v_flat_s, Fw.v_inStrs, ↓Fw.a_yes, Fw.v_wipe0, Fw.v_wipe1, Fw.cx_K, Int.reduceToNat, List.length_replicate, Nat.sub_self, Nat.reduceSub, Nat.reduceAdd, List.replicate_zero, List.replicate_succ, List.append_nil, List.length_cons, List.length_nil, List.map_cons, List.map_nil, List.cons_append, List.nil_append, List.getElem?_cons_zero, List.getElem?_cons_succ, List.set_cons_zero, List.set_cons_succ, Option.some.injEq, V.int.injEq, V.bl.injEq, V.ref.injEq, V.str.injEq, exists_eq_left', exists_eq_left, exists_eq_right, exists_and_left, HO.lst.injEq, HO.dK.injEq, HO.tup.injEq, Option.isSome_some, true_and, and_true, Fw.v_m_bool, Fw.v_m_int, Fw.v_m_str, Fw.v_m_list, Fw.v_m_tuple, Fw.v_m_dict, Fw.v_flats, Bool.xor_true, Bool.xor_false, Bool.not_eq_true', decide_eq_false_iff_not, not_true_eq_false, not_false_eq_true, decide_true, decide_false, decide_eq_true_eq, ite_true, ite_false, Bool.not_true, Bool.not_false, Bool.false_eq_true, reduceCtorEq, Fw.isT_NoneType_bool, Fw.isT_NoneType_int, Fw.isT_NoneType_str, Fw.isT_NoneType_list, Fw.isT_NoneType_tuple, Fw.isT_NoneType_dict, Fw.isT_bool_bool, Fw.isT_bool_int, Fw.isT_bool_str, Fw.isT_bool_list, Fw.isT_bool_tuple, Fw.isT_bool_dict, Fw.isT_int_bool, Fw.isT_int_int, Fw.isT_int_str, Fw.isT_int_list, Fw.isT_int_tuple, Fw.isT_int_dict, Fw.isT_str_bool, Fw.isT_str_int, Fw.isT_str_str, Fw.isT_str_list, Fw.isT_str_tuple, Fw.isT_str_dict, Fw.isT_list_bool, Fw.isT_list_int, Fw.isT_list_str, Fw.isT_list_list, Fw.isT_list_tuple, Fw.isT_list_dict, Fw.isT_tuple_bool, Fw.isT_tuple_int, Fw.isT_tuple_str, Fw.isT_tuple_list, Fw.isT_tuple_tuple, Fw.isT_tuple_dict, Fw.isT_dict_bool, Fw.isT_dict_int, Fw.isT_dict_str, Fw.isT_dict_list, Fw.isT_dict_tuple, Fw.isT_dict_dict, hTt]
        have hL3 := hN3.1 _ _ hLF
        refine f_lst (a := ad x) (xs := (nd x).map V.str) (fun R z => by
          simp -dsimp only [↓Fw.a_disp, ↓Fw.a_pnil, ↓Fw.a_pcons, Fw.v_keys0, Fw.v_keys1, Fw.v_deq, ↓Fw.a_truD1, Fw.v_truD, ↓Fw.a_dqPop, ↓Fw.a_dqApp, Fw.v_isD, ↓Fw.a_dget2, ↓Fw.b_dsetd, ↓Fw.a_star, Fw.v_pop, Fw.v_reverse, ↓Fw.a_tru1, Fw.v_tru_r, ↓Fw.a_gseq, ↓Fw.b_gcons, ↓Fw.b_gnil, ↓Fw.a_seq, ↓Fw.a_next, ↓Fw.a_brk, ↓Fw.a_cont, ↓Fw.a_asg, ↓Fw.a_name, ↓Fw.a_gsub, ↓Fw.b_var, ↓Fw.a_c, ↓Fw.a_op, ↓Fw.a_un, ↓Fw.a_cons, ↓Fw.a_nil, ↓Fw.a_ret, ↓Fw.a_retN, ↓Fw.a_drop, ↓Fw.a_if, ↓Fw.b_test, ↓Fw.b_B, ↓Fw.a_and, ↓Fw.a_or, ↓Fw.a_not, ↓Fw.b_andV, ↓Fw.b_orV, ↓Fw.b_notV, ↓Fw.a_ifE, ↓Fw.a_fn, ↓Fw.a_fnX, ↓Fw.a_hold, ↓Fw.a_holdX, ↓Fw.a_ne_rr, ↓Fw.a_eq_rr, ↓Fw.a_at, ↓Fw.a_atS, ↓Fw.a_step, Fw.v_step, Fw.v_min2, Fw.v_max2, Fw.v_clear, ↓Fw.a_mt, ↓Fw.a_mtX, ↓Fw.a_mk, ↓Fw.a_cb, ↓Fw.a_lst, ↓Fw.a_tup, ↓Fw.a_chain, ↓Fw.a_dnew, ↓Fw.a_start, Fw.v_rU, Int.reduceNeg, Fw.v_add_ii, Fw.v_add_ss, Fw.v_sub_ii, Fw.v_mul_ii, Fw.v_div_ii, Fw.v_mod_ii, Fw.v_pow_ii, Fw.v_lt_ii, Fw.v_gt_ii, Fw.v_le_ii, Fw.v_ge_ii, Fw.v_le_ss, Fw.v_eqS_ii, Fw.v_eqS_ss, Fw.v_neS_ii, Fw.v_neS_ss, Fw.v_eq_ii, Fw.v_eq_ss, Fw.v_eq_bb, Fw.v_ne_ii, Fw.v_ne_ss, Fw.v_ne_bb, Fw.v_ne_tt, Fw.v_eq_tt, Fw.v_in_sc, Fw.v_ix_s, Fw.v_len_s, Fw.v_type, Fw.v_is, ↓Fw.a_bm, ↓Fw.a_bm0, ↓Fw.a_sl, ↓Fw.a_nopart, ↓Fw.a_part, Fw.v_sl_s, Fw.v_sl_r, Fw.v_app, Fw.v_add_rr, ↓Fw.b_ix_r, Fw.b_ix_r, Fw.v_in_r, Fw.v_set_r, Fw.v_len_r, Fw.v_list_r, Fw.v_listA, Fw.v_dictA, Fw.v_int_i, Fw.v_int_b, Fw.v_key_i, Fw.v_key_s, Fw.v_lst, Fw.v_tup, Fw.v_dic, Fw.v_ty_r, Fw.v_ty_s, Fw.v_ty_i, Fw.v_ty_b, Fw.v_ty_n, Fw.v_tyL, Fw.v_same, Fw.v_old, Fw.v_ne, Fw.v_upd, Fw.v_flat_s, Fw.v_inStrs, ↓Fw.a_yes, Fw.v_wipe0, Fw.v_wipe1, Fw.cx_K, Int.reduceToNat, List.length_replicate, Nat.sub_self, Nat.reduceSub, Nat.reduceAdd, List.replicate_zero, List.replicate_succ, List.append_nil, List.length_cons, List.length_nil, List.map_cons, List.map_nil, List.cons_append, List.nil_append, List.getElem?_cons_zero, List.getElem?_cons_succ, List.set_cons_zero, List.set_cons_succ, Option.some.injEq, V.int.injEq, V.bl.injEq, V.ref.injEq, V.str.injEq, exists_eq_left', exists_eq_left, exists_eq_right, exists_and_left, HO.lst.injEq, HO.dK.injEq, HO.tup.injEq, Option.isSome_some, true_and, and_true, Fw.v_m_bool, Fw.v_m_int, Fw.v_m_str, Fw.v_m_list, Fw.v_m_tuple, Fw.v_m_dict, Fw.v_flats, Bool.xor_true, Bool.xor_false, Bool.not_eq_true', decide_eq_false_iff_not, not_true_eq_false, not_false_eq_true, decide_true, decide_false, decide_eq_true_eq, ite_true, ite_false, Bool.not_true, Bool.not_false, Bool.false_eq_true, reduceCtorEq, Fw.isT_NoneType_bool, Fw.isT_NoneType_int, Fw.isT_NoneType_str, Fw.isT_NoneType_list, Fw.isT_NoneType_tuple, Fw.isT_NoneType_dict, Fw.isT_bool_bool, Fw.isT_bool_int, Fw.isT_bool_str, Fw.isT_bool_list, Fw.isT_bool_tuple, Fw.isT_bool_dict, Fw.isT_int_bool, Fw.isT_int_int, Fw.isT_int_str, Fw.isT_int_list, Fw.isT_int_tuple, Fw.isT_int_dict, Fw.isT_str_bool, Fw.isT_str_int, Fw.isT_str_str, Fw.isT_str_list, Fw.isT_str_tuple, Fw.isT_str_dict, Fw.isT_list_bool, Fw.isT_list_int, Fw.isT_list_str, Fw.isT_list_list, Fw.isT_list_tuple, Fw.isT_list_dict, Fw.isT_tuple_bool, Fw.isT_tuple_int, Fw.isT_tuple_str, Fw.isT_tuple_list, Fw.isT_tuple_tuple, Fw.isT_tuple_dict, Fw.isT_dict_bool, Fw.isT_dict_int, Fw.isT_dict_str, Fw.isT_dict_list, Fw.isT_dict_tuple, Fw.isT_dict_dict]
          exact z) (.inl (.inl hL3)) (fun j σ4 H4 => NeedAt HF H4 p (turned (pairsOf (ks.take i) nd ++ ((nd x).take j).map fun y => (y, x))) ∧ ∃ v4 : Option V, σ4 = [some (.ref d), some (.ref p), some (.str x), some (.ref (ad x)), v4])
          ⟨by simpa using hN3, v4, rfl⟩ (fun j σ4 H4 _ z => .inl (.inl (z.1.1 _ _ hLF))) ?_ ?_
        · rintro j w σ4 H4 N2 hw ⟨hN4, v4', rfl⟩ hN2'
          obtain ⟨y, hy, rfl⟩ := map_str_get hw
          obtain ⟨kvs, hP, lkv⟩ := hN4.dict
          have l4 : (pairsOf (ks.take i) nd ++ ((nd x).take j).map fun y => (y, x)).length ≤ 800 := by
            have h1 : pairsOf (ks.take (i + 1)) nd = pairsOf (ks.take i) nd ++ (nd x).map fun y => (y, x) := by rw [take_get hx, pairs_snoc]
            have h2 := lp (i + 1)
            rw [h1] at h2
            rw [List.length_append, List.length_map] at h2 ⊢
            rw [List.length_take]
            omega
          obtain ⟨b1, b2⟩ := lb _ l4
          have fin : ∀ H5, NeedAt HF H5 p (addP (turned (pairsOf (ks.take i) nd ++ ((nd x).take j).map fun y => (y, x))) (y, x)) → N2 [some (.ref d), some (.ref p), some (.str x), some (.ref (ad x)), some (.str y)] H5 := fun H5 z =>
            hN2' _ _ ⟨by
              rw [take_get hy, List.map_append, ← List.append_assoc]
              show NeedAt HF H5 p (turned (_ ++ [(y, x)]))
              rw [turned_snoc]
              exact z, _, rfl⟩
          simp -dsimp only [↓Fw.a_disp, ↓Fw.a_pnil, ↓Fw.a_pcons, Fw.v_keys0, Fw.v_keys1, Fw.v_deq, ↓Fw.a_truD1, Fw.v_truD, ↓Fw.a_dqPop, ↓Fw.a_dqApp, Fw.v_isD, ↓Fw.a_dget2, ↓Fw.b_dsetd, ↓Fw.a_star, Fw.v_pop, Fw.v_reverse, ↓Fw.a_tru1, Fw.v_tru_r, ↓Fw.a_gseq, ↓Fw.b_gcons, ↓Fw.b_gnil, ↓Fw.a_seq, ↓Fw.a_next, ↓Fw.a_brk, ↓Fw.a_cont, ↓Fw.a_asg, ↓Fw.a_name, ↓Fw.a_gsub, ↓Fw.b_var, ↓Fw.a_c, ↓Fw.a_op, ↓Fw.a_un, ↓Fw.a_cons, ↓Fw.a_nil, ↓Fw.a_ret, ↓Fw.a_retN, ↓Fw.a_drop, ↓Fw.a_if, ↓Fw.b_test, ↓Fw.b_B, ↓Fw.a_and, ↓Fw.a_or, ↓Fw.a_not, ↓Fw.b_andV, ↓Fw.b_orV, ↓Fw.b_notV, ↓Fw.a_ifE, ↓Fw.a_fn, ↓Fw.a_fnX, ↓Fw.a_hold, ↓Fw.a_holdX, ↓Fw.a_ne_rr, ↓Fw.a_eq_rr, ↓Fw.a_at, ↓Fw.a_atS, ↓Fw.a_step, Fw.v_step, Fw.v_min2, Fw.v_max2, Fw.v_clear, ↓Fw.a_mt, ↓Fw.a_mtX, ↓Fw.a_mk, ↓Fw.a_cb, ↓Fw.a_lst, ↓Fw.a_tup, ↓Fw.a_chain, ↓Fw.a_dnew, ↓Fw.a_start, Fw.v_rU, Int.reduceNeg, Fw.v_add_ii, Fw.v_add_ss, Fw.v_sub_ii, Fw.v_mul_ii, Fw.v_div_ii, Fw.v_mod_ii, Fw.v_pow_ii, Fw.v_lt_ii, Fw.v_gt_ii, Fw.v_le_ii, Fw.v_ge_ii, Fw.v_le_ss, Fw.v_eqS_ii, Fw.v_eqS_ss, Fw.v_neS_ii, Fw.v_neS_ss, Fw.v_eq_ii, Fw.v_eq_ss, Fw.v_eq_bb, Fw.v_ne_ii, Fw.v_ne_ss, Fw.v_ne_bb, Fw.v_ne_tt, Fw.v_eq_tt, Fw.v_in_sc, Fw.v_ix_s, Fw.v_len_s, Fw.v_type, Fw.v_is, ↓Fw.a_bm, ↓Fw.a_bm0, ↓Fw.a_sl, ↓Fw.a_nopart, ↓Fw.a_part, Fw.v_sl_s, Fw.v_sl_r, Fw.v_app, Fw.v_add_rr, ↓Fw.b_ix_r, Fw.b_ix_r, Fw.v_in_r, Fw.v_set_r, Fw.v_len_r, Fw.v_list_r, Fw.v_listA, Fw.v_dictA, Fw.v_int_i, Fw.v_int_b, Fw.v_key_i, Fw.v_key_s, Fw.v_lst, Fw.v_tup, Fw.v_dic, Fw.v_ty_r, Fw.v_ty_s, Fw.v_ty_i, Fw.v_ty_b, Fw.v_ty_n, Fw.v_tyL, Fw.v_same, Fw.v_old, Fw.v_ne, Fw.v_upd, Fw.v_flat_s, Fw.v_inStrs, ↓Fw.a_yes, Fw.v_wipe0, Fw.v_wipe1, Fw.cx_K, Int.reduceToNat, List.length_replicate, Nat.sub_self, Nat.reduceSub, Nat.reduceAdd, List.replicate_zero, List.replicate_succ, List.append_nil, List.length_cons, List.length_nil, List.map_cons, List.map_nil, List.cons_append, List.nil_append, List.getElem?_cons_zero, List.getElem?_cons_succ, List.set_cons_zero, List.set_cons_succ, Option.some.injEq, V.int.injEq, V.bl.injEq, V.ref.injEq, V.str.injEq, exists_eq_left', exists_eq_left, exists_eq_right, exists_and_left, HO.lst.injEq, HO.dK.injEq, HO.tup.injEq, Option.isSome_some, true_and, and_true, Fw.v_m_bool, Fw.v_m_int, Fw.v_m_str, Fw.v_m_list, Fw.v_m_tuple, Fw.v_m_dict, Fw.v_flats, Bool.xor_true, Bool.xor_false, Bool.not_eq_true', decide_eq_false_iff_not, not_true_eq_false, not_false_eq_true, decide_true, decide_false, decide_eq_true_eq, ite_true, ite_false, Bool.not_true, Bool.not_false, Bool.false_eq_true, reduceCtorEq, Fw.isT_NoneType_bool, Fw.isT_NoneType_int, Fw.isT_NoneType_str, Fw.isT_NoneType_list, Fw.isT_NoneType_tuple, Fw.isT_NoneType_dict, Fw.isT_bool_bool, Fw.isT_bool_int, Fw.isT_bool_str, Fw.isT_bool_list, Fw.isT_bool_tuple, Fw.isT_bool_dict, Fw.isT_int_bool, Fw.isT_int_int, Fw.isT_int_str, Fw.isT_int_list, Fw.isT_int_tuple, Fw.isT_int_dict, Fw.isT_str_bool, Fw.isT_str_int, Fw.isT_str_str, Fw.isT_str_list, Fw.isT_str_tuple, Fw.isT_str_dict, Fw.isT_list_bool, Fw.isT_list_int, Fw.isT_list_str, Fw.isT_list_list, Fw.isT_list_tuple, Fw.isT_list_dict, Fw.isT_tuple_bool, Fw.isT_tuple_int, Fw.isT_tuple_str, Fw.isT_tuple_list, Fw.isT_tuple_tuple, Fw.isT_tuple_dict, Fw.isT_dict_bool, Fw.isT_dict_int, Fw.isT_dict_str, Fw.isT_dict_list, Fw.isT_dict_tuple, Fw.isT_dict_dict, hP]
          refine ⟨by decide, fun q hq => ?_⟩
          have hP2 : upd H4 q (.lst []) p = some (.dK kvs) := same_new hq _ _ hP
          obtain ⟨c1, c2⟩ := hN4.add (x := x) (y := y) (turned_nil _) hP hq
          refine ⟨kvs, hP2, .inr y, rfl, (by rw [lkv]; exact b1), fun v hv => ?_, fun hv => ?_⟩
          · obtain ⟨a, xs, rfl, aq, ha, hl, hn⟩ := c1 v hv
            have ha2 : upd H4 q (.lst []) a = some (.lst xs) := same_new hq _ _ ha
            simp -dsimp only [↓Fw.a_disp, ↓Fw.a_pnil, ↓Fw.a_pcons, Fw.v_keys0, Fw.v_keys1, Fw.v_deq, ↓Fw.a_truD1, Fw.v_truD, ↓Fw.a_dqPop, ↓Fw.a_dqApp, Fw.v_isD, ↓Fw.a_dget2, ↓Fw.b_dsetd, ↓Fw.a_star, Fw.v_pop, Fw.v_reverse, ↓Fw.a_tru1, Fw.v_tru_r, ↓Fw.a_gseq, ↓Fw.b_gcons, ↓Fw.b_gnil, ↓Fw.a_seq, ↓Fw.a_next, ↓Fw.a_brk, ↓Fw.a_cont, ↓Fw.a_asg, ↓Fw.a_name, ↓Fw.a_gsub, ↓Fw.b_var, ↓Fw.a_c, ↓Fw.a_op, ↓Fw.a_un, ↓Fw.a_cons, ↓Fw.a_nil, ↓Fw.a_ret, ↓Fw.a_retN, ↓Fw.a_drop, ↓Fw.a_if, ↓Fw.b_test, ↓Fw.b_B, ↓Fw.a_and, ↓Fw.a_or, ↓Fw.a_not, ↓Fw.b_andV, ↓Fw.b_orV, ↓Fw.b_notV, ↓Fw.a_ifE, ↓Fw.a_fn, ↓Fw.a_fnX, ↓Fw.a_hold, ↓Fw.a_holdX, ↓Fw.a_ne_rr, ↓Fw.a_eq_rr, ↓Fw.a_at, ↓Fw.a_atS, ↓Fw.a_step, Fw.v_step, Fw.v_min2, Fw.v_max2, Fw.v_clear, ↓Fw.a_mt, ↓Fw.a_mtX, ↓Fw.a_mk, ↓Fw.a_cb, ↓Fw.a_lst, ↓Fw.a_tup, ↓Fw.a_chain, ↓Fw.a_dnew, ↓Fw.a_start, Fw.v_rU, Int.reduceNeg, Fw.v_add_ii, Fw.v_add_ss, Fw.v_sub_ii, Fw.v_mul_ii, Fw.v_div_ii, Fw.v_mod_ii, Fw.v_pow_ii, Fw.v_lt_ii, Fw.v_gt_ii, Fw.v_le_ii, Fw.v_ge_ii, Fw.v_le_ss, Fw.v_eqS_ii, Fw.v_eqS_ss, Fw.v_neS_ii, Fw.v_neS_ss, Fw.v_eq_ii, Fw.v_eq_ss, Fw.v_eq_bb, Fw.v_ne_ii, Fw.v_ne_ss, Fw.v_ne_bb, Fw.v_ne_tt, Fw.v_eq_tt, Fw.v_in_sc, Fw.v_ix_s, Fw.v_len_s, Fw.v_type, Fw.v_is, ↓Fw.a_bm, ↓Fw.a_bm0, ↓Fw.a_sl, ↓Fw.a_nopart, ↓Fw.a_part, Fw.v_sl_s, Fw.v_sl_r, Fw.v_app, Fw.v_add_rr, ↓Fw.b_ix_r, Fw.b_ix_r, Fw.v_in_r, Fw.v_set_r, Fw.v_len_r, Fw.v_list_r, Fw.v_listA, Fw.v_dictA, Fw.v_int_i, Fw.v_int_b, Fw.v_key_i, Fw.v_key_s, Fw.v_lst, Fw.v_tup, Fw.v_dic, Fw.v_ty_r, Fw.v_ty_s, Fw.v_ty_i, Fw.v_ty_b, Fw.v_ty_n, Fw.v_tyL, Fw.v_same, Fw.v_old, Fw.v_ne, Fw.v_upd, Fw.v_flat_s, Fw.v_inStrs, ↓Fw.a_yes, Fw.v_wipe0, Fw.v_wipe1, Fw.cx_K, Int.reduceToNat, List.length_replicate, Nat.sub_self, Nat.reduceSub, Nat.reduceAdd, List.replicate_zero, List.replicate_succ, List.append_nil, List.length_cons, List.length_nil, List.map_cons, List.map_nil, List.cons_append, List.nil_append, List.getElem?_cons_zero, List.getElem?_cons_succ, List.set_cons_zero, List.set_cons_succ, Option.some.injEq, V.int.injEq, V.bl.injEq, V.ref.injEq, V.str.injEq, exists_eq_left', exists_eq_left, exists_eq_right, exists_and_left, HO.lst.injEq, HO.dK.injEq, HO.tup.injEq, Option.isSome_some, true_and, and_true, Fw.v_m_bool, Fw.v_m_int, Fw.v_m_str, Fw.v_m_list, Fw.v_m_tuple, Fw.v_m_dict, Fw.v_flats, Bool.xor_true, Bool.xor_false, Bool.not_eq_true', decide_eq_false_iff_not, not_true_eq_false, not_false_eq_true, decide_true, decide_false, decide_eq_true_eq, ite_true, ite_false, Bool.not_true, Bool.not_false, Bool.false_eq_true, reduceCtorEq, Fw.isT_NoneType_bool, Fw.isT_NoneType_int, Fw.isT_NoneType_str, Fw.isT_NoneType_list, Fw.isT_NoneType_tuple, Fw.isT_NoneType_dict, Fw.isT_bool_bool, Fw.isT_bool_int, Fw.isT_bool_str, Fw.isT_bool_list, Fw.isT_bool_tuple, Fw.isT_bool_dict, Fw.isT_int_bool, Fw.isT_int_int, Fw.isT_int_str, Fw.isT_int_list, Fw.isT_int_tuple, Fw.isT_int_dict, Fw.isT_str_bool, Fw.isT_str_int, Fw.isT_str_str, Fw.isT_str_list, Fw.isT_str_tuple, Fw.isT_str_dict, Fw.isT_list_bool, Fw.isT_list_int, Fw.isT_list_str, Fw.isT_list_list, Fw.isT_list_tuple, Fw.isT_list_dict, Fw.isT_tuple_bool, Fw.isT_tuple_int, Fw.isT_tuple_str, Fw.isT_tuple_list, Fw.isT_tuple_tuple, Fw.isT_tuple_dict, Fw.isT_dict_bool, Fw.isT_dict_int, Fw.isT_dict_str, Fw.isT_dict_list, Fw.isT_dict_tuple, Fw.isT_dict_dict, ha2]
            exact ⟨by rw [hl]; exact b2 y, fin _ hn⟩
          · have hn := c2 hv
            have pq : q ≠ p := fun z => by rw [z, hP] at hq; cases hq
            have hq2 : upd (upd H4 q (.lst [])) p (.dK (putK kvs (.inr y) (.ref q))) q = some (.lst []) := by rw [upd_ne pq, upd_same]
            simp -dsimp only [↓Fw.a_disp, ↓Fw.a_pnil, ↓Fw.a_pcons, Fw.v_keys0, Fw.v_keys1, Fw.v_deq, ↓Fw.a_truD1, Fw.v_truD, ↓Fw.a_dqPop, ↓Fw.a_dqApp, Fw.v_isD, ↓Fw.a_dget2, ↓Fw.b_dsetd, ↓Fw.a_star, Fw.v_pop, Fw.v_reverse, ↓Fw.a_tru1, Fw.v_tru_r, ↓Fw.a_gseq, ↓Fw.b_gcons, ↓Fw.b_gnil, ↓Fw.a_seq, ↓Fw.a_next, ↓Fw.a_brk, ↓Fw.a_cont, ↓Fw.a_asg, ↓Fw.a_name, ↓Fw.a_gsub, ↓Fw.b_var, ↓Fw.a_c, ↓Fw.a_op, ↓Fw.a_un, ↓Fw.a_cons, ↓Fw.a_nil, ↓Fw.a_ret, ↓Fw.a_retN, ↓Fw.a_drop, ↓Fw.a_if, ↓Fw.b_test, ↓Fw.b_B, ↓Fw.a_and, ↓Fw.a_or, ↓Fw.a_not, ↓Fw.b_andV, ↓Fw.b_orV, ↓Fw.b_notV, ↓Fw.a_ifE, ↓Fw.a_fn, ↓Fw.a_fnX, ↓Fw.a_hold, ↓Fw.a_holdX, ↓Fw.a_ne_rr, ↓Fw.a_eq_rr, ↓Fw.a_at, ↓Fw.a_atS, ↓Fw.a_step, Fw.v_step, Fw.v_min2, Fw.v_max2, Fw.v_clear, ↓Fw.a_mt, ↓Fw.a_mtX, ↓Fw.a_mk, ↓Fw.a_cb, ↓Fw.a_lst, ↓Fw.a_tup, ↓Fw.a_chain, ↓Fw.a_dnew, ↓Fw.a_start, Fw.v_rU, Int.reduceNeg, Fw.v_add_ii, Fw.v_add_ss, Fw.v_sub_ii, Fw.v_mul_ii, Fw.v_div_ii, Fw.v_mod_ii, Fw.v_pow_ii, Fw.v_lt_ii, Fw.v_gt_ii, Fw.v_le_ii, Fw.v_ge_ii, Fw.v_le_ss, Fw.v_eqS_ii, Fw.v_eqS_ss, Fw.v_neS_ii, Fw.v_neS_ss, Fw.v_eq_ii, Fw.v_eq_ss, Fw.v_eq_bb, Fw.v_ne_ii, Fw.v_ne_ss, Fw.v_ne_bb, Fw.v_ne_tt, Fw.v_eq_tt, Fw.v_in_sc, Fw.v_ix_s, Fw.v_len_s, Fw.v_type, Fw.v_is, ↓Fw.a_bm, ↓Fw.a_bm0, ↓Fw.a_sl, ↓Fw.a_nopart, ↓Fw.a_part, Fw.v_sl_s, Fw.v_sl_r, Fw.v_app, Fw.v_add_rr, ↓Fw.b_ix_r, Fw.b_ix_r, Fw.v_in_r, Fw.v_set_r, Fw.v_len_r, Fw.v_list_r, Fw.v_listA, Fw.v_dictA, Fw.v_int_i, Fw.v_int_b, Fw.v_key_i, Fw.v_key_s, Fw.v_lst, Fw.v_tup, Fw.v_dic, Fw.v_ty_r, Fw.v_ty_s, Fw.v_ty_i, Fw.v_ty_b, Fw.v_ty_n, Fw.v_tyL, Fw.v_same, Fw.v_old, Fw.v_ne, Fw.v_upd, Fw.v_flat_s, Fw.v_inStrs, ↓Fw.a_yes, Fw.v_wipe0, Fw.v_wipe1, Fw.cx_K, Int.reduceToNat, List.length_replicate, Nat.sub_self, Nat.reduceSub, Nat.reduceAdd, List.replicate_zero, List.replicate_succ, List.append_nil, List.length_cons, List.length_nil, List.map_cons, List.map_nil, List.cons_append, List.nil_append, List.getElem?_cons_zero, List.getElem?_cons_succ, List.set_cons_zero, List.set_cons_succ, Option.some.injEq, V.int.injEq, V.bl.injEq, V.ref.injEq, V.str.injEq, exists_eq_left', exists_eq_left, exists_eq_right, exists_and_left, HO.lst.injEq, HO.dK.injEq, HO.tup.injEq, Option.isSome_some, true_and, and_true, Fw.v_m_bool, Fw.v_m_int, Fw.v_m_str, Fw.v_m_list, Fw.v_m_tuple, Fw.v_m_dict, Fw.v_flats, Bool.xor_true, Bool.xor_false, Bool.not_eq_true', decide_eq_false_iff_not, not_true_eq_false, not_false_eq_true, decide_true, decide_false, decide_eq_true_eq, ite_true, ite_false, Bool.not_true, Bool.not_false, Bool.false_eq_true, reduceCtorEq, Fw.isT_NoneType_bool, Fw.isT_NoneType_int, Fw.isT_NoneType_str, Fw.isT_NoneType_list, Fw.isT_NoneType_tuple, Fw.isT_NoneType_dict, Fw.isT_bool_bool, Fw.isT_bool_int, Fw.isT_bool_str, Fw.isT_bool_list, Fw.isT_bool_tuple, Fw.isT_bool_dict, Fw.isT_int_bool, Fw.isT_int_int, Fw.isT_int_str, Fw.isT_int_list, Fw.isT_int_tuple, Fw.isT_int_dict, Fw.isT_str_bool, Fw.isT_str_int, Fw.isT_str_str, Fw.isT_str_list, Fw.isT_str_tuple, Fw.isT_str_dict, Fw.isT_list_bool, Fw.isT_list_int, Fw.isT_list_str, Fw.isT_list_list, Fw.isT_list_tuple, Fw.isT_list_dict, Fw.isT_tuple_bool, Fw.isT_tuple_int, Fw.isT_tuple_str, Fw.isT_tuple_list, Fw.isT_tuple_tuple, Fw.isT_tuple_dict, Fw.isT_dict_bool, Fw.isT_dict_int, Fw.isT_dict_str, Fw.isT_dict_list, Fw.isT_dict_tuple, Fw.isT_dict_dict, hq2]
            exact ⟨by decide, fin _ hn⟩
        · rintro σ4 H4 ⟨hN4, v4', rfl⟩
          refine hN _ _ ⟨?_, _, _, _, rfl⟩
          rw [List.length_map, List.take_length] at hN4
          rw [take_get hx, pairs_snoc]
          exact hN4
      · rintro od σ2 H2 ⟨hN2, v2, v3, v4, rfl⟩
        rw [sK_len, List.take_length] at hN2
        have hU := hN2.unlock hD
        have hp2 := hU
        simp -dsimp only [↓Fw.a_disp, ↓Fw.a_pnil, ↓Fw.a_pcons, Fw.v_keys0, Fw.v_keys1, Fw.v_deq, ↓Fw.a_truD1, Fw.v_truD, ↓Fw.a_dqPop, ↓Fw.a_dqApp, Fw.v_isD, ↓Fw.a_dget2, ↓Fw.b_dsetd, ↓Fw.a_star, Fw.v_pop, Fw.v_reverse, ↓Fw.a_tru1, Fw.v_tru_r, ↓Fw.a_gseq, ↓Fw.b_gcons, ↓Fw.b_gnil, ↓Fw.a_seq, ↓Fw.a_next, ↓Fw.a_brk, ↓Fw.a_cont, ↓Fw.a_asg, ↓Fw.a_name, ↓Fw.a_gsub, ↓Fw.b_var, ↓Fw.a_c, ↓Fw.a_op, ↓Fw.a_un, ↓Fw.a_cons, ↓Fw.a_nil, ↓Fw.a_ret, ↓Fw.a_retN, ↓Fw.a_drop, ↓Fw.a_if, ↓Fw.b_test, ↓Fw.b_B, ↓Fw.a_and, ↓Fw.a_or, ↓Fw.a_not, ↓Fw.b_andV, ↓Fw.b_orV, ↓Fw.b_notV, ↓Fw.a_ifE, ↓Fw.a_fn, ↓Fw.a_fnX, ↓Fw.a_hold, ↓Fw.a_holdX, ↓Fw.a_ne_rr, ↓Fw.a_eq_rr, ↓Fw.a_at, ↓Fw.a_atS, ↓Fw.a_step, Fw.v_step, Fw.v_min2, Fw.v_max2, Fw.v_clear, ↓Fw.a_mt, ↓Fw.a_mtX, ↓Fw.a_mk, ↓Fw.a_cb, ↓Fw.a_lst, ↓Fw.a_tup, ↓Fw.a_chain, ↓Fw.a_dnew, ↓Fw.a_start, Fw.v_rU, Int.reduceNeg, Fw.v_add_ii, Fw.v_add_ss, Fw.v_sub_ii, Fw.v_mul_ii, Fw.v_div_ii, Fw.v_mod_ii, Fw.v_pow_ii, Fw.v_lt_ii, Fw.v_gt_ii, Fw.v_le_ii, Fw.v_ge_ii, Fw.v_le_ss, Fw.v_eqS_ii, Fw.v_eqS_ss, Fw.v_neS_ii, Fw.v_neS_ss, Fw.v_eq_ii, Fw.v_eq_ss, Fw.v_eq_bb, Fw.v_ne_ii, Fw.v_ne_ss, Fw.v_ne_bb, Fw.v_ne_tt, Fw.v_eq_tt, Fw.v_in_sc, Fw.v_ix_s, Fw.v_len_s, Fw.v_type, Fw.v_is, ↓Fw.a_bm, ↓Fw.a_bm0, ↓Fw.a_sl, ↓Fw.a_nopart, ↓Fw.a_part, Fw.v_sl_s, Fw.v_sl_r, Fw.v_app, Fw.v_add_rr, ↓Fw.b_ix_r, Fw.b_ix_r, Fw.v_in_r, Fw.v_set_r, Fw.v_len_r, Fw.v_list_r, Fw.v_listA, Fw.v_dictA, Fw.v_int_i, Fw.v_int_b, Fw.v_key_i, Fw.v_key_s, Fw.v_lst, Fw.v_tup, Fw.v_dic, Fw.v_ty_r, Fw.v_ty_s, Fw.v_ty_i, Fw.v_ty_b, Fw.v_ty_n, Fw.v_tyL, Fw.v_same, Fw.v_old, Fw.v_ne, Fw.v_upd, Fw.v_flat_s, Fw.v_inStrs, ↓Fw.a_yes, Fw.v_wipe0, Fw.v_wipe1, Fw.cx_K, Int.reduceToNat, List.length_replicate, Nat.sub_self, Nat.reduceSub, Nat.reduceAdd, List.replicate_zero, List.replicate_succ, List.append_nil, List.length_cons, List.length_nil, List.map_cons, List.map_nil, List.cons_append, List.nil_append, List.getElem?_cons_zero, List.getElem?_cons_succ, List.set_cons_zero, List.set_cons_succ, Option.some.injEq, V.int.injEq, V.bl.injEq, V.ref.injEq, V.str.injEq, exists_eq_left', exists_eq_left, exists_eq_right, exists_and_left, HO.lst.injEq, HO.dK.injEq, HO.tup.injEq, Option.isSome_some, true_and, and_true, Fw.v_m_bool, Fw.v_m_int, Fw.v_m_str, Fw.v_m_list, Fw.v_m_tuple, Fw.v_m_dict, Fw.v_flats, Bool.xor_true, Bool.xor_false, Bool.not_eq_true', decide_eq_false_iff_not, not_true_eq_false, not_false_eq_true, decide_true, decide_false, decide_eq_true_eq, ite_true, ite_false, Bool.not_true, Bool.not_false, Bool.false_eq_true, reduceCtorEq, Fw.isT_NoneType_bool, Fw.isT_NoneType_int, Fw.isT_NoneType_str, Fw.isT_NoneType_list, Fw.isT_NoneType_tuple, Fw.isT_NoneType_dict, Fw.isT_bool_bool, Fw.isT_bool_int, Fw.isT_bool_str, Fw.isT_bool_list, Fw.isT_bool_tuple, Fw.isT_bool_dict, Fw.isT_int_bool, Fw.isT_int_int, Fw.isT_int_str, Fw.isT_int_list, Fw.isT_int_tuple, Fw.isT_int_dict, Fw.isT_str_bool, Fw.isT_str_int, Fw.isT_str_str, Fw.isT_str_list, Fw.isT_str_tuple, Fw.isT_str_dict, Fw.isT_list_bool, Fw.isT_list_int, Fw.isT_list_str, Fw.isT_list_list, Fw.isT_list_tuple, Fw.isT_list_dict, Fw.isT_tuple_bool, Fw.isT_tuple_int, Fw.isT_tuple_str, Fw.isT_tuple_list, Fw.isT_tuple_tuple, Fw.isT_tuple_dict, Fw.isT_dict_bool, Fw.isT_dict_int, Fw.isT_dict_str, Fw.isT_dict_list, Fw.isT_dict_tuple, Fw.isT_dict_dict]
        exact q _ _ hU
    · exact h.elim
/-! ### greatest -/
theorem ok_greatest (S : Src K mg "greatest" ["full", "needs", "done"] s_greatest) (B : Blt mg) (G_needing_of : Fn P w K mg base 1 "needing_of" ["needs"] (sp_needing_of)) : Fn P w K mg base 2 "greatest" ["full", "needs", "done"] (sp_greatest) := by
  have sc := sc_greatest
  refine fn_mk S sc (fun vs H Q E h => ?_) (fun f cdv A outer s H vs Q E hr h => ⟨_, (pss_cons (ps_set (i := 3) sc.nd rfl (by first | exact Or.inl rfl | exact Or.inr rfl) (pe_fn G_needing_of (hr.mono (by decide)) rfl (pa_cons (pe_dc (own := [("name", 4)]) rfl sc.nd  (pi_list (pv 0)) (blkOk_by (N := n_greatest) (sc := defScope s_greatest) (own := [("name", 4)]) (by decide +kernel)) (fun _ _ _ _ _ => (pg_name (i := 4) sc.nd rfl (by first | exact Or.inl rfl | exact Or.inr rfl))) (fun _ _ _ _ _ => pts_nil) (fun _ _ _ _ _ => (pv 4)) (fun _ _ _ _ _ => (pe_ix (ix_v (hu_of hr)) (pv 1) (pv 4) (fun _ _ => rfl)))) pa_nil)))
     (pss_cons (ps_set (i := 5) sc.nd rfl (by first | exact Or.inl rfl | exact Or.inr rfl) (pe_dc (own := [("name", 4)]) rfl sc.nd  (pi_list (pe_lst (StX.pa_star (pv 0) (StX.pa_star (pv 2) pa_nil)))) (blkOk_by (N := n_greatest) (sc := defScope s_greatest) (own := [("name", 4)]) (by decide +kernel)) (fun _ _ _ _ _ => (pg_name (i := 4) sc.nd rfl (by first | exact Or.inl rfl | exact Or.inr rfl))) (fun _ _ _ _ _ => pts_nil) (fun _ _ _ _ _ => (pv 4)) (fun _ _ _ _ _ => pe_bl)))
     (pss_cons (ps_lock (ps_setLc (i := 6) (own := [("need", 7)]) rfl sc.nd rfl rfl (sw_true rfl rfl rfl (by decide +kernel)) (pi_keys (pv 3)) (blkOk_by (N := n_greatest) (sc := defScope s_greatest) (own := [("need", 7)]) (by decide +kernel)) (fun _ _ _ _ _ => (pg_name (i := 7) sc.nd rfl (by first | exact Or.inl rfl | exact Or.inr rfl))) (fun _ _ _ _ _ => (pts_one (pt_cmpR (op_vNotIn (hu_of hr)) (pv 7) (pv 5) (by rfl)))) (fun _ _ _ _ _ => (pv 7))))
     (pss_cons (ps_set (i := 8) sc.nd rfl (by first | exact Or.inl rfl | exact Or.inr rfl) pe_dnewK)
     (pss_cons (ps_while PassesOwn.never (pt_tru1 (pv 6))
     (pss_cons (ps_set (i := 7) sc.nd rfl (by first | exact Or.inl rfl | exact Or.inr rfl) (pe_bm0 PySem.F.plainAttrs_list PySem.F.slot_list_pop PySem.F.type_list_pop mt_pop (pv 6)))
     (pss_one (ps_for PassesOwn.never rfl (pi_list (pe_dget2 (hu_of hr) (pv 3) (pv 7) (pe_lst pa_nil) ⟨rfl, rfl, rfl, rfl⟩)) (pg_name (i := 4) sc.nd rfl (by first | exact Or.inl rfl | exact Or.inr rfl))
     (pss_one (ps_if (pt_cmpR (op_vNotIn (hu_of hr)) (pv 4) (pv 8) (by rfl))
     (pss_cons (ps_asg pe_bl (pg_sub (pv 8) (pv 4) (set_v (hu_of hr))))
     (pss_one (ps_expr (pe_bm PySem.F.plainAttrs_list PySem.F.slot_list_append PySem.F.type_list_append mt_append (pv 6) (pa_cons (pv 4) pa_nil)))))
     pss_nil))))))
     (pss_one (ps_ret (pe_lc (own := [("name", 4)]) rfl sc.nd  (pi_list (pv 0)) (blkOk_by (N := n_greatest) (sc := defScope s_greatest) (own := [("name", 4)]) (by decide +kernel)) (fun _ _ _ _ _ => (pg_name (i := 4) sc.nd rfl (by first | exact Or.inl rfl | exact Or.inr rfl))) (fun _ _ _ _ _ => (pts_one (pt_cmpR (op_vNotIn (hu_of hr)) (pv 4) (pv 8) (by rfl)))) (fun _ _ _ _ _ => (pv 4)))))))))), ?_⟩)
  · unfold sp_greatest at h; split at h <;> first | rfl | exact h.elim
  · unfold sp_greatest at h
    split at h
    · rename_i a d b
      obtain ⟨g, ok, hF, hN_, hD, q⟩ := h
      have lF := ok.lenF
      have lD := ok.lenD
      try simp -dsimp only [↓Fw.a_forL, ↓Fw.a_lcL, ↓Fw.a_dcL, ↓Fw.a_dcE, ↓Fw.a_forR, ↓Fw.a_disp, ↓Fw.a_pnil, ↓Fw.a_pcons, Fw.v_keys0, Fw.v_keys1, Fw.v_deq, ↓Fw.a_truD1, Fw.v_truD, ↓Fw.a_dqPop, ↓Fw.a_dqApp, Fw.v_isD, ↓Fw.a_dget2, ↓Fw.b_dsetd, ↓Fw.a_star, Fw.v_pop, Fw.v_reverse, ↓Fw.a_tru1, Fw.v_tru_r, ↓Fw.a_gseq, ↓Fw.b_gcons, ↓Fw.b_gnil, ↓Fw.a_seq, ↓Fw.a_next, ↓Fw.a_brk, ↓Fw.a_cont, ↓Fw.a_asg, ↓Fw.a_name, ↓Fw.a_gsub, ↓Fw.b_var, ↓Fw.a_c, ↓Fw.a_op, ↓Fw.a_un, ↓Fw.a_cons, ↓Fw.a_nil, ↓Fw.a_ret, ↓Fw.a_retN, ↓Fw.a_drop, ↓Fw.a_if, ↓Fw.b_test, ↓Fw.b_B, ↓Fw.a_and, ↓Fw.a_or, ↓Fw.a_not, ↓Fw.b_andV, ↓Fw.b_orV, ↓Fw.b_notV, ↓Fw.a_ifE, ↓Fw.a_fn, ↓Fw.a_fnX, ↓Fw.a_hold, ↓Fw.a_holdX, ↓Fw.a_ne_rr, ↓Fw.a_eq_rr, ↓Fw.a_at, ↓Fw.a_atS, ↓Fw.a_step, Fw.v_step, Fw.v_min2, Fw.v_max2, Fw.v_clear, ↓Fw.a_mt, ↓Fw.a_mtX, ↓Fw.a_mk, ↓Fw.a_cb, ↓Fw.a_lst, ↓Fw.a_tup, ↓Fw.a_chain, ↓Fw.a_dnew, ↓Fw.a_start, Fw.v_rU, Int.reduceNeg, Fw.v_add_ii, Fw.v_add_ss, Fw.v_sub_ii, Fw.v_mul_ii, Fw.v_div_ii, Fw.v_mod_ii, Fw.v_pow_ii, Fw.v_lt_ii, Fw.v_gt_ii, Fw.v_le_ii, Fw.v_ge_ii, Fw.v_le_ss, Fw.v_eqS_ii, Fw.v_eqS_ss, Fw.v_neS_ii, Fw.v_neS_ss, Fw.v_eq_ii, Fw.v_eq_ss, Fw.v_eq_bb, Fw.v_ne_ii, Fw.v_ne_ss, Fw.v_ne_bb, Fw.v_ne_tt, Fw.v_eq_tt, Fw.v_in_sc, Fw.v_ix_s, Fw.v_len_s, Fw.v_type, Fw.v_is, ↓Fw.a_bm, ↓Fw.a_bm0, ↓Fw.a_sl, ↓Fw.a_nopart, ↓Fw.a_part, Fw.v_sl_s, Fw.v_sl_r, Fw.v_app, Fw.v_add_rr, ↓Fw.b_ix_r, Fw.b_ix_r, Fw.v_in_r, Fw.v_set_r, Fw.v_len_r, Fw.v_list_r, Fw.v_listA, Fw.v_dictA, Fw.v_int_i, Fw.v_int_b, Fw.v_key_i, Fw.v_key_s, Fw.v_lst, Fw.v_tup, Fw.v_dic, Fw.v_ty_r, Fw.v_ty_s, Fw.v_ty_i, Fw.v_ty_b, Fw.v_ty_n, Fw.v_tyL, Fw.v_same, Fw.v_old, Fw.v_ne, Fw.v_upd, Fw.v_flat_s, Fw.v_inStrs, ↓Fw.a_yes, Fw.v_wipe0, Fw.v_wipe1, Fw.cx_K, Int.reduceToNat, List.length_replicate, Nat.sub_self, Nat.reduceSub, Nat.reduceAdd, List.replicate_zero, List.replicate_succ, List.append_nil, List.length_cons, List.length_nil, List.map_cons, List.map_nil, List.cons_append, List.nil_append, List.getElem?_cons_zero, List.getElem?_cons_succ, List.set_cons_zero, List.set_cons_succ, Option.some.injEq, V.int.injEq, V.bl.injEq, V.ref.injEq, V.str.injEq, exists_eq_left', exists_eq_left, exists_eq_right, exists_and_left, HO.lst.injEq, HO.dK.injEq, HO.tup.injEq, Option.isSome_some, true_and, and_true, Fw.v_m_bool, Fw.v_m_int, Fw.v_m_str, Fw.v_m_list, Fw.v_m_tuple, Fw.v_m_dict, Fw.v_flats, Bool.xor_true, Bool.xor_false, Bool.not_eq_true', decide_eq_false_iff_not, not_true_eq_false, not_false_eq_true, decide_true, decide_false, decide_eq_true_eq, ite_true, ite_false, Bool.not_true, Bool.not_false, Bool.false_eq_true, reduceCtorEq, Fw.isT_NoneType_bool, Fw.isT_NoneType_int, Fw.isT_NoneType_str, Fw.isT_NoneType_list, Fw.isT_NoneType_tuple, Fw.isT_NoneType_dict, Fw.isT_bool_bool, Fw.isT_bool_int, Fw.isT_bool_str, Fw.isT_bool_list, Fw.isT_bool_tuple, Fw.isT_bool_dict, Fw.isT_int_bool, Fw.isT_int_int, Fw.isT_int_str, Fw.isT_int_list, Fw.isT_int_tuple, Fw.isT_int_dict, Fw.isT_str_bool, Fw.isT_str_int, Fw.isT_str_str, Fw.isT_str_list, Fw.isT_str_tuple, Fw.isT_str_dict, Fw.isT_list_bool, Fw.isT_list_int, Fw.isT_list_str, Fw.isT_list_list, Fw.isT_list_tuple, Fw.isT_list_dict, Fw.isT_tuple_bool, Fw.isT_tuple_int, Fw.isT_tuple_str, Fw.isT_tuple_list, Fw.isT_tuple_tuple, Fw.isT_tuple_dict, Fw.isT_dict_bool, Fw.isT_dict_int, Fw.isT_dict_str, Fw.isT_dict_list, Fw.isT_dict_tuple, Fw.isT_dict_dict]
      refine go_dc (.inl (.inl hF)) (fun p i H2 => Same H H2 ∧ DictAt H2 p (g.full.take i) g.nd []) (fun p hp => ⟨same_new hp, .nil (by simp) upd_same⟩) (fun p i H2 _ _ z => .inl (.inl (z.1 _ _ hF))) ?_ ?_
      · rintro p i u H2 N hp hu ⟨sm, hP⟩ hN
        obtain ⟨f, hf, rfl⟩ := map_str_get hu
        have nt : f ∉ g.full.take i := nodup_take ok.nodup hf
        obtain ⟨kvs, pl, g1, g2, g3⟩ := (hN_.same sm).get (List.mem_of_getElem? hf)
        obtain ⟨kh, d1, d2, d3⟩ := hP.put nt
        try simp -dsimp only [↓Fw.a_forL, ↓Fw.a_lcL, ↓Fw.a_dcL, ↓Fw.a_dcE, ↓Fw.a_forR, ↓Fw.a_disp, ↓Fw.a_pnil, ↓Fw.a_pcons, Fw.v_keys0, Fw.v_keys1, Fw.v_deq, ↓Fw.a_truD1, Fw.v_truD, ↓Fw.a_dqPop, ↓Fw.a_dqApp, Fw.v_isD, ↓Fw.a_dget2, ↓Fw.b_dsetd, ↓Fw.a_star, Fw.v_pop, Fw.v_reverse, ↓Fw.a_tru1, Fw.v_tru_r, ↓Fw.a_gseq, ↓Fw.b_gcons, ↓Fw.b_gnil, ↓Fw.a_seq, ↓Fw.a_next, ↓Fw.a_brk, ↓Fw.a_cont, ↓Fw.a_asg, ↓Fw.a_name, ↓Fw.a_gsub, ↓Fw.b_var, ↓Fw.a_c, ↓Fw.a_op, ↓Fw.a_un, ↓Fw.a_cons, ↓Fw.a_nil, ↓Fw.a_ret, ↓Fw.a_retN, ↓Fw.a_drop, ↓Fw.a_if, ↓Fw.b_test, ↓Fw.b_B, ↓Fw.a_and, ↓Fw.a_or, ↓Fw.a_not, ↓Fw.b_andV, ↓Fw.b_orV, ↓Fw.b_notV, ↓Fw.a_ifE, ↓Fw.a_fn, ↓Fw.a_fnX, ↓Fw.a_hold, ↓Fw.a_holdX, ↓Fw.a_ne_rr, ↓Fw.a_eq_rr, ↓Fw.a_at, ↓Fw.a_atS, ↓Fw.a_step, Fw.v_step, Fw.v_min2, Fw.v_max2, Fw.v_clear, ↓Fw.a_mt, ↓Fw.a_mtX, ↓Fw.a_mk, ↓Fw.a_cb, ↓Fw.a_lst, ↓Fw.a_tup, ↓Fw.a_chain, ↓Fw.a_dnew, ↓Fw.a_start, Fw.v_rU, Int.reduceNeg, Fw.v_add_ii, Fw.v_add_ss, Fw.v_sub_ii, Fw.v_mul_ii, Fw.v_div_ii, Fw.v_mod_ii, Fw.v_pow_ii, Fw.v_lt_ii, Fw.v_gt_ii, Fw.v_le_ii, Fw.v_ge_ii, Fw.v_le_ss, Fw.v_eqS_ii, Fw.v_eqS_ss, Fw.v_neS_ii, Fw.v_neS_ss, Fw.v_eq_ii, Fw.v_eq_ss, Fw.v_eq_bb, Fw.v_ne_ii, Fw.v_ne_ss, Fw.v_ne_bb, Fw.v_ne_tt, Fw.v_eq_tt, Fw.v_in_sc, Fw.v_ix_s, Fw.v_len_s, Fw.v_type, Fw.v_is, ↓Fw.a_bm, ↓Fw.a_bm0, ↓Fw.a_sl, ↓Fw.a_nopart, ↓Fw.a_part, Fw.v_sl_s, Fw.v_sl_r, Fw.v_app, Fw.v_add_rr, ↓Fw.b_ix_r, Fw.b_ix_r, Fw.v_in_r, Fw.v_set_r, Fw.v_len_r, Fw.v_list_r, Fw.v_listA, Fw.v_dictA, Fw.v_int_i, Fw.v_int_b, Fw.v_key_i, Fw.v_key_s, Fw.v_lst, Fw.v_tup, Fw.v_dic, Fw.v_ty_r, Fw.v_ty_s, Fw.v_ty_i, Fw.v_ty_b, Fw.v_ty_n, Fw.v_tyL, Fw.v_same, Fw.v_old, Fw.v_ne, Fw.v_upd, Fw.v_flat_s, Fw.v_inStrs, ↓Fw.a_yes, Fw.v_wipe0, Fw.v_wipe1, Fw.cx_K, Int.reduceToNat, List.length_replicate, Nat.sub_self, Nat.reduceSub, Nat.reduceAdd, List.replicate_zero, List.replicate_succ, List.append_nil, List.length_cons, List.length_nil, List.map_cons, List.map_nil, List.cons_append, List.nil_append, List.getElem?_cons_zero, List.getElem?_cons_succ, List.set_cons_zero, List.set_cons_succ, Option.some.injEq, V.int.injEq, V.bl.injEq, V.ref.injEq, V.str.injEq, exists_eq_left', exists_eq_left, exists_eq_right, exists_and_left, HO.lst.injEq, HO.dK.injEq, HO.tup.injEq, Option.isSome_some, true_and, and_true, Fw.v_m_bool, Fw.v_m_int, Fw.v_m_str, Fw.v_m_list, Fw.v_m_tuple, Fw.v_m_dict, Fw.v_flats, Bool.xor_true, Bool.xor_false, Bool.not_eq_true', decide_eq_false_iff_not, not_true_eq_false, not_false_eq_true, decide_true, decide_false, decide_eq_true_eq, ite_true, ite_false, Bool.not_true, Bool.not_false, Bool.false_eq_true, reduceCtorEq, Fw.isT_NoneType_bool, Fw.isT_NoneType_int, Fw.isT_NoneType_str, Fw.isT_NoneType_list, Fw.isT_NoneType_tuple, Fw.isT_NoneType_dict, Fw.isT_bool_bool, Fw.isT_bool_int, Fw.isT_bool_str, Fw.isT_bool_list, Fw.isT_bool_tuple, Fw.isT_bool_dict, Fw.isT_int_bool, Fw.isT_int_int, Fw.isT_int_str, Fw.isT_int_list, Fw.isT_int_tuple, Fw.isT_int_dict, Fw.isT_str_bool, Fw.isT_str_int, Fw.isT_str_str, Fw.isT_str_list, Fw.isT_str_tuple, Fw.isT_str_dict, Fw.isT_list_bool, Fw.isT_list_int, Fw.isT_list_str, Fw.isT_list_list, Fw.isT_list_tuple, Fw.isT_list_dict, Fw.isT_tuple_bool, Fw.isT_tuple_int, Fw.isT_tuple_str, Fw.isT_tuple_list, Fw.isT_tuple_tuple, Fw.isT_tuple_dict, Fw.isT_dict_bool, Fw.isT_dict_int, Fw.isT_dict_str, Fw.isT_dict_list, Fw.isT_dict_tuple, Fw.isT_dict_dict, g1, g2]
        refine ⟨kh, .inr f, rfl, d1, ?_, hN _ ⟨same_mut sm hp, ?_⟩⟩
        · rw [d2, List.length_take]
          exact Nat.lt_of_le_of_lt (Nat.le_trans (Nat.min_le_right _ _) lF) (by decide)
        · rw [take_get hf]
          exact d3 H2 pl (fun _ _ _ e => e) (by simp) g3
      · rintro p H2 hp ⟨sm2, hP⟩
        rw [List.length_map, List.take_length] at hP
        refine ⟨g.full, g.nd, hP, by omega, ok.lenN, fun pn H3 hNd => ?_⟩
        have sm3 : Same H H3 := Same.trans sm2 hNd.1
        have hpn : H pn = none := same_none sm2 hNd.2.1
        have hF3 := sm3 _ _ hF
        have hD3 := sm3 _ _ hD
        have tl : (pairsOf g.full g.nd).length ≤ 480 := Nat.le_trans (pairs_len ok.lenN) (by omega)
        have tk : ∀ y, y ∈ (turned (pairsOf g.full g.nd)).1 ↔ ∃ x ∈ g.full, y ∈ g.nd x := fun y => by
          rw [turned_key]
          exact ⟨fun ⟨x, z⟩ => ⟨x, pairs_mem.mp z⟩, fun ⟨x, z⟩ => ⟨x, pairs_mem.mpr z⟩⟩
        have tv : ∀ x y, x ∈ (turned (pairsOf g.full g.nd)).2 y ↔ x ∈ g.full ∧ y ∈ g.nd x := fun x y => by rw [turned_val, pairs_mem]
        have tl1 : (turned (pairsOf g.full g.nd)).1.length ≤ 480 := Nat.le_trans (turned_len _).1 tl
        have tn := turned_nil (pairsOf g.full g.nd)
        obtain ⟨_, _, ad, hT, hA⟩ := hNd
        generalize turned (pairsOf g.full g.nd) = t at tk tv tl1 tn hT hA
        try simp -dsimp only [↓Fw.a_forL, ↓Fw.a_lcL, ↓Fw.a_dcL, ↓Fw.a_dcE, ↓Fw.a_forR, ↓Fw.a_disp, ↓Fw.a_pnil, ↓Fw.a_pcons, Fw.v_keys0, Fw.v_keys1, Fw.v_deq, ↓Fw.a_truD1, Fw.v_truD, ↓Fw.a_dqPop, ↓Fw.a_dqApp, Fw.v_isD, ↓Fw.a_dget2, ↓Fw.b_dsetd, ↓Fw.a_star, Fw.v_pop, Fw.v_reverse, ↓Fw.a_tru1, Fw.v_tru_r, ↓Fw.a_gseq, ↓Fw.b_gcons, ↓Fw.b_gnil, ↓Fw.a_seq, ↓Fw.a_next, ↓Fw.a_brk, ↓Fw.a_cont, ↓Fw.a_asg, ↓Fw.a_name, ↓Fw.a_gsub, ↓Fw.b_var, ↓Fw.a_c, ↓Fw.a_op, ↓Fw.a_un, ↓Fw.a_cons, ↓Fw.a_nil, ↓Fw.a_ret, ↓Fw.a_retN, ↓Fw.a_drop, ↓Fw.a_if, ↓Fw.b_test, ↓Fw.b_B, ↓Fw.a_and, ↓Fw.a_or, ↓Fw.a_not, ↓Fw.b_andV, ↓Fw.b_orV, ↓Fw.b_notV, ↓Fw.a_ifE, ↓Fw.a_fn, ↓Fw.a_fnX, ↓Fw.a_hold, ↓Fw.a_holdX, ↓Fw.a_ne_rr, ↓Fw.a_eq_rr, ↓Fw.a_at, ↓Fw.a_atS, ↓Fw.a_step, Fw.v_step, Fw.v_min2, Fw.v_max2, Fw.v_clear, ↓Fw.a_mt, ↓Fw.a_mtX, ↓Fw.a_mk, ↓Fw.a_cb, ↓Fw.a_lst, ↓Fw.a_tup, ↓Fw.a_chain, ↓Fw.a_dnew, ↓Fw.a_start, Fw.v_rU, Int.reduceNeg, Fw.v_add_ii, Fw.v_add_ss, Fw.v_sub_ii, Fw.v_mul_ii, Fw.v_div_ii, Fw.v_mod_ii, Fw.v_pow_ii, Fw.v_lt_ii, Fw.v_gt_ii, Fw.v_le_ii, Fw.v_ge_ii, Fw.v_le_ss, Fw.v_eqS_ii, Fw.v_eqS_ss, Fw.v_neS_ii, Fw.v_neS_ss, Fw.v_eq_ii, Fw.v_eq_ss, Fw.v_eq_bb, Fw.v_ne_ii, Fw.v_ne_ss, Fw.v_ne_bb, Fw.v_ne_tt, Fw.v_eq_tt, Fw.v_in_sc, Fw.v_ix_s, Fw.v_len_s, Fw.v_type, Fw.v_is, ↓Fw.a_bm, ↓Fw.a_bm0, ↓Fw.a_sl, ↓Fw.a_nopart, ↓Fw.a_part, Fw.v_sl_s, Fw.v_sl_r, Fw.v_app, Fw.v_add_rr, ↓Fw.b_ix_r, Fw.b_ix_r, Fw.v_in_r, Fw.v_set_r, Fw.v_len_r, Fw.v_list_r, Fw.v_listA, Fw.v_dictA, Fw.v_int_i, Fw.v_int_b, Fw.v_key_i, Fw.v_key_s, Fw.v_lst, Fw.v_tup, Fw.v_dic, Fw.v_ty_r, Fw.v_ty_s, Fw.v_ty_i, Fw.v_ty_b, Fw.v_ty_n, Fw.v_tyL, Fw.v_same, Fw.v_old, Fw.v_ne, Fw.v_upd, Fw.v_flat_s, Fw.v_inStrs, ↓Fw.a_yes, Fw.v_wipe0, Fw.v_wipe1, Fw.cx_K, Int.reduceToNat, List.length_replicate, Nat.sub_self, Nat.reduceSub, Nat.reduceAdd, List.replicate_zero, List.replicate_succ, List.append_nil, List.length_cons, List.length_nil, List.map_cons, List.map_nil, List.cons_append, List.nil_append, List.getElem?_cons_zero, List.getElem?_cons_succ, List.set_cons_zero, List.set_cons_succ, Option.some.injEq, V.int.injEq, V.bl.injEq, V.ref.injEq, V.str.injEq, exists_eq_left', exists_eq_left, exists_eq_right, exists_and_left, HO.lst.injEq, HO.dK.injEq, HO.tup.injEq, Option.isSome_some, true_and, and_true, Fw.v_m_bool, Fw.v_m_int, Fw.v_m_str, Fw.v_m_list, Fw.v_m_tuple, Fw.v_m_dict, Fw.v_flats, Bool.xor_true, Bool.xor_false, Bool.not_eq_true', decide_eq_false_iff_not, not_true_eq_false, not_false_eq_true, decide_true, decide_false, decide_eq_true_eq, ite_true, ite_false, Bool.not_true, Bool.not_false, Bool.false_eq_true, reduceCtorEq, Fw.isT_NoneType_bool, Fw.isT_NoneType_int, Fw.isT_NoneType_str, Fw.isT_NoneType_list, Fw.isT_NoneType_tuple, Fw.isT_NoneType_dict, Fw.isT_bool_bool, Fw.isT_bool_int, Fw.isT_bool_str, Fw.isT_bool_list, Fw.isT_bool_tuple, Fw.isT_bool_dict, Fw.isT_int_bool, Fw.isT_int_int, Fw.isT_int_str, Fw.isT_int_list, Fw.isT_int_tuple, Fw.isT_int_dict, Fw.isT_str_bool, Fw.isT_str_int, Fw.isT_str_str, Fw.isT_str_list, Fw.isT_str_tuple, Fw.isT_str_dict, Fw.isT_list_bool, Fw.isT_list_int, Fw.isT_list_str, Fw.isT_list_list, Fw.isT_list_tuple, Fw.isT_list_dict, Fw.isT_tuple_bool, Fw.isT_tuple_int, Fw.isT_tuple_str, Fw.isT_tuple_list, Fw.isT_tuple_tuple, Fw.isT_tuple_dict, Fw.isT_dict_bool, Fw.isT_dict_int, Fw.isT_dict_str, Fw.isT_dict_list, Fw.isT_dict_tuple, Fw.isT_dict_dict, hF3, hD3]
        refine ⟨_, .inr (.inl (.inl hF3)), _, .inr (.inl (.inl hD3)), ?_⟩
        rw [← List.map_append]
        refine ⟨?_, fun pl hpl => ?_⟩
        · rw [List.length_map, List.length_append]
          exact Nat.le_trans (show _ ≤ 120 by omega) (by decide)
        have sm4 := same_new (o := .lst ((g.full ++ g.done).map V.str)) hpl
        have hL4 : upd H3 pl (.lst ((g.full ++ g.done).map V.str)) pl = some (.lst ((g.full ++ g.done).map V.str)) := upd_same
        generalize upd H3 pl (.lst ((g.full ++ g.done).map V.str)) = H4 at sm4 hL4 ⊢
        refine go_dc (.inl (.inl hL4)) (fun p i H5 => Same H4 H5 ∧ SetAt H5 p ((g.full ++ g.done).take i)) (fun p hp => ⟨same_new hp, .nil upd_same⟩) (fun p i H2 _ _ z => .inl (.inl (z.1 _ _ hL4))) ?_ ?_
        · rintro p i u H5 N hp hu ⟨sm, hP⟩ hN
          obtain ⟨f, hf, rfl⟩ := map_str_get hu
          obtain ⟨kh, d1, d2, _, d3⟩ := hP.put
          try simp -dsimp only [↓Fw.a_forL, ↓Fw.a_lcL, ↓Fw.a_dcL, ↓Fw.a_dcE, ↓Fw.a_forR, ↓Fw.a_disp, ↓Fw.a_pnil, ↓Fw.a_pcons, Fw.v_keys0, Fw.v_keys1, Fw.v_deq, ↓Fw.a_truD1, Fw.v_truD, ↓Fw.a_dqPop, ↓Fw.a_dqApp, Fw.v_isD, ↓Fw.a_dget2, ↓Fw.b_dsetd, ↓Fw.a_star, Fw.v_pop, Fw.v_reverse, ↓Fw.a_tru1, Fw.v_tru_r, ↓Fw.a_gseq, ↓Fw.b_gcons, ↓Fw.b_gnil, ↓Fw.a_seq, ↓Fw.a_next, ↓Fw.a_brk, ↓Fw.a_cont, ↓Fw.a_asg, ↓Fw.a_name, ↓Fw.a_gsub, ↓Fw.b_var, ↓Fw.a_c, ↓Fw.a_op, ↓Fw.a_un, ↓Fw.a_cons, ↓Fw.a_nil, ↓Fw.a_ret, ↓Fw.a_retN, ↓Fw.a_drop, ↓Fw.a_if, ↓Fw.b_test, ↓Fw.b_B, ↓Fw.a_and, ↓Fw.a_or, ↓Fw.a_not, ↓Fw.b_andV, ↓Fw.b_orV, ↓Fw.b_notV, ↓Fw.a_ifE, ↓Fw.a_fn, ↓Fw.a_fnX, ↓Fw.a_hold, ↓Fw.a_holdX, ↓Fw.a_ne_rr, ↓Fw.a_eq_rr, ↓Fw.a_at, ↓Fw.a_atS, ↓Fw.a_step, Fw.v_step, Fw.v_min2, Fw.v_max2, Fw.v_clear, ↓Fw.a_mt, ↓Fw.a_mtX, ↓Fw.a_mk, ↓Fw.a_cb, ↓Fw.a_lst, ↓Fw.a_tup, ↓Fw.a_chain, ↓Fw.a_dnew, ↓Fw.a_start, Fw.v_rU, Int.reduceNeg, Fw.v_add_ii, Fw.v_add_ss, Fw.v_sub_ii, Fw.v_mul_ii, Fw.v_div_ii, Fw.v_mod_ii, Fw.v_pow_ii, Fw.v_lt_ii, Fw.v_gt_ii, Fw.v_le_ii, Fw.v_ge_ii, Fw.v_le_ss, Fw.v_eqS_ii, Fw.v_eqS_ss, Fw.v_neS_ii, Fw.v_neS_ss, Fw.v_eq_ii, Fw.v_eq_ss, Fw.v_eq_bb, Fw.v_ne_ii, Fw.v_ne_ss, Fw.v_ne_bb, Fw.v_ne_tt, Fw.v_eq_tt, Fw.v_in_sc, Fw.v_ix_s, Fw.v_len_s, Fw.v_type, Fw.v_is, ↓Fw.a_bm, ↓Fw.a_bm0, ↓Fw.a_sl, ↓Fw.a_nopart, ↓Fw.a_part, Fw.v_sl_s, Fw.v_sl_r, Fw.v_app, Fw.v_add_rr, ↓Fw.b_ix_r, Fw.b_ix_r, Fw.v_in_r, Fw.v_set_r, Fw.v_len_r, Fw.v_list_r, Fw.v_listA, Fw.v_dictA, Fw.v_int_i, Fw.v_int_b, Fw.v_key_i, Fw.v_key_s, Fw.v_lst, Fw.v_tup, Fw.v_dic, Fw.v_ty_r, Fw.v_ty_s, Fw.v_ty_i, Fw.v_ty_b, Fw.v_ty_n, Fw.v_tyL, Fw.v_same, Fw.v_old, Fw.v_ne, Fw.v_upd, Fw.v_flat_s, Fw.v_inStrs, ↓Fw.a_yes, Fw.v_wipe0, Fw.v_wipe1, Fw.cx_K, Int.reduceToNat, List.length_replicate, Nat.sub_self, Nat.reduceSub, Nat.reduceAdd, List.replicate_zero, List.replicate_succ, List.append_nil, List.length_cons, List.length_nil, List.map_cons, List.map_nil, List.cons_append, List.nil_append, List.getElem?_cons_zero, List.getElem?_cons_succ, List.set_cons_zero, List.set_cons_succ, Option.some.injEq, V.int.injEq, V.bl.injEq, V.ref.injEq, V.str.injEq, exists_eq_left', exists_eq_left, exists_eq_right, exists_and_left, HO.lst.injEq, HO.dK.injEq, HO.tup.injEq, Option.isSome_some, true_and, and_true, Fw.v_m_bool, Fw.v_m_int, Fw.v_m_str, Fw.v_m_list, Fw.v_m_tuple, Fw.v_m_dict, Fw.v_flats, Bool.xor_true, Bool.xor_false, Bool.not_eq_true', decide_eq_false_iff_not, not_true_eq_false, not_false_eq_true, decide_true, decide_false, decide_eq_true_eq, ite_true, ite_false, Bool.not_true, Bool.not_false, Bool.false_eq_true, reduceCtorEq, Fw.isT_NoneType_bool, Fw.isT_NoneType_int, Fw.isT_NoneType_str, Fw.isT_NoneType_list, Fw.isT_NoneType_tuple, Fw.isT_NoneType_dict, Fw.isT_bool_bool, Fw.isT_bool_int, Fw.isT_bool_str, Fw.isT_bool_list, Fw.isT_bool_tuple, Fw.isT_bool_dict, Fw.isT_int_bool, Fw.isT_int_int, Fw.isT_int_str, Fw.isT_int_list, Fw.isT_int_tuple, Fw.isT_int_dict, Fw.isT_str_bool, Fw.isT_str_int, Fw.isT_str_str, Fw.isT_str_list, Fw.isT_str_tuple, Fw.isT_str_dict, Fw.isT_list_bool, Fw.isT_list_int, Fw.isT_list_str, Fw.isT_list_list, Fw.isT_list_tuple, Fw.isT_list_dict, Fw.isT_tuple_bool, Fw.isT_tuple_int, Fw.isT_tuple_str, Fw.isT_tuple_list, Fw.isT_tuple_tuple, Fw.isT_tuple_dict, Fw.isT_dict_bool, Fw.isT_dict_int, Fw.isT_dict_str, Fw.isT_dict_list, Fw.isT_dict_tuple, Fw.isT_dict_dict]
          refine ⟨kh, .inr f, rfl, d1, ?_, hN _ ⟨same_mut sm hp, ?_⟩⟩
          · refine Nat.lt_of_le_of_lt (Nat.le_trans d2 (List.length_take_le' _ _)) (Nat.lt_of_le_of_lt (show _ ≤ 120 from ?_) (by decide))
            rw [List.length_append]
            omega
          · rw [take_get hf]
            exact d3 _ _ _
        · rintro pk H5 hpk ⟨sm5, hK5⟩
          rw [List.length_map, List.take_length] at hK5
          have sm35 : Same H3 H5 := Same.trans sm4 sm5
          have hpk3 : H3 pk = none := same_none sm4 hpk
          have hT5 := sm35 _ _ hT
          have nkn : pk ≠ pn := fun z => by rw [z, hT] at hpk3; cases hpk3
          obtain ⟨kk, e1, e2, e3⟩ := hK5
          refine s_lock (c_keys (kvs := sK t.1 fun x => .ref (ad x)) hT5 (fun od R z => by
            try simp -dsimp only [↓Fw.a_forL, ↓Fw.a_lcL, ↓Fw.a_dcL, ↓Fw.a_dcE, ↓Fw.a_forR, ↓Fw.a_disp, ↓Fw.a_pnil, ↓Fw.a_pcons, Fw.v_keys0, Fw.v_keys1, Fw.v_deq, ↓Fw.a_truD1, Fw.v_truD, ↓Fw.a_dqPop, ↓Fw.a_dqApp, Fw.v_isD, ↓Fw.a_dget2, ↓Fw.b_dsetd, ↓Fw.a_star, Fw.v_pop, Fw.v_reverse, ↓Fw.a_tru1, Fw.v_tru_r, ↓Fw.a_gseq, ↓Fw.b_gcons, ↓Fw.b_gnil, ↓Fw.a_seq, ↓Fw.a_next, ↓Fw.a_brk, ↓Fw.a_cont, ↓Fw.a_asg, ↓Fw.a_name, ↓Fw.a_gsub, ↓Fw.b_var, ↓Fw.a_c, ↓Fw.a_op, ↓Fw.a_un, ↓Fw.a_cons, ↓Fw.a_nil, ↓Fw.a_ret, ↓Fw.a_retN, ↓Fw.a_drop, ↓Fw.a_if, ↓Fw.b_test, ↓Fw.b_B, ↓Fw.a_and, ↓Fw.a_or, ↓Fw.a_not, ↓Fw.b_andV, ↓Fw.b_orV, ↓Fw.b_notV, ↓Fw.a_ifE, ↓Fw.a_fn, ↓Fw.a_fnX, ↓Fw.a_hold, ↓Fw.a_holdX, ↓Fw.a_ne_rr, ↓Fw.a_eq_rr, ↓Fw.a_at, ↓Fw.a_atS, ↓Fw.a_step, Fw.v_step, Fw.v_min2, Fw.v_max2, Fw.v_clear, ↓Fw.a_mt, ↓Fw.a_mtX, ↓Fw.a_mk, ↓Fw.a_cb, ↓Fw.a_lst, ↓Fw.a_tup, ↓Fw.a_chain, ↓Fw.a_dnew, ↓Fw.a_start, Fw.v_rU, Int.reduceNeg, Fw.v_add_ii, Fw.v_add_ss, Fw.v_sub_ii, Fw.v_mul_ii, Fw.v_div_ii, Fw.v_mod_ii, Fw.v_pow_ii, Fw.v_lt_ii, Fw.v_gt_ii, Fw.v_le_ii, Fw.v_ge_ii, Fw.v_le_ss, Fw.v_eqS_ii, Fw.v_eqS_ss, Fw.v_neS_ii, Fw.v_neS_ss, Fw.v_eq_ii, Fw.v_eq_ss, Fw.v_eq_bb, Fw.v_ne_ii, Fw.v_ne_ss, Fw.v_ne_bb, Fw.v_ne_tt, Fw.v_eq_tt, Fw.v_in_sc, Fw.v_ix_s, Fw.v_len_s, Fw.v_type, Fw.v_is, ↓Fw.a_bm, ↓Fw.a_bm0, ↓Fw.a_sl, ↓Fw.a_nopart, ↓Fw.a_part, Fw.v_sl_s, Fw.v_sl_r, Fw.v_app, Fw.v_add_rr, ↓Fw.b_ix_r, Fw.b_ix_r, Fw.v_in_r, Fw.v_set_r, Fw.v_len_r, Fw.v_list_r, Fw.v_listA, Fw.v_dictA, Fw.v_int_i, Fw.v_int_b, Fw.v_key_i, Fw.v_key_s, Fw.v_lst, Fw.v_tup, Fw.v_dic, Fw.v_ty_r, Fw.v_ty_s, Fw.v_ty_i, Fw.v_ty_b, Fw.v_ty_n, Fw.v_tyL, Fw.v_same, Fw.v_old, Fw.v_ne, Fw.v_upd, Fw.v_flat_s, Fw.v_inStrs, ↓Fw.a_yes, Fw.v_wipe0, Fw.v_wipe1, Fw.cx_K, Int.reduceToNat, List.length_replicate, Nat.sub_self, Nat.reduceSub, Nat.reduceAdd, List.replicate_zero, List.replicate_succ, List.append_nil, List.length_cons, List.length_nil, List.map_cons, List.map_nil, List.cons_append, List.nil_append, List.getElem?_cons_zero, List.getElem?_cons_succ, List.set_cons_zero, List.set_cons_succ, Option.some.injEq, V.int.injEq, V.bl.injEq, V.ref.injEq, V.str.injEq, exists_eq_left', exists_eq_left, exists_eq_right, exists_and_left, HO.lst.injEq, HO.dK.injEq, HO.tup.injEq, Option.isSome_some, true_and, and_true, Fw.v_m_bool, Fw.v_m_int, Fw.v_m_str, Fw.v_m_list, Fw.v_m_tuple, Fw.v_m_dict, Fw.v_flats, Bool.xor_true, Bool.xor_false, Bool.not_eq_true', decide_eq_false_iff_not, not_true_eq_false, not_false_eq_true, decide_true, decide_false, decide_eq_true_eq, ite_true, ite_false, Bool.not_true, Bool.not_false, Bool.false_eq_true, reduceCtorEq, Fw.isT_NoneType_bool, Fw.isT_NoneType_int, Fw.isT_NoneType_str, Fw.isT_NoneType_list, Fw.isT_NoneType_tuple, Fw.isT_NoneType_dict, Fw.isT_bool_bool, Fw.isT_bool_int, Fw.isT_bool_str, Fw.isT_bool_list, Fw.isT_bool_tuple, Fw.isT_bool_dict, Fw.isT_int_bool, Fw.isT_int_int, Fw.isT_int_str, Fw.isT_int_list, Fw.isT_int_tuple, Fw.isT_int_dict, Fw.isT_str_bool, Fw.isT_str_int, Fw.isT_str_str, Fw.isT_str_list, Fw.isT_str_tuple, Fw.isT_str_dict, Fw.isT_list_bool, Fw.isT_list_int, Fw.isT_list_str, Fw.isT_list_list, Fw.isT_list_tuple, Fw.isT_list_dict, Fw.isT_tuple_bool, Fw.isT_tuple_int, Fw.isT_tuple_str, Fw.isT_tuple_list, Fw.isT_tuple_tuple, Fw.isT_tuple_dict, Fw.isT_dict_bool, Fw.isT_dict_int, Fw.isT_dict_str, Fw.isT_dict_list, Fw.isT_dict_tuple, Fw.isT_dict_dict]
            exact z) (fun od p i H6 => Same (upd H5 pn (.frz od (.dK (sK t.1 fun x => .ref (ad x))))) H6 ∧ H6 p = some (.lst (((t.1.take i).filter fun y => !decide (y ∈ g.full ++ g.done)).map V.str)))
            (fun od p hp => ⟨same_new hp, upd_same⟩) (fun od p i H6 _ z => z.1 _ _ upd_same) ?_ ?_)
          · rintro od p i k v H6 N hp hk ⟨sm6, hP⟩ hN
            obtain ⟨y, hy, rfl, rfl⟩ := sK_get hk
            have hK6 : H6 pk = some (.dK kk) := sm6 _ _ (by rw [upd_ne nkn]; exact e1)
            have ek : kV (.inr y : Key) = .str y := rfl
            rw [ek]
            try simp -dsimp only [↓Fw.a_forL, ↓Fw.a_lcL, ↓Fw.a_dcL, ↓Fw.a_dcE, ↓Fw.a_forR, ↓Fw.a_disp, ↓Fw.a_pnil, ↓Fw.a_pcons, Fw.v_keys0, Fw.v_keys1, Fw.v_deq, ↓Fw.a_truD1, Fw.v_truD, ↓Fw.a_dqPop, ↓Fw.a_dqApp, Fw.v_isD, ↓Fw.a_dget2, ↓Fw.b_dsetd, ↓Fw.a_star, Fw.v_pop, Fw.v_reverse, ↓Fw.a_tru1, Fw.v_tru_r, ↓Fw.a_gseq, ↓Fw.b_gcons, ↓Fw.b_gnil, ↓Fw.a_seq, ↓Fw.a_next, ↓Fw.a_brk, ↓Fw.a_cont, ↓Fw.a_asg, ↓Fw.a_name, ↓Fw.a_gsub, ↓Fw.b_var, ↓Fw.a_c, ↓Fw.a_op, ↓Fw.a_un, ↓Fw.a_cons, ↓Fw.a_nil, ↓Fw.a_ret, ↓Fw.a_retN, ↓Fw.a_drop, ↓Fw.a_if, ↓Fw.b_test, ↓Fw.b_B, ↓Fw.a_and, ↓Fw.a_or, ↓Fw.a_not, ↓Fw.b_andV, ↓Fw.b_orV, ↓Fw.b_notV, ↓Fw.a_ifE, ↓Fw.a_fn, ↓Fw.a_fnX, ↓Fw.a_hold, ↓Fw.a_holdX, ↓Fw.a_ne_rr, ↓Fw.a_eq_rr, ↓Fw.a_at, ↓Fw.a_atS, ↓Fw.a_step, Fw.v_step, Fw.v_min2, Fw.v_max2, Fw.v_clear, ↓Fw.a_mt, ↓Fw.a_mtX, ↓Fw.a_mk, ↓Fw.a_cb, ↓Fw.a_lst, ↓Fw.a_tup, ↓Fw.a_chain, ↓Fw.a_dnew, ↓Fw.a_start, Fw.v_rU, Int.reduceNeg, Fw.v_add_ii, Fw.v_add_ss, Fw.v_sub_ii, Fw.v_mul_ii, Fw.v_div_ii, Fw.v_mod_ii, Fw.v_pow_ii, Fw.v_lt_ii, Fw.v_gt_ii, Fw.v_le_ii, Fw.v_ge_ii, Fw.v_le_ss, Fw.v_eqS_ii, Fw.v_eqS_ss, Fw.v_neS_ii, Fw.v_neS_ss, Fw.v_eq_ii, Fw.v_eq_ss, Fw.v_eq_bb, Fw.v_ne_ii, Fw.v_ne_ss, Fw.v_ne_bb, Fw.v_ne_tt, Fw.v_eq_tt, Fw.v_in_sc, Fw.v_ix_s, Fw.v_len_s, Fw.v_type, Fw.v_is, ↓Fw.a_bm, ↓Fw.a_bm0, ↓Fw.a_sl, ↓Fw.a_nopart, ↓Fw.a_part, Fw.v_sl_s, Fw.v_sl_r, Fw.v_app, Fw.v_add_rr, ↓Fw.b_ix_r, Fw.b_ix_r, Fw.v_in_r, Fw.v_set_r, Fw.v_len_r, Fw.v_list_r, Fw.v_listA, Fw.v_dictA, Fw.v_int_i, Fw.v_int_b, Fw.v_key_i, Fw.v_key_s, Fw.v_lst, Fw.v_tup, Fw.v_dic, Fw.v_ty_r, Fw.v_ty_s, Fw.v_ty_i, Fw.v_ty_b, Fw.v_ty_n, Fw.v_tyL, Fw.v_same, Fw.v_old, Fw.v_ne, Fw.v_upd, Fw.v_flat_s, Fw.v_inStrs, ↓Fw.a_yes, Fw.v_wipe0, Fw.v_wipe1, Fw.cx_K, Int.reduceToNat, List.length_replicate, Nat.sub_self, Nat.reduceSub, Nat.reduceAdd, List.replicate_zero, List.replicate_succ, List.append_nil, List.length_cons, List.length_nil, List.map_cons, List.map_nil, List.cons_append, List.nil_append, List.getElem?_cons_zero, List.getElem?_cons_succ, List.set_cons_zero, List.set_cons_succ, Option.some.injEq, V.int.injEq, V.bl.injEq, V.ref.injEq, V.str.injEq, exists_eq_left', exists_eq_left, exists_eq_right, exists_and_left, HO.lst.injEq, HO.dK.injEq, HO.tup.injEq, Option.isSome_some, true_and, and_true, Fw.v_m_bool, Fw.v_m_int, Fw.v_m_str, Fw.v_m_list, Fw.v_m_tuple, Fw.v_m_dict, Fw.v_flats, Bool.xor_true, Bool.xor_false, Bool.not_eq_true', decide_eq_false_iff_not, not_true_eq_false, not_false_eq_true, decide_true, decide_false, decide_eq_true_eq, ite_true, ite_false, Bool.not_true, Bool.not_false, Bool.false_eq_true, reduceCtorEq, Fw.isT_NoneType_bool, Fw.isT_NoneType_int, Fw.isT_NoneType_str, Fw.isT_NoneType_list, Fw.isT_NoneType_tuple, Fw.isT_NoneType_dict, Fw.isT_bool_bool, Fw.isT_bool_int, Fw.isT_bool_str, Fw.isT_bool_list, Fw.isT_bool_tuple, Fw.isT_bool_dict, Fw.isT_int_bool, Fw.isT_int_int, Fw.isT_int_str, Fw.isT_int_list, Fw.isT_int_tuple, Fw.isT_int_dict, Fw.isT_str_bool, Fw.isT_str_int, Fw.isT_str_str, Fw.isT_str_list, Fw.isT_str_tuple, Fw.isT_str_dict, Fw.isT_list_bool, Fw.isT_list_int, Fw.isT_list_str, Fw.isT_list_list, Fw.isT_list_tuple, Fw.isT_list_dict, Fw.isT_tuple_bool, Fw.isT_tuple_int, Fw.isT_tuple_str, Fw.isT_tuple_list, Fw.isT_tuple_tuple, Fw.isT_tuple_dict, Fw.isT_dict_bool, Fw.isT_dict_int, Fw.isT_dict_str, Fw.isT_dict_list, Fw.isT_dict_tuple, Fw.isT_dict_dict, hK6, e3, hP]
            refine ite2 (fun z => ⟨?_, hN _ ⟨same_mut sm6 hp, ?_⟩⟩) fun z => hN _ ⟨sm6, ?_⟩
            · rw [List.length_map]
              exact Nat.lt_of_le_of_lt (Nat.le_trans (List.length_filter_le _ _) (Nat.le_trans (List.length_take_le' _ _) tl1)) (by decide)
            · rw [upd_same, take_get hy, List.filter_append, List.map_append, List.filter_cons_of_pos (p := fun y => !decide (y ∈ g.full ++ g.done)) (by simpa using z)]
              rfl
            · rw [take_get hy, List.filter_append, List.filter_cons_of_neg (p := fun y => !decide (y ∈ g.full ++ g.done)) (by simpa using z), List.filter_nil, List.append_nil]
              exact hP
          · rintro od pf H6 hpf ⟨sm6, hP⟩
            rw [sK_len, List.take_length] at hP
            have sm56 := same_unlock hT5 sm6
            obtain ⟨nfn, hpf5⟩ := none_lock hpf
            have hP7 : upd H6 pn (.dK (sK t.1 fun x => .ref (ad x))) pf = some (.lst ((t.1.filter fun y => !decide (y ∈ g.full ++ g.done)).map V.str)) := by rw [upd_ne nfn]; exact hP
            generalize upd H6 pn (.dK (sK t.1 fun x => .ref (ad x))) = H7 at sm56 hP7 ⊢
            have hpf3 : H3 pf = none := same_none sm35 hpf5
            have hpfH := same_none sm3 hpf3
            have sm7 : Same H3 H7 := Same.trans sm35 sm56
            have cut0 : g.Cutting (t.1.filter fun y => !decide (y ∈ g.full ++ g.done)) [] := by
              refine ⟨fun x hx => ?_, List.nodup_nil, fun x hx => (by cases hx), fun x hx _ y hy => ?_⟩
              · have hx2 := (List.mem_filter.mp hx).2
                simp only [List.mem_append, not_or, Bool.not_eq_true', decide_eq_false_iff_not] at hx2
                exact ⟨fun z => hx2.1 (List.Sublist.mem z Net.great_sub), hx2.2⟩
              · by_cases c : y ∈ g.full
                · exact .inr (.inl ⟨c, fun z => by cases z⟩)
                · by_cases c2 : y ∈ g.done
                  · exact .inl c2
                  · exact .inr (.inr (List.mem_filter.mpr ⟨(tk y).mpr ⟨x, hx, hy⟩, by simp [c, c2]⟩))
            have lw : (t.1.filter fun y => !decide (y ∈ g.full ++ g.done)).length ≤ 480 := Nat.le_trans (List.length_filter_le _ _) tl1
            generalize (t.1.filter fun y => !decide (y ∈ g.full ++ g.done)) = w0 at hP7 cut0 lw
            try simp -dsimp only [↓Fw.a_forL, ↓Fw.a_lcL, ↓Fw.a_dcL, ↓Fw.a_dcE, ↓Fw.a_forR, ↓Fw.a_disp, ↓Fw.a_pnil, ↓Fw.a_pcons, Fw.v_keys0, Fw.v_keys1, Fw.v_deq, ↓Fw.a_truD1, Fw.v_truD, ↓Fw.a_dqPop, ↓Fw.a_dqApp, Fw.v_isD, ↓Fw.a_dget2, ↓Fw.b_dsetd, ↓Fw.a_star, Fw.v_pop, Fw.v_reverse, ↓Fw.a_tru1, Fw.v_tru_r, ↓Fw.a_gseq, ↓Fw.b_gcons, ↓Fw.b_gnil, ↓Fw.a_seq, ↓Fw.a_next, ↓Fw.a_brk, ↓Fw.a_cont, ↓Fw.a_asg, ↓Fw.a_name, ↓Fw.a_gsub, ↓Fw.b_var, ↓Fw.a_c, ↓Fw.a_op, ↓Fw.a_un, ↓Fw.a_cons, ↓Fw.a_nil, ↓Fw.a_ret, ↓Fw.a_retN, ↓Fw.a_drop, ↓Fw.a_if, ↓Fw.b_test, ↓Fw.b_B, ↓Fw.a_and, ↓Fw.a_or, ↓Fw.a_not, ↓Fw.b_andV, ↓Fw.b_orV, ↓Fw.b_notV, ↓Fw.a_ifE, ↓Fw.a_fn, ↓Fw.a_fnX, ↓Fw.a_hold, ↓Fw.a_holdX, ↓Fw.a_ne_rr, ↓Fw.a_eq_rr, ↓Fw.a_at, ↓Fw.a_atS, ↓Fw.a_step, Fw.v_step, Fw.v_min2, Fw.v_max2, Fw.v_clear, ↓Fw.a_mt, ↓Fw.a_mtX, ↓Fw.a_mk, ↓Fw.a_cb, ↓Fw.a_lst, ↓Fw.a_tup, ↓Fw.a_chain, ↓Fw.a_dnew, ↓Fw.a_start, Fw.v_rU, Int.reduceNeg, Fw.v_add_ii, Fw.v_add_ss, Fw.v_sub_ii, Fw.v_mul_ii, Fw.v_div_ii, Fw.v_mod_ii, Fw.v_pow_ii, Fw.v_lt_ii, Fw.v_gt_ii, Fw.v_le_ii, Fw.v_ge_ii, Fw.v_le_ss, Fw.v_eqS_ii, Fw.v_eqS_ss, Fw.v_neS_ii, Fw.v_neS_ss, Fw.v_eq_ii, Fw.v_eq_ss, Fw.v_eq_bb, Fw.v_ne_ii, Fw.v_ne_ss, Fw.v_ne_bb, Fw.v_ne_tt, Fw.v_eq_tt, Fw.v_in_sc, Fw.v_ix_s, Fw.v_len_s, Fw.v_type, Fw.v_is, ↓Fw.a_bm, ↓Fw.a_bm0, ↓Fw.a_sl, ↓Fw.a_nopart, ↓Fw.a_part, Fw.v_sl_s, Fw.v_sl_r, Fw.v_app, Fw.v_add_rr, ↓Fw.b_ix_r, Fw.b_ix_r, Fw.v_in_r, Fw.v_set_r, Fw.v_len_r, Fw.v_list_r, Fw.v_listA, Fw.v_dictA, Fw.v_int_i, Fw.v_int_b, Fw.v_key_i, Fw.v_key_s, Fw.v_lst, Fw.v_tup, Fw.v_dic, Fw.v_ty_r, Fw.v_ty_s, Fw.v_ty_i, Fw.v_ty_b, Fw.v_ty_n, Fw.v_tyL, Fw.v_same, Fw.v_old, Fw.v_ne, Fw.v_upd, Fw.v_flat_s, Fw.v_inStrs, ↓Fw.a_yes, Fw.v_wipe0, Fw.v_wipe1, Fw.cx_K, Int.reduceToNat, List.length_replicate, Nat.sub_self, Nat.reduceSub, Nat.reduceAdd, List.replicate_zero, List.replicate_succ, List.append_nil, List.length_cons, List.length_nil, List.map_cons, List.map_nil, List.cons_append, List.nil_append, List.getElem?_cons_zero, List.getElem?_cons_succ, List.set_cons_zero, List.set_cons_succ, Option.some.injEq, V.int.injEq, V.bl.injEq, V.ref.injEq, V.str.injEq, exists_eq_left', exists_eq_left, exists_eq_right, exists_and_left, HO.lst.injEq, HO.dK.injEq, HO.tup.injEq, Option.isSome_some, true_and, and_true, Fw.v_m_bool, Fw.v_m_int, Fw.v_m_str, Fw.v_m_list, Fw.v_m_tuple, Fw.v_m_dict, Fw.v_flats, Bool.xor_true, Bool.xor_false, Bool.not_eq_true', decide_eq_false_iff_not, not_true_eq_false, not_false_eq_true, decide_true, decide_false, decide_eq_true_eq, ite_true, ite_false, Bool.not_true, Bool.not_false, Bool.false_eq_true, reduceCtorEq, Fw.isT_NoneType_bool, Fw.isT_NoneType_int, Fw.isT_NoneType_str, Fw.isT_NoneType_list, Fw.isT_NoneType_tuple, Fw.isT_NoneType_dict, Fw.isT_bool_bool, Fw.isT_bool_int, Fw.isT_bool_str, Fw.isT_bool_list, Fw.isT_bool_tuple, Fw.isT_bool_dict, Fw.isT_int_bool, Fw.isT_int_int, Fw.isT_int_str, Fw.isT_int_list, Fw.isT_int_tuple, Fw.isT_int_dict, Fw.isT_str_bool, Fw.isT_str_int, Fw.isT_str_str, Fw.isT_str_list, Fw.isT_str_tuple, Fw.isT_str_dict, Fw.isT_list_bool, Fw.isT_list_int, Fw.isT_list_str, Fw.isT_list_list, Fw.isT_list_tuple, Fw.isT_list_dict, Fw.isT_tuple_bool, Fw.isT_tuple_int, Fw.isT_tuple_str, Fw.isT_tuple_list, Fw.isT_tuple_tuple, Fw.isT_tuple_dict, Fw.isT_dict_bool, Fw.isT_dict_int, Fw.isT_dict_str, Fw.isT_dict_list, Fw.isT_dict_tuple, Fw.isT_dict_dict]
            refine fun po hpo => ?_
            have hpo3 : H3 po = none := same_none sm7 hpo
            have hpoH := same_none sm3 hpo3
            have nfo : pf ≠ po := fun z => by rw [z, hpo] at hP7; cases hP7
            refine ⟨fun m σ8 H8 => Same H3 H8 ∧ ∃ (wait out : List Str) (v4 v7 : Option V), g.Cutting wait out ∧ wait.length ≤ 480 + out.length ∧ H8 pf = some (.lst (wait.map V.str)) ∧ SetAt H8 po out ∧ m = wait.length + (g.full.length - out.length) ∧
                σ8 = [some (.ref a), some (.ref d), some (.ref b), some (.ref pn), v4, some (.ref pk), some (.ref pf), v7, some (.ref po)], ⟨_, same_mut sm7 hpo3, w0, [], none, none, cut0, by omega, ?_, .nil upd_same, rfl, rfl⟩, ?_⟩
            · rw [upd_ne nfo]
              exact hP7
            rintro m σ8 H8 ⟨sm8, wait, out, v4, v7, cut, lwo, hP8, hO8, rfl, rfl⟩
            have lo := cut.len
            try simp -dsimp only [↓Fw.a_forL, ↓Fw.a_lcL, ↓Fw.a_dcL, ↓Fw.a_dcE, ↓Fw.a_forR, ↓Fw.a_disp, ↓Fw.a_pnil, ↓Fw.a_pcons, Fw.v_keys0, Fw.v_keys1, Fw.v_deq, ↓Fw.a_truD1, Fw.v_truD, ↓Fw.a_dqPop, ↓Fw.a_dqApp, Fw.v_isD, ↓Fw.a_dget2, ↓Fw.b_dsetd, ↓Fw.a_star, Fw.v_pop, Fw.v_reverse, ↓Fw.a_tru1, Fw.v_tru_r, ↓Fw.a_gseq, ↓Fw.b_gcons, ↓Fw.b_gnil, ↓Fw.a_seq, ↓Fw.a_next, ↓Fw.a_brk, ↓Fw.a_cont, ↓Fw.a_asg, ↓Fw.a_name, ↓Fw.a_gsub, ↓Fw.b_var, ↓Fw.a_c, ↓Fw.a_op, ↓Fw.a_un, ↓Fw.a_cons, ↓Fw.a_nil, ↓Fw.a_ret, ↓Fw.a_retN, ↓Fw.a_drop, ↓Fw.a_if, ↓Fw.b_test, ↓Fw.b_B, ↓Fw.a_and, ↓Fw.a_or, ↓Fw.a_not, ↓Fw.b_andV, ↓Fw.b_orV, ↓Fw.b_notV, ↓Fw.a_ifE, ↓Fw.a_fn, ↓Fw.a_fnX, ↓Fw.a_hold, ↓Fw.a_holdX, ↓Fw.a_ne_rr, ↓Fw.a_eq_rr, ↓Fw.a_at, ↓Fw.a_atS, ↓Fw.a_step, Fw.v_step, Fw.v_min2, Fw.v_max2, Fw.v_clear, ↓Fw.a_mt, ↓Fw.a_mtX, ↓Fw.a_mk, ↓Fw.a_cb, ↓Fw.a_lst, ↓Fw.a_tup, ↓Fw.a_chain, ↓Fw.a_dnew, ↓Fw.a_start, Fw.v_rU, Int.reduceNeg, Fw.v_add_ii, Fw.v_add_ss, Fw.v_sub_ii, Fw.v_mul_ii, Fw.v_div_ii, Fw.v_mod_ii, Fw.v_pow_ii, Fw.v_lt_ii, Fw.v_gt_ii, Fw.v_le_ii, Fw.v_ge_ii, Fw.v_le_ss, Fw.v_eqS_ii, Fw.v_eqS_ss, Fw.v_neS_ii, Fw.v_neS_ss, Fw.v_eq_ii, Fw.v_eq_ss, Fw.v_eq_bb, Fw.v_ne_ii, Fw.v_ne_ss, Fw.v_ne_bb, Fw.v_ne_tt, Fw.v_eq_tt, Fw.v_in_sc, Fw.v_ix_s, Fw.v_len_s, Fw.v_type, Fw.v_is, ↓Fw.a_bm, ↓Fw.a_bm0, ↓Fw.a_sl, ↓Fw.a_nopart, ↓Fw.a_part, Fw.v_sl_s, Fw.v_sl_r, Fw.v_app, Fw.v_add_rr, ↓Fw.b_ix_r, Fw.b_ix_r, Fw.v_in_r, Fw.v_set_r, Fw.v_len_r, Fw.v_list_r, Fw.v_listA, Fw.v_dictA, Fw.v_int_i, Fw.v_int_b, Fw.v_key_i, Fw.v_key_s, Fw.v_lst, Fw.v_tup, Fw.v_dic, Fw.v_ty_r, Fw.v_ty_s, Fw.v_ty_i, Fw.v_ty_b, Fw.v_ty_n, Fw.v_tyL, Fw.v_same, Fw.v_old, Fw.v_ne, Fw.v_upd, Fw.v_flat_s, Fw.v_inStrs, ↓Fw.a_yes, Fw.v_wipe0, Fw.v_wipe1, Fw.cx_K, Int.reduceToNat, List.length_replicate, Nat.sub_self, Nat.reduceSub, Nat.reduceAdd, List.replicate_zero, List.replicate_succ, List.append_nil, List.length_cons, List.length_nil, List.map_cons, List.map_nil, List.cons_append, List.nil_append, List.getElem?_cons_zero, List.getElem?_cons_succ, List.set_cons_zero, List.set_cons_succ, Option.some.injEq, V.int.injEq, V.bl.injEq, V.ref.injEq, V.str.injEq, exists_eq_left', exists_eq_left, exists_eq_right, exists_and_left, HO.lst.injEq, HO.dK.injEq, HO.tup.injEq, Option.isSome_some, true_and, and_true, Fw.v_m_bool, Fw.v_m_int, Fw.v_m_str, Fw.v_m_list, Fw.v_m_tuple, Fw.v_m_dict, Fw.v_flats, Bool.xor_true, Bool.xor_false, Bool.not_eq_true', decide_eq_false_iff_not, not_true_eq_false, not_false_eq_true, decide_true, decide_false, decide_eq_true_eq, ite_true, ite_false, Bool.not_true, Bool.not_false, Bool.false_eq_true, reduceCtorEq, Fw.isT_NoneType_bool, Fw.isT_NoneType_int, Fw.isT_NoneType_str, Fw.isT_NoneType_list, Fw.isT_NoneType_tuple, Fw.isT_NoneType_dict, Fw.isT_bool_bool, Fw.isT_bool_int, Fw.isT_bool_str, Fw.isT_bool_list, Fw.isT_bool_tuple, Fw.isT_bool_dict, Fw.isT_int_bool, Fw.isT_int_int, Fw.isT_int_str, Fw.isT_int_list, Fw.isT_int_tuple, Fw.isT_int_dict, Fw.isT_str_bool, Fw.isT_str_int, Fw.isT_str_str, Fw.isT_str_list, Fw.isT_str_tuple, Fw.isT_str_dict, Fw.isT_list_bool, Fw.isT_list_int, Fw.isT_list_str, Fw.isT_list_list, Fw.isT_list_tuple, Fw.isT_list_dict, Fw.isT_tuple_bool, Fw.isT_tuple_int, Fw.isT_tuple_str, Fw.isT_tuple_list, Fw.isT_tuple_tuple, Fw.isT_tuple_dict, Fw.isT_dict_bool, Fw.isT_dict_int, Fw.isT_dict_str, Fw.isT_dict_list, Fw.isT_dict_tuple, Fw.isT_dict_dict, hP8]
            refine ite2 (fun z => ⟨_, fun σ' H' z => z, ?_⟩) fun z => ?_
            · have ne : wait ≠ [] := fun e => by rw [e] at z; cases z
              obtain ⟨w, u, rfl⟩ : ∃ w u, wait = w ++ [u] := ⟨_, _, (List.dropLast_concat_getLast ne).symm⟩
              have ew : (List.map V.str (w ++ [u])) = w.map V.str ++ [.str u] := List.map_append
              have eg : (w.map V.str ++ [V.str u])[(w.map V.str ++ [V.str u]).length - 1]? = some (.str u) := by
                rw [List.length_append, List.length_singleton, Nat.add_sub_cancel, List.getElem?_append_right (Nat.le_refl _), Nat.sub_self]
                rfl
              have ed : (w.map V.str ++ [V.str u]).dropLast = w.map V.str := List.dropLast_concat
              try simp -dsimp only [↓Fw.a_forL, ↓Fw.a_lcL, ↓Fw.a_dcL, ↓Fw.a_dcE, ↓Fw.a_forR, ↓Fw.a_disp, ↓Fw.a_pnil, ↓Fw.a_pcons, Fw.v_keys0, Fw.v_keys1, Fw.v_deq, ↓Fw.a_truD1, Fw.v_truD, ↓Fw.a_dqPop, ↓Fw.a_dqApp, Fw.v_isD, ↓Fw.a_dget2, ↓Fw.b_dsetd, ↓Fw.a_star, Fw.v_pop, Fw.v_reverse, ↓Fw.a_tru1, Fw.v_tru_r, ↓Fw.a_gseq, ↓Fw.b_gcons, ↓Fw.b_gnil, ↓Fw.a_seq, ↓Fw.a_next, ↓Fw.a_brk, ↓Fw.a_cont, ↓Fw.a_asg, ↓Fw.a_name, ↓Fw.a_gsub, ↓Fw.b_var, ↓Fw.a_c, ↓Fw.a_op, ↓Fw.a_un, ↓Fw.a_cons, ↓Fw.a_nil, ↓Fw.a_ret, ↓Fw.a_retN, ↓Fw.a_drop, ↓Fw.a_if, ↓Fw.b_test, ↓Fw.b_B, ↓Fw.a_and, ↓Fw.a_or, ↓Fw.a_not, ↓Fw.b_andV, ↓Fw.b_orV, ↓Fw.b_notV, ↓Fw.a_ifE, ↓Fw.a_fn, ↓Fw.a_fnX, ↓Fw.a_hold, ↓Fw.a_holdX, ↓Fw.a_ne_rr, ↓Fw.a_eq_rr, ↓Fw.a_at, ↓Fw.a_atS, ↓Fw.a_step, Fw.v_step, Fw.v_min2, Fw.v_max2, Fw.v_clear, ↓Fw.a_mt, ↓Fw.a_mtX, ↓Fw.a_mk, ↓Fw.a_cb, ↓Fw.a_lst, ↓Fw.a_tup, ↓Fw.a_chain, ↓Fw.a_dnew, ↓Fw.a_start, Fw.v_rU, Int.reduceNeg, Fw.v_add_ii, Fw.v_add_ss, Fw.v_sub_ii, Fw.v_mul_ii, Fw.v_div_ii, Fw.v_mod_ii, Fw.v_pow_ii, Fw.v_lt_ii, Fw.v_gt_ii, Fw.v_le_ii, Fw.v_ge_ii, Fw.v_le_ss, Fw.v_eqS_ii, Fw.v_eqS_ss, Fw.v_neS_ii, Fw.v_neS_ss, Fw.v_eq_ii, Fw.v_eq_ss, Fw.v_eq_bb, Fw.v_ne_ii, Fw.v_ne_ss, Fw.v_ne_bb, Fw.v_ne_tt, Fw.v_eq_tt, Fw.v_in_sc, Fw.v_ix_s, Fw.v_len_s, Fw.v_type, Fw.v_is, ↓Fw.a_bm, ↓Fw.a_bm0, ↓Fw.a_sl, ↓Fw.a_nopart, ↓Fw.a_part, Fw.v_sl_s, Fw.v_sl_r, Fw.v_app, Fw.v_add_rr, ↓Fw.b_ix_r, Fw.b_ix_r, Fw.v_in_r, Fw.v_set_r, Fw.v_len_r, Fw.v_list_r, Fw.v_listA, Fw.v_dictA, Fw.v_int_i, Fw.v_int_b, Fw.v_key_i, Fw.v_key_s, Fw.v_lst, Fw.v_tup, Fw.v_dic, Fw.v_ty_r, Fw.v_ty_s, Fw.v_ty_i, Fw.v_ty_b, Fw.v_ty_n, Fw.v_tyL, Fw.v_same, Fw.v_old, Fw.v_ne, Fw.v_upd, Fw.v_flat_s, Fw.v_inStrs, ↓Fw.a_yes, Fw.v_wipe0, Fw.v_wipe1, Fw.cx_K, Int.reduceToNat, List.length_replicate, Nat.sub_self, Nat.reduceSub, Nat.reduceAdd, List.replicate_zero, List.replicate_succ, List.append_nil, List.length_cons, List.length_nil, List.map_cons, List.map_nil, List.cons_append, List.nil_append, List.getElem?_cons_zero, List.getElem?_cons_succ, List.set_cons_zero, List.set_cons_succ, Option.some.injEq, V.int.injEq, V.bl.injEq, V.ref.injEq, V.str.injEq, exists_eq_left', exists_eq_left, exists_eq_right, exists_and_left, HO.lst.injEq, HO.dK.injEq, HO.tup.injEq, Option.isSome_some, true_and, and_true, Fw.v_m_bool, Fw.v_m_int, Fw.v_m_str, Fw.v_m_list, Fw.v_m_tuple, Fw.v_m_dict, Fw.v_flats, Bool.xor_true, Bool.xor_false, Bool.not_eq_true', decide_eq_false_iff_not, not_true_eq_false, not_false_eq_true, decide_true, decide_false, decide_eq_true_eq, ite_true, ite_false, Bool.not_true, Bool.not_false, Bool.false_eq_true, reduceCtorEq, Fw.isT_NoneType_bool, Fw.isT_NoneType_int, Fw.isT_NoneType_str, Fw.isT_NoneType_list, Fw.isT_NoneType_tuple, Fw.isT_NoneType_dict, Fw.isT_bool_bool, Fw.isT_bool_int, Fw.isT_bool_str, Fw.isT_bool_list, Fw.isT_bool_tuple, Fw.isT_bool_dict, Fw.isT_int_bool, Fw.isT_int_int, Fw.isT_int_str, Fw.isT_int_list, Fw.isT_int_tuple, Fw.isT_int_dict, Fw.isT_str_bool, Fw.isT_str_int, Fw.isT_str_str, Fw.isT_str_list, Fw.isT_str_tuple, Fw.isT_str_dict, Fw.isT_list_bool, Fw.isT_list_int, Fw.isT_list_str, Fw.isT_list_list, Fw.isT_list_tuple, Fw.isT_list_dict, Fw.isT_tuple_bool, Fw.isT_tuple_int, Fw.isT_tuple_str, Fw.isT_tuple_list, Fw.isT_tuple_tuple, Fw.isT_tuple_dict, Fw.isT_dict_bool, Fw.isT_dict_int, Fw.isT_dict_str, Fw.isT_dict_list, Fw.isT_dict_tuple, Fw.isT_dict_dict, ew, eg, ed]
              have sm9 : Same H3 (upd H8 pf (.lst (w.map V.str))) := same_mut sm8 hpf3
              have hP9 : upd H8 pf (.lst (w.map V.str)) pf = some (.lst (w.map V.str)) := upd_same
              have hO9 : SetAt (upd H8 pf (.lst (w.map V.str))) po out := by
                obtain ⟨kvs, o1, o2⟩ := hO8
                exact ⟨kvs, by rw [upd_ne (Ne.symm nfo)]; exact o1, o2⟩
              generalize upd H8 pf (.lst (w.map V.str)) = H9 at sm9 hP9 hO9 ⊢
              obtain ⟨bu, bd⟩ := cut.w u (List.mem_append_right _ (List.mem_singleton_self _))
              have hT9 := sm9 _ _ hT
              try simp -dsimp only [↓Fw.a_forL, ↓Fw.a_lcL, ↓Fw.a_dcL, ↓Fw.a_dcE, ↓Fw.a_forR, ↓Fw.a_disp, ↓Fw.a_pnil, ↓Fw.a_pcons, Fw.v_keys0, Fw.v_keys1, Fw.v_deq, ↓Fw.a_truD1, Fw.v_truD, ↓Fw.a_dqPop, ↓Fw.a_dqApp, Fw.v_isD, ↓Fw.a_dget2, ↓Fw.b_dsetd, ↓Fw.a_star, Fw.v_pop, Fw.v_reverse, ↓Fw.a_tru1, Fw.v_tru_r, ↓Fw.a_gseq, ↓Fw.b_gcons, ↓Fw.b_gnil, ↓Fw.a_seq, ↓Fw.a_next, ↓Fw.a_brk, ↓Fw.a_cont, ↓Fw.a_asg, ↓Fw.a_name, ↓Fw.a_gsub, ↓Fw.b_var, ↓Fw.a_c, ↓Fw.a_op, ↓Fw.a_un, ↓Fw.a_cons, ↓Fw.a_nil, ↓Fw.a_ret, ↓Fw.a_retN, ↓Fw.a_drop, ↓Fw.a_if, ↓Fw.b_test, ↓Fw.b_B, ↓Fw.a_and, ↓Fw.a_or, ↓Fw.a_not, ↓Fw.b_andV, ↓Fw.b_orV, ↓Fw.b_notV, ↓Fw.a_ifE, ↓Fw.a_fn, ↓Fw.a_fnX, ↓Fw.a_hold, ↓Fw.a_holdX, ↓Fw.a_ne_rr, ↓Fw.a_eq_rr, ↓Fw.a_at, ↓Fw.a_atS, ↓Fw.a_step, Fw.v_step, Fw.v_min2, Fw.v_max2, Fw.v_clear, ↓Fw.a_mt, ↓Fw.a_mtX, ↓Fw.a_mk, ↓Fw.a_cb, ↓Fw.a_lst, ↓Fw.a_tup, ↓Fw.a_chain, ↓Fw.a_dnew, ↓Fw.a_start, Fw.v_rU, Int.reduceNeg, Fw.v_add_ii, Fw.v_add_ss, Fw.v_sub_ii, Fw.v_mul_ii, Fw.v_div_ii, Fw.v_mod_ii, Fw.v_pow_ii, Fw.v_lt_ii, Fw.v_gt_ii, Fw.v_le_ii, Fw.v_ge_ii, Fw.v_le_ss, Fw.v_eqS_ii, Fw.v_eqS_ss, Fw.v_neS_ii, Fw.v_neS_ss, Fw.v_eq_ii, Fw.v_eq_ss, Fw.v_eq_bb, Fw.v_ne_ii, Fw.v_ne_ss, Fw.v_ne_bb, Fw.v_ne_tt, Fw.v_eq_tt, Fw.v_in_sc, Fw.v_ix_s, Fw.v_len_s, Fw.v_type, Fw.v_is, ↓Fw.a_bm, ↓Fw.a_bm0, ↓Fw.a_sl, ↓Fw.a_nopart, ↓Fw.a_part, Fw.v_sl_s, Fw.v_sl_r, Fw.v_app, Fw.v_add_rr, ↓Fw.b_ix_r, Fw.b_ix_r, Fw.v_in_r, Fw.v_set_r, Fw.v_len_r, Fw.v_list_r, Fw.v_listA, Fw.v_dictA, Fw.v_int_i, Fw.v_int_b, Fw.v_key_i, Fw.v_key_s, Fw.v_lst, Fw.v_tup, Fw.v_dic, Fw.v_ty_r, Fw.v_ty_s, Fw.v_ty_i, Fw.v_ty_b, Fw.v_ty_n, Fw.v_tyL, Fw.v_same, Fw.v_old, Fw.v_ne, Fw.v_upd, Fw.v_flat_s, Fw.v_inStrs, ↓Fw.a_yes, Fw.v_wipe0, Fw.v_wipe1, Fw.cx_K, Int.reduceToNat, List.length_replicate, Nat.sub_self, Nat.reduceSub, Nat.reduceAdd, List.replicate_zero, List.replicate_succ, List.append_nil, List.length_cons, List.length_nil, List.map_cons, List.map_nil, List.cons_append, List.nil_append, List.getElem?_cons_zero, List.getElem?_cons_succ, List.set_cons_zero, List.set_cons_succ, Option.some.injEq, V.int.injEq, V.bl.injEq, V.ref.injEq, V.str.injEq, exists_eq_left', exists_eq_left, exists_eq_right, exists_and_left, HO.lst.injEq, HO.dK.injEq, HO.tup.injEq, Option.isSome_some, true_and, and_true, Fw.v_m_bool, Fw.v_m_int, Fw.v_m_str, Fw.v_m_list, Fw.v_m_tuple, Fw.v_m_dict, Fw.v_flats, Bool.xor_true, Bool.xor_false, Bool.not_eq_true', decide_eq_false_iff_not, not_true_eq_false, not_false_eq_true, decide_true, decide_false, decide_eq_true_eq, ite_true, ite_false, Bool.not_true, Bool.not_false, Bool.false_eq_true, reduceCtorEq, Fw.isT_NoneType_bool, Fw.isT_NoneType_int, Fw.isT_NoneType_str, Fw.isT_NoneType_list, Fw.isT_NoneType_tuple, Fw.isT_NoneType_dict, Fw.isT_bool_bool, Fw.isT_bool_int, Fw.isT_bool_str, Fw.isT_bool_list, Fw.isT_bool_tuple, Fw.isT_bool_dict, Fw.isT_int_bool, Fw.isT_int_int, Fw.isT_int_str, Fw.isT_int_list, Fw.isT_int_tuple, Fw.isT_int_dict, Fw.isT_str_bool, Fw.isT_str_int, Fw.isT_str_str, Fw.isT_str_list, Fw.isT_str_tuple, Fw.isT_str_dict, Fw.isT_list_bool, Fw.isT_list_int, Fw.isT_list_str, Fw.isT_list_list, Fw.isT_list_tuple, Fw.isT_list_dict, Fw.isT_tuple_bool, Fw.isT_tuple_int, Fw.isT_tuple_str, Fw.isT_tuple_list, Fw.isT_tuple_tuple, Fw.isT_tuple_dict, Fw.isT_dict_bool, Fw.isT_dict_int, Fw.isT_dict_str, Fw.isT_dict_list, Fw.isT_dict_tuple, Fw.isT_dict_dict, hT9]
              refine ⟨by decide, fun pe hpe => ?_⟩
              have sm10 : Same H3 (upd H9 pe (.lst [])) := same_mut sm9 (same_none sm9 hpe)
              have hT10 := sm10 _ _ hT
              have nfe : pf ≠ pe := fun z => by rw [z, hpe] at hP9; cases hP9
              obtain ⟨k9, o1, o2, o3⟩ := id hO9
              have noe : po ≠ pe := fun z => by rw [z, hpe] at o1; cases o1
              have hP10 : upd H9 pe (.lst []) pf = some (.lst (w.map V.str)) := by rw [upd_ne nfe]; exact hP9
              have hO10 : SetAt (upd H9 pe (.lst [])) po out := ⟨k9, by rw [upd_ne noe]; exact o1, o2, o3⟩
              -- the list of those that need it
              have src : ∃ (pa : Addr) (xs : List Str), (∃ o : Option V, DGet (upd H9 pe (.lst [])) pn (.str u) o ∧ o.getD (.ref pe) = .ref pa) ∧ upd H9 pe (.lst []) pa = some (.lst (xs.map V.str)) ∧ (∀ x, x ∈ xs ↔ x ∈ g.full ∧ u ∈ g.nd x) ∧ pa ≠ pf ∧ pa ≠ po := by
                by_cases c : u ∈ t.1
                · obtain ⟨a1, a2, a3⟩ := hA u c
                  refine ⟨ad u, t.2 u, ⟨_, dget_of (dic_of hT10) rfl, by rw [sK_val c]; rfl⟩, sm10 _ _ a2, fun x => tv x u, fun z => (by rw [z, hpf3] at a2; cases a2), fun z => (by rw [z, hpo3] at a2; cases a2)⟩
                · refine ⟨pe, [], ⟨_, dget_of (dic_of hT10) rfl, by rw [sK_none c]; rfl⟩, upd_same, fun x => ?_, Ne.symm nfe, Ne.symm noe⟩
                  rw [← tv x u, tn u c]
              obtain ⟨pa, xs, ⟨o, s0, s1⟩, s2, s3, s4, s5⟩ := src
              refine ⟨o, s0, ?_⟩
              rw [s1]
              generalize upd H9 pe (.lst []) = H10 at sm10 hT10 hP10 hO10 s2 ⊢
              refine go_for (.inl (.inl s2)) (fun j σ11 H11 => Same H3 H11 ∧ H11 pa = some (.lst (xs.map V.str)) ∧ ∃ (w2 out2 : List Str) (v4 : Option V), g.Cutting (u :: w2) out2 ∧ (∀ x ∈ xs.take j, x ∈ out2) ∧ w2.length + out.length = w.length + out2.length ∧ H11 pf = some (.lst (w2.map V.str)) ∧ SetAt H11 po out2 ∧
                  σ11 = [some (.ref a), some (.ref d), some (.ref b), some (.ref pn), v4, some (.ref pk), some (.ref pf), some (.str u), some (.ref po)])
                ⟨sm10, s2, w, out, v4, ?_, (fun x hx => by cases hx), rfl, hP10, hO10, rfl⟩ (fun j σ11 H11 _ z => .inl (.inl z.2.1)) ?_ ?_
              · exact ⟨fun x hx => cut.w x (by rcases List.mem_cons.mp hx with z | z; exact List.mem_append_right _ (by rw [z]; exact List.mem_singleton_self _); exact List.mem_append_left _ z), cut.nd, cut.sub, fun x hx hxo y hy => by
                  rcases cut.cl x hx hxo y hy with k | k | k
                  · exact .inl k
                  · exact .inr (.inl k)
                  · refine .inr (.inr ?_)
                    rcases List.mem_append.mp k with k | k
                    · exact List.mem_cons_of_mem _ k
                    · rw [List.mem_singleton.mp k]; exact List.mem_cons_self⟩
              · rintro j v σ11 H11 N hv ⟨sm11, hA11, w2, out2, v4', cut2, hin, hlen, hP11, hO11, rfl⟩ hN
                obtain ⟨x, hx, rfl⟩ := map_str_get hv
                obtain ⟨xf, xu⟩ := (s3 x).mp (List.mem_of_getElem? hx)
                have xg : x ∉ g.great := fun z => by
                  rcases Net.great_met z u xu with k | k
                  · exact bu k
                  · exact bd k
                have lo2 := cut2.len
                obtain ⟨k11, o1, o2, o3, o4⟩ := hO11.put
                try simp -dsimp only [↓Fw.a_forL, ↓Fw.a_lcL, ↓Fw.a_dcL, ↓Fw.a_dcE, ↓Fw.a_forR, ↓Fw.a_disp, ↓Fw.a_pnil, ↓Fw.a_pcons, Fw.v_keys0, Fw.v_keys1, Fw.v_deq, ↓Fw.a_truD1, Fw.v_truD, ↓Fw.a_dqPop, ↓Fw.a_dqApp, Fw.v_isD, ↓Fw.a_dget2, ↓Fw.b_dsetd, ↓Fw.a_star, Fw.v_pop, Fw.v_reverse, ↓Fw.a_tru1, Fw.v_tru_r, ↓Fw.a_gseq, ↓Fw.b_gcons, ↓Fw.b_gnil, ↓Fw.a_seq, ↓Fw.a_next, ↓Fw.a_brk, ↓Fw.a_cont, ↓Fw.a_asg, ↓Fw.a_name, ↓Fw.a_gsub, ↓Fw.b_var, ↓Fw.a_c, ↓Fw.a_op, ↓Fw.a_un, ↓Fw.a_cons, ↓Fw.a_nil, ↓Fw.a_ret, ↓Fw.a_retN, ↓Fw.a_drop, ↓Fw.a_if, ↓Fw.b_test, ↓Fw.b_B, ↓Fw.a_and, ↓Fw.a_or, ↓Fw.a_not, ↓Fw.b_andV, ↓Fw.b_orV, ↓Fw.b_notV, ↓Fw.a_ifE, ↓Fw.a_fn, ↓Fw.a_fnX, ↓Fw.a_hold, ↓Fw.a_holdX, ↓Fw.a_ne_rr, ↓Fw.a_eq_rr, ↓Fw.a_at, ↓Fw.a_atS, ↓Fw.a_step, Fw.v_step, Fw.v_min2, Fw.v_max2, Fw.v_clear, ↓Fw.a_mt, ↓Fw.a_mtX, ↓Fw.a_mk, ↓Fw.a_cb, ↓Fw.a_lst, ↓Fw.a_tup, ↓Fw.a_chain, ↓Fw.a_dnew, ↓Fw.a_start, Fw.v_rU, Int.reduceNeg, Fw.v_add_ii, Fw.v_add_ss, Fw.v_sub_ii, Fw.v_mul_ii, Fw.v_div_ii, Fw.v_mod_ii, Fw.v_pow_ii, Fw.v_lt_ii, Fw.v_gt_ii, Fw.v_le_ii, Fw.v_ge_ii, Fw.v_le_ss, Fw.v_eqS_ii, Fw.v_eqS_ss, Fw.v_neS_ii, Fw.v_neS_ss, Fw.v_eq_ii, Fw.v_eq_ss, Fw.v_eq_bb, Fw.v_ne_ii, Fw.v_ne_ss, Fw.v_ne_bb, Fw.v_ne_tt, Fw.v_eq_tt, Fw.v_in_sc, Fw.v_ix_s, Fw.v_len_s, Fw.v_type, Fw.v_is, ↓Fw.a_bm, ↓Fw.a_bm0, ↓Fw.a_sl, ↓Fw.a_nopart, ↓Fw.a_part, Fw.v_sl_s, Fw.v_sl_r, Fw.v_app, Fw.v_add_rr, ↓Fw.b_ix_r, Fw.b_ix_r, Fw.v_in_r, Fw.v_set_r, Fw.v_len_r, Fw.v_list_r, Fw.v_listA, Fw.v_dictA, Fw.v_int_i, Fw.v_int_b, Fw.v_key_i, Fw.v_key_s, Fw.v_lst, Fw.v_tup, Fw.v_dic, Fw.v_ty_r, Fw.v_ty_s, Fw.v_ty_i, Fw.v_ty_b, Fw.v_ty_n, Fw.v_tyL, Fw.v_same, Fw.v_old, Fw.v_ne, Fw.v_upd, Fw.v_flat_s, Fw.v_inStrs, ↓Fw.a_yes, Fw.v_wipe0, Fw.v_wipe1, Fw.cx_K, Int.reduceToNat, List.length_replicate, Nat.sub_self, Nat.reduceSub, Nat.reduceAdd, List.replicate_zero, List.replicate_succ, List.append_nil, List.length_cons, List.length_nil, List.map_cons, List.map_nil, List.cons_append, List.nil_append, List.getElem?_cons_zero, List.getElem?_cons_succ, List.set_cons_zero, List.set_cons_succ, Option.some.injEq, V.int.injEq, V.bl.injEq, V.ref.injEq, V.str.injEq, exists_eq_left', exists_eq_left, exists_eq_right, exists_and_left, HO.lst.injEq, HO.dK.injEq, HO.tup.injEq, Option.isSome_some, true_and, and_true, Fw.v_m_bool, Fw.v_m_int, Fw.v_m_str, Fw.v_m_list, Fw.v_m_tuple, Fw.v_m_dict, Fw.v_flats, Bool.xor_true, Bool.xor_false, Bool.not_eq_true', decide_eq_false_iff_not, not_true_eq_false, not_false_eq_true, decide_true, decide_false, decide_eq_true_eq, ite_true, ite_false, Bool.not_true, Bool.not_false, Bool.false_eq_true, reduceCtorEq, Fw.isT_NoneType_bool, Fw.isT_NoneType_int, Fw.isT_NoneType_str, Fw.isT_NoneType_list, Fw.isT_NoneType_tuple, Fw.isT_NoneType_dict, Fw.isT_bool_bool, Fw.isT_bool_int, Fw.isT_bool_str, Fw.isT_bool_list, Fw.isT_bool_tuple, Fw.isT_bool_dict, Fw.isT_int_bool, Fw.isT_int_int, Fw.isT_int_str, Fw.isT_int_list, Fw.isT_int_tuple, Fw.isT_int_dict, Fw.isT_str_bool, Fw.isT_str_int, Fw.isT_str_str, Fw.isT_str_list, Fw.isT_str_tuple, Fw.isT_str_dict, Fw.isT_list_bool, Fw.isT_list_int, Fw.isT_list_str, Fw.isT_list_list, Fw.isT_list_tuple, Fw.isT_list_dict, Fw.isT_tuple_bool, Fw.isT_tuple_int, Fw.isT_tuple_str, Fw.isT_tuple_list, Fw.isT_tuple_tuple, Fw.isT_tuple_dict, Fw.isT_dict_bool, Fw.isT_dict_int, Fw.isT_dict_str, Fw.isT_dict_list, Fw.isT_dict_tuple, Fw.isT_dict_dict, o1, o3, hP11]
                refine ite2 (fun c => ?_) fun c => ?_
                · have hP12 : ∀ o, upd H11 po o pf = some (.lst (w2.map V.str)) := fun o => by rw [upd_ne nfo]; exact hP11
                  try simp -dsimp only [↓Fw.a_forL, ↓Fw.a_lcL, ↓Fw.a_dcL, ↓Fw.a_dcE, ↓Fw.a_forR, ↓Fw.a_disp, ↓Fw.a_pnil, ↓Fw.a_pcons, Fw.v_keys0, Fw.v_keys1, Fw.v_deq, ↓Fw.a_truD1, Fw.v_truD, ↓Fw.a_dqPop, ↓Fw.a_dqApp, Fw.v_isD, ↓Fw.a_dget2, ↓Fw.b_dsetd, ↓Fw.a_star, Fw.v_pop, Fw.v_reverse, ↓Fw.a_tru1, Fw.v_tru_r, ↓Fw.a_gseq, ↓Fw.b_gcons, ↓Fw.b_gnil, ↓Fw.a_seq, ↓Fw.a_next, ↓Fw.a_brk, ↓Fw.a_cont, ↓Fw.a_asg, ↓Fw.a_name, ↓Fw.a_gsub, ↓Fw.b_var, ↓Fw.a_c, ↓Fw.a_op, ↓Fw.a_un, ↓Fw.a_cons, ↓Fw.a_nil, ↓Fw.a_ret, ↓Fw.a_retN, ↓Fw.a_drop, ↓Fw.a_if, ↓Fw.b_test, ↓Fw.b_B, ↓Fw.a_and, ↓Fw.a_or, ↓Fw.a_not, ↓Fw.b_andV, ↓Fw.b_orV, ↓Fw.b_notV, ↓Fw.a_ifE, ↓Fw.a_fn, ↓Fw.a_fnX, ↓Fw.a_hold, ↓Fw.a_holdX, ↓Fw.a_ne_rr, ↓Fw.a_eq_rr, ↓Fw.a_at, ↓Fw.a_atS, ↓Fw.a_step, Fw.v_step, Fw.v_min2, Fw.v_max2, Fw.v_clear, ↓Fw.a_mt, ↓Fw.a_mtX, ↓Fw.a_mk, ↓Fw.a_cb, ↓Fw.a_lst, ↓Fw.a_tup, ↓Fw.a_chain, ↓Fw.a_dnew, ↓Fw.a_start, Fw.v_rU, Int.reduceNeg, Fw.v_add_ii, Fw.v_add_ss, Fw.v_sub_ii, Fw.v_mul_ii, Fw.v_div_ii, Fw.v_mod_ii, Fw.v_pow_ii, Fw.v_lt_ii, Fw.v_gt_ii, Fw.v_le_ii, Fw.v_ge_ii, Fw.v_le_ss, Fw.v_eqS_ii, Fw.v_eqS_ss, Fw.v_neS_ii, Fw.v_neS_ss, Fw.v_eq_ii, Fw.v_eq_ss, Fw.v_eq_bb, Fw.v_ne_ii, Fw.v_ne_ss, Fw.v_ne_bb, Fw.v_ne_tt, Fw.v_eq_tt, Fw.v_in_sc, Fw.v_ix_s, Fw.v_len_s, Fw.v_type, Fw.v_is, ↓Fw.a_bm, ↓Fw.a_bm0, ↓Fw.a_sl, ↓Fw.a_nopart, ↓Fw.a_part, Fw.v_sl_s, Fw.v_sl_r, Fw.v_app, Fw.v_add_rr, ↓Fw.b_ix_r, Fw.b_ix_r, Fw.v_in_r, Fw.v_set_r, Fw.v_len_r, Fw.v_list_r, Fw.v_listA, Fw.v_dictA, Fw.v_int_i, Fw.v_int_b, Fw.v_key_i, Fw.v_key_s, Fw.v_lst, Fw.v_tup, Fw.v_dic, Fw.v_ty_r, Fw.v_ty_s, Fw.v_ty_i, Fw.v_ty_b, Fw.v_ty_n, Fw.v_tyL, Fw.v_same, Fw.v_old, Fw.v_ne, Fw.v_upd, Fw.v_flat_s, Fw.v_inStrs, ↓Fw.a_yes, Fw.v_wipe0, Fw.v_wipe1, Fw.cx_K, Int.reduceToNat, List.length_replicate, Nat.sub_self, Nat.reduceSub, Nat.reduceAdd, List.replicate_zero, List.replicate_succ, List.append_nil, List.length_cons, List.length_nil, List.map_cons, List.map_nil, List.cons_append, List.nil_append, List.getElem?_cons_zero, List.getElem?_cons_succ, List.set_cons_zero, List.set_cons_succ, Option.some.injEq, V.int.injEq, V.bl.injEq, V.ref.injEq, V.str.injEq, exists_eq_left', exists_eq_left, exists_eq_right, exists_and_left, HO.lst.injEq, HO.dK.injEq, HO.tup.injEq, Option.isSome_some, true_and, and_true, Fw.v_m_bool, Fw.v_m_int, Fw.v_m_str, Fw.v_m_list, Fw.v_m_tuple, Fw.v_m_dict, Fw.v_flats, Bool.xor_true, Bool.xor_false, Bool.not_eq_true', decide_eq_false_iff_not, not_true_eq_false, not_false_eq_true, decide_true, decide_false, decide_eq_true_eq, ite_true, ite_false, Bool.not_true, Bool.not_false, Bool.false_eq_true, reduceCtorEq, Fw.isT_NoneType_bool, Fw.isT_NoneType_int, Fw.isT_NoneType_str, Fw.isT_NoneType_list, Fw.isT_NoneType_tuple, Fw.isT_NoneType_dict, Fw.isT_bool_bool, Fw.isT_bool_int, Fw.isT_bool_str, Fw.isT_bool_list, Fw.isT_bool_tuple, Fw.isT_bool_dict, Fw.isT_int_bool, Fw.isT_int_int, Fw.isT_int_str, Fw.isT_int_list, Fw.isT_int_tuple, Fw.isT_int_dict, Fw.isT_str_bool, Fw.isT_str_int, Fw.isT_str_str, Fw.isT_str_list, Fw.isT_str_tuple, Fw.isT_str_dict, Fw.isT_list_bool, Fw.isT_list_int, Fw.isT_list_str, Fw.isT_list_list, Fw.isT_list_tuple, Fw.isT_list_dict, Fw.isT_tuple_bool, Fw.isT_tuple_int, Fw.isT_tuple_str, Fw.isT_tuple_list, Fw.isT_tuple_tuple, Fw.isT_tuple_dict, Fw.isT_dict_bool, Fw.isT_dict_int, Fw.isT_dict_str, Fw.isT_dict_list, Fw.isT_dict_tuple, Fw.isT_dict_dict, hP12, List.length_map]
                  refine ⟨Nat.lt_of_le_of_lt (show _ ≤ 60 by omega) (by decide), ?_, hN _ _ ⟨same_mut (same_mut sm11 hpo3) hpf3, ?_, w2 ++ [x], out2 ++ [x], some (.str x), ?_, ?_, ?_, ?_, ?_, rfl⟩⟩
                  · have : w.length + 1 ≤ 480 + out.length := by simpa using lwo
                    exact Nat.lt_of_le_of_lt (show _ ≤ 600 by omega) (by decide)
                  · rw [upd_ne s4, upd_ne s5]
                    exact hA11
                  · exact cut2.add ok xf xg c
                  · intro y hy
                    rw [take_get hx] at hy
                    rcases List.mem_append.mp hy with z | z
                    · exact List.mem_append_left _ (hin y z)
                    · exact List.mem_append_right _ z
                  · rw [List.length_append, List.length_append]
                    simp only [List.length_singleton]
                    omega
                  · rw [upd_same, List.map_append]
                    rfl
                  · have h2 := o4 H11 x (.bl true)
                    obtain ⟨kz, z1, z2⟩ := h2
                    exact ⟨kz, by rw [upd_ne (Ne.symm nfo)]; exact z1, z2⟩
                · refine hN _ _ ⟨sm11, hA11, w2, out2, some (.str x), cut2, ?_, hlen, hP11, hO11, rfl⟩
                  intro y hy
                  rw [take_get hx] at hy
                  rcases List.mem_append.mp hy with z | z
                  · exact hin y z
                  · rw [List.mem_singleton.mp z]
                    exact Decidable.not_not.mp c
              · rintro σ11 H11 ⟨sm11, hA11, w2, out2, v4', cut2, hin, hlen, hP11, hO11, rfl⟩
                rw [List.length_map, List.take_length] at hin
                have lo2 := cut2.len
                have lw2 : w.length + 1 ≤ 480 + out.length := by simpa using lwo
                refine ⟨w2.length + (g.full.length - out2.length), ?_, sm11, w2, out2, ⟨fun x hx => cut2.w x (List.mem_cons_of_mem _ hx), cut2.nd, cut2.sub, fun x hx hxo y hy => ?_⟩, ?_, hP11, hO11, rfl, v4', some (.str u), rfl⟩
                · rw [List.length_append, List.length_singleton]
                  omega
                · rcases cut2.cl x hx hxo y hy with k | k | k
                  · exact .inl k
                  · exact .inr (.inl k)
                  · rcases List.mem_cons.mp k with k | k
                    · exact absurd (hin x ((s3 x).mpr ⟨hx, k ▸ hy⟩)) hxo
                    · exact .inr (.inr k)
                · omega
            · have ew : wait = [] := by
                cases wait with
                | nil => rfl
                | cons _ _ => exact absurd rfl z
              subst ew
              have hF8 := sm8 _ _ hF3
              obtain ⟨k8, o1, o2, o3⟩ := hO8
              refine go_lc (.inl (.inl hF8)) (fun p i H9 => Same H8 H9 ∧ H9 p = some (.lst (((g.full.take i).filter fun x => !decide (x ∈ out)).map V.str))) (fun p hp => ⟨same_new hp, upd_same⟩) (fun p i H9 _ _ z => .inl (.inl (z.1 _ _ hF8))) ?_ ?_
              · rintro p i u H9 N hp hu ⟨sm9, hP⟩ hN
                obtain ⟨x, hx, rfl⟩ := map_str_get hu
                have hO9 := sm9 _ _ o1
                try simp -dsimp only [↓Fw.a_forL, ↓Fw.a_lcL, ↓Fw.a_dcL, ↓Fw.a_dcE, ↓Fw.a_forR, ↓Fw.a_disp, ↓Fw.a_pnil, ↓Fw.a_pcons, Fw.v_keys0, Fw.v_keys1, Fw.v_deq, ↓Fw.a_truD1, Fw.v_truD, ↓Fw.a_dqPop, ↓Fw.a_dqApp, Fw.v_isD, ↓Fw.a_dget2, ↓Fw.b_dsetd, ↓Fw.a_star, Fw.v_pop, Fw.v_reverse, ↓Fw.a_tru1, Fw.v_tru_r, ↓Fw.a_gseq, ↓Fw.b_gcons, ↓Fw.b_gnil, ↓Fw.a_seq, ↓Fw.a_next, ↓Fw.a_brk, ↓Fw.a_cont, ↓Fw.a_asg, ↓Fw.a_name, ↓Fw.a_gsub, ↓Fw.b_var, ↓Fw.a_c, ↓Fw.a_op, ↓Fw.a_un, ↓Fw.a_cons, ↓Fw.a_nil, ↓Fw.a_ret, ↓Fw.a_retN, ↓Fw.a_drop, ↓Fw.a_if, ↓Fw.b_test, ↓Fw.b_B, ↓Fw.a_and, ↓Fw.a_or, ↓Fw.a_not, ↓Fw.b_andV, ↓Fw.b_orV, ↓Fw.b_notV, ↓Fw.a_ifE, ↓Fw.a_fn, ↓Fw.a_fnX, ↓Fw.a_hold, ↓Fw.a_holdX, ↓Fw.a_ne_rr, ↓Fw.a_eq_rr, ↓Fw.a_at, ↓Fw.a_atS, ↓Fw.a_step, Fw.v_step, Fw.v_min2, Fw.v_max2, Fw.v_clear, ↓Fw.a_mt, ↓Fw.a_mtX, ↓Fw.a_mk, ↓Fw.a_cb, ↓Fw.a_lst, ↓Fw.a_tup, ↓Fw.a_chain, ↓Fw.a_dnew, ↓Fw.a_start, Fw.v_rU, Int.reduceNeg, Fw.v_add_ii, Fw.v_add_ss, Fw.v_sub_ii, Fw.v_mul_ii, Fw.v_div_ii, Fw.v_mod_ii, Fw.v_pow_ii, Fw.v_lt_ii, Fw.v_gt_ii, Fw.v_le_ii, Fw.v_ge_ii, Fw.v_le_ss, Fw.v_eqS_ii, Fw.v_eqS_ss, Fw.v_neS_ii, Fw.v_neS_ss, Fw.v_eq_ii, Fw.v_eq_ss, Fw.v_eq_bb, Fw.v_ne_ii, Fw.v_ne_ss, Fw.v_ne_bb, Fw.v_ne_tt, Fw.v_eq_tt, Fw.v_in_sc, Fw.v_ix_s, Fw.v_len_s, Fw.v_type, Fw.v_is, ↓Fw.a_bm, ↓Fw.a_bm0, ↓Fw.a_sl, ↓Fw.a_nopart, ↓Fw.a_part, Fw.v_sl_s, Fw.v_sl_r, Fw.v_app, Fw.v_add_rr, ↓Fw.b_ix_r, Fw.b_ix_r, Fw.v_in_r, Fw.v_set_r, Fw.v_len_r, Fw.v_list_r, Fw.v_listA, Fw.v_dictA, Fw.v_int_i, Fw.v_int_b, Fw.v_key_i, Fw.v_key_s, Fw.v_lst, Fw.v_tup, Fw.v_dic, Fw.v_ty_r, Fw.v_ty_s, Fw.v_ty_i, Fw.v_ty_b, Fw.v_ty_n, Fw.v_tyL, Fw.v_same, Fw.v_old, Fw.v_ne, Fw.v_upd, Fw.v_flat_s, Fw.v_inStrs, ↓Fw.a_yes, Fw.v_wipe0, Fw.v_wipe1, Fw.cx_K, Int.reduceToNat, List.length_replicate, Nat.sub_self, Nat.reduceSub, Nat.reduceAdd, List.replicate_zero, List.replicate_succ, List.append_nil, List.length_cons, List.length_nil, List.map_cons, List.map_nil, List.cons_append, List.nil_append, List.getElem?_cons_zero, List.getElem?_cons_succ, List.set_cons_zero, List.set_cons_succ, Option.some.injEq, V.int.injEq, V.bl.injEq, V.ref.injEq, V.str.injEq, exists_eq_left', exists_eq_left, exists_eq_right, exists_and_left, HO.lst.injEq, HO.dK.injEq, HO.tup.injEq, Option.isSome_some, true_and, and_true, Fw.v_m_bool, Fw.v_m_int, Fw.v_m_str, Fw.v_m_list, Fw.v_m_tuple, Fw.v_m_dict, Fw.v_flats, Bool.xor_true, Bool.xor_false, Bool.not_eq_true', decide_eq_false_iff_not, not_true_eq_false, not_false_eq_true, decide_true, decide_false, decide_eq_true_eq, ite_true, ite_false, Bool.not_true, Bool.not_false, Bool.false_eq_true, reduceCtorEq, Fw.isT_NoneType_bool, Fw.isT_NoneType_int, Fw.isT_NoneType_str, Fw.isT_NoneType_list, Fw.isT_NoneType_tuple, Fw.isT_NoneType_dict, Fw.isT_bool_bool, Fw.isT_bool_int, Fw.isT_bool_str, Fw.isT_bool_list, Fw.isT_bool_tuple, Fw.isT_bool_dict, Fw.isT_int_bool, Fw.isT_int_int, Fw.isT_int_str, Fw.isT_int_list, Fw.isT_int_tuple, Fw.isT_int_dict, Fw.isT_str_bool, Fw.isT_str_int, Fw.isT_str_str, Fw.isT_str_list, Fw.isT_str_tuple, Fw.isT_str_dict, Fw.isT_list_bool, Fw.isT_list_int, Fw.isT_list_str, Fw.isT_list_list, Fw.isT_list_tuple, Fw.isT_list_dict, Fw.isT_tuple_bool, Fw.isT_tuple_int, Fw.isT_tuple_str, Fw.isT_tuple_list, Fw.isT_tuple_tuple, Fw.isT_tuple_dict, Fw.isT_dict_bool, Fw.isT_dict_int, Fw.isT_dict_str, Fw.isT_dict_list, Fw.isT_dict_tuple, Fw.isT_dict_dict, hO9, o3, hP]
                refine ite2 (fun z => ⟨?_, hN _ ⟨same_mut sm9 hp, ?_⟩⟩) fun z => hN _ ⟨sm9, ?_⟩
                · rw [List.length_map]
                  exact Nat.lt_of_le_of_lt (Nat.le_trans (List.length_filter_le _ _) (Nat.le_trans (List.length_take_le' _ _) lF)) (by decide)
                · rw [upd_same, take_get hx, List.filter_append, List.map_append, List.filter_cons_of_pos (p := fun y => !decide (y ∈ out)) (by simpa using z)]
                  rfl
                · rw [take_get hx, List.filter_append, List.filter_cons_of_neg (p := fun y => !decide (y ∈ out)) (by simpa using z), List.filter_nil, List.append_nil]
                  exact hP
              · rintro p H9 hp ⟨sm9, hP⟩
                rw [List.length_map, List.take_length, cut.done_ ok] at hP
                exact q p H9 (Same.trans sm3 (Same.trans sm8 sm9)) (same_none sm3 (same_none sm8 hp)) hP
    · exact h.elim
/-! ### _way_to -/
theorem ok_way_to (S : Src K mg "_way_to" ["name", "reached_from"] s_way_to) (B : Blt mg) : Fn P w K mg base 1 "_way_to" ["name", "reached_from"] (sp_way_to) := by
  have sc := sc_way_to
  refine fn_mk S sc (fun vs H Q E h => ?_) (fun f cdv A outer s H vs Q E hr h => ⟨_, (pss_cons (ps_set (i := 2) sc.nd rfl (by first | exact Or.inl rfl | exact Or.inr rfl) (pe_lst pa_nil))
     (pss_cons (ps_while PassesOwn.never (pt_cmpR op_notN (pv 0) pe_non (nomark _))
     (pss_cons (ps_expr (pe_bm PySem.F.plainAttrs_list PySem.F.slot_list_append PySem.F.type_list_append mt_append (pv 2) (pa_cons (pv 0) pa_nil)))
     (pss_one (ps_set (i := 0) sc.nd rfl (by first | exact Or.inl rfl | exact Or.inr rfl) (pe_ix (ix_v (hu_of hr)) (pv 1) (pv 0) (fun _ _ => rfl))))))
     (pss_cons (ps_expr (pe_bm0 PySem.F.plainAttrs_list PySem.F.slot_list_reverse PySem.F.type_list_reverse mt_reverse (pv 2)))
     (pss_one (ps_ret (pv 2)))))), ?_⟩)
  · unfold sp_way_to at h; split at h <;> first | rfl | exact h.elim
  · unfold sp_way_to at h
    split at h
    · rename_i x d
      obtain ⟨ks, f, l, hD, up, hl, q⟩ := h
      try simp -dsimp only [↓Fw.a_forL, ↓Fw.a_lcL, ↓Fw.a_dcL, ↓Fw.a_dcE, ↓Fw.a_forR, ↓Fw.a_disp, ↓Fw.a_pnil, ↓Fw.a_pcons, Fw.v_keys0, Fw.v_keys1, Fw.v_deq, ↓Fw.a_truD1, Fw.v_truD, ↓Fw.a_dqPop, ↓Fw.a_dqApp, Fw.v_isD, ↓Fw.a_dget2, ↓Fw.b_dsetd, ↓Fw.a_star, Fw.v_pop, Fw.v_reverse, ↓Fw.a_tru1, Fw.v_tru_r, ↓Fw.a_gseq, ↓Fw.b_gcons, ↓Fw.b_gnil, ↓Fw.a_seq, ↓Fw.a_next, ↓Fw.a_brk, ↓Fw.a_cont, ↓Fw.a_asg, ↓Fw.a_name, ↓Fw.a_gsub, ↓Fw.b_var, ↓Fw.a_c, ↓Fw.a_op, ↓Fw.a_un, ↓Fw.a_cons, ↓Fw.a_nil, ↓Fw.a_ret, ↓Fw.a_retN, ↓Fw.a_drop, ↓Fw.a_if, ↓Fw.b_test, ↓Fw.b_B, ↓Fw.a_and, ↓Fw.a_or, ↓Fw.a_not, ↓Fw.b_andV, ↓Fw.b_orV, ↓Fw.b_notV, ↓Fw.a_ifE, ↓Fw.a_fn, ↓Fw.a_fnX, ↓Fw.a_hold, ↓Fw.a_holdX, ↓Fw.a_ne_rr, ↓Fw.a_eq_rr, ↓Fw.a_at, ↓Fw.a_atS, ↓Fw.a_step, Fw.v_step, Fw.v_min2, Fw.v_max2, Fw.v_clear, ↓Fw.a_mt, ↓Fw.a_mtX, ↓Fw.a_mk, ↓Fw.a_cb, ↓Fw.a_lst, ↓Fw.a_tup, ↓Fw.a_chain, ↓Fw.a_dnew, ↓Fw.a_start, Fw.v_rU, Int.reduceNeg, Fw.v_add_ii, Fw.v_add_ss, Fw.v_sub_ii, Fw.v_mul_ii, Fw.v_div_ii, Fw.v_mod_ii, Fw.v_pow_ii, Fw.v_lt_ii, Fw.v_gt_ii, Fw.v_le_ii, Fw.v_ge_ii, Fw.v_le_ss, Fw.v_eqS_ii, Fw.v_eqS_ss, Fw.v_neS_ii, Fw.v_neS_ss, Fw.v_eq_ii, Fw.v_eq_ss, Fw.v_eq_bb, Fw.v_ne_ii, Fw.v_ne_ss, Fw.v_ne_bb, Fw.v_ne_tt, Fw.v_eq_tt, Fw.v_in_sc, Fw.v_ix_s, Fw.v_len_s, Fw.v_type, Fw.v_is, ↓Fw.a_bm, ↓Fw.a_bm0, ↓Fw.a_sl, ↓Fw.a_nopart, ↓Fw.a_part, Fw.v_sl_s, Fw.v_sl_r, Fw.v_app, Fw.v_add_rr, ↓Fw.b_ix_r, Fw.b_ix_r, Fw.v_in_r, Fw.v_set_r, Fw.v_len_r, Fw.v_list_r, Fw.v_listA, Fw.v_dictA, Fw.v_int_i, Fw.v_int_b, Fw.v_key_i, Fw.v_key_s, Fw.v_lst, Fw.v_tup, Fw.v_dic, Fw.v_ty_r, Fw.v_ty_s, Fw.v_ty_i, Fw.v_ty_b, Fw.v_ty_n, Fw.v_tyL, Fw.v_same, Fw.v_old, Fw.v_ne, Fw.v_upd, Fw.v_flat_s, Fw.v_inStrs, ↓Fw.a_yes, Fw.v_wipe0, Fw.v_wipe1, Fw.cx_K, Int.reduceToNat, List.length_replicate, Nat.sub_self, Nat.reduceSub, Nat.reduceAdd, List.replicate_zero, List.replicate_succ, List.append_nil, List.length_cons, List.length_nil, List.map_cons, List.map_nil, List.cons_append, List.nil_append, List.getElem?_cons_zero, List.getElem?_cons_succ, List.set_cons_zero, List.set_cons_succ, Option.some.injEq, V.int.injEq, V.bl.injEq, V.ref.injEq, V.str.injEq, exists_eq_left', exists_eq_left, exists_eq_right, exists_and_left, HO.lst.injEq, HO.dK.injEq, HO.tup.injEq, Option.isSome_some, true_and, and_true, Fw.v_m_bool, Fw.v_m_int, Fw.v_m_str, Fw.v_m_list, Fw.v_m_tuple, Fw.v_m_dict, Fw.v_flats, Bool.xor_true, Bool.xor_false, Bool.not_eq_true', decide_eq_false_iff_not, not_true_eq_false, not_false_eq_true, decide_true, decide_false, decide_eq_true_eq, ite_true, ite_false, Bool.not_true, Bool.not_false, Bool.false_eq_true, reduceCtorEq, Fw.isT_NoneType_bool, Fw.isT_NoneType_int, Fw.isT_NoneType_str, Fw.isT_NoneType_list, Fw.isT_NoneType_tuple, Fw.isT_NoneType_dict, Fw.isT_bool_bool, Fw.isT_bool_int, Fw.isT_bool_str, Fw.isT_bool_list, Fw.isT_bool_tuple, Fw.isT_bool_dict, Fw.isT_int_bool, Fw.isT_int_int, Fw.isT_int_str, Fw.isT_int_list, Fw.isT_int_tuple, Fw.isT_int_dict, Fw.isT_str_bool, Fw.isT_str_int, Fw.isT_str_str, Fw.isT_str_list, Fw.isT_str_tuple, Fw.isT_str_dict, Fw.isT_list_bool, Fw.isT_list_int, Fw.isT_list_str, Fw.isT_list_list, Fw.isT_list_tuple, Fw.isT_list_dict, Fw.isT_tuple_bool, Fw.isT_tuple_int, Fw.isT_tuple_str, Fw.isT_tuple_list, Fw.isT_tuple_tuple, Fw.isT_tuple_dict, Fw.isT_dict_bool, Fw.isT_dict_int, Fw.isT_dict_str, Fw.isT_dict_list, Fw.isT_dict_tuple, Fw.isT_dict_dict]
      refine ⟨by decide, fun p hp => ⟨fun m σ2 H2 => Same H H2 ∧ ∃ (dn rest : List Str) (v : V), dn ++ rest = x :: l ∧ H2 p = some (.lst (dn.map V.str)) ∧ ((rest = [] ∧ v = .non) ∨ ∃ y r, rest = y :: r ∧ v = .str y ∧ Up ks f (y :: r)) ∧ m = rest.length ∧ σ2 = [some v, some (.ref d), some (.ref p)],
        ⟨_, same_new hp, [], x :: l, .str x, rfl, upd_same, .inr ⟨x, l, rfl, rfl, up⟩, rfl, rfl⟩, ?_⟩⟩
      rintro m σ2 H2 ⟨sm, dn, rest, v, e, hP, hv, rfl, rfl⟩
      have hD2 := sm _ _ hD
      rcases hv with ⟨rfl, rfl⟩ | ⟨y, r, rfl, rfl, up2⟩
      · try simp -dsimp only [↓Fw.a_forL, ↓Fw.a_lcL, ↓Fw.a_dcL, ↓Fw.a_dcE, ↓Fw.a_forR, ↓Fw.a_disp, ↓Fw.a_pnil, ↓Fw.a_pcons, Fw.v_keys0, Fw.v_keys1, Fw.v_deq, ↓Fw.a_truD1, Fw.v_truD, ↓Fw.a_dqPop, ↓Fw.a_dqApp, Fw.v_isD, ↓Fw.a_dget2, ↓Fw.b_dsetd, ↓Fw.a_star, Fw.v_pop, Fw.v_reverse, ↓Fw.a_tru1, Fw.v_tru_r, ↓Fw.a_gseq, ↓Fw.b_gcons, ↓Fw.b_gnil, ↓Fw.a_seq, ↓Fw.a_next, ↓Fw.a_brk, ↓Fw.a_cont, ↓Fw.a_asg, ↓Fw.a_name, ↓Fw.a_gsub, ↓Fw.b_var, ↓Fw.a_c, ↓Fw.a_op, ↓Fw.a_un, ↓Fw.a_cons, ↓Fw.a_nil, ↓Fw.a_ret, ↓Fw.a_retN, ↓Fw.a_drop, ↓Fw.a_if, ↓Fw.b_test, ↓Fw.b_B, ↓Fw.a_and, ↓Fw.a_or, ↓Fw.a_not, ↓Fw.b_andV, ↓Fw.b_orV, ↓Fw.b_notV, ↓Fw.a_ifE, ↓Fw.a_fn, ↓Fw.a_fnX, ↓Fw.a_hold, ↓Fw.a_holdX, ↓Fw.a_ne_rr, ↓Fw.a_eq_rr, ↓Fw.a_at, ↓Fw.a_atS, ↓Fw.a_step, Fw.v_step, Fw.v_min2, Fw.v_max2, Fw.v_clear, ↓Fw.a_mt, ↓Fw.a_mtX, ↓Fw.a_mk, ↓Fw.a_cb, ↓Fw.a_lst, ↓Fw.a_tup, ↓Fw.a_chain, ↓Fw.a_dnew, ↓Fw.a_start, Fw.v_rU, Int.reduceNeg, Fw.v_add_ii, Fw.v_add_ss, Fw.v_sub_ii, Fw.v_mul_ii, Fw.v_div_ii, Fw.v_mod_ii, Fw.v_pow_ii, Fw.v_lt_ii, Fw.v_gt_ii, Fw.v_le_ii, Fw.v_ge_ii, Fw.v_le_ss, Fw.v_eqS_ii, Fw.v_eqS_ss, Fw.v_neS_ii, Fw.v_neS_ss, Fw.v_eq_ii, Fw.v_eq_ss, Fw.v_eq_bb, Fw.v_ne_ii, Fw.v_ne_ss, Fw.v_ne_bb, Fw.v_ne_tt, Fw.v_eq_tt, Fw.v_in_sc, Fw.v_ix_s, Fw.v_len_s, Fw.v_type, Fw.v_is, ↓Fw.a_bm, ↓Fw.a_bm0, ↓Fw.a_sl, ↓Fw.a_nopart, ↓Fw.a_part, Fw.v_sl_s, Fw.v_sl_r, Fw.v_app, Fw.v_add_rr, ↓Fw.b_ix_r, Fw.b_ix_r, Fw.v_in_r, Fw.v_set_r, Fw.v_len_r, Fw.v_list_r, Fw.v_listA, Fw.v_dictA, Fw.v_int_i, Fw.v_int_b, Fw.v_key_i, Fw.v_key_s, Fw.v_lst, Fw.v_tup, Fw.v_dic, Fw.v_ty_r, Fw.v_ty_s, Fw.v_ty_i, Fw.v_ty_b, Fw.v_ty_n, Fw.v_tyL, Fw.v_same, Fw.v_old, Fw.v_ne, Fw.v_upd, Fw.v_flat_s, Fw.v_inStrs, ↓Fw.a_yes, Fw.v_wipe0, Fw.v_wipe1, Fw.cx_K, Int.reduceToNat, List.length_replicate, Nat.sub_self, Nat.reduceSub, Nat.reduceAdd, List.replicate_zero, List.replicate_succ, List.append_nil, List.length_cons, List.length_nil, List.map_cons, List.map_nil, List.cons_append, List.nil_append, List.getElem?_cons_zero, List.getElem?_cons_succ, List.set_cons_zero, List.set_cons_succ, Option.some.injEq, V.int.injEq, V.bl.injEq, V.ref.injEq, V.str.injEq, exists_eq_left', exists_eq_left, exists_eq_right, exists_and_left, HO.lst.injEq, HO.dK.injEq, HO.tup.injEq, Option.isSome_some, true_and, and_true, Fw.v_m_bool, Fw.v_m_int, Fw.v_m_str, Fw.v_m_list, Fw.v_m_tuple, Fw.v_m_dict, Fw.v_flats, Bool.xor_true, Bool.xor_false, Bool.not_eq_true', decide_eq_false_iff_not, not_true_eq_false, not_false_eq_true, decide_true, decide_false, decide_eq_true_eq, ite_true, ite_false, Bool.not_true, Bool.not_false, Bool.false_eq_true, reduceCtorEq, Fw.isT_NoneType_bool, Fw.isT_NoneType_int, Fw.isT_NoneType_str, Fw.isT_NoneType_list, Fw.isT_NoneType_tuple, Fw.isT_NoneType_dict, Fw.isT_bool_bool, Fw.isT_bool_int, Fw.isT_bool_str, Fw.isT_bool_list, Fw.isT_bool_tuple, Fw.isT_bool_dict, Fw.isT_int_bool, Fw.isT_int_int, Fw.isT_int_str, Fw.isT_int_list, Fw.isT_int_tuple, Fw.isT_int_dict, Fw.isT_str_bool, Fw.isT_str_int, Fw.isT_str_str, Fw.isT_str_list, Fw.isT_str_tuple, Fw.isT_str_dict, Fw.isT_list_bool, Fw.isT_list_int, Fw.isT_list_str, Fw.isT_list_list, Fw.isT_list_tuple, Fw.isT_list_dict, Fw.isT_tuple_bool, Fw.isT_tuple_int, Fw.isT_tuple_str, Fw.isT_tuple_list, Fw.isT_tuple_tuple, Fw.isT_tuple_dict, Fw.isT_dict_bool, Fw.isT_dict_int, Fw.isT_dict_str, Fw.isT_dict_list, Fw.isT_dict_tuple, Fw.isT_dict_dict, hP]
        rw [List.append_nil] at e
        subst e
        exact q p _ (same_mut sm hp) hp (by rw [upd_same, List.map_reverse])
      · have hv := sK_val (f := f) up2.mem
        have dp : d ≠ p := fun z => by rw [z, hP] at hD2; cases hD2
        have hD3 : ∀ o, upd H2 p o d = some (.dK (sK ks f)) := fun o => by rw [upd_ne dp]; exact hD2
        try simp -dsimp only [↓Fw.a_forL, ↓Fw.a_lcL, ↓Fw.a_dcL, ↓Fw.a_dcE, ↓Fw.a_forR, ↓Fw.a_disp, ↓Fw.a_pnil, ↓Fw.a_pcons, Fw.v_keys0, Fw.v_keys1, Fw.v_deq, ↓Fw.a_truD1, Fw.v_truD, ↓Fw.a_dqPop, ↓Fw.a_dqApp, Fw.v_isD, ↓Fw.a_dget2, ↓Fw.b_dsetd, ↓Fw.a_star, Fw.v_pop, Fw.v_reverse, ↓Fw.a_tru1, Fw.v_tru_r, ↓Fw.a_gseq, ↓Fw.b_gcons, ↓Fw.b_gnil, ↓Fw.a_seq, ↓Fw.a_next, ↓Fw.a_brk, ↓Fw.a_cont, ↓Fw.a_asg, ↓Fw.a_name, ↓Fw.a_gsub, ↓Fw.b_var, ↓Fw.a_c, ↓Fw.a_op, ↓Fw.a_un, ↓Fw.a_cons, ↓Fw.a_nil, ↓Fw.a_ret, ↓Fw.a_retN, ↓Fw.a_drop, ↓Fw.a_if, ↓Fw.b_test, ↓Fw.b_B, ↓Fw.a_and, ↓Fw.a_or, ↓Fw.a_not, ↓Fw.b_andV, ↓Fw.b_orV, ↓Fw.b_notV, ↓Fw.a_ifE, ↓Fw.a_fn, ↓Fw.a_fnX, ↓Fw.a_hold, ↓Fw.a_holdX, ↓Fw.a_ne_rr, ↓Fw.a_eq_rr, ↓Fw.a_at, ↓Fw.a_atS, ↓Fw.a_step, Fw.v_step, Fw.v_min2, Fw.v_max2, Fw.v_clear, ↓Fw.a_mt, ↓Fw.a_mtX, ↓Fw.a_mk, ↓Fw.a_cb, ↓Fw.a_lst, ↓Fw.a_tup, ↓Fw.a_chain, ↓Fw.a_dnew, ↓Fw.a_start, Fw.v_rU, Int.reduceNeg, Fw.v_add_ii, Fw.v_add_ss, Fw.v_sub_ii, Fw.v_mul_ii, Fw.v_div_ii, Fw.v_mod_ii, Fw.v_pow_ii, Fw.v_lt_ii, Fw.v_gt_ii, Fw.v_le_ii, Fw.v_ge_ii, Fw.v_le_ss, Fw.v_eqS_ii, Fw.v_eqS_ss, Fw.v_neS_ii, Fw.v_neS_ss, Fw.v_eq_ii, Fw.v_eq_ss, Fw.v_eq_bb, Fw.v_ne_ii, Fw.v_ne_ss, Fw.v_ne_bb, Fw.v_ne_tt, Fw.v_eq_tt, Fw.v_in_sc, Fw.v_ix_s, Fw.v_len_s, Fw.v_type, Fw.v_is, ↓Fw.a_bm, ↓Fw.a_bm0, ↓Fw.a_sl, ↓Fw.a_nopart, ↓Fw.a_part, Fw.v_sl_s, Fw.v_sl_r, Fw.v_app, Fw.v_add_rr, ↓Fw.b_ix_r, Fw.b_ix_r, Fw.v_in_r, Fw.v_set_r, Fw.v_len_r, Fw.v_list_r, Fw.v_listA, Fw.v_dictA, Fw.v_int_i, Fw.v_int_b, Fw.v_key_i, Fw.v_key_s, Fw.v_lst, Fw.v_tup, Fw.v_dic, Fw.v_ty_r, Fw.v_ty_s, Fw.v_ty_i, Fw.v_ty_b, Fw.v_ty_n, Fw.v_tyL, Fw.v_same, Fw.v_old, Fw.v_ne, Fw.v_upd, Fw.v_flat_s, Fw.v_inStrs, ↓Fw.a_yes, Fw.v_wipe0, Fw.v_wipe1, Fw.cx_K, Int.reduceToNat, List.length_replicate, Nat.sub_self, Nat.reduceSub, Nat.reduceAdd, List.replicate_zero, List.replicate_succ, List.append_nil, List.length_cons, List.length_nil, List.map_cons, List.map_nil, List.cons_append, List.nil_append, List.getElem?_cons_zero, List.getElem?_cons_succ, List.set_cons_zero, List.set_cons_succ, Option.some.injEq, V.int.injEq, V.bl.injEq, V.ref.injEq, V.str.injEq, exists_eq_left', exists_eq_left, exists_eq_right, exists_and_left, HO.lst.injEq, HO.dK.injEq, HO.tup.injEq, Option.isSome_some, true_and, and_true, Fw.v_m_bool, Fw.v_m_int, Fw.v_m_str, Fw.v_m_list, Fw.v_m_tuple, Fw.v_m_dict, Fw.v_flats, Bool.xor_true, Bool.xor_false, Bool.not_eq_true', decide_eq_false_iff_not, not_true_eq_false, not_false_eq_true, decide_true, decide_false, decide_eq_true_eq, ite_true, ite_false, Bool.not_true, Bool.not_false, Bool.false_eq_true, reduceCtorEq, Fw.isT_NoneType_bool, Fw.isT_NoneType_int, Fw.isT_NoneType_str, Fw.isT_NoneType_list, Fw.isT_NoneType_tuple, Fw.isT_NoneType_dict, Fw.isT_bool_bool, Fw.isT_bool_int, Fw.isT_bool_str, Fw.isT_bool_list, Fw.isT_bool_tuple, Fw.isT_bool_dict, Fw.isT_int_bool, Fw.isT_int_int, Fw.isT_int_str, Fw.isT_int_list, Fw.isT_int_tuple, Fw.isT_int_dict, Fw.isT_str_bool, Fw.isT_str_int, Fw.isT_str_str, Fw.isT_str_list, Fw.isT_str_tuple, Fw.isT_str_dict, Fw.isT_list_bool, Fw.isT_list_int, Fw.isT_list_str, Fw.isT_list_list, Fw.isT_list_tuple, Fw.isT_list_dict, Fw.isT_tuple_bool, Fw.isT_tuple_int, Fw.isT_tuple_str, Fw.isT_tuple_list, Fw.isT_tuple_tuple, Fw.isT_tuple_dict, Fw.isT_dict_bool, Fw.isT_dict_int, Fw.isT_dict_str, Fw.isT_dict_list, Fw.isT_dict_tuple, Fw.isT_dict_dict, hP, hD3, hv]
        refine ⟨_, fun σ' H' z => z, ?_, r.length, Nat.lt_succ_self _, same_mut sm hp, dn ++ [y], r, ?_⟩
        · have : dn.length + (r.length + 1) = l.length + 1 := by
            have := congrArg List.length e
            simpa using this
          rw [List.length_map]
          exact Nat.lt_of_le_of_lt (show _ ≤ 1000 by omega) (by decide)
        · refine ⟨by rw [List.append_assoc]; exact e, by rw [upd_same, List.map_append]; rfl, f y, ?_, rfl, rfl⟩
          cases up2 with
          | one h1 h2 => exact .inl ⟨rfl, h2⟩
          | more h1 h2 h3 => exact .inr ⟨_, _, rfl, h2, h3⟩
    · exact h.elim
/-! ### chain -/
theorem ok_chain (S : Src K mg "chain" ["name", "full", "needs", "done"] s_chain) (B : Blt mg) (G__way_to : Fn P w K mg base 1 "_way_to" ["name", "reached_from"] (sp_way_to)) (g_deque : mg "deque" = some (.type "collections.deque")) : Fn P w K mg base 2 "chain" ["name", "full", "needs", "done"] (sp_chain) := by
  have sc := sc_chain
  refine fn_mk S sc (fun vs H Q E h => ?_) (fun f cdv A outer s H vs Q E hr h => ⟨_, (pss_cons (ps_if (pt_cmpR (op_vIn (hu_of hr)) (pv 0) (pv 3) (by rfl))
     (pss_one (ps_ret (pe_lst pa_nil)))
     pss_nil)
     (pss_cons (ps_setDc (i := 4) (own := [("other", 5)]) rfl sc.nd rfl rfl (sw_trueD rfl rfl rfl (by decide +kernel)) (pi_list (pv 1)) (blkOk_by (N := n_chain) (sc := defScope s_chain) (own := [("other", 5)]) (by decide +kernel)) (fun _ _ _ _ _ => (pg_name (i := 5) sc.nd rfl (by first | exact Or.inl rfl | exact Or.inr rfl))) (fun _ _ _ _ _ => pts_nil) (fun _ _ _ _ _ => (pv 5)) (fun _ _ _ _ _ => pe_bl))
     (pss_cons (ps_setDc (i := 6) (own := [("other", 5)]) rfl sc.nd rfl rfl (sw_trueD rfl rfl rfl (by decide +kernel)) (pi_list (pv 3)) (blkOk_by (N := n_chain) (sc := defScope s_chain) (own := [("other", 5)]) (by decide +kernel)) (fun _ _ _ _ _ => (pg_name (i := 5) sc.nd rfl (by first | exact Or.inl rfl | exact Or.inr rfl))) (fun _ _ _ _ _ => pts_nil) (fun _ _ _ _ _ => (pv 5)) (fun _ _ _ _ _ => pe_bl))
     (pss_cons (ps_set (i := 7) sc.nd rfl (by first | exact Or.inl rfl | exact Or.inr rfl) (pe_disp (pps_cons (pv 0) pe_non pps_nil) (by rfl) (by rfl) (fun z => by cases z) (by decide)))
     (pss_cons (ps_set (i := 8) sc.nd rfl (by first | exact Or.inl rfl | exact Or.inr rfl) (pe_callGT (call_deq rfl) rfl g_deque (pa_cons (pe_lst (pa_cons (pv 0) pa_nil)) pa_nil)))
     (pss_cons (ps_while PassesOwn.never (pt_truD (pv 8))
     (pss_cons (ps_set (i := 9) sc.nd rfl (by first | exact Or.inl rfl | exact Or.inr rfl) (pe_dqPop (pv 8)))
     (pss_cons (ps_if (pt_cmpR (op_vNotIn (hu_of hr)) (pv 9) (pv 4) (by rfl))
     (pss_one (ps_ret (pe_fn G__way_to (hr.mono (by decide)) rfl (pa_cons (pv 9) (pa_cons (pv 7) pa_nil)))))
     pss_nil)
     (pss_one (ps_for PassesOwn.never rfl (pi_list (pe_ix (ix_v (hu_of hr)) (pv 2) (pv 9) (fun _ _ => rfl))) (pg_name (i := 10) sc.nd rfl (by first | exact Or.inl rfl | exact Or.inr rfl))
     (pss_one (ps_if (PW.pt (pw_and (pt_cmpR (op_vNotIn (hu_of hr)) (pv 10) (pv 6) (by rfl)) (pw_and1 (pt_cmpR (op_vNotIn (hu_of hr)) (pv 10) (pv 7) (by rfl)))))
     (pss_cons (ps_asg (pv 9) (pg_sub (pv 7) (pv 10) (set_v (hu_of hr))))
     (pss_one (ps_expr (pe_dqApp (pv 8) (pv 10)))))
     pss_nil)))))))
     (pss_one (ps_ret (pe_lst pa_nil))))))))), ?_⟩)
  · unfold sp_chain at h; split at h <;> first | rfl | exact h.elim
  · unfold sp_chain at h
    split at h
    · rename_i x a d b
      obtain ⟨g, ok, hF, hN_, hD, hx, q⟩ := h
      have lF := ok.lenF
      have lD := ok.lenD
      try simp -dsimp only [↓Fw.a_forL, ↓Fw.a_lcL, ↓Fw.a_dcL, ↓Fw.a_dcE, ↓Fw.a_forR, ↓Fw.a_disp, ↓Fw.a_pnil, ↓Fw.a_pcons, Fw.v_keys0, Fw.v_keys1, Fw.v_deq, ↓Fw.a_truD1, Fw.v_truD, ↓Fw.a_dqPop, ↓Fw.a_dqApp, Fw.v_isD, ↓Fw.a_dget2, ↓Fw.b_dsetd, ↓Fw.a_star, Fw.v_pop, Fw.v_reverse, ↓Fw.a_tru1, Fw.v_tru_r, ↓Fw.a_gseq, ↓Fw.b_gcons, ↓Fw.b_gnil, ↓Fw.a_seq, ↓Fw.a_next, ↓Fw.a_brk, ↓Fw.a_cont, ↓Fw.a_asg, ↓Fw.a_name, ↓Fw.a_gsub, ↓Fw.b_var, ↓Fw.a_c, ↓Fw.a_op, ↓Fw.a_un, ↓Fw.a_cons, ↓Fw.a_nil, ↓Fw.a_ret, ↓Fw.a_retN, ↓Fw.a_drop, ↓Fw.a_if, ↓Fw.b_test, ↓Fw.b_B, ↓Fw.a_and, ↓Fw.a_or, ↓Fw.a_not, ↓Fw.b_andV, ↓Fw.b_orV, ↓Fw.b_notV, ↓Fw.a_ifE, ↓Fw.a_fn, ↓Fw.a_fnX, ↓Fw.a_hold, ↓Fw.a_holdX, ↓Fw.a_ne_rr, ↓Fw.a_eq_rr, ↓Fw.a_at, ↓Fw.a_atS, ↓Fw.a_step, Fw.v_step, Fw.v_min2, Fw.v_max2, Fw.v_clear, ↓Fw.a_mt, ↓Fw.a_mtX, ↓Fw.a_mk, ↓Fw.a_cb, ↓Fw.a_lst, ↓Fw.a_tup, ↓Fw.a_chain, ↓Fw.a_dnew, ↓Fw.a_start, Fw.v_rU, Int.reduceNeg, Fw.v_add_ii, Fw.v_add_ss, Fw.v_sub_ii, Fw.v_mul_ii, Fw.v_div_ii, Fw.v_mod_ii, Fw.v_pow_ii, Fw.v_lt_ii, Fw.v_gt_ii, Fw.v_le_ii, Fw.v_ge_ii, Fw.v_le_ss, Fw.v_eqS_ii, Fw.v_eqS_ss, Fw.v_neS_ii, Fw.v_neS_ss, Fw.v_eq_ii, Fw.v_eq_ss, Fw.v_eq_bb, Fw.v_ne_ii, Fw.v_ne_ss, Fw.v_ne_bb, Fw.v_ne_tt, Fw.v_eq_tt, Fw.v_in_sc, Fw.v_ix_s, Fw.v_len_s, Fw.v_type, Fw.v_is, ↓Fw.a_bm, ↓Fw.a_bm0, ↓Fw.a_sl, ↓Fw.a_nopart, ↓Fw.a_part, Fw.v_sl_s, Fw.v_sl_r, Fw.v_app, Fw.v_add_rr, ↓Fw.b_ix_r, Fw.b_ix_r, Fw.v_in_r, Fw.v_set_r, Fw.v_len_r, Fw.v_list_r, Fw.v_listA, Fw.v_dictA, Fw.v_int_i, Fw.v_int_b, Fw.v_key_i, Fw.v_key_s, Fw.v_lst, Fw.v_tup, Fw.v_dic, Fw.v_ty_r, Fw.v_ty_s, Fw.v_ty_i, Fw.v_ty_b, Fw.v_ty_n, Fw.v_tyL, Fw.v_same, Fw.v_old, Fw.v_ne, Fw.v_upd, Fw.v_flat_s, Fw.v_inStrs, ↓Fw.a_yes, Fw.v_wipe0, Fw.v_wipe1, Fw.cx_K, Int.reduceToNat, List.length_replicate, Nat.sub_self, Nat.reduceSub, Nat.reduceAdd, List.replicate_zero, List.replicate_succ, List.append_nil, List.length_cons, List.length_nil, List.map_cons, List.map_nil, List.cons_append, List.nil_append, List.getElem?_cons_zero, List.getElem?_cons_succ, List.set_cons_zero, List.set_cons_succ, Option.some.injEq, V.int.injEq, V.bl.injEq, V.ref.injEq, V.str.injEq, exists_eq_left', exists_eq_left, exists_eq_right, exists_and_left, HO.lst.injEq, HO.dK.injEq, HO.tup.injEq, Option.isSome_some, true_and, and_true, Fw.v_m_bool, Fw.v_m_int, Fw.v_m_str, Fw.v_m_list, Fw.v_m_tuple, Fw.v_m_dict, Fw.v_flats, Bool.xor_true, Bool.xor_false, Bool.not_eq_true', decide_eq_false_iff_not, not_true_eq_false, not_false_eq_true, decide_true, decide_false, decide_eq_true_eq, ite_true, ite_false, Bool.not_true, Bool.not_false, Bool.false_eq_true, reduceCtorEq, Fw.isT_NoneType_bool, Fw.isT_NoneType_int, Fw.isT_NoneType_str, Fw.isT_NoneType_list, Fw.isT_NoneType_tuple, Fw.isT_NoneType_dict, Fw.isT_bool_bool, Fw.isT_bool_int, Fw.isT_bool_str, Fw.isT_bool_list, Fw.isT_bool_tuple, Fw.isT_bool_dict, Fw.isT_int_bool, Fw.isT_int_int, Fw.isT_int_str, Fw.isT_int_list, Fw.isT_int_tuple, Fw.isT_int_dict, Fw.isT_str_bool, Fw.isT_str_int, Fw.isT_str_str, Fw.isT_str_list, Fw.isT_str_tuple, Fw.isT_str_dict, Fw.isT_list_bool, Fw.isT_list_int, Fw.isT_list_str, Fw.isT_list_list, Fw.isT_list_tuple, Fw.isT_list_dict, Fw.isT_tuple_bool, Fw.isT_tuple_int, Fw.isT_tuple_str, Fw.isT_tuple_list, Fw.isT_tuple_tuple, Fw.isT_tuple_dict, Fw.isT_dict_bool, Fw.isT_dict_int, Fw.isT_dict_str, Fw.isT_dict_list, Fw.isT_dict_tuple, Fw.isT_dict_dict, hD]
      refine ite2 (fun c => ⟨by decide, fun p hp => ?_⟩) fun c => ?_
      · refine q p _ (same_new hp) hp ?_
        rw [upd_same, Net.chain_out (fun z => ok.apart x z c), if_pos c]
        rfl
      refine go_dc (.inl (.inl hF)) (fun p i H5 => Same H H5 ∧ SetAt H5 p (g.full.take i)) (fun p hp => ⟨same_new hp, .nil upd_same⟩) (fun p i H2 _ _ z => .inl (.inl (z.1 _ _ hF))) ?_ ?_
      · rintro p i u H5 N hp hu ⟨sm, hP⟩ hN
        obtain ⟨f, hf, rfl⟩ := map_str_get hu
        obtain ⟨kh, d1, d2, _, d3⟩ := hP.put
        try simp -dsimp only [↓Fw.a_forL, ↓Fw.a_lcL, ↓Fw.a_dcL, ↓Fw.a_dcE, ↓Fw.a_forR, ↓Fw.a_disp, ↓Fw.a_pnil, ↓Fw.a_pcons, Fw.v_keys0, Fw.v_keys1, Fw.v_deq, ↓Fw.a_truD1, Fw.v_truD, ↓Fw.a_dqPop, ↓Fw.a_dqApp, Fw.v_isD, ↓Fw.a_dget2, ↓Fw.b_dsetd, ↓Fw.a_star, Fw.v_pop, Fw.v_reverse, ↓Fw.a_tru1, Fw.v_tru_r, ↓Fw.a_gseq, ↓Fw.b_gcons, ↓Fw.b_gnil, ↓Fw.a_seq, ↓Fw.a_next, ↓Fw.a_brk, ↓Fw.a_cont, ↓Fw.a_asg, ↓Fw.a_name, ↓Fw.a_gsub, ↓Fw.b_var, ↓Fw.a_c, ↓Fw.a_op, ↓Fw.a_un, ↓Fw.a_cons, ↓Fw.a_nil, ↓Fw.a_ret, ↓Fw.a_retN, ↓Fw.a_drop, ↓Fw.a_if, ↓Fw.b_test, ↓Fw.b_B, ↓Fw.a_and, ↓Fw.a_or, ↓Fw.a_not, ↓Fw.b_andV, ↓Fw.b_orV, ↓Fw.b_notV, ↓Fw.a_ifE, ↓Fw.a_fn, ↓Fw.a_fnX, ↓Fw.a_hold, ↓Fw.a_holdX, ↓Fw.a_ne_rr, ↓Fw.a_eq_rr, ↓Fw.a_at, ↓Fw.a_atS, ↓Fw.a_step, Fw.v_step, Fw.v_min2, Fw.v_max2, Fw.v_clear, ↓Fw.a_mt, ↓Fw.a_mtX, ↓Fw.a_mk, ↓Fw.a_cb, ↓Fw.a_lst, ↓Fw.a_tup, ↓Fw.a_chain, ↓Fw.a_dnew, ↓Fw.a_start, Fw.v_rU, Int.reduceNeg, Fw.v_add_ii, Fw.v_add_ss, Fw.v_sub_ii, Fw.v_mul_ii, Fw.v_div_ii, Fw.v_mod_ii, Fw.v_pow_ii, Fw.v_lt_ii, Fw.v_gt_ii, Fw.v_le_ii, Fw.v_ge_ii, Fw.v_le_ss, Fw.v_eqS_ii, Fw.v_eqS_ss, Fw.v_neS_ii, Fw.v_neS_ss, Fw.v_eq_ii, Fw.v_eq_ss, Fw.v_eq_bb, Fw.v_ne_ii, Fw.v_ne_ss, Fw.v_ne_bb, Fw.v_ne_tt, Fw.v_eq_tt, Fw.v_in_sc, Fw.v_ix_s, Fw.v_len_s, Fw.v_type, Fw.v_is, ↓Fw.a_bm, ↓Fw.a_bm0, ↓Fw.a_sl, ↓Fw.a_nopart, ↓Fw.a_part, Fw.v_sl_s, Fw.v_sl_r, Fw.v_app, Fw.v_add_rr, ↓Fw.b_ix_r, Fw.b_ix_r, Fw.v_in_r, Fw.v_set_r, Fw.v_len_r, Fw.v_list_r, Fw.v_listA, Fw.v_dictA, Fw.v_int_i, Fw.v_int_b, Fw.v_key_i, Fw.v_key_s, Fw.v_lst, Fw.v_tup, Fw.v_dic, Fw.v_ty_r, Fw.v_ty_s, Fw.v_ty_i, Fw.v_ty_b, Fw.v_ty_n, Fw.v_tyL, Fw.v_same, Fw.v_old, Fw.v_ne, Fw.v_upd, Fw.v_flat_s, Fw.v_inStrs, ↓Fw.a_yes, Fw.v_wipe0, Fw.v_wipe1, Fw.cx_K, Int.reduceToNat, List.length_replicate, Nat.sub_self, Nat.reduceSub, Nat.reduceAdd, List.replicate_zero, List.replicate_succ, List.append_nil, List.length_cons, List.length_nil, List.map_cons, List.map_nil, List.cons_append, List.nil_append, List.getElem?_cons_zero, List.getElem?_cons_succ, List.set_cons_zero, List.set_cons_succ, Option.some.injEq, V.int.injEq, V.bl.injEq, V.ref.injEq, V.str.injEq, exists_eq_left', exists_eq_left, exists_eq_right, exists_and_left, HO.lst.injEq, HO.dK.injEq, HO.tup.injEq, Option.isSome_some, true_and, and_true, Fw.v_m_bool, Fw.v_m_int, Fw.v_m_str, Fw.v_m_list, Fw.v_m_tuple, Fw.v_m_dict, Fw.v_flats, Bool.xor_true, Bool.xor_false, Bool.not_eq_true', decide_eq_false_iff_not, not_true_eq_false, not_false_eq_true, decide_true, decide_false, decide_eq_true_eq, ite_true, ite_false, Bool.not_true, Bool.not_false, Bool.false_eq_true, reduceCtorEq, Fw.isT_NoneType_bool, Fw.isT_NoneType_int, Fw.isT_NoneType_str, Fw.isT_NoneType_list, Fw.isT_NoneType_tuple, Fw.isT_NoneType_dict, Fw.isT_bool_bool, Fw.isT_bool_int, Fw.isT_bool_str, Fw.isT_bool_list, Fw.isT_bool_tuple, Fw.isT_bool_dict, Fw.isT_int_bool, Fw.isT_int_int, Fw.isT_int_str, Fw.isT_int_list, Fw.isT_int_tuple, Fw.isT_int_dict, Fw.isT_str_bool, Fw.isT_str_int, Fw.isT_str_str, Fw.isT_str_list, Fw.isT_str_tuple, Fw.isT_str_dict, Fw.isT_list_bool, Fw.isT_list_int, Fw.isT_list_str, Fw.isT_list_list, Fw.isT_list_tuple, Fw.isT_list_dict, Fw.isT_tuple_bool, Fw.isT_tuple_int, Fw.isT_tuple_str, Fw.isT_tuple_list, Fw.isT_tuple_tuple, Fw.isT_tuple_dict, Fw.isT_dict_bool, Fw.isT_dict_int, Fw.isT_dict_str, Fw.isT_dict_list, Fw.isT_dict_tuple, Fw.isT_dict_dict]
        refine ⟨kh, .inr f, rfl, d1, ?_, hN _ ⟨same_mut sm hp, ?_⟩⟩
        · exact Nat.lt_of_le_of_lt (Nat.le_trans d2 (Nat.le_trans (List.length_take_le' _ _) lF)) (by decide)
        · rw [take_get hf]
          exact d3 _ _ _
      rintro pf H1 hpf ⟨sm1, hS1⟩
      rw [List.length_map, List.take_length] at hS1
      have hD1 := sm1 _ _ hD
      try simp -dsimp only [↓Fw.a_forL, ↓Fw.a_lcL, ↓Fw.a_dcL, ↓Fw.a_dcE, ↓Fw.a_forR, ↓Fw.a_disp, ↓Fw.a_pnil, ↓Fw.a_pcons, Fw.v_keys0, Fw.v_keys1, Fw.v_deq, ↓Fw.a_truD1, Fw.v_truD, ↓Fw.a_dqPop, ↓Fw.a_dqApp, Fw.v_isD, ↓Fw.a_dget2, ↓Fw.b_dsetd, ↓Fw.a_star, Fw.v_pop, Fw.v_reverse, ↓Fw.a_tru1, Fw.v_tru_r, ↓Fw.a_gseq, ↓Fw.b_gcons, ↓Fw.b_gnil, ↓Fw.a_seq, ↓Fw.a_next, ↓Fw.a_brk, ↓Fw.a_cont, ↓Fw.a_asg, ↓Fw.a_name, ↓Fw.a_gsub, ↓Fw.b_var, ↓Fw.a_c, ↓Fw.a_op, ↓Fw.a_un, ↓Fw.a_cons, ↓Fw.a_nil, ↓Fw.a_ret, ↓Fw.a_retN, ↓Fw.a_drop, ↓Fw.a_if, ↓Fw.b_test, ↓Fw.b_B, ↓Fw.a_and, ↓Fw.a_or, ↓Fw.a_not, ↓Fw.b_andV, ↓Fw.b_orV, ↓Fw.b_notV, ↓Fw.a_ifE, ↓Fw.a_fn, ↓Fw.a_fnX, ↓Fw.a_hold, ↓Fw.a_holdX, ↓Fw.a_ne_rr, ↓Fw.a_eq_rr, ↓Fw.a_at, ↓Fw.a_atS, ↓Fw.a_step, Fw.v_step, Fw.v_min2, Fw.v_max2, Fw.v_clear, ↓Fw.a_mt, ↓Fw.a_mtX, ↓Fw.a_mk, ↓Fw.a_cb, ↓Fw.a_lst, ↓Fw.a_tup, ↓Fw.a_chain, ↓Fw.a_dnew, ↓Fw.a_start, Fw.v_rU, Int.reduceNeg, Fw.v_add_ii, Fw.v_add_ss, Fw.v_sub_ii, Fw.v_mul_ii, Fw.v_div_ii, Fw.v_mod_ii, Fw.v_pow_ii, Fw.v_lt_ii, Fw.v_gt_ii, Fw.v_le_ii, Fw.v_ge_ii, Fw.v_le_ss, Fw.v_eqS_ii, Fw.v_eqS_ss, Fw.v_neS_ii, Fw.v_neS_ss, Fw.v_eq_ii, Fw.v_eq_ss, Fw.v_eq_bb, Fw.v_ne_ii, Fw.v_ne_ss, Fw.v_ne_bb, Fw.v_ne_tt, Fw.v_eq_tt, Fw.v_in_sc, Fw.v_ix_s, Fw.v_len_s, Fw.v_type, Fw.v_is, ↓Fw.a_bm, ↓Fw.a_bm0, ↓Fw.a_sl, ↓Fw.a_nopart, ↓Fw.a_part, Fw.v_sl_s, Fw.v_sl_r, Fw.v_app, Fw.v_add_rr, ↓Fw.b_ix_r, Fw.b_ix_r, Fw.v_in_r, Fw.v_set_r, Fw.v_len_r, Fw.v_list_r, Fw.v_listA, Fw.v_dictA, Fw.v_int_i, Fw.v_int_b, Fw.v_key_i, Fw.v_key_s, Fw.v_lst, Fw.v_tup, Fw.v_dic, Fw.v_ty_r, Fw.v_ty_s, Fw.v_ty_i, Fw.v_ty_b, Fw.v_ty_n, Fw.v_tyL, Fw.v_same, Fw.v_old, Fw.v_ne, Fw.v_upd, Fw.v_flat_s, Fw.v_inStrs, ↓Fw.a_yes, Fw.v_wipe0, Fw.v_wipe1, Fw.cx_K, Int.reduceToNat, List.length_replicate, Nat.sub_self, Nat.reduceSub, Nat.reduceAdd, List.replicate_zero, List.replicate_succ, List.append_nil, List.length_cons, List.length_nil, List.map_cons, List.map_nil, List.cons_append, List.nil_append, List.getElem?_cons_zero, List.getElem?_cons_succ, List.set_cons_zero, List.set_cons_succ, Option.some.injEq, V.int.injEq, V.bl.injEq, V.ref.injEq, V.str.injEq, exists_eq_left', exists_eq_left, exists_eq_right, exists_and_left, HO.lst.injEq, HO.dK.injEq, HO.tup.injEq, Option.isSome_some, true_and, and_true, Fw.v_m_bool, Fw.v_m_int, Fw.v_m_str, Fw.v_m_list, Fw.v_m_tuple, Fw.v_m_dict, Fw.v_flats, Bool.xor_true, Bool.xor_false, Bool.not_eq_true', decide_eq_false_iff_not, not_true_eq_false, not_false_eq_true, decide_true, decide_false, decide_eq_true_eq, ite_true, ite_false, Bool.not_true, Bool.not_false, Bool.false_eq_true, reduceCtorEq, Fw.isT_NoneType_bool, Fw.isT_NoneType_int, Fw.isT_NoneType_str, Fw.isT_NoneType_list, Fw.isT_NoneType_tuple, Fw.isT_NoneType_dict, Fw.isT_bool_bool, Fw.isT_bool_int, Fw.isT_bool_str, Fw.isT_bool_list, Fw.isT_bool_tuple, Fw.isT_bool_dict, Fw.isT_int_bool, Fw.isT_int_int, Fw.isT_int_str, Fw.isT_int_list, Fw.isT_int_tuple, Fw.isT_int_dict, Fw.isT_str_bool, Fw.isT_str_int, Fw.isT_str_str, Fw.isT_str_list, Fw.isT_str_tuple, Fw.isT_str_dict, Fw.isT_list_bool, Fw.isT_list_int, Fw.isT_list_str, Fw.isT_list_list, Fw.isT_list_tuple, Fw.isT_list_dict, Fw.isT_tuple_bool, Fw.isT_tuple_int, Fw.isT_tuple_str, Fw.isT_tuple_list, Fw.isT_tuple_tuple, Fw.isT_tuple_dict, Fw.isT_dict_bool, Fw.isT_dict_int, Fw.isT_dict_str, Fw.isT_dict_list, Fw.isT_dict_tuple, Fw.isT_dict_dict]
      refine go_dc (.inl (.inl hD1)) (fun p i H5 => Same H1 H5 ∧ SetAt H5 p (g.done.take i)) (fun p hp => ⟨same_new hp, .nil upd_same⟩) (fun p i H2 _ _ z => .inl (.inl (z.1 _ _ hD1))) ?_ ?_
      · rintro p i u H5 N hp hu ⟨sm, hP⟩ hN
        obtain ⟨f, hf, rfl⟩ := map_str_get hu
        obtain ⟨kh, d1, d2, _, d3⟩ := hP.put
        try simp -dsimp only [↓Fw.a_forL, ↓Fw.a_lcL, ↓Fw.a_dcL, ↓Fw.a_dcE, ↓Fw.a_forR, ↓Fw.a_disp, ↓Fw.a_pnil, ↓Fw.a_pcons, Fw.v_keys0, Fw.v_keys1, Fw.v_deq, ↓Fw.a_truD1, Fw.v_truD, ↓Fw.a_dqPop, ↓Fw.a_dqApp, Fw.v_isD, ↓Fw.a_dget2, ↓Fw.b_dsetd, ↓Fw.a_star, Fw.v_pop, Fw.v_reverse, ↓Fw.a_tru1, Fw.v_tru_r, ↓Fw.a_gseq, ↓Fw.b_gcons, ↓Fw.b_gnil, ↓Fw.a_seq, ↓Fw.a_next, ↓Fw.a_brk, ↓Fw.a_cont, ↓Fw.a_asg, ↓Fw.a_name, ↓Fw.a_gsub, ↓Fw.b_var, ↓Fw.a_c, ↓Fw.a_op, ↓Fw.a_un, ↓Fw.a_cons, ↓Fw.a_nil, ↓Fw.a_ret, ↓Fw.a_retN, ↓Fw.a_drop, ↓Fw.a_if, ↓Fw.b_test, ↓Fw.b_B, ↓Fw.a_and, ↓Fw.a_or, ↓Fw.a_not, ↓Fw.b_andV, ↓Fw.b_orV, ↓Fw.b_notV, ↓Fw.a_ifE, ↓Fw.a_fn, ↓Fw.a_fnX, ↓Fw.a_hold, ↓Fw.a_holdX, ↓Fw.a_ne_rr, ↓Fw.a_eq_rr, ↓Fw.a_at, ↓Fw.a_atS, ↓Fw.a_step, Fw.v_step, Fw.v_min2, Fw.v_max2, Fw.v_clear, ↓Fw.a_mt, ↓Fw.a_mtX, ↓Fw.a_mk, ↓Fw.a_cb, ↓Fw.a_lst, ↓Fw.a_tup, ↓Fw.a_chain, ↓Fw.a_dnew, ↓Fw.a_start, Fw.v_rU, Int.reduceNeg, Fw.v_add_ii, Fw.v_add_ss, Fw.v_sub_ii, Fw.v_mul_ii, Fw.v_div_ii, Fw.v_mod_ii, Fw.v_pow_ii, Fw.v_lt_ii, Fw.v_gt_ii, Fw.v_le_ii, Fw.v_ge_ii, Fw.v_le_ss, Fw.v_eqS_ii, Fw.v_eqS_ss, Fw.v_neS_ii, Fw.v_neS_ss, Fw.v_eq_ii, Fw.v_eq_ss, Fw.v_eq_bb, Fw.v_ne_ii, Fw.v_ne_ss, Fw.v_ne_bb, Fw.v_ne_tt, Fw.v_eq_tt, Fw.v_in_sc, Fw.v_ix_s, Fw.v_len_s, Fw.v_type, Fw.v_is, ↓Fw.a_bm, ↓Fw.a_bm0, ↓Fw.a_sl, ↓Fw.a_nopart, ↓Fw.a_part, Fw.v_sl_s, Fw.v_sl_r, Fw.v_app, Fw.v_add_rr, ↓Fw.b_ix_r, Fw.b_ix_r, Fw.v_in_r, Fw.v_set_r, Fw.v_len_r, Fw.v_list_r, Fw.v_listA, Fw.v_dictA, Fw.v_int_i, Fw.v_int_b, Fw.v_key_i, Fw.v_key_s, Fw.v_lst, Fw.v_tup, Fw.v_dic, Fw.v_ty_r, Fw.v_ty_s, Fw.v_ty_i, Fw.v_ty_b, Fw.v_ty_n, Fw.v_tyL, Fw.v_same, Fw.v_old, Fw.v_ne, Fw.v_upd, Fw.v_flat_s, Fw.v_inStrs, ↓Fw.a_yes, Fw.v_wipe0, Fw.v_wipe1, Fw.cx_K, Int.reduceToNat, List.length_replicate, Nat.sub_self, Nat.reduceSub, Nat.reduceAdd, List.replicate_zero, List.replicate_succ, List.append_nil, List.length_cons, List.length_nil, List.map_cons, List.map_nil, List.cons_append, List.nil_append, List.getElem?_cons_zero, List.getElem?_cons_succ, List.set_cons_zero, List.set_cons_succ, Option.some.injEq, V.int.injEq, V.bl.injEq, V.ref.injEq, V.str.injEq, exists_eq_left', exists_eq_left, exists_eq_right, exists_and_left, HO.lst.injEq, HO.dK.injEq, HO.tup.injEq, Option.isSome_some, true_and, and_true, Fw.v_m_bool, Fw.v_m_int, Fw.v_m_str, Fw.v_m_list, Fw.v_m_tuple, Fw.v_m_dict, Fw.v_flats, Bool.xor_true, Bool.xor_false, Bool.not_eq_true', decide_eq_false_iff_not, not_true_eq_false, not_false_eq_true, decide_true, decide_false, decide_eq_true_eq, ite_true, ite_false, Bool.not_true, Bool.not_false, Bool.false_eq_true, reduceCtorEq, Fw.isT_NoneType_bool, Fw.isT_NoneType_int, Fw.isT_NoneType_str, Fw.isT_NoneType_list, Fw.isT_NoneType_tuple, Fw.isT_NoneType_dict, Fw.isT_bool_bool, Fw.isT_bool_int, Fw.isT_bool_str, Fw.isT_bool_list, Fw.isT_bool_tuple, Fw.isT_bool_dict, Fw.isT_int_bool, Fw.isT_int_int, Fw.isT_int_str, Fw.isT_int_list, Fw.isT_int_tuple, Fw.isT_int_dict, Fw.isT_str_bool, Fw.isT_str_int, Fw.isT_str_str, Fw.isT_str_list, Fw.isT_str_tuple, Fw.isT_str_dict, Fw.isT_list_bool, Fw.isT_list_int, Fw.isT_list_str, Fw.isT_list_list, Fw.isT_list_tuple, Fw.isT_list_dict, Fw.isT_tuple_bool, Fw.isT_tuple_int, Fw.isT_tuple_str, Fw.isT_tuple_list, Fw.isT_tuple_tuple, Fw.isT_tuple_dict, Fw.isT_dict_bool, Fw.isT_dict_int, Fw.isT_dict_str, Fw.isT_dict_list, Fw.isT_dict_tuple, Fw.isT_dict_dict]
        refine ⟨kh, .inr f, rfl, d1, ?_, hN _ ⟨same_mut sm hp, ?_⟩⟩
        · exact Nat.lt_of_le_of_lt (Nat.le_trans d2 (Nat.le_trans (List.length_take_le' _ _) lD)) (by decide)
        · rw [take_get hf]
          exact d3 _ _ _
      rintro pd H2 hpd ⟨sm2, hS2⟩
      rw [List.length_map, List.take_length] at hS2
      have sm02 : Same H H2 := Same.trans sm1 sm2
      obtain ⟨k1, a1, a2, a3⟩ := hS1.same sm2
      obtain ⟨k2, b1, b2, b3⟩ := hS2
      have hN2 := hN_.same sm02
      try simp -dsimp only [↓Fw.a_forL, ↓Fw.a_lcL, ↓Fw.a_dcL, ↓Fw.a_dcE, ↓Fw.a_forR, ↓Fw.a_disp, ↓Fw.a_pnil, ↓Fw.a_pcons, Fw.v_keys0, Fw.v_keys1, Fw.v_deq, ↓Fw.a_truD1, Fw.v_truD, ↓Fw.a_dqPop, ↓Fw.a_dqApp, Fw.v_isD, ↓Fw.a_dget2, ↓Fw.b_dsetd, ↓Fw.a_star, Fw.v_pop, Fw.v_reverse, ↓Fw.a_tru1, Fw.v_tru_r, ↓Fw.a_gseq, ↓Fw.b_gcons, ↓Fw.b_gnil, ↓Fw.a_seq, ↓Fw.a_next, ↓Fw.a_brk, ↓Fw.a_cont, ↓Fw.a_asg, ↓Fw.a_name, ↓Fw.a_gsub, ↓Fw.b_var, ↓Fw.a_c, ↓Fw.a_op, ↓Fw.a_un, ↓Fw.a_cons, ↓Fw.a_nil, ↓Fw.a_ret, ↓Fw.a_retN, ↓Fw.a_drop, ↓Fw.a_if, ↓Fw.b_test, ↓Fw.b_B, ↓Fw.a_and, ↓Fw.a_or, ↓Fw.a_not, ↓Fw.b_andV, ↓Fw.b_orV, ↓Fw.b_notV, ↓Fw.a_ifE, ↓Fw.a_fn, ↓Fw.a_fnX, ↓Fw.a_hold, ↓Fw.a_holdX, ↓Fw.a_ne_rr, ↓Fw.a_eq_rr, ↓Fw.a_at, ↓Fw.a_atS, ↓Fw.a_step, Fw.v_step, Fw.v_min2, Fw.v_max2, Fw.v_clear, ↓Fw.a_mt, ↓Fw.a_mtX, ↓Fw.a_mk, ↓Fw.a_cb, ↓Fw.a_lst, ↓Fw.a_tup, ↓Fw.a_chain, ↓Fw.a_dnew, ↓Fw.a_start, Fw.v_rU, Int.reduceNeg, Fw.v_add_ii, Fw.v_add_ss, Fw.v_sub_ii, Fw.v_mul_ii, Fw.v_div_ii, Fw.v_mod_ii, Fw.v_pow_ii, Fw.v_lt_ii, Fw.v_gt_ii, Fw.v_le_ii, Fw.v_ge_ii, Fw.v_le_ss, Fw.v_eqS_ii, Fw.v_eqS_ss, Fw.v_neS_ii, Fw.v_neS_ss, Fw.v_eq_ii, Fw.v_eq_ss, Fw.v_eq_bb, Fw.v_ne_ii, Fw.v_ne_ss, Fw.v_ne_bb, Fw.v_ne_tt, Fw.v_eq_tt, Fw.v_in_sc, Fw.v_ix_s, Fw.v_len_s, Fw.v_type, Fw.v_is, ↓Fw.a_bm, ↓Fw.a_bm0, ↓Fw.a_sl, ↓Fw.a_nopart, ↓Fw.a_part, Fw.v_sl_s, Fw.v_sl_r, Fw.v_app, Fw.v_add_rr, ↓Fw.b_ix_r, Fw.b_ix_r, Fw.v_in_r, Fw.v_set_r, Fw.v_len_r, Fw.v_list_r, Fw.v_listA, Fw.v_dictA, Fw.v_int_i, Fw.v_int_b, Fw.v_key_i, Fw.v_key_s, Fw.v_lst, Fw.v_tup, Fw.v_dic, Fw.v_ty_r, Fw.v_ty_s, Fw.v_ty_i, Fw.v_ty_b, Fw.v_ty_n, Fw.v_tyL, Fw.v_same, Fw.v_old, Fw.v_ne, Fw.v_upd, Fw.v_flat_s, Fw.v_inStrs, ↓Fw.a_yes, Fw.v_wipe0, Fw.v_wipe1, Fw.cx_K, Int.reduceToNat, List.length_replicate, Nat.sub_self, Nat.reduceSub, Nat.reduceAdd, List.replicate_zero, List.replicate_succ, List.append_nil, List.length_cons, List.length_nil, List.map_cons, List.map_nil, List.cons_append, List.nil_append, List.getElem?_cons_zero, List.getElem?_cons_succ, List.set_cons_zero, List.set_cons_succ, Option.some.injEq, V.int.injEq, V.bl.injEq, V.ref.injEq, V.str.injEq, exists_eq_left', exists_eq_left, exists_eq_right, exists_and_left, HO.lst.injEq, HO.dK.injEq, HO.tup.injEq, Option.isSome_some, true_and, and_true, Fw.v_m_bool, Fw.v_m_int, Fw.v_m_str, Fw.v_m_list, Fw.v_m_tuple, Fw.v_m_dict, Fw.v_flats, Bool.xor_true, Bool.xor_false, Bool.not_eq_true', decide_eq_false_iff_not, not_true_eq_false, not_false_eq_true, decide_true, decide_false, decide_eq_true_eq, ite_true, ite_false, Bool.not_true, Bool.not_false, Bool.false_eq_true, reduceCtorEq, Fw.isT_NoneType_bool, Fw.isT_NoneType_int, Fw.isT_NoneType_str, Fw.isT_NoneType_list, Fw.isT_NoneType_tuple, Fw.isT_NoneType_dict, Fw.isT_bool_bool, Fw.isT_bool_int, Fw.isT_bool_str, Fw.isT_bool_list, Fw.isT_bool_tuple, Fw.isT_bool_dict, Fw.isT_int_bool, Fw.isT_int_int, Fw.isT_int_str, Fw.isT_int_list, Fw.isT_int_tuple, Fw.isT_int_dict, Fw.isT_str_bool, Fw.isT_str_int, Fw.isT_str_str, Fw.isT_str_list, Fw.isT_str_tuple, Fw.isT_str_dict, Fw.isT_list_bool, Fw.isT_list_int, Fw.isT_list_str, Fw.isT_list_list, Fw.isT_list_tuple, Fw.isT_list_dict, Fw.isT_tuple_bool, Fw.isT_tuple_int, Fw.isT_tuple_str, Fw.isT_tuple_list, Fw.isT_tuple_tuple, Fw.isT_tuple_dict, Fw.isT_dict_bool, Fw.isT_dict_int, Fw.isT_dict_str, Fw.isT_dict_list, Fw.isT_dict_tuple, Fw.isT_dict_dict]
      refine fun pr hpr => ⟨by decide, by decide, fun pl hpl pw hpw => ?_⟩
      have e1 : mergeK [] [((.inr x : Key), V.non)] = sK [x] (fun _ => .non) := rfl
      rw [e1] at hpl hpw ⊢
      obtain ⟨n1, hpl2⟩ := ne_of_pair hpl
      obtain ⟨n2, hpw2⟩ := ne_of_pair hpw
      obtain ⟨n3, hpw3⟩ := ne_of_pair hpw2
      have sm3 : Same H2 (upd (upd (upd H2 pr (.dK (sK [x] fun _ => .non))) pl (.lst [.str x])) pw (DqO pw [.str x])) := same_mut (same_mut (same_new hpr) hpl2) hpw3
      have hR3 : upd (upd (upd H2 pr (.dK (sK [x] fun _ => .non))) pl (.lst [.str x])) pw (DqO pw [.str x]) pr = some (.dK (sK [x] fun _ => .non)) := by rw [upd_ne (Ne.symm n3), upd_ne (Ne.symm n1), upd_same]
      have hQ3 : upd (upd (upd H2 pr (.dK (sK [x] fun _ => .non))) pl (.lst [.str x])) pw (DqO pw [.str x]) pw = some (DqO pw ([x].map V.str)) := upd_same
      generalize upd (upd (upd H2 pr (.dK (sK [x] fun _ => .non))) pl (.lst [.str x])) pw (DqO pw [.str x]) = H3 at sm3 hR3 hQ3 ⊢
      refine ⟨fun m σ8 H8 => Same H2 H8 ∧ ∃ (qs ks : List Str) (f : Str → V) (v5 v9 v10 : Option V), Bfs g x qs ks f ∧ x ∈ ks ∧ qs.length ≤ ks.length ∧ H8 pr = some (.dK (sK ks f)) ∧ H8 pw = some (DqO pw (qs.map V.str)) ∧ m = qs.length + (481 - ks.length) ∧
          σ8 = [some (.str x), some (.ref a), some (.ref d), some (.ref b), some (.ref pf), v5, some (.ref pd), some (.ref pr), some (.ref pw), v9, v10], ⟨_, sm3, [x], [x], _, none, none, none, Bfs.start c, List.mem_cons_self, Nat.le_refl _, hR3, hQ3, rfl, rfl⟩, ?_⟩
      rintro m σ8 H8 ⟨sm8, qs, ks, f, v5, v9, v10, bf, xk, lq, hR, hQ, rfl, rfl⟩
      have lk := bf.len ok
      try simp -dsimp only [↓Fw.a_forL, ↓Fw.a_lcL, ↓Fw.a_dcL, ↓Fw.a_dcE, ↓Fw.a_forR, ↓Fw.a_disp, ↓Fw.a_pnil, ↓Fw.a_pcons, Fw.v_keys0, Fw.v_keys1, Fw.v_deq, ↓Fw.a_truD1, Fw.v_truD, ↓Fw.a_dqPop, ↓Fw.a_dqApp, Fw.v_isD, ↓Fw.a_dget2, ↓Fw.b_dsetd, ↓Fw.a_star, Fw.v_pop, Fw.v_reverse, ↓Fw.a_tru1, Fw.v_tru_r, ↓Fw.a_gseq, ↓Fw.b_gcons, ↓Fw.b_gnil, ↓Fw.a_seq, ↓Fw.a_next, ↓Fw.a_brk, ↓Fw.a_cont, ↓Fw.a_asg, ↓Fw.a_name, ↓Fw.a_gsub, ↓Fw.b_var, ↓Fw.a_c, ↓Fw.a_op, ↓Fw.a_un, ↓Fw.a_cons, ↓Fw.a_nil, ↓Fw.a_ret, ↓Fw.a_retN, ↓Fw.a_drop, ↓Fw.a_if, ↓Fw.b_test, ↓Fw.b_B, ↓Fw.a_and, ↓Fw.a_or, ↓Fw.a_not, ↓Fw.b_andV, ↓Fw.b_orV, ↓Fw.b_notV, ↓Fw.a_ifE, ↓Fw.a_fn, ↓Fw.a_fnX, ↓Fw.a_hold, ↓Fw.a_holdX, ↓Fw.a_ne_rr, ↓Fw.a_eq_rr, ↓Fw.a_at, ↓Fw.a_atS, ↓Fw.a_step, Fw.v_step, Fw.v_min2, Fw.v_max2, Fw.v_clear, ↓Fw.a_mt, ↓Fw.a_mtX, ↓Fw.a_mk, ↓Fw.a_cb, ↓Fw.a_lst, ↓Fw.a_tup, ↓Fw.a_chain, ↓Fw.a_dnew, ↓Fw.a_start, Fw.v_rU, Int.reduceNeg, Fw.v_add_ii, Fw.v_add_ss, Fw.v_sub_ii, Fw.v_mul_ii, Fw.v_div_ii, Fw.v_mod_ii, Fw.v_pow_ii, Fw.v_lt_ii, Fw.v_gt_ii, Fw.v_le_ii, Fw.v_ge_ii, Fw.v_le_ss, Fw.v_eqS_ii, Fw.v_eqS_ss, Fw.v_neS_ii, Fw.v_neS_ss, Fw.v_eq_ii, Fw.v_eq_ss, Fw.v_eq_bb, Fw.v_ne_ii, Fw.v_ne_ss, Fw.v_ne_bb, Fw.v_ne_tt, Fw.v_eq_tt, Fw.v_in_sc, Fw.v_ix_s, Fw.v_len_s, Fw.v_type, Fw.v_is, ↓Fw.a_bm, ↓Fw.a_bm0, ↓Fw.a_sl, ↓Fw.a_nopart, ↓Fw.a_part, Fw.v_sl_s, Fw.v_sl_r, Fw.v_app, Fw.v_add_rr, ↓Fw.b_ix_r, Fw.b_ix_r, Fw.v_in_r, Fw.v_set_r, Fw.v_len_r, Fw.v_list_r, Fw.v_listA, Fw.v_dictA, Fw.v_int_i, Fw.v_int_b, Fw.v_key_i, Fw.v_key_s, Fw.v_lst, Fw.v_tup, Fw.v_dic, Fw.v_ty_r, Fw.v_ty_s, Fw.v_ty_i, Fw.v_ty_b, Fw.v_ty_n, Fw.v_tyL, Fw.v_same, Fw.v_old, Fw.v_ne, Fw.v_upd, Fw.v_flat_s, Fw.v_inStrs, ↓Fw.a_yes, Fw.v_wipe0, Fw.v_wipe1, Fw.cx_K, Int.reduceToNat, List.length_replicate, Nat.sub_self, Nat.reduceSub, Nat.reduceAdd, List.replicate_zero, List.replicate_succ, List.append_nil, List.length_cons, List.length_nil, List.map_cons, List.map_nil, List.cons_append, List.nil_append, List.getElem?_cons_zero, List.getElem?_cons_succ, List.set_cons_zero, List.set_cons_succ, Option.some.injEq, V.int.injEq, V.bl.injEq, V.ref.injEq, V.str.injEq, exists_eq_left', exists_eq_left, exists_eq_right, exists_and_left, HO.lst.injEq, HO.dK.injEq, HO.tup.injEq, Option.isSome_some, true_and, and_true, Fw.v_m_bool, Fw.v_m_int, Fw.v_m_str, Fw.v_m_list, Fw.v_m_tuple, Fw.v_m_dict, Fw.v_flats, Bool.xor_true, Bool.xor_false, Bool.not_eq_true', decide_eq_false_iff_not, not_true_eq_false, not_false_eq_true, decide_true, decide_false, decide_eq_true_eq, ite_true, ite_false, Bool.not_true, Bool.not_false, Bool.false_eq_true, reduceCtorEq, Fw.isT_NoneType_bool, Fw.isT_NoneType_int, Fw.isT_NoneType_str, Fw.isT_NoneType_list, Fw.isT_NoneType_tuple, Fw.isT_NoneType_dict, Fw.isT_bool_bool, Fw.isT_bool_int, Fw.isT_bool_str, Fw.isT_bool_list, Fw.isT_bool_tuple, Fw.isT_bool_dict, Fw.isT_int_bool, Fw.isT_int_int, Fw.isT_int_str, Fw.isT_int_list, Fw.isT_int_tuple, Fw.isT_int_dict, Fw.isT_str_bool, Fw.isT_str_int, Fw.isT_str_str, Fw.isT_str_list, Fw.isT_str_tuple, Fw.isT_str_dict, Fw.isT_list_bool, Fw.isT_list_int, Fw.isT_list_str, Fw.isT_list_list, Fw.isT_list_tuple, Fw.isT_list_dict, Fw.isT_tuple_bool, Fw.isT_tuple_int, Fw.isT_tuple_str, Fw.isT_tuple_list, Fw.isT_tuple_tuple, Fw.isT_tuple_dict, Fw.isT_dict_bool, Fw.isT_dict_int, Fw.isT_dict_str, Fw.isT_dict_list, Fw.isT_dict_tuple, Fw.isT_dict_dict]
      refine ⟨_, hQ, ?_⟩
      cases qs with
      | nil =>
        try simp -dsimp only [↓Fw.a_forL, ↓Fw.a_lcL, ↓Fw.a_dcL, ↓Fw.a_dcE, ↓Fw.a_forR, ↓Fw.a_disp, ↓Fw.a_pnil, ↓Fw.a_pcons, Fw.v_keys0, Fw.v_keys1, Fw.v_deq, ↓Fw.a_truD1, Fw.v_truD, ↓Fw.a_dqPop, ↓Fw.a_dqApp, Fw.v_isD, ↓Fw.a_dget2, ↓Fw.b_dsetd, ↓Fw.a_star, Fw.v_pop, Fw.v_reverse, ↓Fw.a_tru1, Fw.v_tru_r, ↓Fw.a_gseq, ↓Fw.b_gcons, ↓Fw.b_gnil, ↓Fw.a_seq, ↓Fw.a_next, ↓Fw.a_brk, ↓Fw.a_cont, ↓Fw.a_asg, ↓Fw.a_name, ↓Fw.a_gsub, ↓Fw.b_var, ↓Fw.a_c, ↓Fw.a_op, ↓Fw.a_un, ↓Fw.a_cons, ↓Fw.a_nil, ↓Fw.a_ret, ↓Fw.a_retN, ↓Fw.a_drop, ↓Fw.a_if, ↓Fw.b_test, ↓Fw.b_B, ↓Fw.a_and, ↓Fw.a_or, ↓Fw.a_not, ↓Fw.b_andV, ↓Fw.b_orV, ↓Fw.b_notV, ↓Fw.a_ifE, ↓Fw.a_fn, ↓Fw.a_fnX, ↓Fw.a_hold, ↓Fw.a_holdX, ↓Fw.a_ne_rr, ↓Fw.a_eq_rr, ↓Fw.a_at, ↓Fw.a_atS, ↓Fw.a_step, Fw.v_step, Fw.v_min2, Fw.v_max2, Fw.v_clear, ↓Fw.a_mt, ↓Fw.a_mtX, ↓Fw.a_mk, ↓Fw.a_cb, ↓Fw.a_lst, ↓Fw.a_tup, ↓Fw.a_chain, ↓Fw.a_dnew, ↓Fw.a_start, Fw.v_rU, Int.reduceNeg, Fw.v_add_ii, Fw.v_add_ss, Fw.v_sub_ii, Fw.v_mul_ii, Fw.v_div_ii, Fw.v_mod_ii, Fw.v_pow_ii, Fw.v_lt_ii, Fw.v_gt_ii, Fw.v_le_ii, Fw.v_ge_ii, Fw.v_le_ss, Fw.v_eqS_ii, Fw.v_eqS_ss, Fw.v_neS_ii, Fw.v_neS_ss, Fw.v_eq_ii, Fw.v_eq_ss, Fw.v_eq_bb, Fw.v_ne_ii, Fw.v_ne_ss, Fw.v_ne_bb, Fw.v_ne_tt, Fw.v_eq_tt, Fw.v_in_sc, Fw.v_ix_s, Fw.v_len_s, Fw.v_type, Fw.v_is, ↓Fw.a_bm, ↓Fw.a_bm0, ↓Fw.a_sl, ↓Fw.a_nopart, ↓Fw.a_part, Fw.v_sl_s, Fw.v_sl_r, Fw.v_app, Fw.v_add_rr, ↓Fw.b_ix_r, Fw.b_ix_r, Fw.v_in_r, Fw.v_set_r, Fw.v_len_r, Fw.v_list_r, Fw.v_listA, Fw.v_dictA, Fw.v_int_i, Fw.v_int_b, Fw.v_key_i, Fw.v_key_s, Fw.v_lst, Fw.v_tup, Fw.v_dic, Fw.v_ty_r, Fw.v_ty_s, Fw.v_ty_i, Fw.v_ty_b, Fw.v_ty_n, Fw.v_tyL, Fw.v_same, Fw.v_old, Fw.v_ne, Fw.v_upd, Fw.v_flat_s, Fw.v_inStrs, ↓Fw.a_yes, Fw.v_wipe0, Fw.v_wipe1, Fw.cx_K, Int.reduceToNat, List.length_replicate, Nat.sub_self, Nat.reduceSub, Nat.reduceAdd, List.replicate_zero, List.replicate_succ, List.append_nil, List.length_cons, List.length_nil, List.map_cons, List.map_nil, List.cons_append, List.nil_append, List.getElem?_cons_zero, List.getElem?_cons_succ, List.set_cons_zero, List.set_cons_succ, Option.some.injEq, V.int.injEq, V.bl.injEq, V.ref.injEq, V.str.injEq, exists_eq_left', exists_eq_left, exists_eq_right, exists_and_left, HO.lst.injEq, HO.dK.injEq, HO.tup.injEq, Option.isSome_some, true_and, and_true, Fw.v_m_bool, Fw.v_m_int, Fw.v_m_str, Fw.v_m_list, Fw.v_m_tuple, Fw.v_m_dict, Fw.v_flats, Bool.xor_true, Bool.xor_false, Bool.not_eq_true', decide_eq_false_iff_not, not_true_eq_false, not_false_eq_true, decide_true, decide_false, decide_eq_true_eq, ite_true, ite_false, Bool.not_true, Bool.not_false, Bool.false_eq_true, reduceCtorEq, Fw.isT_NoneType_bool, Fw.isT_NoneType_int, Fw.isT_NoneType_str, Fw.isT_NoneType_list, Fw.isT_NoneType_tuple, Fw.isT_NoneType_dict, Fw.isT_bool_bool, Fw.isT_bool_int, Fw.isT_bool_str, Fw.isT_bool_list, Fw.isT_bool_tuple, Fw.isT_bool_dict, Fw.isT_int_bool, Fw.isT_int_int, Fw.isT_int_str, Fw.isT_int_list, Fw.isT_int_tuple, Fw.isT_int_dict, Fw.isT_str_bool, Fw.isT_str_int, Fw.isT_str_str, Fw.isT_str_list, Fw.isT_str_tuple, Fw.isT_str_dict, Fw.isT_list_bool, Fw.isT_list_int, Fw.isT_list_str, Fw.isT_list_list, Fw.isT_list_tuple, Fw.isT_list_dict, Fw.isT_tuple_bool, Fw.isT_tuple_int, Fw.isT_tuple_str, Fw.isT_tuple_list, Fw.isT_tuple_tuple, Fw.isT_tuple_dict, Fw.isT_dict_bool, Fw.isT_dict_int, Fw.isT_dict_str, Fw.isT_dict_list, Fw.isT_dict_tuple, Fw.isT_dict_dict]
        refine ⟨by decide, fun p hp => ?_⟩
        exact q p _ (same_mut (Same.trans sm02 sm8) (same_none (Same.trans sm02 sm8) hp)) (same_none (Same.trans sm02 sm8) hp) (by rw [upd_same, bf.none_ xk]; rfl)
      | cons y qs =>
        have hF8 := sm8 _ _ a1
        try simp -dsimp only [↓Fw.a_forL, ↓Fw.a_lcL, ↓Fw.a_dcL, ↓Fw.a_dcE, ↓Fw.a_forR, ↓Fw.a_disp, ↓Fw.a_pnil, ↓Fw.a_pcons, Fw.v_keys0, Fw.v_keys1, Fw.v_deq, ↓Fw.a_truD1, Fw.v_truD, ↓Fw.a_dqPop, ↓Fw.a_dqApp, Fw.v_isD, ↓Fw.a_dget2, ↓Fw.b_dsetd, ↓Fw.a_star, Fw.v_pop, Fw.v_reverse, ↓Fw.a_tru1, Fw.v_tru_r, ↓Fw.a_gseq, ↓Fw.b_gcons, ↓Fw.b_gnil, ↓Fw.a_seq, ↓Fw.a_next, ↓Fw.a_brk, ↓Fw.a_cont, ↓Fw.a_asg, ↓Fw.a_name, ↓Fw.a_gsub, ↓Fw.b_var, ↓Fw.a_c, ↓Fw.a_op, ↓Fw.a_un, ↓Fw.a_cons, ↓Fw.a_nil, ↓Fw.a_ret, ↓Fw.a_retN, ↓Fw.a_drop, ↓Fw.a_if, ↓Fw.b_test, ↓Fw.b_B, ↓Fw.a_and, ↓Fw.a_or, ↓Fw.a_not, ↓Fw.b_andV, ↓Fw.b_orV, ↓Fw.b_notV, ↓Fw.a_ifE, ↓Fw.a_fn, ↓Fw.a_fnX, ↓Fw.a_hold, ↓Fw.a_holdX, ↓Fw.a_ne_rr, ↓Fw.a_eq_rr, ↓Fw.a_at, ↓Fw.a_atS, ↓Fw.a_step, Fw.v_step, Fw.v_min2, Fw.v_max2, Fw.v_clear, ↓Fw.a_mt, ↓Fw.a_mtX, ↓Fw.a_mk, ↓Fw.a_cb, ↓Fw.a_lst, ↓Fw.a_tup, ↓Fw.a_chain, ↓Fw.a_dnew, ↓Fw.a_start, Fw.v_rU, Int.reduceNeg, Fw.v_add_ii, Fw.v_add_ss, Fw.v_sub_ii, Fw.v_mul_ii, Fw.v_div_ii, Fw.v_mod_ii, Fw.v_pow_ii, Fw.v_lt_ii, Fw.v_gt_ii, Fw.v_le_ii, Fw.v_ge_ii, Fw.v_le_ss, Fw.v_eqS_ii, Fw.v_eqS_ss, Fw.v_neS_ii, Fw.v_neS_ss, Fw.v_eq_ii, Fw.v_eq_ss, Fw.v_eq_bb, Fw.v_ne_ii, Fw.v_ne_ss, Fw.v_ne_bb, Fw.v_ne_tt, Fw.v_eq_tt, Fw.v_in_sc, Fw.v_ix_s, Fw.v_len_s, Fw.v_type, Fw.v_is, ↓Fw.a_bm, ↓Fw.a_bm0, ↓Fw.a_sl, ↓Fw.a_nopart, ↓Fw.a_part, Fw.v_sl_s, Fw.v_sl_r, Fw.v_app, Fw.v_add_rr, ↓Fw.b_ix_r, Fw.b_ix_r, Fw.v_in_r, Fw.v_set_r, Fw.v_len_r, Fw.v_list_r, Fw.v_listA, Fw.v_dictA, Fw.v_int_i, Fw.v_int_b, Fw.v_key_i, Fw.v_key_s, Fw.v_lst, Fw.v_tup, Fw.v_dic, Fw.v_ty_r, Fw.v_ty_s, Fw.v_ty_i, Fw.v_ty_b, Fw.v_ty_n, Fw.v_tyL, Fw.v_same, Fw.v_old, Fw.v_ne, Fw.v_upd, Fw.v_flat_s, Fw.v_inStrs, ↓Fw.a_yes, Fw.v_wipe0, Fw.v_wipe1, Fw.cx_K, Int.reduceToNat, List.length_replicate, Nat.sub_self, Nat.reduceSub, Nat.reduceAdd, List.replicate_zero, List.replicate_succ, List.append_nil, List.length_cons, List.length_nil, List.map_cons, List.map_nil, List.cons_append, List.nil_append, List.getElem?_cons_zero, List.getElem?_cons_succ, List.set_cons_zero, List.set_cons_succ, Option.some.injEq, V.int.injEq, V.bl.injEq, V.ref.injEq, V.str.injEq, exists_eq_left', exists_eq_left, exists_eq_right, exists_and_left, HO.lst.injEq, HO.dK.injEq, HO.tup.injEq, Option.isSome_some, true_and, and_true, Fw.v_m_bool, Fw.v_m_int, Fw.v_m_str, Fw.v_m_list, Fw.v_m_tuple, Fw.v_m_dict, Fw.v_flats, Bool.xor_true, Bool.xor_false, Bool.not_eq_true', decide_eq_false_iff_not, not_true_eq_false, not_false_eq_true, decide_true, decide_false, decide_eq_true_eq, ite_true, ite_false, Bool.not_true, Bool.not_false, Bool.false_eq_true, reduceCtorEq, Fw.isT_NoneType_bool, Fw.isT_NoneType_int, Fw.isT_NoneType_str, Fw.isT_NoneType_list, Fw.isT_NoneType_tuple, Fw.isT_NoneType_dict, Fw.isT_bool_bool, Fw.isT_bool_int, Fw.isT_bool_str, Fw.isT_bool_list, Fw.isT_bool_tuple, Fw.isT_bool_dict, Fw.isT_int_bool, Fw.isT_int_int, Fw.isT_int_str, Fw.isT_int_list, Fw.isT_int_tuple, Fw.isT_int_dict, Fw.isT_str_bool, Fw.isT_str_int, Fw.isT_str_str, Fw.isT_str_list, Fw.isT_str_tuple, Fw.isT_str_dict, Fw.isT_list_bool, Fw.isT_list_int, Fw.isT_list_str, Fw.isT_list_list, Fw.isT_list_tuple, Fw.isT_list_dict, Fw.isT_tuple_bool, Fw.isT_tuple_int, Fw.isT_tuple_str, Fw.isT_tuple_list, Fw.isT_tuple_tuple, Fw.isT_tuple_dict, Fw.isT_dict_bool, Fw.isT_dict_int, Fw.isT_dict_str, Fw.isT_dict_list, Fw.isT_dict_tuple, Fw.isT_dict_dict, List.isEmpty_cons]
        refine ⟨_, fun σ' H' z => z, V.str y, qs.map V.str, hQ, ?_⟩
        have rw_ : pr ≠ pw := fun z => by rw [z, hQ] at hR; cases hR
        have fw : pf ≠ pw := fun z => by rw [z, hQ] at hF8; cases hF8
        have hF9 : ∀ o, upd H8 pw o pf = some (.dK k1) := fun o => by rw [upd_ne fw]; exact hF8
        try simp -dsimp only [↓Fw.a_forL, ↓Fw.a_lcL, ↓Fw.a_dcL, ↓Fw.a_dcE, ↓Fw.a_forR, ↓Fw.a_disp, ↓Fw.a_pnil, ↓Fw.a_pcons, Fw.v_keys0, Fw.v_keys1, Fw.v_deq, ↓Fw.a_truD1, Fw.v_truD, ↓Fw.a_dqPop, ↓Fw.a_dqApp, Fw.v_isD, ↓Fw.a_dget2, ↓Fw.b_dsetd, ↓Fw.a_star, Fw.v_pop, Fw.v_reverse, ↓Fw.a_tru1, Fw.v_tru_r, ↓Fw.a_gseq, ↓Fw.b_gcons, ↓Fw.b_gnil, ↓Fw.a_seq, ↓Fw.a_next, ↓Fw.a_brk, ↓Fw.a_cont, ↓Fw.a_asg, ↓Fw.a_name, ↓Fw.a_gsub, ↓Fw.b_var, ↓Fw.a_c, ↓Fw.a_op, ↓Fw.a_un, ↓Fw.a_cons, ↓Fw.a_nil, ↓Fw.a_ret, ↓Fw.a_retN, ↓Fw.a_drop, ↓Fw.a_if, ↓Fw.b_test, ↓Fw.b_B, ↓Fw.a_and, ↓Fw.a_or, ↓Fw.a_not, ↓Fw.b_andV, ↓Fw.b_orV, ↓Fw.b_notV, ↓Fw.a_ifE, ↓Fw.a_fn, ↓Fw.a_fnX, ↓Fw.a_hold, ↓Fw.a_holdX, ↓Fw.a_ne_rr, ↓Fw.a_eq_rr, ↓Fw.a_at, ↓Fw.a_atS, ↓Fw.a_step, Fw.v_step, Fw.v_min2, Fw.v_max2, Fw.v_clear, ↓Fw.a_mt, ↓Fw.a_mtX, ↓Fw.a_mk, ↓Fw.a_cb, ↓Fw.a_lst, ↓Fw.a_tup, ↓Fw.a_chain, ↓Fw.a_dnew, ↓Fw.a_start, Fw.v_rU, Int.reduceNeg, Fw.v_add_ii, Fw.v_add_ss, Fw.v_sub_ii, Fw.v_mul_ii, Fw.v_div_ii, Fw.v_mod_ii, Fw.v_pow_ii, Fw.v_lt_ii, Fw.v_gt_ii, Fw.v_le_ii, Fw.v_ge_ii, Fw.v_le_ss, Fw.v_eqS_ii, Fw.v_eqS_ss, Fw.v_neS_ii, Fw.v_neS_ss, Fw.v_eq_ii, Fw.v_eq_ss, Fw.v_eq_bb, Fw.v_ne_ii, Fw.v_ne_ss, Fw.v_ne_bb, Fw.v_ne_tt, Fw.v_eq_tt, Fw.v_in_sc, Fw.v_ix_s, Fw.v_len_s, Fw.v_type, Fw.v_is, ↓Fw.a_bm, ↓Fw.a_bm0, ↓Fw.a_sl, ↓Fw.a_nopart, ↓Fw.a_part, Fw.v_sl_s, Fw.v_sl_r, Fw.v_app, Fw.v_add_rr, ↓Fw.b_ix_r, Fw.b_ix_r, Fw.v_in_r, Fw.v_set_r, Fw.v_len_r, Fw.v_list_r, Fw.v_listA, Fw.v_dictA, Fw.v_int_i, Fw.v_int_b, Fw.v_key_i, Fw.v_key_s, Fw.v_lst, Fw.v_tup, Fw.v_dic, Fw.v_ty_r, Fw.v_ty_s, Fw.v_ty_i, Fw.v_ty_b, Fw.v_ty_n, Fw.v_tyL, Fw.v_same, Fw.v_old, Fw.v_ne, Fw.v_upd, Fw.v_flat_s, Fw.v_inStrs, ↓Fw.a_yes, Fw.v_wipe0, Fw.v_wipe1, Fw.cx_K, Int.reduceToNat, List.length_replicate, Nat.sub_self, Nat.reduceSub, Nat.reduceAdd, List.replicate_zero, List.replicate_succ, List.append_nil, List.length_cons, List.length_nil, List.map_cons, List.map_nil, List.cons_append, List.nil_append, List.getElem?_cons_zero, List.getElem?_cons_succ, List.set_cons_zero, List.set_cons_succ, Option.some.injEq, V.int.injEq, V.bl.injEq, V.ref.injEq, V.str.injEq, exists_eq_left', exists_eq_left, exists_eq_right, exists_and_left, HO.lst.injEq, HO.dK.injEq, HO.tup.injEq, Option.isSome_some, true_and, and_true, Fw.v_m_bool, Fw.v_m_int, Fw.v_m_str, Fw.v_m_list, Fw.v_m_tuple, Fw.v_m_dict, Fw.v_flats, Bool.xor_true, Bool.xor_false, Bool.not_eq_true', decide_eq_false_iff_not, not_true_eq_false, not_false_eq_true, decide_true, decide_false, decide_eq_true_eq, ite_true, ite_false, Bool.not_true, Bool.not_false, Bool.false_eq_true, reduceCtorEq, Fw.isT_NoneType_bool, Fw.isT_NoneType_int, Fw.isT_NoneType_str, Fw.isT_NoneType_list, Fw.isT_NoneType_tuple, Fw.isT_NoneType_dict, Fw.isT_bool_bool, Fw.isT_bool_int, Fw.isT_bool_str, Fw.isT_bool_list, Fw.isT_bool_tuple, Fw.isT_bool_dict, Fw.isT_int_bool, Fw.isT_int_int, Fw.isT_int_str, Fw.isT_int_list, Fw.isT_int_tuple, Fw.isT_int_dict, Fw.isT_str_bool, Fw.isT_str_int, Fw.isT_str_str, Fw.isT_str_list, Fw.isT_str_tuple, Fw.isT_str_dict, Fw.isT_list_bool, Fw.isT_list_int, Fw.isT_list_str, Fw.isT_list_list, Fw.isT_list_tuple, Fw.isT_list_dict, Fw.isT_tuple_bool, Fw.isT_tuple_int, Fw.isT_tuple_str, Fw.isT_tuple_list, Fw.isT_tuple_tuple, Fw.isT_tuple_dict, Fw.isT_dict_bool, Fw.isT_dict_int, Fw.isT_dict_str, Fw.isT_dict_list, Fw.isT_dict_tuple, Fw.isT_dict_dict, hF9, a3]
        refine ite2 (fun cy => ?_) fun cy => ?_
        · -- it is not full: the way
          obtain ⟨l, up, ec⟩ := bf.found cy
          refine ⟨ks, f, l, by rw [upd_ne rw_]; exact hR, up, ?_, fun p H9 sm9 hp hP => ?_⟩
          · have := Net.chain_len (g := g) x
            rw [ec, List.length_reverse, List.length_cons] at this
            omega
          · have hpw8 : H2 pw = none := hpw3
            have smA : Same H2 (upd H8 pw (DqO pw (qs.map V.str))) := same_mut sm8 hpw8
            try simp -dsimp only [↓Fw.a_forL, ↓Fw.a_lcL, ↓Fw.a_dcL, ↓Fw.a_dcE, ↓Fw.a_forR, ↓Fw.a_disp, ↓Fw.a_pnil, ↓Fw.a_pcons, Fw.v_keys0, Fw.v_keys1, Fw.v_deq, ↓Fw.a_truD1, Fw.v_truD, ↓Fw.a_dqPop, ↓Fw.a_dqApp, Fw.v_isD, ↓Fw.a_dget2, ↓Fw.b_dsetd, ↓Fw.a_star, Fw.v_pop, Fw.v_reverse, ↓Fw.a_tru1, Fw.v_tru_r, ↓Fw.a_gseq, ↓Fw.b_gcons, ↓Fw.b_gnil, ↓Fw.a_seq, ↓Fw.a_next, ↓Fw.a_brk, ↓Fw.a_cont, ↓Fw.a_asg, ↓Fw.a_name, ↓Fw.a_gsub, ↓Fw.b_var, ↓Fw.a_c, ↓Fw.a_op, ↓Fw.a_un, ↓Fw.a_cons, ↓Fw.a_nil, ↓Fw.a_ret, ↓Fw.a_retN, ↓Fw.a_drop, ↓Fw.a_if, ↓Fw.b_test, ↓Fw.b_B, ↓Fw.a_and, ↓Fw.a_or, ↓Fw.a_not, ↓Fw.b_andV, ↓Fw.b_orV, ↓Fw.b_notV, ↓Fw.a_ifE, ↓Fw.a_fn, ↓Fw.a_fnX, ↓Fw.a_hold, ↓Fw.a_holdX, ↓Fw.a_ne_rr, ↓Fw.a_eq_rr, ↓Fw.a_at, ↓Fw.a_atS, ↓Fw.a_step, Fw.v_step, Fw.v_min2, Fw.v_max2, Fw.v_clear, ↓Fw.a_mt, ↓Fw.a_mtX, ↓Fw.a_mk, ↓Fw.a_cb, ↓Fw.a_lst, ↓Fw.a_tup, ↓Fw.a_chain, ↓Fw.a_dnew, ↓Fw.a_start, Fw.v_rU, Int.reduceNeg, Fw.v_add_ii, Fw.v_add_ss, Fw.v_sub_ii, Fw.v_mul_ii, Fw.v_div_ii, Fw.v_mod_ii, Fw.v_pow_ii, Fw.v_lt_ii, Fw.v_gt_ii, Fw.v_le_ii, Fw.v_ge_ii, Fw.v_le_ss, Fw.v_eqS_ii, Fw.v_eqS_ss, Fw.v_neS_ii, Fw.v_neS_ss, Fw.v_eq_ii, Fw.v_eq_ss, Fw.v_eq_bb, Fw.v_ne_ii, Fw.v_ne_ss, Fw.v_ne_bb, Fw.v_ne_tt, Fw.v_eq_tt, Fw.v_in_sc, Fw.v_ix_s, Fw.v_len_s, Fw.v_type, Fw.v_is, ↓Fw.a_bm, ↓Fw.a_bm0, ↓Fw.a_sl, ↓Fw.a_nopart, ↓Fw.a_part, Fw.v_sl_s, Fw.v_sl_r, Fw.v_app, Fw.v_add_rr, ↓Fw.b_ix_r, Fw.b_ix_r, Fw.v_in_r, Fw.v_set_r, Fw.v_len_r, Fw.v_list_r, Fw.v_listA, Fw.v_dictA, Fw.v_int_i, Fw.v_int_b, Fw.v_key_i, Fw.v_key_s, Fw.v_lst, Fw.v_tup, Fw.v_dic, Fw.v_ty_r, Fw.v_ty_s, Fw.v_ty_i, Fw.v_ty_b, Fw.v_ty_n, Fw.v_tyL, Fw.v_same, Fw.v_old, Fw.v_ne, Fw.v_upd, Fw.v_flat_s, Fw.v_inStrs, ↓Fw.a_yes, Fw.v_wipe0, Fw.v_wipe1, Fw.cx_K, Int.reduceToNat, List.length_replicate, Nat.sub_self, Nat.reduceSub, Nat.reduceAdd, List.replicate_zero, List.replicate_succ, List.append_nil, List.length_cons, List.length_nil, List.map_cons, List.map_nil, List.cons_append, List.nil_append, List.getElem?_cons_zero, List.getElem?_cons_succ, List.set_cons_zero, List.set_cons_succ, Option.some.injEq, V.int.injEq, V.bl.injEq, V.ref.injEq, V.str.injEq, exists_eq_left', exists_eq_left, exists_eq_right, exists_and_left, HO.lst.injEq, HO.dK.injEq, HO.tup.injEq, Option.isSome_some, true_and, and_true, Fw.v_m_bool, Fw.v_m_int, Fw.v_m_str, Fw.v_m_list, Fw.v_m_tuple, Fw.v_m_dict, Fw.v_flats, Bool.xor_true, Bool.xor_false, Bool.not_eq_true', decide_eq_false_iff_not, not_true_eq_false, not_false_eq_true, decide_true, decide_false, decide_eq_true_eq, ite_true, ite_false, Bool.not_true, Bool.not_false, Bool.false_eq_true, reduceCtorEq, Fw.isT_NoneType_bool, Fw.isT_NoneType_int, Fw.isT_NoneType_str, Fw.isT_NoneType_list, Fw.isT_NoneType_tuple, Fw.isT_NoneType_dict, Fw.isT_bool_bool, Fw.isT_bool_int, Fw.isT_bool_str, Fw.isT_bool_list, Fw.isT_bool_tuple, Fw.isT_bool_dict, Fw.isT_int_bool, Fw.isT_int_int, Fw.isT_int_str, Fw.isT_int_list, Fw.isT_int_tuple, Fw.isT_int_dict, Fw.isT_str_bool, Fw.isT_str_int, Fw.isT_str_str, Fw.isT_str_list, Fw.isT_str_tuple, Fw.isT_str_dict, Fw.isT_list_bool, Fw.isT_list_int, Fw.isT_list_str, Fw.isT_list_list, Fw.isT_list_tuple, Fw.isT_list_dict, Fw.isT_tuple_bool, Fw.isT_tuple_int, Fw.isT_tuple_str, Fw.isT_tuple_list, Fw.isT_tuple_tuple, Fw.isT_tuple_dict, Fw.isT_dict_bool, Fw.isT_dict_int, Fw.isT_dict_str, Fw.isT_dict_list, Fw.isT_dict_tuple, Fw.isT_dict_dict]
            exact q p H9 (Same.trans sm02 (Same.trans smA sm9)) (same_none (Same.trans sm02 smA) hp) (by rw [hP, ec])
        · have hy : y ∈ g.full := Decidable.not_not.mp cy
          have hpw8 : H2 pw = none := hpw3
          have hpr8 : H2 pr = none := hpr
          have smA : Same H2 (upd H8 pw (DqO pw (qs.map V.str))) := same_mut sm8 hpw8
          have hRA : upd H8 pw (DqO pw (qs.map V.str)) pr = some (.dK (sK ks f)) := by rw [upd_ne rw_]; exact hR
          have hQA : upd H8 pw (DqO pw (qs.map V.str)) pw = some (DqO pw (qs.map V.str)) := upd_same
          generalize upd H8 pw (DqO pw (qs.map V.str)) = HA at smA hRA hQA ⊢
          obtain ⟨kvs, pn, g1, g2, g3⟩ := (hN2.same smA).get hy
          have g3b : H2 pn = some (.lst ((g.nd y).map V.str)) ∨ True := .inr trivial
          try simp -dsimp only [↓Fw.a_forL, ↓Fw.a_lcL, ↓Fw.a_dcL, ↓Fw.a_dcE, ↓Fw.a_forR, ↓Fw.a_disp, ↓Fw.a_pnil, ↓Fw.a_pcons, Fw.v_keys0, Fw.v_keys1, Fw.v_deq, ↓Fw.a_truD1, Fw.v_truD, ↓Fw.a_dqPop, ↓Fw.a_dqApp, Fw.v_isD, ↓Fw.a_dget2, ↓Fw.b_dsetd, ↓Fw.a_star, Fw.v_pop, Fw.v_reverse, ↓Fw.a_tru1, Fw.v_tru_r, ↓Fw.a_gseq, ↓Fw.b_gcons, ↓Fw.b_gnil, ↓Fw.a_seq, ↓Fw.a_next, ↓Fw.a_brk, ↓Fw.a_cont, ↓Fw.a_asg, ↓Fw.a_name, ↓Fw.a_gsub, ↓Fw.b_var, ↓Fw.a_c, ↓Fw.a_op, ↓Fw.a_un, ↓Fw.a_cons, ↓Fw.a_nil, ↓Fw.a_ret, ↓Fw.a_retN, ↓Fw.a_drop, ↓Fw.a_if, ↓Fw.b_test, ↓Fw.b_B, ↓Fw.a_and, ↓Fw.a_or, ↓Fw.a_not, ↓Fw.b_andV, ↓Fw.b_orV, ↓Fw.b_notV, ↓Fw.a_ifE, ↓Fw.a_fn, ↓Fw.a_fnX, ↓Fw.a_hold, ↓Fw.a_holdX, ↓Fw.a_ne_rr, ↓Fw.a_eq_rr, ↓Fw.a_at, ↓Fw.a_atS, ↓Fw.a_step, Fw.v_step, Fw.v_min2, Fw.v_max2, Fw.v_clear, ↓Fw.a_mt, ↓Fw.a_mtX, ↓Fw.a_mk, ↓Fw.a_cb, ↓Fw.a_lst, ↓Fw.a_tup, ↓Fw.a_chain, ↓Fw.a_dnew, ↓Fw.a_start, Fw.v_rU, Int.reduceNeg, Fw.v_add_ii, Fw.v_add_ss, Fw.v_sub_ii, Fw.v_mul_ii, Fw.v_div_ii, Fw.v_mod_ii, Fw.v_pow_ii, Fw.v_lt_ii, Fw.v_gt_ii, Fw.v_le_ii, Fw.v_ge_ii, Fw.v_le_ss, Fw.v_eqS_ii, Fw.v_eqS_ss, Fw.v_neS_ii, Fw.v_neS_ss, Fw.v_eq_ii, Fw.v_eq_ss, Fw.v_eq_bb, Fw.v_ne_ii, Fw.v_ne_ss, Fw.v_ne_bb, Fw.v_ne_tt, Fw.v_eq_tt, Fw.v_in_sc, Fw.v_ix_s, Fw.v_len_s, Fw.v_type, Fw.v_is, ↓Fw.a_bm, ↓Fw.a_bm0, ↓Fw.a_sl, ↓Fw.a_nopart, ↓Fw.a_part, Fw.v_sl_s, Fw.v_sl_r, Fw.v_app, Fw.v_add_rr, ↓Fw.b_ix_r, Fw.b_ix_r, Fw.v_in_r, Fw.v_set_r, Fw.v_len_r, Fw.v_list_r, Fw.v_listA, Fw.v_dictA, Fw.v_int_i, Fw.v_int_b, Fw.v_key_i, Fw.v_key_s, Fw.v_lst, Fw.v_tup, Fw.v_dic, Fw.v_ty_r, Fw.v_ty_s, Fw.v_ty_i, Fw.v_ty_b, Fw.v_ty_n, Fw.v_tyL, Fw.v_same, Fw.v_old, Fw.v_ne, Fw.v_upd, Fw.v_flat_s, Fw.v_inStrs, ↓Fw.a_yes, Fw.v_wipe0, Fw.v_wipe1, Fw.cx_K, Int.reduceToNat, List.length_replicate, Nat.sub_self, Nat.reduceSub, Nat.reduceAdd, List.replicate_zero, List.replicate_succ, List.append_nil, List.length_cons, List.length_nil, List.map_cons, List.map_nil, List.cons_append, List.nil_append, List.getElem?_cons_zero, List.getElem?_cons_succ, List.set_cons_zero, List.set_cons_succ, Option.some.injEq, V.int.injEq, V.bl.injEq, V.ref.injEq, V.str.injEq, exists_eq_left', exists_eq_left, exists_eq_right, exists_and_left, HO.lst.injEq, HO.dK.injEq, HO.tup.injEq, Option.isSome_some, true_and, and_true, Fw.v_m_bool, Fw.v_m_int, Fw.v_m_str, Fw.v_m_list, Fw.v_m_tuple, Fw.v_m_dict, Fw.v_flats, Bool.xor_true, Bool.xor_false, Bool.not_eq_true', decide_eq_false_iff_not, not_true_eq_false, not_false_eq_true, decide_true, decide_false, decide_eq_true_eq, ite_true, ite_false, Bool.not_true, Bool.not_false, Bool.false_eq_true, reduceCtorEq, Fw.isT_NoneType_bool, Fw.isT_NoneType_int, Fw.isT_NoneType_str, Fw.isT_NoneType_list, Fw.isT_NoneType_tuple, Fw.isT_NoneType_dict, Fw.isT_bool_bool, Fw.isT_bool_int, Fw.isT_bool_str, Fw.isT_bool_list, Fw.isT_bool_tuple, Fw.isT_bool_dict, Fw.isT_int_bool, Fw.isT_int_int, Fw.isT_int_str, Fw.isT_int_list, Fw.isT_int_tuple, Fw.isT_int_dict, Fw.isT_str_bool, Fw.isT_str_int, Fw.isT_str_str, Fw.isT_str_list, Fw.isT_str_tuple, Fw.isT_str_dict, Fw.isT_list_bool, Fw.isT_list_int, Fw.isT_list_str, Fw.isT_list_list, Fw.isT_list_tuple, Fw.isT_list_dict, Fw.isT_tuple_bool, Fw.isT_tuple_int, Fw.isT_tuple_str, Fw.isT_tuple_list, Fw.isT_tuple_tuple, Fw.isT_tuple_dict, Fw.isT_dict_bool, Fw.isT_dict_int, Fw.isT_dict_str, Fw.isT_dict_list, Fw.isT_dict_tuple, Fw.isT_dict_dict, g1, g2]
          obtain ⟨kvs2, pn2, g12, g22, g32⟩ := hN2.get hy
          have ep : pn2 = pn := by
            have := smA _ _ g12
            rw [g1] at this
            cases this
            rw [g2] at g22
            cases g22
            rfl
          subst ep
          refine go_for (.inl (.inl g3)) (fun j σ9 H9 => Same H2 H9 ∧ ∃ (q2 k2 : List Str) (f2 : Str → V) (v5 v10 : Option V), BfsIn g x y ((g.nd y).take j) q2 k2 f2 ∧ x ∈ k2 ∧ q2.length + ks.length = qs.length + k2.length ∧ H9 pr = some (.dK (sK k2 f2)) ∧ H9 pw = some (DqO pw (q2.map V.str)) ∧
              σ9 = [some (.str x), some (.ref a), some (.ref d), some (.ref b), some (.ref pf), v5, some (.ref pd), some (.ref pr), some (.ref pw), some (.str y), v10])
            ⟨smA, qs, ks, f, v5, v10, bf.turn hy, xk, rfl, hRA, hQA, rfl⟩ (fun j σ9 H9 _ z => .inl (.inl (z.1 _ _ g32))) ?_ ?_
          · rintro j v σ9 H9 N hv ⟨sm9, q2, k2', f2, v5', v10', bi, xk2, len, hR9, hQ9, rfl⟩ hN
            obtain ⟨z, hz, rfl⟩ := map_str_get hv
            have hd9 := sm9 _ _ b1
            have tz := take_get hz
            have skip : z ∈ g.done ∨ z ∈ k2' → N [some (.str x), some (.ref a), some (.ref d), some (.ref b), some (.ref pf), v5', some (.ref pd), some (.ref pr), some (.ref pw), some (.str y), some (.str z)] H9 := fun w =>
              hN _ _ ⟨sm9, q2, k2', f2, v5', some (.str z), by rw [tz]; exact bi.skip ok w, xk2, len, hR9, hQ9, rfl⟩
            try simp -dsimp only [↓Fw.a_forL, ↓Fw.a_lcL, ↓Fw.a_dcL, ↓Fw.a_dcE, ↓Fw.a_forR, ↓Fw.a_disp, ↓Fw.a_pnil, ↓Fw.a_pcons, Fw.v_keys0, Fw.v_keys1, Fw.v_deq, ↓Fw.a_truD1, Fw.v_truD, ↓Fw.a_dqPop, ↓Fw.a_dqApp, Fw.v_isD, ↓Fw.a_dget2, ↓Fw.b_dsetd, ↓Fw.a_star, Fw.v_pop, Fw.v_reverse, ↓Fw.a_tru1, Fw.v_tru_r, ↓Fw.a_gseq, ↓Fw.b_gcons, ↓Fw.b_gnil, ↓Fw.a_seq, ↓Fw.a_next, ↓Fw.a_brk, ↓Fw.a_cont, ↓Fw.a_asg, ↓Fw.a_name, ↓Fw.a_gsub, ↓Fw.b_var, ↓Fw.a_c, ↓Fw.a_op, ↓Fw.a_un, ↓Fw.a_cons, ↓Fw.a_nil, ↓Fw.a_ret, ↓Fw.a_retN, ↓Fw.a_drop, ↓Fw.a_if, ↓Fw.b_test, ↓Fw.b_B, ↓Fw.a_and, ↓Fw.a_or, ↓Fw.a_not, ↓Fw.b_andV, ↓Fw.b_orV, ↓Fw.b_notV, ↓Fw.a_ifE, ↓Fw.a_fn, ↓Fw.a_fnX, ↓Fw.a_hold, ↓Fw.a_holdX, ↓Fw.a_ne_rr, ↓Fw.a_eq_rr, ↓Fw.a_at, ↓Fw.a_atS, ↓Fw.a_step, Fw.v_step, Fw.v_min2, Fw.v_max2, Fw.v_clear, ↓Fw.a_mt, ↓Fw.a_mtX, ↓Fw.a_mk, ↓Fw.a_cb, ↓Fw.a_lst, ↓Fw.a_tup, ↓Fw.a_chain, ↓Fw.a_dnew, ↓Fw.a_start, Fw.v_rU, Int.reduceNeg, Fw.v_add_ii, Fw.v_add_ss, Fw.v_sub_ii, Fw.v_mul_ii, Fw.v_div_ii, Fw.v_mod_ii, Fw.v_pow_ii, Fw.v_lt_ii, Fw.v_gt_ii, Fw.v_le_ii, Fw.v_ge_ii, Fw.v_le_ss, Fw.v_eqS_ii, Fw.v_eqS_ss, Fw.v_neS_ii, Fw.v_neS_ss, Fw.v_eq_ii, Fw.v_eq_ss, Fw.v_eq_bb, Fw.v_ne_ii, Fw.v_ne_ss, Fw.v_ne_bb, Fw.v_ne_tt, Fw.v_eq_tt, Fw.v_in_sc, Fw.v_ix_s, Fw.v_len_s, Fw.v_type, Fw.v_is, ↓Fw.a_bm, ↓Fw.a_bm0, ↓Fw.a_sl, ↓Fw.a_nopart, ↓Fw.a_part, Fw.v_sl_s, Fw.v_sl_r, Fw.v_app, Fw.v_add_rr, ↓Fw.b_ix_r, Fw.b_ix_r, Fw.v_in_r, Fw.v_set_r, Fw.v_len_r, Fw.v_list_r, Fw.v_listA, Fw.v_dictA, Fw.v_int_i, Fw.v_int_b, Fw.v_key_i, Fw.v_key_s, Fw.v_lst, Fw.v_tup, Fw.v_dic, Fw.v_ty_r, Fw.v_ty_s, Fw.v_ty_i, Fw.v_ty_b, Fw.v_ty_n, Fw.v_tyL, Fw.v_same, Fw.v_old, Fw.v_ne, Fw.v_upd, Fw.v_flat_s, Fw.v_inStrs, ↓Fw.a_yes, Fw.v_wipe0, Fw.v_wipe1, Fw.cx_K, Int.reduceToNat, List.length_replicate, Nat.sub_self, Nat.reduceSub, Nat.reduceAdd, List.replicate_zero, List.replicate_succ, List.append_nil, List.length_cons, List.length_nil, List.map_cons, List.map_nil, List.cons_append, List.nil_append, List.getElem?_cons_zero, List.getElem?_cons_succ, List.set_cons_zero, List.set_cons_succ, Option.some.injEq, V.int.injEq, V.bl.injEq, V.ref.injEq, V.str.injEq, exists_eq_left', exists_eq_left, exists_eq_right, exists_and_left, HO.lst.injEq, HO.dK.injEq, HO.tup.injEq, Option.isSome_some, true_and, and_true, Fw.v_m_bool, Fw.v_m_int, Fw.v_m_str, Fw.v_m_list, Fw.v_m_tuple, Fw.v_m_dict, Fw.v_flats, Bool.xor_true, Bool.xor_false, Bool.not_eq_true', decide_eq_false_iff_not, not_true_eq_false, not_false_eq_true, decide_true, decide_false, decide_eq_true_eq, ite_true, ite_false, Bool.not_true, Bool.not_false, Bool.false_eq_true, reduceCtorEq, Fw.isT_NoneType_bool, Fw.isT_NoneType_int, Fw.isT_NoneType_str, Fw.isT_NoneType_list, Fw.isT_NoneType_tuple, Fw.isT_NoneType_dict, Fw.isT_bool_bool, Fw.isT_bool_int, Fw.isT_bool_str, Fw.isT_bool_list, Fw.isT_bool_tuple, Fw.isT_bool_dict, Fw.isT_int_bool, Fw.isT_int_int, Fw.isT_int_str, Fw.isT_int_list, Fw.isT_int_tuple, Fw.isT_int_dict, Fw.isT_str_bool, Fw.isT_str_int, Fw.isT_str_str, Fw.isT_str_list, Fw.isT_str_tuple, Fw.isT_str_dict, Fw.isT_list_bool, Fw.isT_list_int, Fw.isT_list_str, Fw.isT_list_list, Fw.isT_list_tuple, Fw.isT_list_dict, Fw.isT_tuple_bool, Fw.isT_tuple_int, Fw.isT_tuple_str, Fw.isT_tuple_list, Fw.isT_tuple_tuple, Fw.isT_tuple_dict, Fw.isT_dict_bool, Fw.isT_dict_int, Fw.isT_dict_str, Fw.isT_dict_list, Fw.isT_dict_tuple, Fw.isT_dict_dict, hd9, b3, hR9, sK_is]
            refine ite2 (fun c1 => ite2 (fun c2 => ?_) fun c2 => skip (.inr (Decidable.not_not.mp c2))) fun c1 => skip (.inl (Decidable.not_not.mp c1))
            have hsz : k2'.length ≤ 481 := reach_len ok bi.nd bi.sub
            have hnd : g.nd y = (g.nd y).take j ++ z :: (g.nd y).drop (j + 1) := by
              obtain ⟨hj, ez⟩ := List.getElem?_eq_some_iff.mp hz
              rw [← ez, ← List.drop_eq_getElem_cons hj, List.take_append_drop]
            have bn := bi.new hnd c1 c2
            have wr : pw ≠ pr := Ne.symm rw_
            refine ⟨?_, ⟨pw, _, rfl, by rw [upd_ne wr]; exact hQ9⟩, q2.map V.str, by rw [upd_ne wr]; exact hQ9, ?_, hN _ _ ⟨same_mut (same_mut sm9 hpr8) hpw8, q2 ++ [z], k2' ++ [z], _, v5', some (.str z), by rw [tz]; exact bn, List.mem_append_left _ xk2, ?_, ?_, ?_, rfl⟩⟩
            · rw [sK_len]
              exact Nat.lt_of_le_of_lt hsz (by decide)
            · rw [List.length_map]
              have := lq
              rw [List.length_cons] at this
              exact Nat.lt_of_le_of_lt (show _ ≤ 1000 by omega) (by decide)
            · rw [List.length_append, List.length_append]
              omega
            · rw [upd_ne rw_, upd_same, sK_put c2]
            · rw [upd_same, List.map_append]
              rfl
          · rintro σ9 H9 ⟨sm9, q2, k2', f2, v5', v10', bi, xk2, len, hR9, hQ9, rfl⟩
            rw [List.length_map, List.take_length] at bi
            have bd := bi.done_
            have l2 := bd.len ok
            rw [List.length_cons] at lq
            refine ⟨q2.length + (481 - k2'.length), ?_, sm9, q2, k2', f2, bd, xk2, by omega, hR9, hQ9, rfl, v5', some (.str y), v10', rfl⟩
            omega
    · exact h.elim
/-! ### _law_cell_at -/
theorem ok_cell_at (S : Src K mg "_law_cell_at" ["_law_script", "_law_k"] s_cell_at) (B : Blt mg) : Fn P w K mg base 1 "_law_cell_at" ["_law_script", "_law_k"] (sp_cell_at K) := by
  have sc := sc_cell_at
  refine fn_mk S sc (fun vs H Q E h => ?_) (fun f cdv A outer s H vs Q E hr h => ⟨_, (pss_cons (ps_if (pt_cmpR op_vLt (pv 1) (pe_callB call_len_seq rfl B.n_len (by decide +kernel) (pa_cons (pv 0) pa_nil)) (nomark _))
     (pss_one (ps_ret (pe_ix ix_list (pv 0) (pv 1) (fun _ _ => rfl))))
     pss_nil)
     (pss_one (ps_ret pe_int))), ?_⟩)
  · unfold sp_cell_at at h; split at h <;> first | rfl | exact h.elim
  · unfold sp_cell_at at h
    split at h
    · rename_i a k
      obtain ⟨ns, j, hS, rfl, q⟩ := h
      simp -dsimp +contextual only [↓Fw.a_disp, ↓Fw.a_pnil, ↓Fw.a_pcons, Fw.v_keys0, Fw.v_keys1, Fw.v_deq, ↓Fw.a_truD1, Fw.v_truD, ↓Fw.a_dqPop, ↓Fw.a_dqApp, Fw.v_isD, ↓Fw.a_dget2, ↓Fw.b_dsetd, ↓Fw.a_star, Fw.v_pop, Fw.v_reverse, ↓Fw.a_tru1, Fw.v_tru_r, ↓Fw.a_gseq, ↓Fw.b_gcons, ↓Fw.b_gnil, ↓Fw.a_seq, ↓Fw.a_next, ↓Fw.a_brk, ↓Fw.a_cont, ↓Fw.a_asg, ↓Fw.a_name, ↓Fw.a_gsub, ↓Fw.b_var, ↓Fw.a_c, ↓Fw.a_op, ↓Fw.a_un, ↓Fw.a_cons, ↓Fw.a_nil, ↓Fw.a_ret, ↓Fw.a_retN, ↓Fw.a_drop, ↓Fw.a_if, ↓Fw.b_test, ↓Fw.b_B, ↓Fw.a_and, ↓Fw.a_or, ↓Fw.a_not, ↓Fw.b_andV, ↓Fw.b_orV, ↓Fw.b_notV, ↓Fw.a_ifE, ↓Fw.a_fn, ↓Fw.a_fnX, ↓Fw.a_hold, ↓Fw.a_holdX, ↓Fw.a_ne_rr, ↓Fw.a_eq_rr, ↓Fw.a_at, ↓Fw.a_atS, ↓Fw.a_step, Fw.v_step, Fw.v_min2, Fw.v_max2, Fw.v_clear, ↓Fw.a_mt, ↓Fw.a_mtX, ↓Fw.a_mk, ↓Fw.a_cb, ↓Fw.a_lst, ↓Fw.a_tup, ↓Fw.a_chain, ↓Fw.a_dnew, ↓Fw.a_start, Fw.v_rU, Int.reduceNeg, Fw.v_add_ii, Fw.v_add_ss, Fw.v_sub_ii, Fw.v_mul_ii, Fw.v_div_ii, Fw.v_mod_ii, Fw.v_pow_ii, Fw.v_lt_ii, Fw.v_gt_ii, Fw.v_le_ii, Fw.v_ge_ii, Fw.v_le_ss, Fw.v_eqS_ii, Fw.v_eqS_ss, Fw.v_neS_ii, Fw.v_neS_ss, Fw.v_eq_ii, Fw.v_eq_ss, Fw.v_eq_bb, Fw.v_ne_ii, Fw.v_ne_ss, Fw.v_ne_bb, Fw.v_ne_tt, Fw.v_eq_tt, Fw.v_in_sc, Fw.v_ix_s, Fw.v_len_s, Fw.v_type, Fw.v_is, ↓Fw.a_bm, ↓Fw.a_bm0, ↓Fw.a_sl, ↓Fw.a_nopart, ↓Fw.a_part, Fw.v_sl_s, Fw.v_sl_r, Fw.v_app, Fw.v_add_rr, ↓Fw.b_ix_r, Fw.b_ix_r, Fw.v_in_r, Fw.v_set_r, Fw.v_len_r, Fw.v_list_r, Fw.v_listA, Fw.v_dictA, Fw.v_int_i, Fw.v_int_b, Fw.v_key_i, Fw.v_key_s, Fw.v_lst, Fw.v_tup, Fw.v_dic, Fw.v_ty_r, Fw.v_ty_s, Fw.v_ty_i, Fw.v_ty_b, Fw.v_ty_n, Fw.v_tyL, Fw.v_same, Fw.v_old, Fw.v_ne, Fw.v_upd, Fw.v_flat_s, Fw.v_inStrs, ↓Fw.a_yes, Fw.v_wipe0, Fw.v_wipe1, Fw.cx_K, Int.reduceToNat, List.length_replicate, Nat.sub_self, Nat.reduceSub, Nat.reduceAdd, List.replicate_zero, List.replicate_succ, List.append_nil, List.length_cons, List.length_nil, List.map_cons, List.map_nil, List.cons_append, List.nil_append, List.getElem?_cons_zero, List.getElem?_cons_succ, List.set_cons_zero, List.set_cons_succ, Option.some.injEq, V.int.injEq, V.bl.injEq, V.ref.injEq, V.str.injEq, exists_eq_left', exists_eq_left, exists_eq_right, exists_and_left, HO.lst.injEq, HO.dK.injEq, HO.tup.injEq, Option.isSome_some, true_and, and_true, Fw.v_m_bool, Fw.v_m_int, Fw.v_m_str, Fw.v_m_list, Fw.v_m_tuple, Fw.v_m_dict, Fw.v_flats, Bool.xor_true, Bool.xor_false, Bool.not_eq_true', decide_eq_false_iff_not, not_true_eq_false, not_false_eq_true, decide_true, decide_false, decide_eq_true_eq, ite_true, ite_false, Bool.not_true, Bool.not_false, Bool.false_eq_true, reduceCtorEq, Fw.isT_NoneType_bool, Fw.isT_NoneType_int, Fw.isT_NoneType_str, Fw.isT_NoneType_list, Fw.isT_NoneType_tuple, Fw.isT_NoneType_dict, Fw.isT_bool_bool, Fw.isT_bool_int, Fw.isT_bool_str, Fw.isT_bool_list, Fw.isT_bool_tuple, Fw.isT_bool_dict, Fw.isT_int_bool, Fw.isT_int_int, Fw.isT_int_str, Fw.isT_int_list, Fw.isT_int_tuple, Fw.isT_int_dict, Fw.isT_str_bool, Fw.isT_str_int, Fw.isT_str_str, Fw.isT_str_list, Fw.isT_str_tuple, Fw.isT_str_dict, Fw.isT_list_bool, Fw.isT_list_int, Fw.isT_list_str, Fw.isT_list_list, Fw.isT_list_tuple, Fw.isT_list_dict, Fw.isT_tuple_bool, Fw.isT_tuple_int, Fw.isT_tuple_str, Fw.isT_tuple_list, Fw.isT_tuple_tuple, Fw.isT_tuple_dict, Fw.isT_dict_bool, Fw.isT_dict_int, Fw.isT_dict_str, Fw.isT_dict_list, Fw.isT_dict_tuple, Fw.isT_dict_dict]
      first | refine ⟨a, _, rfl, .inl hS, ?_⟩ | refine ⟨a, rfl, _, .inl hS, ?_⟩
      try simp -dsimp +contextual only [↓Fw.a_disp, ↓Fw.a_pnil, ↓Fw.a_pcons, Fw.v_keys0, Fw.v_keys1, Fw.v_deq, ↓Fw.a_truD1, Fw.v_truD, ↓Fw.a_dqPop, ↓Fw.a_dqApp, Fw.v_isD, ↓Fw.a_dget2, ↓Fw.b_dsetd, ↓Fw.a_star, Fw.v_pop, Fw.v_reverse, ↓Fw.a_tru1, Fw.v_tru_r, ↓Fw.a_gseq, ↓Fw.b_gcons, ↓Fw.b_gnil, ↓Fw.a_seq, ↓Fw.a_next, ↓Fw.a_brk, ↓Fw.a_cont, ↓Fw.a_asg, ↓Fw.a_name, ↓Fw.a_gsub, ↓Fw.b_var, ↓Fw.a_c, ↓Fw.a_op, ↓Fw.a_un, ↓Fw.a_cons, ↓Fw.a_nil, ↓Fw.a_ret, ↓Fw.a_retN, ↓Fw.a_drop, ↓Fw.a_if, ↓Fw.b_test, ↓Fw.b_B, ↓Fw.a_and, ↓Fw.a_or, ↓Fw.a_not, ↓Fw.b_andV, ↓Fw.b_orV, ↓Fw.b_notV, ↓Fw.a_ifE, ↓Fw.a_fn, ↓Fw.a_fnX, ↓Fw.a_hold, ↓Fw.a_holdX, ↓Fw.a_ne_rr, ↓Fw.a_eq_rr, ↓Fw.a_at, ↓Fw.a_atS, ↓Fw.a_step, Fw.v_step, Fw.v_min2, Fw.v_max2, Fw.v_clear, ↓Fw.a_mt, ↓Fw.a_mtX, ↓Fw.a_mk, ↓Fw.a_cb, ↓Fw.a_lst, ↓Fw.a_tup, ↓Fw.a_chain, ↓Fw.a_dnew, ↓Fw.a_start, Fw.v_rU, Int.reduceNeg, Fw.v_add_ii, Fw.v_add_ss, Fw.v_sub_ii, Fw.v_mul_ii, Fw.v_div_ii, Fw.v_mod_ii, Fw.v_pow_ii, Fw.v_lt_ii, Fw.v_gt_ii, Fw.v_le_ii, Fw.v_ge_ii, Fw.v_le_ss, Fw.v_eqS_ii, Fw.v_eqS_ss, Fw.v_neS_ii, Fw.v_neS_ss, Fw.v_eq_ii, Fw.v_eq_ss, Fw.v_eq_bb, Fw.v_ne_ii, Fw.v_ne_ss, Fw.v_ne_bb, Fw.v_ne_tt, Fw.v_eq_tt, Fw.v_in_sc, Fw.v_ix_s, Fw.v_len_s, Fw.v_type, Fw.v_is, ↓Fw.a_bm, ↓Fw.a_bm0, ↓Fw.a_sl, ↓Fw.a_nopart, ↓Fw.a_part, Fw.v_sl_s, Fw.v_sl_r, Fw.v_app, Fw.v_add_rr, ↓Fw.b_ix_r, Fw.b_ix_r, Fw.v_in_r, Fw.v_set_r, Fw.v_len_r, Fw.v_list_r, Fw.v_listA, Fw.v_dictA, Fw.v_int_i, Fw.v_int_b, Fw.v_key_i, Fw.v_key_s, Fw.v_lst, Fw.v_tup, Fw.v_dic, Fw.v_ty_r, Fw.v_ty_s, Fw.v_ty_i, Fw.v_ty_b, Fw.v_ty_n, Fw.v_tyL, Fw.v_same, Fw.v_old, Fw.v_ne, Fw.v_upd, Fw.v_flat_s, Fw.v_inStrs, ↓Fw.a_yes, Fw.v_wipe0, Fw.v_wipe1, Fw.cx_K, Int.reduceToNat, List.length_replicate, Nat.sub_self, Nat.reduceSub, Nat.reduceAdd, List.replicate_zero, List.replicate_succ, List.append_nil, List.length_cons, List.length_nil, List.map_cons, List.map_nil, List.cons_append, List.nil_append, List.getElem?_cons_zero, List.getElem?_cons_succ, List.set_cons_zero, List.set_cons_succ, Option.some.injEq, V.int.injEq, V.bl.injEq, V.ref.injEq, V.str.injEq, exists_eq_left', exists_eq_left, exists_eq_right, exists_and_left, HO.lst.injEq, HO.dK.injEq, HO.tup.injEq, Option.isSome_some, true_and, and_true, Fw.v_m_bool, Fw.v_m_int, Fw.v_m_str, Fw.v_m_list, Fw.v_m_tuple, Fw.v_m_dict, Fw.v_flats, Bool.xor_true, Bool.xor_false, Bool.not_eq_true', decide_eq_false_iff_not, not_true_eq_false, not_false_eq_true, decide_true, decide_false, decide_eq_true_eq, ite_true, ite_false, Bool.not_true, Bool.not_false, Bool.false_eq_true, reduceCtorEq, Fw.isT_NoneType_bool, Fw.isT_NoneType_int, Fw.isT_NoneType_str, Fw.isT_NoneType_list, Fw.isT_NoneType_tuple, Fw.isT_NoneType_dict, Fw.isT_bool_bool, Fw.isT_bool_int, Fw.isT_bool_str, Fw.isT_bool_list, Fw.isT_bool_tuple, Fw.isT_bool_dict, Fw.isT_int_bool, Fw.isT_int_int, Fw.isT_int_str, Fw.isT_int_list, Fw.isT_int_tuple, Fw.isT_int_dict, Fw.isT_str_bool, Fw.isT_str_int, Fw.isT_str_str, Fw.isT_str_list, Fw.isT_str_tuple, Fw.isT_str_dict, Fw.isT_list_bool, Fw.isT_list_int, Fw.isT_list_str, Fw.isT_list_list, Fw.isT_list_tuple, Fw.isT_list_dict, Fw.isT_tuple_bool, Fw.isT_tuple_int, Fw.isT_tuple_str, Fw.isT_tuple_list, Fw.isT_tuple_tuple, Fw.isT_tuple_dict, Fw.isT_dict_bool, Fw.isT_dict_int, Fw.isT_dict_str, Fw.isT_dict_list, Fw.isT_dict_tuple, Fw.isT_dict_dict]
      rw [List.length_map]
      by_cases c : j < ns.length
      · rw [if_pos (by omega)]
        refine ⟨a, _, (j : Int), _, rfl, rfl, hS, atI_nat (map_int_get (List.getElem?_eq_getElem c)), ?_⟩
        have : cellAt ns j = ns[j] := by simp [cellAt, c]
        rw [← this]
        exact q
      · rw [if_neg (by omega)]
        have : cellAt ns j = 0 := by simp [cellAt, Nat.le_of_not_lt c]
        rw [← this]
        exact q
    · exact h.elim
/-! ### _law_mixed -/
theorem ok_mixed (S : Src K mg "_law_mixed" ["_law_number", "_law_k"] s_mixed) (B : Blt mg) : Fn P w K mg base 1 "_law_mixed" ["_law_number", "_law_k"] (sp_mixed) := by
  have sc := sc_mixed
  refine fn_mk S sc (fun vs H Q E h => ?_) (fun f cdv A outer s H vs Q E hr h => ⟨_, (pss_one (ps_ret (pe_op op_vMod (pe_op op_vAdd (pe_op op_vAdd (pe_op op_vMul (pv 0) pe_int) (pe_op op_vMul (pv 1) pe_int)) pe_int) pe_int))), ?_⟩)
  · unfold sp_mixed at h; split at h <;> first | rfl | exact h.elim
  · unfold sp_mixed at h
    split at h
    · simp -dsimp +contextual only [↓Fw.a_disp, ↓Fw.a_pnil, ↓Fw.a_pcons, Fw.v_keys0, Fw.v_keys1, Fw.v_deq, ↓Fw.a_truD1, Fw.v_truD, ↓Fw.a_dqPop, ↓Fw.a_dqApp, Fw.v_isD, ↓Fw.a_dget2, ↓Fw.b_dsetd, ↓Fw.a_star, Fw.v_pop, Fw.v_reverse, ↓Fw.a_tru1, Fw.v_tru_r, ↓Fw.a_gseq, ↓Fw.b_gcons, ↓Fw.b_gnil, ↓Fw.a_seq, ↓Fw.a_next, ↓Fw.a_brk, ↓Fw.a_cont, ↓Fw.a_asg, ↓Fw.a_name, ↓Fw.a_gsub, ↓Fw.b_var, ↓Fw.a_c, ↓Fw.a_op, ↓Fw.a_un, ↓Fw.a_cons, ↓Fw.a_nil, ↓Fw.a_ret, ↓Fw.a_retN, ↓Fw.a_drop, ↓Fw.a_if, ↓Fw.b_test, ↓Fw.b_B, ↓Fw.a_and, ↓Fw.a_or, ↓Fw.a_not, ↓Fw.b_andV, ↓Fw.b_orV, ↓Fw.b_notV, ↓Fw.a_ifE, ↓Fw.a_fn, ↓Fw.a_fnX, ↓Fw.a_hold, ↓Fw.a_holdX, ↓Fw.a_ne_rr, ↓Fw.a_eq_rr, ↓Fw.a_at, ↓Fw.a_atS, ↓Fw.a_step, Fw.v_step, Fw.v_min2, Fw.v_max2, Fw.v_clear, ↓Fw.a_mt, ↓Fw.a_mtX, ↓Fw.a_mk, ↓Fw.a_cb, ↓Fw.a_lst, ↓Fw.a_tup, ↓Fw.a_chain, ↓Fw.a_dnew, ↓Fw.a_start, Fw.v_rU, Int.reduceNeg, Fw.v_add_ii, Fw.v_add_ss, Fw.v_sub_ii, Fw.v_mul_ii, Fw.v_div_ii, Fw.v_mod_ii, Fw.v_pow_ii, Fw.v_lt_ii, Fw.v_gt_ii, Fw.v_le_ii, Fw.v_ge_ii, Fw.v_le_ss, Fw.v_eqS_ii, Fw.v_eqS_ss, Fw.v_neS_ii, Fw.v_neS_ss, Fw.v_eq_ii, Fw.v_eq_ss, Fw.v_eq_bb, Fw.v_ne_ii, Fw.v_ne_ss, Fw.v_ne_bb, Fw.v_ne_tt, Fw.v_eq_tt, Fw.v_in_sc, Fw.v_ix_s, Fw.v_len_s, Fw.v_type, Fw.v_is, ↓Fw.a_bm, ↓Fw.a_bm0, ↓Fw.a_sl, ↓Fw.a_nopart, ↓Fw.a_part, Fw.v_sl_s, Fw.v_sl_r, Fw.v_app, Fw.v_add_rr, ↓Fw.b_ix_r, Fw.b_ix_r, Fw.v_in_r, Fw.v_set_r, Fw.v_len_r, Fw.v_list_r, Fw.v_listA, Fw.v_dictA, Fw.v_int_i, Fw.v_int_b, Fw.v_key_i, Fw.v_key_s, Fw.v_lst, Fw.v_tup, Fw.v_dic, Fw.v_ty_r, Fw.v_ty_s, Fw.v_ty_i, Fw.v_ty_b, Fw.v_ty_n, Fw.v_tyL, Fw.v_same, Fw.v_old, Fw.v_ne, Fw.v_upd, Fw.v_flat_s, Fw.v_inStrs, ↓Fw.a_yes, Fw.v_wipe0, Fw.v_wipe1, Fw.cx_K, Int.reduceToNat, List.length_replicate, Nat.sub_self, Nat.reduceSub, Nat.reduceAdd, List.replicate_zero, List.replicate_succ, List.append_nil, List.length_cons, List.length_nil, List.map_cons, List.map_nil, List.cons_append, List.nil_append, List.getElem?_cons_zero, List.getElem?_cons_succ, List.set_cons_zero, List.set_cons_succ, Option.some.injEq, V.int.injEq, V.bl.injEq, V.ref.injEq, V.str.injEq, exists_eq_left', exists_eq_left, exists_eq_right, exists_and_left, HO.lst.injEq, HO.dK.injEq, HO.tup.injEq, Option.isSome_some, true_and, and_true, Fw.v_m_bool, Fw.v_m_int, Fw.v_m_str, Fw.v_m_list, Fw.v_m_tuple, Fw.v_m_dict, Fw.v_flats, Bool.xor_true, Bool.xor_false, Bool.not_eq_true', decide_eq_false_iff_not, not_true_eq_false, not_false_eq_true, decide_true, decide_false, decide_eq_true_eq, ite_true, ite_false, Bool.not_true, Bool.not_false, Bool.false_eq_true, reduceCtorEq, Fw.isT_NoneType_bool, Fw.isT_NoneType_int, Fw.isT_NoneType_str, Fw.isT_NoneType_list, Fw.isT_NoneType_tuple, Fw.isT_NoneType_dict, Fw.isT_bool_bool, Fw.isT_bool_int, Fw.isT_bool_str, Fw.isT_bool_list, Fw.isT_bool_tuple, Fw.isT_bool_dict, Fw.isT_int_bool, Fw.isT_int_int, Fw.isT_int_str, Fw.isT_int_list, Fw.isT_int_tuple, Fw.isT_int_dict, Fw.isT_str_bool, Fw.isT_str_int, Fw.isT_str_str, Fw.isT_str_list, Fw.isT_str_tuple, Fw.isT_str_dict, Fw.isT_list_bool, Fw.isT_list_int, Fw.isT_list_str, Fw.isT_list_list, Fw.isT_list_tuple, Fw.isT_list_dict, Fw.isT_tuple_bool, Fw.isT_tuple_int, Fw.isT_tuple_str, Fw.isT_tuple_list, Fw.isT_tuple_tuple, Fw.isT_tuple_dict, Fw.isT_dict_bool, Fw.isT_dict_int, Fw.isT_dict_str, Fw.isT_dict_list, Fw.isT_dict_tuple, Fw.isT_dict_dict]
      exact ⟨.inr ⟨by decide, by decide⟩, .inr ⟨by decide, by decide⟩, by decide, h⟩
    · exact h.elim
/-! ### _law_word -/
theorem ok_word (S : Src K mg "_law_word" ["_law_k", "_law_cell"] s_word) (B : Blt mg) (G__law_mixed : Fn P w K mg base 1 "_law_mixed" ["_law_number", "_law_k"] (sp_mixed)) : Fn P w K mg base 2 "_law_word" ["_law_k", "_law_cell"] (sp_word) := by
  have sc := sc_word
  refine fn_mk S sc (fun vs H Q E h => ?_) (fun f cdv A outer s H vs Q E hr h => ⟨_, (pss_cons (ps_set (i := 2) sc.nd rfl (by first | exact Or.inl rfl | exact Or.inr rfl) pe_str)
     (pss_cons (ps_set (i := 3) sc.nd rfl (by first | exact Or.inl rfl | exact Or.inr rfl) (pe_op op_vAdd (pe_ix (ix_v (hu_of hr)) (pv 2) (pe_op op_vMod (pe_op op_vDiv (pv 0) pe_int) pe_int) (fun _ _ => rfl)) (pe_ix (ix_v (hu_of hr)) (pv 2) (pe_op op_vMod (pv 0) pe_int) (fun _ _ => rfl))))
     (pss_cons (ps_set (i := 4) sc.nd rfl (by first | exact Or.inl rfl | exact Or.inr rfl) (pe_fn G__law_mixed (hr.mono (by decide)) rfl (pa_cons (pv 1) (pa_cons pe_int pa_nil))))
     (pss_cut (ps_if (pt_cmpR (op_vEq hr.units) (pe_op op_vMod (pv 1) pe_int) pe_int (nomark _))
     (pss_cons (ps_set (i := 4) sc.nd rfl (by first | exact Or.inl rfl | exact Or.inr rfl) (pe_fn G__law_mixed (hr.mono (by decide)) rfl (pa_cons (pv 1) (pa_cons (pv 0) pa_nil))))
     (pss_one (ps_if (PW.pt (pw_and (pt_cmpR (op_vEq hr.units) (pe_op op_vMod (pv 4) pe_int) pe_int (nomark _)) (pw_and1 (pt_cmpR op_vLt (pv 0) pe_int (nomark _)))))
     (pss_one (ps_ret (pe_ix (ix_v (hu_of hr)) (pv 2) (pv 0) (fun _ _ => rfl))))
     pss_nil)))
     pss_nil)
     (pss_cons (ps_set (i := 5) sc.nd rfl (by first | exact Or.inl rfl | exact Or.inr rfl) pe_str)
     (pss_cons (ps_for PassesOwn.never rfl (pi_range1 rfl B.n_range (pa_cons (pe_op op_vMod (pe_op op_vDiv (pv 4) pe_int) pe_int) pa_nil)) (pg_name (i := 6) sc.nd rfl (by first | exact Or.inl rfl | exact Or.inr rfl))
     (pss_cons (ps_set (i := 5) sc.nd rfl (by first | exact Or.inl rfl | exact Or.inr rfl) (pe_op op_vAdd (pv 5) (pe_ix (ix_v (hu_of hr)) (pv 2) (pe_op op_vMod (pe_op op_vDiv (pv 4) pe_int) pe_int) (fun _ _ => rfl))))
     (pss_one (ps_set (i := 4) sc.nd rfl (by first | exact Or.inl rfl | exact Or.inr rfl) (pe_op op_vDiv (pv 4) pe_int)))))
     (pss_cons (ps_if (pt_cmpR (op_vEq hr.units) (pe_op op_vMod (pv 1) pe_int) pe_int (nomark _))
     (pss_one (ps_ret (pe_op op_vAdd (pv 3) (pv 5))))
     pss_nil)
     (pss_cons (ps_set (i := 7) sc.nd rfl (by first | exact Or.inl rfl | exact Or.inr rfl) (pe_op op_vMod (pe_op op_vDiv (pv 1) pe_int) (pe_op op_vAdd (pe_callB call_vLen rfl B.n_len (by decide +kernel) (pa_cons (pv 5) pa_nil)) pe_int)))
     (pss_one (ps_ret (pe_op op_vAdd (pe_op op_vAdd (pe_slice sl_v (pv 5) po_none (po_some (pv 7))) (pv 3)) (pe_slice sl_v (pv 5) (po_some (pv 7)) po_none)))))))))))), ?_⟩)
  · unfold sp_word at h; split at h <;> first | rfl | exact h.elim
  · unfold sp_word at h
    split at h
    · rename_i k cell
      obtain ⟨j, rfl, q⟩ := h
      have two : (⟨#[lt (j / 26 : Nat)]⟩ : Str) ++ ⟨#[lt (j : Int)]⟩ = ⟨(toldL j).toArray⟩ := rfl
      have LT : ∀ i : Int, atI letters.cps.toList (i % 26) = some (lt i) := fun i => letter_at (by omega) (by omega)
      have Q1 : ∀ v, wordL j cell = v → Q (.str ⟨v.toArray⟩) H := fun v e => by
        rw [← e]
        exact q
      simp -dsimp +contextual only [↓Fw.a_disp, ↓Fw.a_pnil, ↓Fw.a_pcons, Fw.v_keys0, Fw.v_keys1, Fw.v_deq, ↓Fw.a_truD1, Fw.v_truD, ↓Fw.a_dqPop, ↓Fw.a_dqApp, Fw.v_isD, ↓Fw.a_dget2, ↓Fw.b_dsetd, ↓Fw.a_star, Fw.v_pop, Fw.v_reverse, ↓Fw.a_tru1, Fw.v_tru_r, ↓Fw.a_gseq, ↓Fw.b_gcons, ↓Fw.b_gnil, ↓Fw.a_seq, ↓Fw.a_next, ↓Fw.a_brk, ↓Fw.a_cont, ↓Fw.a_asg, ↓Fw.a_name, ↓Fw.a_gsub, ↓Fw.b_var, ↓Fw.a_c, ↓Fw.a_op, ↓Fw.a_un, ↓Fw.a_cons, ↓Fw.a_nil, ↓Fw.a_ret, ↓Fw.a_retN, ↓Fw.a_drop, ↓Fw.a_if, ↓Fw.b_test, ↓Fw.b_B, ↓Fw.a_and, ↓Fw.a_or, ↓Fw.a_not, ↓Fw.b_andV, ↓Fw.b_orV, ↓Fw.b_notV, ↓Fw.a_ifE, ↓Fw.a_fn, ↓Fw.a_fnX, ↓Fw.a_hold, ↓Fw.a_holdX, ↓Fw.a_ne_rr, ↓Fw.a_eq_rr, ↓Fw.a_at, ↓Fw.a_atS, ↓Fw.a_step, Fw.v_step, Fw.v_min2, Fw.v_max2, Fw.v_clear, ↓Fw.a_mt, ↓Fw.a_mtX, ↓Fw.a_mk, ↓Fw.a_cb, ↓Fw.a_lst, ↓Fw.a_tup, ↓Fw.a_chain, ↓Fw.a_dnew, ↓Fw.a_start, Fw.v_rU, Int.reduceNeg, Fw.v_add_ii, Fw.v_add_ss, Fw.v_sub_ii, Fw.v_mul_ii, Fw.v_div_ii, Fw.v_mod_ii, Fw.v_pow_ii, Fw.v_lt_ii, Fw.v_gt_ii, Fw.v_le_ii, Fw.v_ge_ii, Fw.v_le_ss, Fw.v_eqS_ii, Fw.v_eqS_ss, Fw.v_neS_ii, Fw.v_neS_ss, Fw.v_eq_ii, Fw.v_eq_ss, Fw.v_eq_bb, Fw.v_ne_ii, Fw.v_ne_ss, Fw.v_ne_bb, Fw.v_ne_tt, Fw.v_eq_tt, Fw.v_in_sc, Fw.v_ix_s, Fw.v_len_s, Fw.v_type, Fw.v_is, ↓Fw.a_bm, ↓Fw.a_bm0, ↓Fw.a_sl, ↓Fw.a_nopart, ↓Fw.a_part, Fw.v_sl_s, Fw.v_sl_r, Fw.v_app, Fw.v_add_rr, ↓Fw.b_ix_r, Fw.b_ix_r, Fw.v_in_r, Fw.v_set_r, Fw.v_len_r, Fw.v_list_r, Fw.v_listA, Fw.v_dictA, Fw.v_int_i, Fw.v_int_b, Fw.v_key_i, Fw.v_key_s, Fw.v_lst, Fw.v_tup, Fw.v_dic, Fw.v_ty_r, Fw.v_ty_s, Fw.v_ty_i, Fw.v_ty_b, Fw.v_ty_n, Fw.v_tyL, Fw.v_same, Fw.v_old, Fw.v_ne, Fw.v_upd, Fw.v_flat_s, Fw.v_inStrs, ↓Fw.a_yes, Fw.v_wipe0, Fw.v_wipe1, Fw.cx_K, Int.reduceToNat, List.length_replicate, Nat.sub_self, Nat.reduceSub, Nat.reduceAdd, List.replicate_zero, List.replicate_succ, List.append_nil, List.length_cons, List.length_nil, List.map_cons, List.map_nil, List.cons_append, List.nil_append, List.getElem?_cons_zero, List.getElem?_cons_succ, List.set_cons_zero, List.set_cons_succ, Option.some.injEq, V.int.injEq, V.bl.injEq, V.ref.injEq, V.str.injEq, exists_eq_left', exists_eq_left, exists_eq_right, exists_and_left, HO.lst.injEq, HO.dK.injEq, HO.tup.injEq, Option.isSome_some, true_and, and_true, Fw.v_m_bool, Fw.v_m_int, Fw.v_m_str, Fw.v_m_list, Fw.v_m_tuple, Fw.v_m_dict, Fw.v_flats, Bool.xor_true, Bool.xor_false, Bool.not_eq_true', decide_eq_false_iff_not, not_true_eq_false, not_false_eq_true, decide_true, decide_false, decide_eq_true_eq, ite_true, ite_false, Bool.not_true, Bool.not_false, Bool.false_eq_true, reduceCtorEq, Fw.isT_NoneType_bool, Fw.isT_NoneType_int, Fw.isT_NoneType_str, Fw.isT_NoneType_list, Fw.isT_NoneType_tuple, Fw.isT_NoneType_dict, Fw.isT_bool_bool, Fw.isT_bool_int, Fw.isT_bool_str, Fw.isT_bool_list, Fw.isT_bool_tuple, Fw.isT_bool_dict, Fw.isT_int_bool, Fw.isT_int_int, Fw.isT_int_str, Fw.isT_int_list, Fw.isT_int_tuple, Fw.isT_int_dict, Fw.isT_str_bool, Fw.isT_str_int, Fw.isT_str_str, Fw.isT_str_list, Fw.isT_str_tuple, Fw.isT_str_dict, Fw.isT_list_bool, Fw.isT_list_int, Fw.isT_list_str, Fw.isT_list_list, Fw.isT_list_tuple, Fw.isT_list_dict, Fw.isT_tuple_bool, Fw.isT_tuple_int, Fw.isT_tuple_str, Fw.isT_tuple_list, Fw.isT_tuple_tuple, Fw.isT_tuple_dict, Fw.isT_dict_bool, Fw.isT_dict_int, Fw.isT_dict_str, Fw.isT_dict_list, Fw.isT_dict_tuple, Fw.isT_dict_dict]
      simp only [letters_def, LT, Option.some.injEq, exists_eq_left']
      refine ⟨⟨by decide, by decide⟩, by decide, letters_len, by decide, letters_len, (by show 1 + 1 ≤ sizeLine; decide), ?_⟩
      have e0 : lt ((j : Int) / 26) = lt (j / 26 : Nat) := rfl
      rw [e0, two]
      -- the rest that is drawn
      refine cut (fun σ' H' => ∃ r : Int, (cell % 2 = 1 → r = mixed cell j ∧ ¬ (mixed cell j % 12 = 11 ∧ j < 26)) ∧ (¬ cell % 2 = 1 → r = mixed cell 0) ∧
          σ' = [some (.int j), some (.int cell), some (.str letters), some (.str ⟨(toldL j).toArray⟩), some (.int r), none, none, none] ∧ H' = H) (fun N hN => ?_) ?_
      · simp -dsimp +contextual only [↓Fw.a_disp, ↓Fw.a_pnil, ↓Fw.a_pcons, Fw.v_keys0, Fw.v_keys1, Fw.v_deq, ↓Fw.a_truD1, Fw.v_truD, ↓Fw.a_dqPop, ↓Fw.a_dqApp, Fw.v_isD, ↓Fw.a_dget2, ↓Fw.b_dsetd, ↓Fw.a_star, Fw.v_pop, Fw.v_reverse, ↓Fw.a_tru1, Fw.v_tru_r, ↓Fw.a_gseq, ↓Fw.b_gcons, ↓Fw.b_gnil, ↓Fw.a_seq, ↓Fw.a_next, ↓Fw.a_brk, ↓Fw.a_cont, ↓Fw.a_asg, ↓Fw.a_name, ↓Fw.a_gsub, ↓Fw.b_var, ↓Fw.a_c, ↓Fw.a_op, ↓Fw.a_un, ↓Fw.a_cons, ↓Fw.a_nil, ↓Fw.a_ret, ↓Fw.a_retN, ↓Fw.a_drop, ↓Fw.a_if, ↓Fw.b_test, ↓Fw.b_B, ↓Fw.a_and, ↓Fw.a_or, ↓Fw.a_not, ↓Fw.b_andV, ↓Fw.b_orV, ↓Fw.b_notV, ↓Fw.a_ifE, ↓Fw.a_fn, ↓Fw.a_fnX, ↓Fw.a_hold, ↓Fw.a_holdX, ↓Fw.a_ne_rr, ↓Fw.a_eq_rr, ↓Fw.a_at, ↓Fw.a_atS, ↓Fw.a_step, Fw.v_step, Fw.v_min2, Fw.v_max2, Fw.v_clear, ↓Fw.a_mt, ↓Fw.a_mtX, ↓Fw.a_mk, ↓Fw.a_cb, ↓Fw.a_lst, ↓Fw.a_tup, ↓Fw.a_chain, ↓Fw.a_dnew, ↓Fw.a_start, Fw.v_rU, Int.reduceNeg, Fw.v_add_ii, Fw.v_add_ss, Fw.v_sub_ii, Fw.v_mul_ii, Fw.v_div_ii, Fw.v_mod_ii, Fw.v_pow_ii, Fw.v_lt_ii, Fw.v_gt_ii, Fw.v_le_ii, Fw.v_ge_ii, Fw.v_le_ss, Fw.v_eqS_ii, Fw.v_eqS_ss, Fw.v_neS_ii, Fw.v_neS_ss, Fw.v_eq_ii, Fw.v_eq_ss, Fw.v_eq_bb, Fw.v_ne_ii, Fw.v_ne_ss, Fw.v_ne_bb, Fw.v_ne_tt, Fw.v_eq_tt, Fw.v_in_sc, Fw.v_ix_s, Fw.v_len_s, Fw.v_type, Fw.v_is, ↓Fw.a_bm, ↓Fw.a_bm0, ↓Fw.a_sl, ↓Fw.a_nopart, ↓Fw.a_part, Fw.v_sl_s, Fw.v_sl_r, Fw.v_app, Fw.v_add_rr, ↓Fw.b_ix_r, Fw.b_ix_r, Fw.v_in_r, Fw.v_set_r, Fw.v_len_r, Fw.v_list_r, Fw.v_listA, Fw.v_dictA, Fw.v_int_i, Fw.v_int_b, Fw.v_key_i, Fw.v_key_s, Fw.v_lst, Fw.v_tup, Fw.v_dic, Fw.v_ty_r, Fw.v_ty_s, Fw.v_ty_i, Fw.v_ty_b, Fw.v_ty_n, Fw.v_tyL, Fw.v_same, Fw.v_old, Fw.v_ne, Fw.v_upd, Fw.v_flat_s, Fw.v_inStrs, ↓Fw.a_yes, Fw.v_wipe0, Fw.v_wipe1, Fw.cx_K, Int.reduceToNat, List.length_replicate, Nat.sub_self, Nat.reduceSub, Nat.reduceAdd, List.replicate_zero, List.replicate_succ, List.append_nil, List.length_cons, List.length_nil, List.map_cons, List.map_nil, List.cons_append, List.nil_append, List.getElem?_cons_zero, List.getElem?_cons_succ, List.set_cons_zero, List.set_cons_succ, Option.some.injEq, V.int.injEq, V.bl.injEq, V.ref.injEq, V.str.injEq, exists_eq_left', exists_eq_left, exists_eq_right, exists_and_left, HO.lst.injEq, HO.dK.injEq, HO.tup.injEq, Option.isSome_some, true_and, and_true, Fw.v_m_bool, Fw.v_m_int, Fw.v_m_str, Fw.v_m_list, Fw.v_m_tuple, Fw.v_m_dict, Fw.v_flats, Bool.xor_true, Bool.xor_false, Bool.not_eq_true', decide_eq_false_iff_not, not_true_eq_false, not_false_eq_true, decide_true, decide_false, decide_eq_true_eq, ite_true, ite_false, Bool.not_true, Bool.not_false, Bool.false_eq_true, reduceCtorEq, Fw.isT_NoneType_bool, Fw.isT_NoneType_int, Fw.isT_NoneType_str, Fw.isT_NoneType_list, Fw.isT_NoneType_tuple, Fw.isT_NoneType_dict, Fw.isT_bool_bool, Fw.isT_bool_int, Fw.isT_bool_str, Fw.isT_bool_list, Fw.isT_bool_tuple, Fw.isT_bool_dict, Fw.isT_int_bool, Fw.isT_int_int, Fw.isT_int_str, Fw.isT_int_list, Fw.isT_int_tuple, Fw.isT_int_dict, Fw.isT_str_bool, Fw.isT_str_int, Fw.isT_str_str, Fw.isT_str_list, Fw.isT_str_tuple, Fw.isT_str_dict, Fw.isT_list_bool, Fw.isT_list_int, Fw.isT_list_str, Fw.isT_list_list, Fw.isT_list_tuple, Fw.isT_list_dict, Fw.isT_tuple_bool, Fw.isT_tuple_int, Fw.isT_tuple_str, Fw.isT_tuple_list, Fw.isT_tuple_tuple, Fw.isT_tuple_dict, Fw.isT_dict_bool, Fw.isT_dict_int, Fw.isT_dict_str, Fw.isT_dict_list, Fw.isT_dict_tuple, Fw.isT_dict_dict]
        unfold sp_mixed
        simp -dsimp +contextual only [↓Fw.a_disp, ↓Fw.a_pnil, ↓Fw.a_pcons, Fw.v_keys0, Fw.v_keys1, Fw.v_deq, ↓Fw.a_truD1, Fw.v_truD, ↓Fw.a_dqPop, ↓Fw.a_dqApp, Fw.v_isD, ↓Fw.a_dget2, ↓Fw.b_dsetd, ↓Fw.a_star, Fw.v_pop, Fw.v_reverse, ↓Fw.a_tru1, Fw.v_tru_r, ↓Fw.a_gseq, ↓Fw.b_gcons, ↓Fw.b_gnil, ↓Fw.a_seq, ↓Fw.a_next, ↓Fw.a_brk, ↓Fw.a_cont, ↓Fw.a_asg, ↓Fw.a_name, ↓Fw.a_gsub, ↓Fw.b_var, ↓Fw.a_c, ↓Fw.a_op, ↓Fw.a_un, ↓Fw.a_cons, ↓Fw.a_nil, ↓Fw.a_ret, ↓Fw.a_retN, ↓Fw.a_drop, ↓Fw.a_if, ↓Fw.b_test, ↓Fw.b_B, ↓Fw.a_and, ↓Fw.a_or, ↓Fw.a_not, ↓Fw.b_andV, ↓Fw.b_orV, ↓Fw.b_notV, ↓Fw.a_ifE, ↓Fw.a_fn, ↓Fw.a_fnX, ↓Fw.a_hold, ↓Fw.a_holdX, ↓Fw.a_ne_rr, ↓Fw.a_eq_rr, ↓Fw.a_at, ↓Fw.a_atS, ↓Fw.a_step, Fw.v_step, Fw.v_min2, Fw.v_max2, Fw.v_clear, ↓Fw.a_mt, ↓Fw.a_mtX, ↓Fw.a_mk, ↓Fw.a_cb, ↓Fw.a_lst, ↓Fw.a_tup, ↓Fw.a_chain, ↓Fw.a_dnew, ↓Fw.a_start, Fw.v_rU, Int.reduceNeg, Fw.v_add_ii, Fw.v_add_ss, Fw.v_sub_ii, Fw.v_mul_ii, Fw.v_div_ii, Fw.v_mod_ii, Fw.v_pow_ii, Fw.v_lt_ii, Fw.v_gt_ii, Fw.v_le_ii, Fw.v_ge_ii, Fw.v_le_ss, Fw.v_eqS_ii, Fw.v_eqS_ss, Fw.v_neS_ii, Fw.v_neS_ss, Fw.v_eq_ii, Fw.v_eq_ss, Fw.v_eq_bb, Fw.v_ne_ii, Fw.v_ne_ss, Fw.v_ne_bb, Fw.v_ne_tt, Fw.v_eq_tt, Fw.v_in_sc, Fw.v_ix_s, Fw.v_len_s, Fw.v_type, Fw.v_is, ↓Fw.a_bm, ↓Fw.a_bm0, ↓Fw.a_sl, ↓Fw.a_nopart, ↓Fw.a_part, Fw.v_sl_s, Fw.v_sl_r, Fw.v_app, Fw.v_add_rr, ↓Fw.b_ix_r, Fw.b_ix_r, Fw.v_in_r, Fw.v_set_r, Fw.v_len_r, Fw.v_list_r, Fw.v_listA, Fw.v_dictA, Fw.v_int_i, Fw.v_int_b, Fw.v_key_i, Fw.v_key_s, Fw.v_lst, Fw.v_tup, Fw.v_dic, Fw.v_ty_r, Fw.v_ty_s, Fw.v_ty_i, Fw.v_ty_b, Fw.v_ty_n, Fw.v_tyL, Fw.v_same, Fw.v_old, Fw.v_ne, Fw.v_upd, Fw.v_flat_s, Fw.v_inStrs, ↓Fw.a_yes, Fw.v_wipe0, Fw.v_wipe1, Fw.cx_K, Int.reduceToNat, List.length_replicate, Nat.sub_self, Nat.reduceSub, Nat.reduceAdd, List.replicate_zero, List.replicate_succ, List.append_nil, List.length_cons, List.length_nil, List.map_cons, List.map_nil, List.cons_append, List.nil_append, List.getElem?_cons_zero, List.getElem?_cons_succ, List.set_cons_zero, List.set_cons_succ, Option.some.injEq, V.int.injEq, V.bl.injEq, V.ref.injEq, V.str.injEq, exists_eq_left', exists_eq_left, exists_eq_right, exists_and_left, HO.lst.injEq, HO.dK.injEq, HO.tup.injEq, Option.isSome_some, true_and, and_true, Fw.v_m_bool, Fw.v_m_int, Fw.v_m_str, Fw.v_m_list, Fw.v_m_tuple, Fw.v_m_dict, Fw.v_flats, Bool.xor_true, Bool.xor_false, Bool.not_eq_true', decide_eq_false_iff_not, not_true_eq_false, not_false_eq_true, decide_true, decide_false, decide_eq_true_eq, ite_true, ite_false, Bool.not_true, Bool.not_false, Bool.false_eq_true, reduceCtorEq, Fw.isT_NoneType_bool, Fw.isT_NoneType_int, Fw.isT_NoneType_str, Fw.isT_NoneType_list, Fw.isT_NoneType_tuple, Fw.isT_NoneType_dict, Fw.isT_bool_bool, Fw.isT_bool_int, Fw.isT_bool_str, Fw.isT_bool_list, Fw.isT_bool_tuple, Fw.isT_bool_dict, Fw.isT_int_bool, Fw.isT_int_int, Fw.isT_int_str, Fw.isT_int_list, Fw.isT_int_tuple, Fw.isT_int_dict, Fw.isT_str_bool, Fw.isT_str_int, Fw.isT_str_str, Fw.isT_str_list, Fw.isT_str_tuple, Fw.isT_str_dict, Fw.isT_list_bool, Fw.isT_list_int, Fw.isT_list_str, Fw.isT_list_list, Fw.isT_list_tuple, Fw.isT_list_dict, Fw.isT_tuple_bool, Fw.isT_tuple_int, Fw.isT_tuple_str, Fw.isT_tuple_list, Fw.isT_tuple_tuple, Fw.isT_tuple_dict, Fw.isT_dict_bool, Fw.isT_dict_int, Fw.isT_dict_str, Fw.isT_dict_list, Fw.isT_dict_tuple, Fw.isT_dict_dict]
        refine ⟨by decide, ?_⟩
        have NB : ¬ (mixed cell j % 12 = 11 ∧ j < 26) → cell % 2 = 1 → N [some (.int j), some (.int cell), some (.str letters), some (.str ⟨(toldL j).toArray⟩), some (.int (mixed cell j)), none, none, none] H := fun z c =>
          hN _ _ ⟨_, fun _ => ⟨rfl, z⟩, fun n => absurd c n, rfl, rfl⟩
        refine ite2 (fun c => ⟨by decide, ite2 (fun c1 => ite2 (fun c2 => ⟨letters_len, 97 + j, ?_, ?_⟩) fun c2 => ?_) fun c1 => ?_⟩) fun c => ?_
        · have := letter_at (i := (j : Int)) (by omega) c2
          simpa using this
        · refine Q1 [97 + j] ?_
          unfold wordL
          rw [if_pos ⟨c, c1, by omega⟩]
        · exact NB (fun z => c2 (by omega)) c
        · exact NB (fun z => c1 z.1) c
        · exact hN _ _ ⟨_, fun n => absurd n c, fun _ => rfl, rfl, rfl⟩
      · rintro σ' H' ⟨r, h1, h2, rfl, rfl⟩
        have er : r = rst j cell := by
          unfold rst
          by_cases c : cell % 2 = 1
          · rw [if_pos c]
            exact (h1 c).1
          · rw [if_neg c]
            exact h2 c
        subst er
        simp -dsimp +contextual only [↓Fw.a_disp, ↓Fw.a_pnil, ↓Fw.a_pcons, Fw.v_keys0, Fw.v_keys1, Fw.v_deq, ↓Fw.a_truD1, Fw.v_truD, ↓Fw.a_dqPop, ↓Fw.a_dqApp, Fw.v_isD, ↓Fw.a_dget2, ↓Fw.b_dsetd, ↓Fw.a_star, Fw.v_pop, Fw.v_reverse, ↓Fw.a_tru1, Fw.v_tru_r, ↓Fw.a_gseq, ↓Fw.b_gcons, ↓Fw.b_gnil, ↓Fw.a_seq, ↓Fw.a_next, ↓Fw.a_brk, ↓Fw.a_cont, ↓Fw.a_asg, ↓Fw.a_name, ↓Fw.a_gsub, ↓Fw.b_var, ↓Fw.a_c, ↓Fw.a_op, ↓Fw.a_un, ↓Fw.a_cons, ↓Fw.a_nil, ↓Fw.a_ret, ↓Fw.a_retN, ↓Fw.a_drop, ↓Fw.a_if, ↓Fw.b_test, ↓Fw.b_B, ↓Fw.a_and, ↓Fw.a_or, ↓Fw.a_not, ↓Fw.b_andV, ↓Fw.b_orV, ↓Fw.b_notV, ↓Fw.a_ifE, ↓Fw.a_fn, ↓Fw.a_fnX, ↓Fw.a_hold, ↓Fw.a_holdX, ↓Fw.a_ne_rr, ↓Fw.a_eq_rr, ↓Fw.a_at, ↓Fw.a_atS, ↓Fw.a_step, Fw.v_step, Fw.v_min2, Fw.v_max2, Fw.v_clear, ↓Fw.a_mt, ↓Fw.a_mtX, ↓Fw.a_mk, ↓Fw.a_cb, ↓Fw.a_lst, ↓Fw.a_tup, ↓Fw.a_chain, ↓Fw.a_dnew, ↓Fw.a_start, Fw.v_rU, Int.reduceNeg, Fw.v_add_ii, Fw.v_add_ss, Fw.v_sub_ii, Fw.v_mul_ii, Fw.v_div_ii, Fw.v_mod_ii, Fw.v_pow_ii, Fw.v_lt_ii, Fw.v_gt_ii, Fw.v_le_ii, Fw.v_ge_ii, Fw.v_le_ss, Fw.v_eqS_ii, Fw.v_eqS_ss, Fw.v_neS_ii, Fw.v_neS_ss, Fw.v_eq_ii, Fw.v_eq_ss, Fw.v_eq_bb, Fw.v_ne_ii, Fw.v_ne_ss, Fw.v_ne_bb, Fw.v_ne_tt, Fw.v_eq_tt, Fw.v_in_sc, Fw.v_ix_s, Fw.v_len_s, Fw.v_type, Fw.v_is, ↓Fw.a_bm, ↓Fw.a_bm0, ↓Fw.a_sl, ↓Fw.a_nopart, ↓Fw.a_part, Fw.v_sl_s, Fw.v_sl_r, Fw.v_app, Fw.v_add_rr, ↓Fw.b_ix_r, Fw.b_ix_r, Fw.v_in_r, Fw.v_set_r, Fw.v_len_r, Fw.v_list_r, Fw.v_listA, Fw.v_dictA, Fw.v_int_i, Fw.v_int_b, Fw.v_key_i, Fw.v_key_s, Fw.v_lst, Fw.v_tup, Fw.v_dic, Fw.v_ty_r, Fw.v_ty_s, Fw.v_ty_i, Fw.v_ty_b, Fw.v_ty_n, Fw.v_tyL, Fw.v_same, Fw.v_old, Fw.v_ne, Fw.v_upd, Fw.v_flat_s, Fw.v_inStrs, ↓Fw.a_yes, Fw.v_wipe0, Fw.v_wipe1, Fw.cx_K, Int.reduceToNat, List.length_replicate, Nat.sub_self, Nat.reduceSub, Nat.reduceAdd, List.replicate_zero, List.replicate_succ, List.append_nil, List.length_cons, List.length_nil, List.map_cons, List.map_nil, List.cons_append, List.nil_append, List.getElem?_cons_zero, List.getElem?_cons_succ, List.set_cons_zero, List.set_cons_succ, Option.some.injEq, V.int.injEq, V.bl.injEq, V.ref.injEq, V.str.injEq, exists_eq_left', exists_eq_left, exists_eq_right, exists_and_left, HO.lst.injEq, HO.dK.injEq, HO.tup.injEq, Option.isSome_some, true_and, and_true, Fw.v_m_bool, Fw.v_m_int, Fw.v_m_str, Fw.v_m_list, Fw.v_m_tuple, Fw.v_m_dict, Fw.v_flats, Bool.xor_true, Bool.xor_false, Bool.not_eq_true', decide_eq_false_iff_not, not_true_eq_false, not_false_eq_true, decide_true, decide_false, decide_eq_true_eq, ite_true, ite_false, Bool.not_true, Bool.not_false, Bool.false_eq_true, reduceCtorEq, Fw.isT_NoneType_bool, Fw.isT_NoneType_int, Fw.isT_NoneType_str, Fw.isT_NoneType_list, Fw.isT_NoneType_tuple, Fw.isT_NoneType_dict, Fw.isT_bool_bool, Fw.isT_bool_int, Fw.isT_bool_str, Fw.isT_bool_list, Fw.isT_bool_tuple, Fw.isT_bool_dict, Fw.isT_int_bool, Fw.isT_int_int, Fw.isT_int_str, Fw.isT_int_list, Fw.isT_int_tuple, Fw.isT_int_dict, Fw.isT_str_bool, Fw.isT_str_int, Fw.isT_str_str, Fw.isT_str_list, Fw.isT_str_tuple, Fw.isT_str_dict, Fw.isT_list_bool, Fw.isT_list_int, Fw.isT_list_str, Fw.isT_list_list, Fw.isT_list_tuple, Fw.isT_list_dict, Fw.isT_tuple_bool, Fw.isT_tuple_int, Fw.isT_tuple_str, Fw.isT_tuple_list, Fw.isT_tuple_tuple, Fw.isT_tuple_dict, Fw.isT_dict_bool, Fw.isT_dict_int, Fw.isT_dict_str, Fw.isT_dict_list, Fw.isT_dict_tuple, Fw.isT_dict_dict]
        refine f_rng (rst j cell / 12 % 11).toNat (by omega) (fun R q => by
          simp -dsimp +contextual only [↓Fw.a_disp, ↓Fw.a_pnil, ↓Fw.a_pcons, Fw.v_keys0, Fw.v_keys1, Fw.v_deq, ↓Fw.a_truD1, Fw.v_truD, ↓Fw.a_dqPop, ↓Fw.a_dqApp, Fw.v_isD, ↓Fw.a_dget2, ↓Fw.b_dsetd, ↓Fw.a_star, Fw.v_pop, Fw.v_reverse, ↓Fw.a_tru1, Fw.v_tru_r, ↓Fw.a_gseq, ↓Fw.b_gcons, ↓Fw.b_gnil, ↓Fw.a_seq, ↓Fw.a_next, ↓Fw.a_brk, ↓Fw.a_cont, ↓Fw.a_asg, ↓Fw.a_name, ↓Fw.a_gsub, ↓Fw.b_var, ↓Fw.a_c, ↓Fw.a_op, ↓Fw.a_un, ↓Fw.a_cons, ↓Fw.a_nil, ↓Fw.a_ret, ↓Fw.a_retN, ↓Fw.a_drop, ↓Fw.a_if, ↓Fw.b_test, ↓Fw.b_B, ↓Fw.a_and, ↓Fw.a_or, ↓Fw.a_not, ↓Fw.b_andV, ↓Fw.b_orV, ↓Fw.b_notV, ↓Fw.a_ifE, ↓Fw.a_fn, ↓Fw.a_fnX, ↓Fw.a_hold, ↓Fw.a_holdX, ↓Fw.a_ne_rr, ↓Fw.a_eq_rr, ↓Fw.a_at, ↓Fw.a_atS, ↓Fw.a_step, Fw.v_step, Fw.v_min2, Fw.v_max2, Fw.v_clear, ↓Fw.a_mt, ↓Fw.a_mtX, ↓Fw.a_mk, ↓Fw.a_cb, ↓Fw.a_lst, ↓Fw.a_tup, ↓Fw.a_chain, ↓Fw.a_dnew, ↓Fw.a_start, Fw.v_rU, Int.reduceNeg, Fw.v_add_ii, Fw.v_add_ss, Fw.v_sub_ii, Fw.v_mul_ii, Fw.v_div_ii, Fw.v_mod_ii, Fw.v_pow_ii, Fw.v_lt_ii, Fw.v_gt_ii, Fw.v_le_ii, Fw.v_ge_ii, Fw.v_le_ss, Fw.v_eqS_ii, Fw.v_eqS_ss, Fw.v_neS_ii, Fw.v_neS_ss, Fw.v_eq_ii, Fw.v_eq_ss, Fw.v_eq_bb, Fw.v_ne_ii, Fw.v_ne_ss, Fw.v_ne_bb, Fw.v_ne_tt, Fw.v_eq_tt, Fw.v_in_sc, Fw.v_ix_s, Fw.v_len_s, Fw.v_type, Fw.v_is, ↓Fw.a_bm, ↓Fw.a_bm0, ↓Fw.a_sl, ↓Fw.a_nopart, ↓Fw.a_part, Fw.v_sl_s, Fw.v_sl_r, Fw.v_app, Fw.v_add_rr, ↓Fw.b_ix_r, Fw.b_ix_r, Fw.v_in_r, Fw.v_set_r, Fw.v_len_r, Fw.v_list_r, Fw.v_listA, Fw.v_dictA, Fw.v_int_i, Fw.v_int_b, Fw.v_key_i, Fw.v_key_s, Fw.v_lst, Fw.v_tup, Fw.v_dic, Fw.v_ty_r, Fw.v_ty_s, Fw.v_ty_i, Fw.v_ty_b, Fw.v_ty_n, Fw.v_tyL, Fw.v_same, Fw.v_old, Fw.v_ne, Fw.v_upd, Fw.v_flat_s, Fw.v_inStrs, ↓Fw.a_yes, Fw.v_wipe0, Fw.v_wipe1, Fw.cx_K, Int.reduceToNat, List.length_replicate, Nat.sub_self, Nat.reduceSub, Nat.reduceAdd, List.replicate_zero, List.replicate_succ, List.append_nil, List.length_cons, List.length_nil, List.map_cons, List.map_nil, List.cons_append, List.nil_append, List.getElem?_cons_zero, List.getElem?_cons_succ, List.set_cons_zero, List.set_cons_succ, Option.some.injEq, V.int.injEq, V.bl.injEq, V.ref.injEq, V.str.injEq, exists_eq_left', exists_eq_left, exists_eq_right, exists_and_left, HO.lst.injEq, HO.dK.injEq, HO.tup.injEq, Option.isSome_some, true_and, and_true, Fw.v_m_bool, Fw.v_m_int, Fw.v_m_str, Fw.v_m_list, Fw.v_m_tuple, Fw.v_m_dict, Fw.v_flats, Bool.xor_true, Bool.xor_false, Bool.not_eq_true', decide_eq_false_iff_not, not_true_eq_false, not_false_eq_true, decide_true, decide_false, decide_eq_true_eq, ite_true, ite_false, Bool.not_true, Bool.not_false, Bool.false_eq_true, reduceCtorEq, Fw.isT_NoneType_bool, Fw.isT_NoneType_int, Fw.isT_NoneType_str, Fw.isT_NoneType_list, Fw.isT_NoneType_tuple, Fw.isT_NoneType_dict, Fw.isT_bool_bool, Fw.isT_bool_int, Fw.isT_bool_str, Fw.isT_bool_list, Fw.isT_bool_tuple, Fw.isT_bool_dict, Fw.isT_int_bool, Fw.isT_int_int, Fw.isT_int_str, Fw.isT_int_list, Fw.isT_int_tuple, Fw.isT_int_dict, Fw.isT_str_bool, Fw.isT_str_int, Fw.isT_str_str, Fw.isT_str_list, Fw.isT_str_tuple, Fw.isT_str_dict, Fw.isT_list_bool, Fw.isT_list_int, Fw.isT_list_str, Fw.isT_list_list, Fw.isT_list_tuple, Fw.isT_list_dict, Fw.isT_tuple_bool, Fw.isT_tuple_int, Fw.isT_tuple_str, Fw.isT_tuple_list, Fw.isT_tuple_tuple, Fw.isT_tuple_dict, Fw.isT_dict_bool, Fw.isT_dict_int, Fw.isT_dict_str, Fw.isT_dict_list, Fw.isT_dict_tuple, Fw.isT_dict_dict]
          refine ⟨⟨by decide, by decide⟩, by decide, ?_⟩
          have e : ((rst j cell / 12 % 11).toNat : Int) = rst j cell / 12 % 11 := Int.toNat_of_nonneg (by omega)
          rw [e] at q
          exact q) (fun i σ' H1 => H1 = H' ∧ i ≤ 10 ∧ ∃ v6, σ' = [some (.int j), some (.int cell), some (.str letters), some (.str ⟨(toldL j).toArray⟩), some (.int (restN (rst j cell) i)), some (.str ⟨(moreL (rst j cell) i).toArray⟩), v6, none])
          ⟨rfl, by omega, none, rfl⟩ ?_ ?_
        · rintro i σ' H1 N hi ⟨rfl, hle, v6, rfl⟩ hN
          simp -dsimp +contextual only [↓Fw.a_disp, ↓Fw.a_pnil, ↓Fw.a_pcons, Fw.v_keys0, Fw.v_keys1, Fw.v_deq, ↓Fw.a_truD1, Fw.v_truD, ↓Fw.a_dqPop, ↓Fw.a_dqApp, Fw.v_isD, ↓Fw.a_dget2, ↓Fw.b_dsetd, ↓Fw.a_star, Fw.v_pop, Fw.v_reverse, ↓Fw.a_tru1, Fw.v_tru_r, ↓Fw.a_gseq, ↓Fw.b_gcons, ↓Fw.b_gnil, ↓Fw.a_seq, ↓Fw.a_next, ↓Fw.a_brk, ↓Fw.a_cont, ↓Fw.a_asg, ↓Fw.a_name, ↓Fw.a_gsub, ↓Fw.b_var, ↓Fw.a_c, ↓Fw.a_op, ↓Fw.a_un, ↓Fw.a_cons, ↓Fw.a_nil, ↓Fw.a_ret, ↓Fw.a_retN, ↓Fw.a_drop, ↓Fw.a_if, ↓Fw.b_test, ↓Fw.b_B, ↓Fw.a_and, ↓Fw.a_or, ↓Fw.a_not, ↓Fw.b_andV, ↓Fw.b_orV, ↓Fw.b_notV, ↓Fw.a_ifE, ↓Fw.a_fn, ↓Fw.a_fnX, ↓Fw.a_hold, ↓Fw.a_holdX, ↓Fw.a_ne_rr, ↓Fw.a_eq_rr, ↓Fw.a_at, ↓Fw.a_atS, ↓Fw.a_step, Fw.v_step, Fw.v_min2, Fw.v_max2, Fw.v_clear, ↓Fw.a_mt, ↓Fw.a_mtX, ↓Fw.a_mk, ↓Fw.a_cb, ↓Fw.a_lst, ↓Fw.a_tup, ↓Fw.a_chain, ↓Fw.a_dnew, ↓Fw.a_start, Fw.v_rU, Int.reduceNeg, Fw.v_add_ii, Fw.v_add_ss, Fw.v_sub_ii, Fw.v_mul_ii, Fw.v_div_ii, Fw.v_mod_ii, Fw.v_pow_ii, Fw.v_lt_ii, Fw.v_gt_ii, Fw.v_le_ii, Fw.v_ge_ii, Fw.v_le_ss, Fw.v_eqS_ii, Fw.v_eqS_ss, Fw.v_neS_ii, Fw.v_neS_ss, Fw.v_eq_ii, Fw.v_eq_ss, Fw.v_eq_bb, Fw.v_ne_ii, Fw.v_ne_ss, Fw.v_ne_bb, Fw.v_ne_tt, Fw.v_eq_tt, Fw.v_in_sc, Fw.v_ix_s, Fw.v_len_s, Fw.v_type, Fw.v_is, ↓Fw.a_bm, ↓Fw.a_bm0, ↓Fw.a_sl, ↓Fw.a_nopart, ↓Fw.a_part, Fw.v_sl_s, Fw.v_sl_r, Fw.v_app, Fw.v_add_rr, ↓Fw.b_ix_r, Fw.b_ix_r, Fw.v_in_r, Fw.v_set_r, Fw.v_len_r, Fw.v_list_r, Fw.v_listA, Fw.v_dictA, Fw.v_int_i, Fw.v_int_b, Fw.v_key_i, Fw.v_key_s, Fw.v_lst, Fw.v_tup, Fw.v_dic, Fw.v_ty_r, Fw.v_ty_s, Fw.v_ty_i, Fw.v_ty_b, Fw.v_ty_n, Fw.v_tyL, Fw.v_same, Fw.v_old, Fw.v_ne, Fw.v_upd, Fw.v_flat_s, Fw.v_inStrs, ↓Fw.a_yes, Fw.v_wipe0, Fw.v_wipe1, Fw.cx_K, Int.reduceToNat, List.length_replicate, Nat.sub_self, Nat.reduceSub, Nat.reduceAdd, List.replicate_zero, List.replicate_succ, List.append_nil, List.length_cons, List.length_nil, List.map_cons, List.map_nil, List.cons_append, List.nil_append, List.getElem?_cons_zero, List.getElem?_cons_succ, List.set_cons_zero, List.set_cons_succ, Option.some.injEq, V.int.injEq, V.bl.injEq, V.ref.injEq, V.str.injEq, exists_eq_left', exists_eq_left, exists_eq_right, exists_and_left, HO.lst.injEq, HO.dK.injEq, HO.tup.injEq, Option.isSome_some, true_and, and_true, Fw.v_m_bool, Fw.v_m_int, Fw.v_m_str, Fw.v_m_list, Fw.v_m_tuple, Fw.v_m_dict, Fw.v_flats, Bool.xor_true, Bool.xor_false, Bool.not_eq_true', decide_eq_false_iff_not, not_true_eq_false, not_false_eq_true, decide_true, decide_false, decide_eq_true_eq, ite_true, ite_false, Bool.not_true, Bool.not_false, Bool.false_eq_true, reduceCtorEq, Fw.isT_NoneType_bool, Fw.isT_NoneType_int, Fw.isT_NoneType_str, Fw.isT_NoneType_list, Fw.isT_NoneType_tuple, Fw.isT_NoneType_dict, Fw.isT_bool_bool, Fw.isT_bool_int, Fw.isT_bool_str, Fw.isT_bool_list, Fw.isT_bool_tuple, Fw.isT_bool_dict, Fw.isT_int_bool, Fw.isT_int_int, Fw.isT_int_str, Fw.isT_int_list, Fw.isT_int_tuple, Fw.isT_int_dict, Fw.isT_str_bool, Fw.isT_str_int, Fw.isT_str_str, Fw.isT_str_list, Fw.isT_str_tuple, Fw.isT_str_dict, Fw.isT_list_bool, Fw.isT_list_int, Fw.isT_list_str, Fw.isT_list_list, Fw.isT_list_tuple, Fw.isT_list_dict, Fw.isT_tuple_bool, Fw.isT_tuple_int, Fw.isT_tuple_str, Fw.isT_tuple_list, Fw.isT_tuple_tuple, Fw.isT_tuple_dict, Fw.isT_dict_bool, Fw.isT_dict_int, Fw.isT_dict_str, Fw.isT_dict_list, Fw.isT_dict_tuple, Fw.isT_dict_dict]
          simp only [LT, Option.some.injEq, exists_eq_left']
          refine ⟨⟨by decide, by decide⟩, by decide, letters_len, ?_, ⟨by decide, by decide⟩, hN _ _ ⟨rfl, by omega, some (.int i), ?_⟩⟩
          · show (moreL (rst j cell) i).toArray.size + 1 ≤ sizeLine
            rw [List.size_toArray, moreL_len]
            exact Nat.le_trans (show i + 1 ≤ 100 by omega) (by decide)
          · have e : (⟨(moreL (rst j cell) i).toArray⟩ : Str) ++ ⟨#[lt (restN (rst j cell) i / 300)]⟩ = ⟨(moreL (rst j cell) (i + 1)).toArray⟩ := by
              show (⟨_ ++ _⟩ : Str) = _
              congr 1
              simp [moreL]
            rw [e]
            rfl
        · rintro σ' H1 ⟨rfl, hle, v6, rfl⟩
          have em : moreL (rst j cell) (rst j cell / 12 % 11).toNat = mr j cell := rfl
          rw [em]
          generalize restN (rst j cell) (rst j cell / 12 % 11).toNat = rr
          have hm := mr_len j cell
          have tl : (toldL j).length = 2 := rfl
          simp -dsimp +contextual only [↓Fw.a_disp, ↓Fw.a_pnil, ↓Fw.a_pcons, Fw.v_keys0, Fw.v_keys1, Fw.v_deq, ↓Fw.a_truD1, Fw.v_truD, ↓Fw.a_dqPop, ↓Fw.a_dqApp, Fw.v_isD, ↓Fw.a_dget2, ↓Fw.b_dsetd, ↓Fw.a_star, Fw.v_pop, Fw.v_reverse, ↓Fw.a_tru1, Fw.v_tru_r, ↓Fw.a_gseq, ↓Fw.b_gcons, ↓Fw.b_gnil, ↓Fw.a_seq, ↓Fw.a_next, ↓Fw.a_brk, ↓Fw.a_cont, ↓Fw.a_asg, ↓Fw.a_name, ↓Fw.a_gsub, ↓Fw.b_var, ↓Fw.a_c, ↓Fw.a_op, ↓Fw.a_un, ↓Fw.a_cons, ↓Fw.a_nil, ↓Fw.a_ret, ↓Fw.a_retN, ↓Fw.a_drop, ↓Fw.a_if, ↓Fw.b_test, ↓Fw.b_B, ↓Fw.a_and, ↓Fw.a_or, ↓Fw.a_not, ↓Fw.b_andV, ↓Fw.b_orV, ↓Fw.b_notV, ↓Fw.a_ifE, ↓Fw.a_fn, ↓Fw.a_fnX, ↓Fw.a_hold, ↓Fw.a_holdX, ↓Fw.a_ne_rr, ↓Fw.a_eq_rr, ↓Fw.a_at, ↓Fw.a_atS, ↓Fw.a_step, Fw.v_step, Fw.v_min2, Fw.v_max2, Fw.v_clear, ↓Fw.a_mt, ↓Fw.a_mtX, ↓Fw.a_mk, ↓Fw.a_cb, ↓Fw.a_lst, ↓Fw.a_tup, ↓Fw.a_chain, ↓Fw.a_dnew, ↓Fw.a_start, Fw.v_rU, Int.reduceNeg, Fw.v_add_ii, Fw.v_add_ss, Fw.v_sub_ii, Fw.v_mul_ii, Fw.v_div_ii, Fw.v_mod_ii, Fw.v_pow_ii, Fw.v_lt_ii, Fw.v_gt_ii, Fw.v_le_ii, Fw.v_ge_ii, Fw.v_le_ss, Fw.v_eqS_ii, Fw.v_eqS_ss, Fw.v_neS_ii, Fw.v_neS_ss, Fw.v_eq_ii, Fw.v_eq_ss, Fw.v_eq_bb, Fw.v_ne_ii, Fw.v_ne_ss, Fw.v_ne_bb, Fw.v_ne_tt, Fw.v_eq_tt, Fw.v_in_sc, Fw.v_ix_s, Fw.v_len_s, Fw.v_type, Fw.v_is, ↓Fw.a_bm, ↓Fw.a_bm0, ↓Fw.a_sl, ↓Fw.a_nopart, ↓Fw.a_part, Fw.v_sl_s, Fw.v_sl_r, Fw.v_app, Fw.v_add_rr, ↓Fw.b_ix_r, Fw.b_ix_r, Fw.v_in_r, Fw.v_set_r, Fw.v_len_r, Fw.v_list_r, Fw.v_listA, Fw.v_dictA, Fw.v_int_i, Fw.v_int_b, Fw.v_key_i, Fw.v_key_s, Fw.v_lst, Fw.v_tup, Fw.v_dic, Fw.v_ty_r, Fw.v_ty_s, Fw.v_ty_i, Fw.v_ty_b, Fw.v_ty_n, Fw.v_tyL, Fw.v_same, Fw.v_old, Fw.v_ne, Fw.v_upd, Fw.v_flat_s, Fw.v_inStrs, ↓Fw.a_yes, Fw.v_wipe0, Fw.v_wipe1, Fw.cx_K, Int.reduceToNat, List.length_replicate, Nat.sub_self, Nat.reduceSub, Nat.reduceAdd, List.replicate_zero, List.replicate_succ, List.append_nil, List.length_cons, List.length_nil, List.map_cons, List.map_nil, List.cons_append, List.nil_append, List.getElem?_cons_zero, List.getElem?_cons_succ, List.set_cons_zero, List.set_cons_succ, Option.some.injEq, V.int.injEq, V.bl.injEq, V.ref.injEq, V.str.injEq, exists_eq_left', exists_eq_left, exists_eq_right, exists_and_left, HO.lst.injEq, HO.dK.injEq, HO.tup.injEq, Option.isSome_some, true_and, and_true, Fw.v_m_bool, Fw.v_m_int, Fw.v_m_str, Fw.v_m_list, Fw.v_m_tuple, Fw.v_m_dict, Fw.v_flats, Bool.xor_true, Bool.xor_false, Bool.not_eq_true', decide_eq_false_iff_not, not_true_eq_false, not_false_eq_true, decide_true, decide_false, decide_eq_true_eq, ite_true, ite_false, Bool.not_true, Bool.not_false, Bool.false_eq_true, reduceCtorEq, Fw.isT_NoneType_bool, Fw.isT_NoneType_int, Fw.isT_NoneType_str, Fw.isT_NoneType_list, Fw.isT_NoneType_tuple, Fw.isT_NoneType_dict, Fw.isT_bool_bool, Fw.isT_bool_int, Fw.isT_bool_str, Fw.isT_bool_list, Fw.isT_bool_tuple, Fw.isT_bool_dict, Fw.isT_int_bool, Fw.isT_int_int, Fw.isT_int_str, Fw.isT_int_list, Fw.isT_int_tuple, Fw.isT_int_dict, Fw.isT_str_bool, Fw.isT_str_int, Fw.isT_str_str, Fw.isT_str_list, Fw.isT_str_tuple, Fw.isT_str_dict, Fw.isT_list_bool, Fw.isT_list_int, Fw.isT_list_str, Fw.isT_list_list, Fw.isT_list_tuple, Fw.isT_list_dict, Fw.isT_tuple_bool, Fw.isT_tuple_int, Fw.isT_tuple_str, Fw.isT_tuple_list, Fw.isT_tuple_tuple, Fw.isT_tuple_dict, Fw.isT_dict_bool, Fw.isT_dict_int, Fw.isT_dict_str, Fw.isT_dict_list, Fw.isT_dict_tuple, Fw.isT_dict_dict]
          simp only [str_len, tl]
          refine ⟨by decide, ite2 (fun c => ⟨sz100 (by omega), ?_⟩) fun c => ?_⟩
          · rw [str_app]
            refine Q1 _ ?_
            unfold wordL
            rw [if_neg (fun z => (h1 c).2 z.2), if_pos c]
          · have ea : cell / 2 % (((mr j cell).length : Int) + 1) = (((cell / 2 % ((mr j cell).length + 1 : Nat)).toNat : Nat) : Int) := by
              have := Int.emod_nonneg (cell / 2) (b := (((mr j cell).length + 1 : Nat) : Int)) (by omega)
              rw [Int.toNat_of_nonneg this]
              rfl
            have eb : (cell / 2 % ((mr j cell).length + 1 : Nat)).toNat ≤ (mr j cell).length := by
              have := Int.emod_lt_of_pos (cell / 2) (b := (((mr j cell).length + 1 : Nat) : Int)) (by omega)
              omega
            rw [ea]
            have ew : wordL j cell = (mr j cell).take (cell / 2 % ((mr j cell).length + 1 : Nat)).toNat ++ toldL j ++ (mr j cell).drop (cell / 2 % ((mr j cell).length + 1 : Nat)).toNat := by
              rw [wordL, if_neg (fun z => c z.1), if_neg c]
            generalize (cell / 2 % ((mr j cell).length + 1 : Nat)).toNat = k at eb ew ⊢
            rw [cutS_hi _ _ eb, cutS_lo _ _ eb, str_app, str_app]
            simp only [str_len, List.length_append, List.length_take, List.length_drop, tl]
            exact ⟨⟨by decide, by decide⟩, sz100 (by omega), by omega, sz100 (by omega), sz100 (by omega), sz100 (by omega), sz100 (by omega), Q1 _ ew⟩
    · exact h.elim
/-! ### _law_words -/
theorem ok_words (S : Src K mg "_law_words" ["_law_script"] s_words) (B : Blt mg) (G__law_cell_at : Fn P w K mg base 1 "_law_cell_at" ["_law_script", "_law_k"] (sp_cell_at K)) (G__law_word : Fn P w K mg base 2 "_law_word" ["_law_k", "_law_cell"] (sp_word)) : Fn P w K mg base 3 "_law_words" ["_law_script"] (sp_words K) := by
  have sc := sc_words
  refine fn_mk S sc (fun vs H Q E h => ?_) (fun f cdv A outer s H vs Q E hr h => ⟨_, (pss_cons (ps_set (i := 1) sc.nd rfl (by first | exact Or.inl rfl | exact Or.inr rfl) (pe_op op_vAdd pe_int (pe_op op_vMod (pe_fn G__law_cell_at (hr.mono (by decide)) rfl (pa_cons (pv 0) (pa_cons pe_int pa_nil))) pe_int)))
     (pss_cut (ps_if (pt_cmpR (op_vEq hr.units) (pe_op op_vMod (pe_op op_vDiv (pe_fn G__law_cell_at (hr.mono (by decide)) rfl (pa_cons (pv 0) (pa_cons pe_int pa_nil))) pe_int) pe_int) pe_int (nomark _))
     (pss_one (ps_set (i := 1) sc.nd rfl (by first | exact Or.inl rfl | exact Or.inr rfl) (pe_op op_vAdd pe_int (pe_op op_vMod (pe_op op_vDiv (pe_fn G__law_cell_at (hr.mono (by decide)) rfl (pa_cons (pv 0) (pa_cons pe_int pa_nil))) pe_int) pe_int))))
     pss_nil)
     (pss_one (ps_ret (pe_lc (own := [("_law_k", 2)]) rfl sc.nd  (pi_range1 rfl B.n_range (pa_cons (pv 1) pa_nil)) (blkOk_by (N := n_words) (sc := defScope s_words) (own := [("_law_k", 2)]) (by decide +kernel)) (fun _ _ _ _ _ => (pg_name (i := 2) sc.nd rfl (by first | exact Or.inl rfl | exact Or.inr rfl))) (fun _ _ _ _ _ => pts_nil) (fun _ _ _ _ _ => (pe_fn G__law_word (hr.mono (by decide)) rfl (pa_cons (pv 2) (pa_cons (pe_fn G__law_cell_at (hr.mono (by decide)) rfl (pa_cons (pv 0) (pa_cons pe_int pa_nil))) pa_nil))))))))), ?_⟩)
  · unfold sp_words at h; split at h <;> first | rfl | exact h.elim
  · unfold sp_words at h
    split at h
    · rename_i a
      obtain ⟨ns, hS, q⟩ := h
      simp -dsimp +contextual only [↓Fw.a_disp, ↓Fw.a_pnil, ↓Fw.a_pcons, Fw.v_keys0, Fw.v_keys1, Fw.v_deq, ↓Fw.a_truD1, Fw.v_truD, ↓Fw.a_dqPop, ↓Fw.a_dqApp, Fw.v_isD, ↓Fw.a_dget2, ↓Fw.b_dsetd, ↓Fw.a_star, Fw.v_pop, Fw.v_reverse, ↓Fw.a_tru1, Fw.v_tru_r, ↓Fw.a_gseq, ↓Fw.b_gcons, ↓Fw.b_gnil, ↓Fw.a_seq, ↓Fw.a_next, ↓Fw.a_brk, ↓Fw.a_cont, ↓Fw.a_asg, ↓Fw.a_name, ↓Fw.a_gsub, ↓Fw.b_var, ↓Fw.a_c, ↓Fw.a_op, ↓Fw.a_un, ↓Fw.a_cons, ↓Fw.a_nil, ↓Fw.a_ret, ↓Fw.a_retN, ↓Fw.a_drop, ↓Fw.a_if, ↓Fw.b_test, ↓Fw.b_B, ↓Fw.a_and, ↓Fw.a_or, ↓Fw.a_not, ↓Fw.b_andV, ↓Fw.b_orV, ↓Fw.b_notV, ↓Fw.a_ifE, ↓Fw.a_fn, ↓Fw.a_fnX, ↓Fw.a_hold, ↓Fw.a_holdX, ↓Fw.a_ne_rr, ↓Fw.a_eq_rr, ↓Fw.a_at, ↓Fw.a_atS, ↓Fw.a_step, Fw.v_step, Fw.v_min2, Fw.v_max2, Fw.v_clear, ↓Fw.a_mt, ↓Fw.a_mtX, ↓Fw.a_mk, ↓Fw.a_cb, ↓Fw.a_lst, ↓Fw.a_tup, ↓Fw.a_chain, ↓Fw.a_dnew, ↓Fw.a_start, Fw.v_rU, Int.reduceNeg, Fw.v_add_ii, Fw.v_add_ss, Fw.v_sub_ii, Fw.v_mul_ii, Fw.v_div_ii, Fw.v_mod_ii, Fw.v_pow_ii, Fw.v_lt_ii, Fw.v_gt_ii, Fw.v_le_ii, Fw.v_ge_ii, Fw.v_le_ss, Fw.v_eqS_ii, Fw.v_eqS_ss, Fw.v_neS_ii, Fw.v_neS_ss, Fw.v_eq_ii, Fw.v_eq_ss, Fw.v_eq_bb, Fw.v_ne_ii, Fw.v_ne_ss, Fw.v_ne_bb, Fw.v_ne_tt, Fw.v_eq_tt, Fw.v_in_sc, Fw.v_ix_s, Fw.v_len_s, Fw.v_type, Fw.v_is, ↓Fw.a_bm, ↓Fw.a_bm0, ↓Fw.a_sl, ↓Fw.a_nopart, ↓Fw.a_part, Fw.v_sl_s, Fw.v_sl_r, Fw.v_app, Fw.v_add_rr, ↓Fw.b_ix_r, Fw.b_ix_r, Fw.v_in_r, Fw.v_set_r, Fw.v_len_r, Fw.v_list_r, Fw.v_listA, Fw.v_dictA, Fw.v_int_i, Fw.v_int_b, Fw.v_key_i, Fw.v_key_s, Fw.v_lst, Fw.v_tup, Fw.v_dic, Fw.v_ty_r, Fw.v_ty_s, Fw.v_ty_i, Fw.v_ty_b, Fw.v_ty_n, Fw.v_tyL, Fw.v_same, Fw.v_old, Fw.v_ne, Fw.v_upd, Fw.v_flat_s, Fw.v_inStrs, ↓Fw.a_yes, Fw.v_wipe0, Fw.v_wipe1, Fw.cx_K, Int.reduceToNat, List.length_replicate, Nat.sub_self, Nat.reduceSub, Nat.reduceAdd, List.replicate_zero, List.replicate_succ, List.append_nil, List.length_cons, List.length_nil, List.map_cons, List.map_nil, List.cons_append, List.nil_append, List.getElem?_cons_zero, List.getElem?_cons_succ, List.set_cons_zero, List.set_cons_succ, Option.some.injEq, V.int.injEq, V.bl.injEq, V.ref.injEq, V.str.injEq, exists_eq_left', exists_eq_left, exists_eq_right, exists_and_left, HO.lst.injEq, HO.dK.injEq, HO.tup.injEq, Option.isSome_some, true_and, and_true, Fw.v_m_bool, Fw.v_m_int, Fw.v_m_str, Fw.v_m_list, Fw.v_m_tuple, Fw.v_m_dict, Fw.v_flats, Bool.xor_true, Bool.xor_false, Bool.not_eq_true', decide_eq_false_iff_not, not_true_eq_false, not_false_eq_true, decide_true, decide_false, decide_eq_true_eq, ite_true, ite_false, Bool.not_true, Bool.not_false, Bool.false_eq_true, reduceCtorEq, Fw.isT_NoneType_bool, Fw.isT_NoneType_int, Fw.isT_NoneType_str, Fw.isT_NoneType_list, Fw.isT_NoneType_tuple, Fw.isT_NoneType_dict, Fw.isT_bool_bool, Fw.isT_bool_int, Fw.isT_bool_str, Fw.isT_bool_list, Fw.isT_bool_tuple, Fw.isT_bool_dict, Fw.isT_int_bool, Fw.isT_int_int, Fw.isT_int_str, Fw.isT_int_list, Fw.isT_int_tuple, Fw.isT_int_dict, Fw.isT_str_bool, Fw.isT_str_int, Fw.isT_str_str, Fw.isT_str_list, Fw.isT_str_tuple, Fw.isT_str_dict, Fw.isT_list_bool, Fw.isT_list_int, Fw.isT_list_str, Fw.isT_list_list, Fw.isT_list_tuple, Fw.isT_list_dict, Fw.isT_tuple_bool, Fw.isT_tuple_int, Fw.isT_tuple_str, Fw.isT_tuple_list, Fw.isT_tuple_tuple, Fw.isT_tuple_dict, Fw.isT_dict_bool, Fw.isT_dict_int, Fw.isT_dict_str, Fw.isT_dict_list, Fw.isT_dict_tuple, Fw.isT_dict_dict]
      refine cell_use 0 hS rfl ?_
      simp -dsimp +contextual only [↓Fw.a_disp, ↓Fw.a_pnil, ↓Fw.a_pcons, Fw.v_keys0, Fw.v_keys1, Fw.v_deq, ↓Fw.a_truD1, Fw.v_truD, ↓Fw.a_dqPop, ↓Fw.a_dqApp, Fw.v_isD, ↓Fw.a_dget2, ↓Fw.b_dsetd, ↓Fw.a_star, Fw.v_pop, Fw.v_reverse, ↓Fw.a_tru1, Fw.v_tru_r, ↓Fw.a_gseq, ↓Fw.b_gcons, ↓Fw.b_gnil, ↓Fw.a_seq, ↓Fw.a_next, ↓Fw.a_brk, ↓Fw.a_cont, ↓Fw.a_asg, ↓Fw.a_name, ↓Fw.a_gsub, ↓Fw.b_var, ↓Fw.a_c, ↓Fw.a_op, ↓Fw.a_un, ↓Fw.a_cons, ↓Fw.a_nil, ↓Fw.a_ret, ↓Fw.a_retN, ↓Fw.a_drop, ↓Fw.a_if, ↓Fw.b_test, ↓Fw.b_B, ↓Fw.a_and, ↓Fw.a_or, ↓Fw.a_not, ↓Fw.b_andV, ↓Fw.b_orV, ↓Fw.b_notV, ↓Fw.a_ifE, ↓Fw.a_fn, ↓Fw.a_fnX, ↓Fw.a_hold, ↓Fw.a_holdX, ↓Fw.a_ne_rr, ↓Fw.a_eq_rr, ↓Fw.a_at, ↓Fw.a_atS, ↓Fw.a_step, Fw.v_step, Fw.v_min2, Fw.v_max2, Fw.v_clear, ↓Fw.a_mt, ↓Fw.a_mtX, ↓Fw.a_mk, ↓Fw.a_cb, ↓Fw.a_lst, ↓Fw.a_tup, ↓Fw.a_chain, ↓Fw.a_dnew, ↓Fw.a_start, Fw.v_rU, Int.reduceNeg, Fw.v_add_ii, Fw.v_add_ss, Fw.v_sub_ii, Fw.v_mul_ii, Fw.v_div_ii, Fw.v_mod_ii, Fw.v_pow_ii, Fw.v_lt_ii, Fw.v_gt_ii, Fw.v_le_ii, Fw.v_ge_ii, Fw.v_le_ss, Fw.v_eqS_ii, Fw.v_eqS_ss, Fw.v_neS_ii, Fw.v_neS_ss, Fw.v_eq_ii, Fw.v_eq_ss, Fw.v_eq_bb, Fw.v_ne_ii, Fw.v_ne_ss, Fw.v_ne_bb, Fw.v_ne_tt, Fw.v_eq_tt, Fw.v_in_sc, Fw.v_ix_s, Fw.v_len_s, Fw.v_type, Fw.v_is, ↓Fw.a_bm, ↓Fw.a_bm0, ↓Fw.a_sl, ↓Fw.a_nopart, ↓Fw.a_part, Fw.v_sl_s, Fw.v_sl_r, Fw.v_app, Fw.v_add_rr, ↓Fw.b_ix_r, Fw.b_ix_r, Fw.v_in_r, Fw.v_set_r, Fw.v_len_r, Fw.v_list_r, Fw.v_listA, Fw.v_dictA, Fw.v_int_i, Fw.v_int_b, Fw.v_key_i, Fw.v_key_s, Fw.v_lst, Fw.v_tup, Fw.v_dic, Fw.v_ty_r, Fw.v_ty_s, Fw.v_ty_i, Fw.v_ty_b, Fw.v_ty_n, Fw.v_tyL, Fw.v_same, Fw.v_old, Fw.v_ne, Fw.v_upd, Fw.v_flat_s, Fw.v_inStrs, ↓Fw.a_yes, Fw.v_wipe0, Fw.v_wipe1, Fw.cx_K, Int.reduceToNat, List.length_replicate, Nat.sub_self, Nat.reduceSub, Nat.reduceAdd, List.replicate_zero, List.replicate_succ, List.append_nil, List.length_cons, List.length_nil, List.map_cons, List.map_nil, List.cons_append, List.nil_append, List.getElem?_cons_zero, List.getElem?_cons_succ, List.set_cons_zero, List.set_cons_succ, Option.some.injEq, V.int.injEq, V.bl.injEq, V.ref.injEq, V.str.injEq, exists_eq_left', exists_eq_left, exists_eq_right, exists_and_left, HO.lst.injEq, HO.dK.injEq, HO.tup.injEq, Option.isSome_some, true_and, and_true, Fw.v_m_bool, Fw.v_m_int, Fw.v_m_str, Fw.v_m_list, Fw.v_m_tuple, Fw.v_m_dict, Fw.v_flats, Bool.xor_true, Bool.xor_false, Bool.not_eq_true', decide_eq_false_iff_not, not_true_eq_false, not_false_eq_true, decide_true, decide_false, decide_eq_true_eq, ite_true, ite_false, Bool.not_true, Bool.not_false, Bool.false_eq_true, reduceCtorEq, Fw.isT_NoneType_bool, Fw.isT_NoneType_int, Fw.isT_NoneType_str, Fw.isT_NoneType_list, Fw.isT_NoneType_tuple, Fw.isT_NoneType_dict, Fw.isT_bool_bool, Fw.isT_bool_int, Fw.isT_bool_str, Fw.isT_bool_list, Fw.isT_bool_tuple, Fw.isT_bool_dict, Fw.isT_int_bool, Fw.isT_int_int, Fw.isT_int_str, Fw.isT_int_list, Fw.isT_int_tuple, Fw.isT_int_dict, Fw.isT_str_bool, Fw.isT_str_int, Fw.isT_str_str, Fw.isT_str_list, Fw.isT_str_tuple, Fw.isT_str_dict, Fw.isT_list_bool, Fw.isT_list_int, Fw.isT_list_str, Fw.isT_list_list, Fw.isT_list_tuple, Fw.isT_list_dict, Fw.isT_tuple_bool, Fw.isT_tuple_int, Fw.isT_tuple_str, Fw.isT_tuple_list, Fw.isT_tuple_tuple, Fw.isT_tuple_dict, Fw.isT_dict_bool, Fw.isT_dict_int, Fw.isT_dict_str, Fw.isT_dict_list, Fw.isT_dict_tuple, Fw.isT_dict_dict]
      refine ⟨by decide, ?_⟩
      refine cut (fun σ' H' => σ' = [some (.ref a), some (.int (cntOf 31 ns)), none] ∧ H' = H) (fun N hN => ?_) ?_
      · simp -dsimp +contextual only [↓Fw.a_disp, ↓Fw.a_pnil, ↓Fw.a_pcons, Fw.v_keys0, Fw.v_keys1, Fw.v_deq, ↓Fw.a_truD1, Fw.v_truD, ↓Fw.a_dqPop, ↓Fw.a_dqApp, Fw.v_isD, ↓Fw.a_dget2, ↓Fw.b_dsetd, ↓Fw.a_star, Fw.v_pop, Fw.v_reverse, ↓Fw.a_tru1, Fw.v_tru_r, ↓Fw.a_gseq, ↓Fw.b_gcons, ↓Fw.b_gnil, ↓Fw.a_seq, ↓Fw.a_next, ↓Fw.a_brk, ↓Fw.a_cont, ↓Fw.a_asg, ↓Fw.a_name, ↓Fw.a_gsub, ↓Fw.b_var, ↓Fw.a_c, ↓Fw.a_op, ↓Fw.a_un, ↓Fw.a_cons, ↓Fw.a_nil, ↓Fw.a_ret, ↓Fw.a_retN, ↓Fw.a_drop, ↓Fw.a_if, ↓Fw.b_test, ↓Fw.b_B, ↓Fw.a_and, ↓Fw.a_or, ↓Fw.a_not, ↓Fw.b_andV, ↓Fw.b_orV, ↓Fw.b_notV, ↓Fw.a_ifE, ↓Fw.a_fn, ↓Fw.a_fnX, ↓Fw.a_hold, ↓Fw.a_holdX, ↓Fw.a_ne_rr, ↓Fw.a_eq_rr, ↓Fw.a_at, ↓Fw.a_atS, ↓Fw.a_step, Fw.v_step, Fw.v_min2, Fw.v_max2, Fw.v_clear, ↓Fw.a_mt, ↓Fw.a_mtX, ↓Fw.a_mk, ↓Fw.a_cb, ↓Fw.a_lst, ↓Fw.a_tup, ↓Fw.a_chain, ↓Fw.a_dnew, ↓Fw.a_start, Fw.v_rU, Int.reduceNeg, Fw.v_add_ii, Fw.v_add_ss, Fw.v_sub_ii, Fw.v_mul_ii, Fw.v_div_ii, Fw.v_mod_ii, Fw.v_pow_ii, Fw.v_lt_ii, Fw.v_gt_ii, Fw.v_le_ii, Fw.v_ge_ii, Fw.v_le_ss, Fw.v_eqS_ii, Fw.v_eqS_ss, Fw.v_neS_ii, Fw.v_neS_ss, Fw.v_eq_ii, Fw.v_eq_ss, Fw.v_eq_bb, Fw.v_ne_ii, Fw.v_ne_ss, Fw.v_ne_bb, Fw.v_ne_tt, Fw.v_eq_tt, Fw.v_in_sc, Fw.v_ix_s, Fw.v_len_s, Fw.v_type, Fw.v_is, ↓Fw.a_bm, ↓Fw.a_bm0, ↓Fw.a_sl, ↓Fw.a_nopart, ↓Fw.a_part, Fw.v_sl_s, Fw.v_sl_r, Fw.v_app, Fw.v_add_rr, ↓Fw.b_ix_r, Fw.b_ix_r, Fw.v_in_r, Fw.v_set_r, Fw.v_len_r, Fw.v_list_r, Fw.v_listA, Fw.v_dictA, Fw.v_int_i, Fw.v_int_b, Fw.v_key_i, Fw.v_key_s, Fw.v_lst, Fw.v_tup, Fw.v_dic, Fw.v_ty_r, Fw.v_ty_s, Fw.v_ty_i, Fw.v_ty_b, Fw.v_ty_n, Fw.v_tyL, Fw.v_same, Fw.v_old, Fw.v_ne, Fw.v_upd, Fw.v_flat_s, Fw.v_inStrs, ↓Fw.a_yes, Fw.v_wipe0, Fw.v_wipe1, Fw.cx_K, Int.reduceToNat, List.length_replicate, Nat.sub_self, Nat.reduceSub, Nat.reduceAdd, List.replicate_zero, List.replicate_succ, List.append_nil, List.length_cons, List.length_nil, List.map_cons, List.map_nil, List.cons_append, List.nil_append, List.getElem?_cons_zero, List.getElem?_cons_succ, List.set_cons_zero, List.set_cons_succ, Option.some.injEq, V.int.injEq, V.bl.injEq, V.ref.injEq, V.str.injEq, exists_eq_left', exists_eq_left, exists_eq_right, exists_and_left, HO.lst.injEq, HO.dK.injEq, HO.tup.injEq, Option.isSome_some, true_and, and_true, Fw.v_m_bool, Fw.v_m_int, Fw.v_m_str, Fw.v_m_list, Fw.v_m_tuple, Fw.v_m_dict, Fw.v_flats, Bool.xor_true, Bool.xor_false, Bool.not_eq_true', decide_eq_false_iff_not, not_true_eq_false, not_false_eq_true, decide_true, decide_false, decide_eq_true_eq, ite_true, ite_false, Bool.not_true, Bool.not_false, Bool.false_eq_true, reduceCtorEq, Fw.isT_NoneType_bool, Fw.isT_NoneType_int, Fw.isT_NoneType_str, Fw.isT_NoneType_list, Fw.isT_NoneType_tuple, Fw.isT_NoneType_dict, Fw.isT_bool_bool, Fw.isT_bool_int, Fw.isT_bool_str, Fw.isT_bool_list, Fw.isT_bool_tuple, Fw.isT_bool_dict, Fw.isT_int_bool, Fw.isT_int_int, Fw.isT_int_str, Fw.isT_int_list, Fw.isT_int_tuple, Fw.isT_int_dict, Fw.isT_str_bool, Fw.isT_str_int, Fw.isT_str_str, Fw.isT_str_list, Fw.isT_str_tuple, Fw.isT_str_dict, Fw.isT_list_bool, Fw.isT_list_int, Fw.isT_list_str, Fw.isT_list_list, Fw.isT_list_tuple, Fw.isT_list_dict, Fw.isT_tuple_bool, Fw.isT_tuple_int, Fw.isT_tuple_str, Fw.isT_tuple_list, Fw.isT_tuple_tuple, Fw.isT_tuple_dict, Fw.isT_dict_bool, Fw.isT_dict_int, Fw.isT_dict_str, Fw.isT_dict_list, Fw.isT_dict_tuple, Fw.isT_dict_dict]
        refine cell_use 0 hS rfl ?_
        simp -dsimp +contextual only [↓Fw.a_disp, ↓Fw.a_pnil, ↓Fw.a_pcons, Fw.v_keys0, Fw.v_keys1, Fw.v_deq, ↓Fw.a_truD1, Fw.v_truD, ↓Fw.a_dqPop, ↓Fw.a_dqApp, Fw.v_isD, ↓Fw.a_dget2, ↓Fw.b_dsetd, ↓Fw.a_star, Fw.v_pop, Fw.v_reverse, ↓Fw.a_tru1, Fw.v_tru_r, ↓Fw.a_gseq, ↓Fw.b_gcons, ↓Fw.b_gnil, ↓Fw.a_seq, ↓Fw.a_next, ↓Fw.a_brk, ↓Fw.a_cont, ↓Fw.a_asg, ↓Fw.a_name, ↓Fw.a_gsub, ↓Fw.b_var, ↓Fw.a_c, ↓Fw.a_op, ↓Fw.a_un, ↓Fw.a_cons, ↓Fw.a_nil, ↓Fw.a_ret, ↓Fw.a_retN, ↓Fw.a_drop, ↓Fw.a_if, ↓Fw.b_test, ↓Fw.b_B, ↓Fw.a_and, ↓Fw.a_or, ↓Fw.a_not, ↓Fw.b_andV, ↓Fw.b_orV, ↓Fw.b_notV, ↓Fw.a_ifE, ↓Fw.a_fn, ↓Fw.a_fnX, ↓Fw.a_hold, ↓Fw.a_holdX, ↓Fw.a_ne_rr, ↓Fw.a_eq_rr, ↓Fw.a_at, ↓Fw.a_atS, ↓Fw.a_step, Fw.v_step, Fw.v_min2, Fw.v_max2, Fw.v_clear, ↓Fw.a_mt, ↓Fw.a_mtX, ↓Fw.a_mk, ↓Fw.a_cb, ↓Fw.a_lst, ↓Fw.a_tup, ↓Fw.a_chain, ↓Fw.a_dnew, ↓Fw.a_start, Fw.v_rU, Int.reduceNeg, Fw.v_add_ii, Fw.v_add_ss, Fw.v_sub_ii, Fw.v_mul_ii, Fw.v_div_ii, Fw.v_mod_ii, Fw.v_pow_ii, Fw.v_lt_ii, Fw.v_gt_ii, Fw.v_le_ii, Fw.v_ge_ii, Fw.v_le_ss, Fw.v_eqS_ii, Fw.v_eqS_ss, Fw.v_neS_ii, Fw.v_neS_ss, Fw.v_eq_ii, Fw.v_eq_ss, Fw.v_eq_bb, Fw.v_ne_ii, Fw.v_ne_ss, Fw.v_ne_bb, Fw.v_ne_tt, Fw.v_eq_tt, Fw.v_in_sc, Fw.v_ix_s, Fw.v_len_s, Fw.v_type, Fw.v_is, ↓Fw.a_bm, ↓Fw.a_bm0, ↓Fw.a_sl, ↓Fw.a_nopart, ↓Fw.a_part, Fw.v_sl_s, Fw.v_sl_r, Fw.v_app, Fw.v_add_rr, ↓Fw.b_ix_r, Fw.b_ix_r, Fw.v_in_r, Fw.v_set_r, Fw.v_len_r, Fw.v_list_r, Fw.v_listA, Fw.v_dictA, Fw.v_int_i, Fw.v_int_b, Fw.v_key_i, Fw.v_key_s, Fw.v_lst, Fw.v_tup, Fw.v_dic, Fw.v_ty_r, Fw.v_ty_s, Fw.v_ty_i, Fw.v_ty_b, Fw.v_ty_n, Fw.v_tyL, Fw.v_same, Fw.v_old, Fw.v_ne, Fw.v_upd, Fw.v_flat_s, Fw.v_inStrs, ↓Fw.a_yes, Fw.v_wipe0, Fw.v_wipe1, Fw.cx_K, Int.reduceToNat, List.length_replicate, Nat.sub_self, Nat.reduceSub, Nat.reduceAdd, List.replicate_zero, List.replicate_succ, List.append_nil, List.length_cons, List.length_nil, List.map_cons, List.map_nil, List.cons_append, List.nil_append, List.getElem?_cons_zero, List.getElem?_cons_succ, List.set_cons_zero, List.set_cons_succ, Option.some.injEq, V.int.injEq, V.bl.injEq, V.ref.injEq, V.str.injEq, exists_eq_left', exists_eq_left, exists_eq_right, exists_and_left, HO.lst.injEq, HO.dK.injEq, HO.tup.injEq, Option.isSome_some, true_and, and_true, Fw.v_m_bool, Fw.v_m_int, Fw.v_m_str, Fw.v_m_list, Fw.v_m_tuple, Fw.v_m_dict, Fw.v_flats, Bool.xor_true, Bool.xor_false, Bool.not_eq_true', decide_eq_false_iff_not, not_true_eq_false, not_false_eq_true, decide_true, decide_false, decide_eq_true_eq, ite_true, ite_false, Bool.not_true, Bool.not_false, Bool.false_eq_true, reduceCtorEq, Fw.isT_NoneType_bool, Fw.isT_NoneType_int, Fw.isT_NoneType_str, Fw.isT_NoneType_list, Fw.isT_NoneType_tuple, Fw.isT_NoneType_dict, Fw.isT_bool_bool, Fw.isT_bool_int, Fw.isT_bool_str, Fw.isT_bool_list, Fw.isT_bool_tuple, Fw.isT_bool_dict, Fw.isT_int_bool, Fw.isT_int_int, Fw.isT_int_str, Fw.isT_int_list, Fw.isT_int_tuple, Fw.isT_int_dict, Fw.isT_str_bool, Fw.isT_str_int, Fw.isT_str_str, Fw.isT_str_list, Fw.isT_str_tuple, Fw.isT_str_dict, Fw.isT_list_bool, Fw.isT_list_int, Fw.isT_list_str, Fw.isT_list_list, Fw.isT_list_tuple, Fw.isT_list_dict, Fw.isT_tuple_bool, Fw.isT_tuple_int, Fw.isT_tuple_str, Fw.isT_tuple_list, Fw.isT_tuple_tuple, Fw.isT_tuple_dict, Fw.isT_dict_bool, Fw.isT_dict_int, Fw.isT_dict_str, Fw.isT_dict_list, Fw.isT_dict_tuple, Fw.isT_dict_dict]
        refine ⟨⟨by decide, by decide⟩, by decide, ite2 (fun c => ?_) fun c => hN _ _ ⟨?_, rfl⟩⟩
        · refine cell_use 0 hS rfl ?_
          simp -dsimp +contextual only [↓Fw.a_disp, ↓Fw.a_pnil, ↓Fw.a_pcons, Fw.v_keys0, Fw.v_keys1, Fw.v_deq, ↓Fw.a_truD1, Fw.v_truD, ↓Fw.a_dqPop, ↓Fw.a_dqApp, Fw.v_isD, ↓Fw.a_dget2, ↓Fw.b_dsetd, ↓Fw.a_star, Fw.v_pop, Fw.v_reverse, ↓Fw.a_tru1, Fw.v_tru_r, ↓Fw.a_gseq, ↓Fw.b_gcons, ↓Fw.b_gnil, ↓Fw.a_seq, ↓Fw.a_next, ↓Fw.a_brk, ↓Fw.a_cont, ↓Fw.a_asg, ↓Fw.a_name, ↓Fw.a_gsub, ↓Fw.b_var, ↓Fw.a_c, ↓Fw.a_op, ↓Fw.a_un, ↓Fw.a_cons, ↓Fw.a_nil, ↓Fw.a_ret, ↓Fw.a_retN, ↓Fw.a_drop, ↓Fw.a_if, ↓Fw.b_test, ↓Fw.b_B, ↓Fw.a_and, ↓Fw.a_or, ↓Fw.a_not, ↓Fw.b_andV, ↓Fw.b_orV, ↓Fw.b_notV, ↓Fw.a_ifE, ↓Fw.a_fn, ↓Fw.a_fnX, ↓Fw.a_hold, ↓Fw.a_holdX, ↓Fw.a_ne_rr, ↓Fw.a_eq_rr, ↓Fw.a_at, ↓Fw.a_atS, ↓Fw.a_step, Fw.v_step, Fw.v_min2, Fw.v_max2, Fw.v_clear, ↓Fw.a_mt, ↓Fw.a_mtX, ↓Fw.a_mk, ↓Fw.a_cb, ↓Fw.a_lst, ↓Fw.a_tup, ↓Fw.a_chain, ↓Fw.a_dnew, ↓Fw.a_start, Fw.v_rU, Int.reduceNeg, Fw.v_add_ii, Fw.v_add_ss, Fw.v_sub_ii, Fw.v_mul_ii, Fw.v_div_ii, Fw.v_mod_ii, Fw.v_pow_ii, Fw.v_lt_ii, Fw.v_gt_ii, Fw.v_le_ii, Fw.v_ge_ii, Fw.v_le_ss, Fw.v_eqS_ii, Fw.v_eqS_ss, Fw.v_neS_ii, Fw.v_neS_ss, Fw.v_eq_ii, Fw.v_eq_ss, Fw.v_eq_bb, Fw.v_ne_ii, Fw.v_ne_ss, Fw.v_ne_bb, Fw.v_ne_tt, Fw.v_eq_tt, Fw.v_in_sc, Fw.v_ix_s, Fw.v_len_s, Fw.v_type, Fw.v_is, ↓Fw.a_bm, ↓Fw.a_bm0, ↓Fw.a_sl, ↓Fw.a_nopart, ↓Fw.a_part, Fw.v_sl_s, Fw.v_sl_r, Fw.v_app, Fw.v_add_rr, ↓Fw.b_ix_r, Fw.b_ix_r, Fw.v_in_r, Fw.v_set_r, Fw.v_len_r, Fw.v_list_r, Fw.v_listA, Fw.v_dictA, Fw.v_int_i, Fw.v_int_b, Fw.v_key_i, Fw.v_key_s, Fw.v_lst, Fw.v_tup, Fw.v_dic, Fw.v_ty_r, Fw.v_ty_s, Fw.v_ty_i, Fw.v_ty_b, Fw.v_ty_n, Fw.v_tyL, Fw.v_same, Fw.v_old, Fw.v_ne, Fw.v_upd, Fw.v_flat_s, Fw.v_inStrs, ↓Fw.a_yes, Fw.v_wipe0, Fw.v_wipe1, Fw.cx_K, Int.reduceToNat, List.length_replicate, Nat.sub_self, Nat.reduceSub, Nat.reduceAdd, List.replicate_zero, List.replicate_succ, List.append_nil, List.length_cons, List.length_nil, List.map_cons, List.map_nil, List.cons_append, List.nil_append, List.getElem?_cons_zero, List.getElem?_cons_succ, List.set_cons_zero, List.set_cons_succ, Option.some.injEq, V.int.injEq, V.bl.injEq, V.ref.injEq, V.str.injEq, exists_eq_left', exists_eq_left, exists_eq_right, exists_and_left, HO.lst.injEq, HO.dK.injEq, HO.tup.injEq, Option.isSome_some, true_and, and_true, Fw.v_m_bool, Fw.v_m_int, Fw.v_m_str, Fw.v_m_list, Fw.v_m_tuple, Fw.v_m_dict, Fw.v_flats, Bool.xor_true, Bool.xor_false, Bool.not_eq_true', decide_eq_false_iff_not, not_true_eq_false, not_false_eq_true, decide_true, decide_false, decide_eq_true_eq, ite_true, ite_false, Bool.not_true, Bool.not_false, Bool.false_eq_true, reduceCtorEq, Fw.isT_NoneType_bool, Fw.isT_NoneType_int, Fw.isT_NoneType_str, Fw.isT_NoneType_list, Fw.isT_NoneType_tuple, Fw.isT_NoneType_dict, Fw.isT_bool_bool, Fw.isT_bool_int, Fw.isT_bool_str, Fw.isT_bool_list, Fw.isT_bool_tuple, Fw.isT_bool_dict, Fw.isT_int_bool, Fw.isT_int_int, Fw.isT_int_str, Fw.isT_int_list, Fw.isT_int_tuple, Fw.isT_int_dict, Fw.isT_str_bool, Fw.isT_str_int, Fw.isT_str_str, Fw.isT_str_list, Fw.isT_str_tuple, Fw.isT_str_dict, Fw.isT_list_bool, Fw.isT_list_int, Fw.isT_list_str, Fw.isT_list_list, Fw.isT_list_tuple, Fw.isT_list_dict, Fw.isT_tuple_bool, Fw.isT_tuple_int, Fw.isT_tuple_str, Fw.isT_tuple_list, Fw.isT_tuple_tuple, Fw.isT_tuple_dict, Fw.isT_dict_bool, Fw.isT_dict_int, Fw.isT_dict_str, Fw.isT_dict_list, Fw.isT_dict_tuple, Fw.isT_dict_dict]
          refine ⟨⟨by decide, by decide⟩, by decide, hN _ _ ⟨?_, rfl⟩⟩
          have e : (cntOf 31 ns : Int) = 10 + cellAt ns 0 / 30 % 31 := by
            unfold cntOf
            rw [if_pos c]
            omega
          rw [e]
        · have e : (cntOf 31 ns : Int) = 2 + cellAt ns 0 % 6 := by
            unfold cntOf
            rw [if_neg c]
            omega
          rw [e]
      · rintro σ' H' ⟨rfl, rfl⟩
        have hc : cntOf 31 ns ≤ 40 := by
          unfold cntOf
          split <;> omega
        simp -dsimp +contextual only [↓Fw.a_disp, ↓Fw.a_pnil, ↓Fw.a_pcons, Fw.v_keys0, Fw.v_keys1, Fw.v_deq, ↓Fw.a_truD1, Fw.v_truD, ↓Fw.a_dqPop, ↓Fw.a_dqApp, Fw.v_isD, ↓Fw.a_dget2, ↓Fw.b_dsetd, ↓Fw.a_star, Fw.v_pop, Fw.v_reverse, ↓Fw.a_tru1, Fw.v_tru_r, ↓Fw.a_gseq, ↓Fw.b_gcons, ↓Fw.b_gnil, ↓Fw.a_seq, ↓Fw.a_next, ↓Fw.a_brk, ↓Fw.a_cont, ↓Fw.a_asg, ↓Fw.a_name, ↓Fw.a_gsub, ↓Fw.b_var, ↓Fw.a_c, ↓Fw.a_op, ↓Fw.a_un, ↓Fw.a_cons, ↓Fw.a_nil, ↓Fw.a_ret, ↓Fw.a_retN, ↓Fw.a_drop, ↓Fw.a_if, ↓Fw.b_test, ↓Fw.b_B, ↓Fw.a_and, ↓Fw.a_or, ↓Fw.a_not, ↓Fw.b_andV, ↓Fw.b_orV, ↓Fw.b_notV, ↓Fw.a_ifE, ↓Fw.a_fn, ↓Fw.a_fnX, ↓Fw.a_hold, ↓Fw.a_holdX, ↓Fw.a_ne_rr, ↓Fw.a_eq_rr, ↓Fw.a_at, ↓Fw.a_atS, ↓Fw.a_step, Fw.v_step, Fw.v_min2, Fw.v_max2, Fw.v_clear, ↓Fw.a_mt, ↓Fw.a_mtX, ↓Fw.a_mk, ↓Fw.a_cb, ↓Fw.a_lst, ↓Fw.a_tup, ↓Fw.a_chain, ↓Fw.a_dnew, ↓Fw.a_start, Fw.v_rU, Int.reduceNeg, Fw.v_add_ii, Fw.v_add_ss, Fw.v_sub_ii, Fw.v_mul_ii, Fw.v_div_ii, Fw.v_mod_ii, Fw.v_pow_ii, Fw.v_lt_ii, Fw.v_gt_ii, Fw.v_le_ii, Fw.v_ge_ii, Fw.v_le_ss, Fw.v_eqS_ii, Fw.v_eqS_ss, Fw.v_neS_ii, Fw.v_neS_ss, Fw.v_eq_ii, Fw.v_eq_ss, Fw.v_eq_bb, Fw.v_ne_ii, Fw.v_ne_ss, Fw.v_ne_bb, Fw.v_ne_tt, Fw.v_eq_tt, Fw.v_in_sc, Fw.v_ix_s, Fw.v_len_s, Fw.v_type, Fw.v_is, ↓Fw.a_bm, ↓Fw.a_bm0, ↓Fw.a_sl, ↓Fw.a_nopart, ↓Fw.a_part, Fw.v_sl_s, Fw.v_sl_r, Fw.v_app, Fw.v_add_rr, ↓Fw.b_ix_r, Fw.b_ix_r, Fw.v_in_r, Fw.v_set_r, Fw.v_len_r, Fw.v_list_r, Fw.v_listA, Fw.v_dictA, Fw.v_int_i, Fw.v_int_b, Fw.v_key_i, Fw.v_key_s, Fw.v_lst, Fw.v_tup, Fw.v_dic, Fw.v_ty_r, Fw.v_ty_s, Fw.v_ty_i, Fw.v_ty_b, Fw.v_ty_n, Fw.v_tyL, Fw.v_same, Fw.v_old, Fw.v_ne, Fw.v_upd, Fw.v_flat_s, Fw.v_inStrs, ↓Fw.a_yes, Fw.v_wipe0, Fw.v_wipe1, Fw.cx_K, Int.reduceToNat, List.length_replicate, Nat.sub_self, Nat.reduceSub, Nat.reduceAdd, List.replicate_zero, List.replicate_succ, List.append_nil, List.length_cons, List.length_nil, List.map_cons, List.map_nil, List.cons_append, List.nil_append, List.getElem?_cons_zero, List.getElem?_cons_succ, List.set_cons_zero, List.set_cons_succ, Option.some.injEq, V.int.injEq, V.bl.injEq, V.ref.injEq, V.str.injEq, exists_eq_left', exists_eq_left, exists_eq_right, exists_and_left, HO.lst.injEq, HO.dK.injEq, HO.tup.injEq, Option.isSome_some, true_and, and_true, Fw.v_m_bool, Fw.v_m_int, Fw.v_m_str, Fw.v_m_list, Fw.v_m_tuple, Fw.v_m_dict, Fw.v_flats, Bool.xor_true, Bool.xor_false, Bool.not_eq_true', decide_eq_false_iff_not, not_true_eq_false, not_false_eq_true, decide_true, decide_false, decide_eq_true_eq, ite_true, ite_false, Bool.not_true, Bool.not_false, Bool.false_eq_true, reduceCtorEq, Fw.isT_NoneType_bool, Fw.isT_NoneType_int, Fw.isT_NoneType_str, Fw.isT_NoneType_list, Fw.isT_NoneType_tuple, Fw.isT_NoneType_dict, Fw.isT_bool_bool, Fw.isT_bool_int, Fw.isT_bool_str, Fw.isT_bool_list, Fw.isT_bool_tuple, Fw.isT_bool_dict, Fw.isT_int_bool, Fw.isT_int_int, Fw.isT_int_str, Fw.isT_int_list, Fw.isT_int_tuple, Fw.isT_int_dict, Fw.isT_str_bool, Fw.isT_str_int, Fw.isT_str_str, Fw.isT_str_list, Fw.isT_str_tuple, Fw.isT_str_dict, Fw.isT_list_bool, Fw.isT_list_int, Fw.isT_list_str, Fw.isT_list_list, Fw.isT_list_tuple, Fw.isT_list_dict, Fw.isT_tuple_bool, Fw.isT_tuple_int, Fw.isT_tuple_str, Fw.isT_tuple_list, Fw.isT_tuple_tuple, Fw.isT_tuple_dict, Fw.isT_dict_bool, Fw.isT_dict_int, Fw.isT_dict_str, Fw.isT_dict_list, Fw.isT_dict_tuple, Fw.isT_dict_dict]
        refine c_rng (cntOf 31 ns) (by omega) (fun R z => by
          simp -dsimp +contextual only [↓Fw.a_disp, ↓Fw.a_pnil, ↓Fw.a_pcons, Fw.v_keys0, Fw.v_keys1, Fw.v_deq, ↓Fw.a_truD1, Fw.v_truD, ↓Fw.a_dqPop, ↓Fw.a_dqApp, Fw.v_isD, ↓Fw.a_dget2, ↓Fw.b_dsetd, ↓Fw.a_star, Fw.v_pop, Fw.v_reverse, ↓Fw.a_tru1, Fw.v_tru_r, ↓Fw.a_gseq, ↓Fw.b_gcons, ↓Fw.b_gnil, ↓Fw.a_seq, ↓Fw.a_next, ↓Fw.a_brk, ↓Fw.a_cont, ↓Fw.a_asg, ↓Fw.a_name, ↓Fw.a_gsub, ↓Fw.b_var, ↓Fw.a_c, ↓Fw.a_op, ↓Fw.a_un, ↓Fw.a_cons, ↓Fw.a_nil, ↓Fw.a_ret, ↓Fw.a_retN, ↓Fw.a_drop, ↓Fw.a_if, ↓Fw.b_test, ↓Fw.b_B, ↓Fw.a_and, ↓Fw.a_or, ↓Fw.a_not, ↓Fw.b_andV, ↓Fw.b_orV, ↓Fw.b_notV, ↓Fw.a_ifE, ↓Fw.a_fn, ↓Fw.a_fnX, ↓Fw.a_hold, ↓Fw.a_holdX, ↓Fw.a_ne_rr, ↓Fw.a_eq_rr, ↓Fw.a_at, ↓Fw.a_atS, ↓Fw.a_step, Fw.v_step, Fw.v_min2, Fw.v_max2, Fw.v_clear, ↓Fw.a_mt, ↓Fw.a_mtX, ↓Fw.a_mk, ↓Fw.a_cb, ↓Fw.a_lst, ↓Fw.a_tup, ↓Fw.a_chain, ↓Fw.a_dnew, ↓Fw.a_start, Fw.v_rU, Int.reduceNeg, Fw.v_add_ii, Fw.v_add_ss, Fw.v_sub_ii, Fw.v_mul_ii, Fw.v_div_ii, Fw.v_mod_ii, Fw.v_pow_ii, Fw.v_lt_ii, Fw.v_gt_ii, Fw.v_le_ii, Fw.v_ge_ii, Fw.v_le_ss, Fw.v_eqS_ii, Fw.v_eqS_ss, Fw.v_neS_ii, Fw.v_neS_ss, Fw.v_eq_ii, Fw.v_eq_ss, Fw.v_eq_bb, Fw.v_ne_ii, Fw.v_ne_ss, Fw.v_ne_bb, Fw.v_ne_tt, Fw.v_eq_tt, Fw.v_in_sc, Fw.v_ix_s, Fw.v_len_s, Fw.v_type, Fw.v_is, ↓Fw.a_bm, ↓Fw.a_bm0, ↓Fw.a_sl, ↓Fw.a_nopart, ↓Fw.a_part, Fw.v_sl_s, Fw.v_sl_r, Fw.v_app, Fw.v_add_rr, ↓Fw.b_ix_r, Fw.b_ix_r, Fw.v_in_r, Fw.v_set_r, Fw.v_len_r, Fw.v_list_r, Fw.v_listA, Fw.v_dictA, Fw.v_int_i, Fw.v_int_b, Fw.v_key_i, Fw.v_key_s, Fw.v_lst, Fw.v_tup, Fw.v_dic, Fw.v_ty_r, Fw.v_ty_s, Fw.v_ty_i, Fw.v_ty_b, Fw.v_ty_n, Fw.v_tyL, Fw.v_same, Fw.v_old, Fw.v_ne, Fw.v_upd, Fw.v_flat_s, Fw.v_inStrs, ↓Fw.a_yes, Fw.v_wipe0, Fw.v_wipe1, Fw.cx_K, Int.reduceToNat, List.length_replicate, Nat.sub_self, Nat.reduceSub, Nat.reduceAdd, List.replicate_zero, List.replicate_succ, List.append_nil, List.length_cons, List.length_nil, List.map_cons, List.map_nil, List.cons_append, List.nil_append, List.getElem?_cons_zero, List.getElem?_cons_succ, List.set_cons_zero, List.set_cons_succ, Option.some.injEq, V.int.injEq, V.bl.injEq, V.ref.injEq, V.str.injEq, exists_eq_left', exists_eq_left, exists_eq_right, exists_and_left, HO.lst.injEq, HO.dK.injEq, HO.tup.injEq, Option.isSome_some, true_and, and_true, Fw.v_m_bool, Fw.v_m_int, Fw.v_m_str, Fw.v_m_list, Fw.v_m_tuple, Fw.v_m_dict, Fw.v_flats, Bool.xor_true, Bool.xor_false, Bool.not_eq_true', decide_eq_false_iff_not, not_true_eq_false, not_false_eq_true, decide_true, decide_false, decide_eq_true_eq, ite_true, ite_false, Bool.not_true, Bool.not_false, Bool.false_eq_true, reduceCtorEq, Fw.isT_NoneType_bool, Fw.isT_NoneType_int, Fw.isT_NoneType_str, Fw.isT_NoneType_list, Fw.isT_NoneType_tuple, Fw.isT_NoneType_dict, Fw.isT_bool_bool, Fw.isT_bool_int, Fw.isT_bool_str, Fw.isT_bool_list, Fw.isT_bool_tuple, Fw.isT_bool_dict, Fw.isT_int_bool, Fw.isT_int_int, Fw.isT_int_str, Fw.isT_int_list, Fw.isT_int_tuple, Fw.isT_int_dict, Fw.isT_str_bool, Fw.isT_str_int, Fw.isT_str_str, Fw.isT_str_list, Fw.isT_str_tuple, Fw.isT_str_dict, Fw.isT_list_bool, Fw.isT_list_int, Fw.isT_list_str, Fw.isT_list_list, Fw.isT_list_tuple, Fw.isT_list_dict, Fw.isT_tuple_bool, Fw.isT_tuple_int, Fw.isT_tuple_str, Fw.isT_tuple_list, Fw.isT_tuple_tuple, Fw.isT_tuple_dict, Fw.isT_dict_bool, Fw.isT_dict_int, Fw.isT_dict_str, Fw.isT_dict_list, Fw.isT_dict_tuple, Fw.isT_dict_dict]
          exact z) (fun d i H2 => Same H' H2 ∧ H2 d = some (.lst ((wordsN i (cellAt ns 1)).map V.str))) (fun d hd => ⟨same_new hd, upd_same⟩) ?_ ?_
        · rintro d i H2 N hd hi ⟨sm, hD⟩ hN
          simp -dsimp +contextual only [↓Fw.a_disp, ↓Fw.a_pnil, ↓Fw.a_pcons, Fw.v_keys0, Fw.v_keys1, Fw.v_deq, ↓Fw.a_truD1, Fw.v_truD, ↓Fw.a_dqPop, ↓Fw.a_dqApp, Fw.v_isD, ↓Fw.a_dget2, ↓Fw.b_dsetd, ↓Fw.a_star, Fw.v_pop, Fw.v_reverse, ↓Fw.a_tru1, Fw.v_tru_r, ↓Fw.a_gseq, ↓Fw.b_gcons, ↓Fw.b_gnil, ↓Fw.a_seq, ↓Fw.a_next, ↓Fw.a_brk, ↓Fw.a_cont, ↓Fw.a_asg, ↓Fw.a_name, ↓Fw.a_gsub, ↓Fw.b_var, ↓Fw.a_c, ↓Fw.a_op, ↓Fw.a_un, ↓Fw.a_cons, ↓Fw.a_nil, ↓Fw.a_ret, ↓Fw.a_retN, ↓Fw.a_drop, ↓Fw.a_if, ↓Fw.b_test, ↓Fw.b_B, ↓Fw.a_and, ↓Fw.a_or, ↓Fw.a_not, ↓Fw.b_andV, ↓Fw.b_orV, ↓Fw.b_notV, ↓Fw.a_ifE, ↓Fw.a_fn, ↓Fw.a_fnX, ↓Fw.a_hold, ↓Fw.a_holdX, ↓Fw.a_ne_rr, ↓Fw.a_eq_rr, ↓Fw.a_at, ↓Fw.a_atS, ↓Fw.a_step, Fw.v_step, Fw.v_min2, Fw.v_max2, Fw.v_clear, ↓Fw.a_mt, ↓Fw.a_mtX, ↓Fw.a_mk, ↓Fw.a_cb, ↓Fw.a_lst, ↓Fw.a_tup, ↓Fw.a_chain, ↓Fw.a_dnew, ↓Fw.a_start, Fw.v_rU, Int.reduceNeg, Fw.v_add_ii, Fw.v_add_ss, Fw.v_sub_ii, Fw.v_mul_ii, Fw.v_div_ii, Fw.v_mod_ii, Fw.v_pow_ii, Fw.v_lt_ii, Fw.v_gt_ii, Fw.v_le_ii, Fw.v_ge_ii, Fw.v_le_ss, Fw.v_eqS_ii, Fw.v_eqS_ss, Fw.v_neS_ii, Fw.v_neS_ss, Fw.v_eq_ii, Fw.v_eq_ss, Fw.v_eq_bb, Fw.v_ne_ii, Fw.v_ne_ss, Fw.v_ne_bb, Fw.v_ne_tt, Fw.v_eq_tt, Fw.v_in_sc, Fw.v_ix_s, Fw.v_len_s, Fw.v_type, Fw.v_is, ↓Fw.a_bm, ↓Fw.a_bm0, ↓Fw.a_sl, ↓Fw.a_nopart, ↓Fw.a_part, Fw.v_sl_s, Fw.v_sl_r, Fw.v_app, Fw.v_add_rr, ↓Fw.b_ix_r, Fw.b_ix_r, Fw.v_in_r, Fw.v_set_r, Fw.v_len_r, Fw.v_list_r, Fw.v_listA, Fw.v_dictA, Fw.v_int_i, Fw.v_int_b, Fw.v_key_i, Fw.v_key_s, Fw.v_lst, Fw.v_tup, Fw.v_dic, Fw.v_ty_r, Fw.v_ty_s, Fw.v_ty_i, Fw.v_ty_b, Fw.v_ty_n, Fw.v_tyL, Fw.v_same, Fw.v_old, Fw.v_ne, Fw.v_upd, Fw.v_flat_s, Fw.v_inStrs, ↓Fw.a_yes, Fw.v_wipe0, Fw.v_wipe1, Fw.cx_K, Int.reduceToNat, List.length_replicate, Nat.sub_self, Nat.reduceSub, Nat.reduceAdd, List.replicate_zero, List.replicate_succ, List.append_nil, List.length_cons, List.length_nil, List.map_cons, List.map_nil, List.cons_append, List.nil_append, List.getElem?_cons_zero, List.getElem?_cons_succ, List.set_cons_zero, List.set_cons_succ, Option.some.injEq, V.int.injEq, V.bl.injEq, V.ref.injEq, V.str.injEq, exists_eq_left', exists_eq_left, exists_eq_right, exists_and_left, HO.lst.injEq, HO.dK.injEq, HO.tup.injEq, Option.isSome_some, true_and, and_true, Fw.v_m_bool, Fw.v_m_int, Fw.v_m_str, Fw.v_m_list, Fw.v_m_tuple, Fw.v_m_dict, Fw.v_flats, Bool.xor_true, Bool.xor_false, Bool.not_eq_true', decide_eq_false_iff_not, not_true_eq_false, not_false_eq_true, decide_true, decide_false, decide_eq_true_eq, ite_true, ite_false, Bool.not_true, Bool.not_false, Bool.false_eq_true, reduceCtorEq, Fw.isT_NoneType_bool, Fw.isT_NoneType_int, Fw.isT_NoneType_str, Fw.isT_NoneType_list, Fw.isT_NoneType_tuple, Fw.isT_NoneType_dict, Fw.isT_bool_bool, Fw.isT_bool_int, Fw.isT_bool_str, Fw.isT_bool_list, Fw.isT_bool_tuple, Fw.isT_bool_dict, Fw.isT_int_bool, Fw.isT_int_int, Fw.isT_int_str, Fw.isT_int_list, Fw.isT_int_tuple, Fw.isT_int_dict, Fw.isT_str_bool, Fw.isT_str_int, Fw.isT_str_str, Fw.isT_str_list, Fw.isT_str_tuple, Fw.isT_str_dict, Fw.isT_list_bool, Fw.isT_list_int, Fw.isT_list_str, Fw.isT_list_list, Fw.isT_list_tuple, Fw.isT_list_dict, Fw.isT_tuple_bool, Fw.isT_tuple_int, Fw.isT_tuple_str, Fw.isT_tuple_list, Fw.isT_tuple_tuple, Fw.isT_tuple_dict, Fw.isT_dict_bool, Fw.isT_dict_int, Fw.isT_dict_str, Fw.isT_dict_list, Fw.isT_dict_tuple, Fw.isT_dict_dict]
          refine cell_use 1 (sm.seq hS) rfl ?_
          simp -dsimp +contextual only [↓Fw.a_disp, ↓Fw.a_pnil, ↓Fw.a_pcons, Fw.v_keys0, Fw.v_keys1, Fw.v_deq, ↓Fw.a_truD1, Fw.v_truD, ↓Fw.a_dqPop, ↓Fw.a_dqApp, Fw.v_isD, ↓Fw.a_dget2, ↓Fw.b_dsetd, ↓Fw.a_star, Fw.v_pop, Fw.v_reverse, ↓Fw.a_tru1, Fw.v_tru_r, ↓Fw.a_gseq, ↓Fw.b_gcons, ↓Fw.b_gnil, ↓Fw.a_seq, ↓Fw.a_next, ↓Fw.a_brk, ↓Fw.a_cont, ↓Fw.a_asg, ↓Fw.a_name, ↓Fw.a_gsub, ↓Fw.b_var, ↓Fw.a_c, ↓Fw.a_op, ↓Fw.a_un, ↓Fw.a_cons, ↓Fw.a_nil, ↓Fw.a_ret, ↓Fw.a_retN, ↓Fw.a_drop, ↓Fw.a_if, ↓Fw.b_test, ↓Fw.b_B, ↓Fw.a_and, ↓Fw.a_or, ↓Fw.a_not, ↓Fw.b_andV, ↓Fw.b_orV, ↓Fw.b_notV, ↓Fw.a_ifE, ↓Fw.a_fn, ↓Fw.a_fnX, ↓Fw.a_hold, ↓Fw.a_holdX, ↓Fw.a_ne_rr, ↓Fw.a_eq_rr, ↓Fw.a_at, ↓Fw.a_atS, ↓Fw.a_step, Fw.v_step, Fw.v_min2, Fw.v_max2, Fw.v_clear, ↓Fw.a_mt, ↓Fw.a_mtX, ↓Fw.a_mk, ↓Fw.a_cb, ↓Fw.a_lst, ↓Fw.a_tup, ↓Fw.a_chain, ↓Fw.a_dnew, ↓Fw.a_start, Fw.v_rU, Int.reduceNeg, Fw.v_add_ii, Fw.v_add_ss, Fw.v_sub_ii, Fw.v_mul_ii, Fw.v_div_ii, Fw.v_mod_ii, Fw.v_pow_ii, Fw.v_lt_ii, Fw.v_gt_ii, Fw.v_le_ii, Fw.v_ge_ii, Fw.v_le_ss, Fw.v_eqS_ii, Fw.v_eqS_ss, Fw.v_neS_ii, Fw.v_neS_ss, Fw.v_eq_ii, Fw.v_eq_ss, Fw.v_eq_bb, Fw.v_ne_ii, Fw.v_ne_ss, Fw.v_ne_bb, Fw.v_ne_tt, Fw.v_eq_tt, Fw.v_in_sc, Fw.v_ix_s, Fw.v_len_s, Fw.v_type, Fw.v_is, ↓Fw.a_bm, ↓Fw.a_bm0, ↓Fw.a_sl, ↓Fw.a_nopart, ↓Fw.a_part, Fw.v_sl_s, Fw.v_sl_r, Fw.v_app, Fw.v_add_rr, ↓Fw.b_ix_r, Fw.b_ix_r, Fw.v_in_r, Fw.v_set_r, Fw.v_len_r, Fw.v_list_r, Fw.v_listA, Fw.v_dictA, Fw.v_int_i, Fw.v_int_b, Fw.v_key_i, Fw.v_key_s, Fw.v_lst, Fw.v_tup, Fw.v_dic, Fw.v_ty_r, Fw.v_ty_s, Fw.v_ty_i, Fw.v_ty_b, Fw.v_ty_n, Fw.v_tyL, Fw.v_same, Fw.v_old, Fw.v_ne, Fw.v_upd, Fw.v_flat_s, Fw.v_inStrs, ↓Fw.a_yes, Fw.v_wipe0, Fw.v_wipe1, Fw.cx_K, Int.reduceToNat, List.length_replicate, Nat.sub_self, Nat.reduceSub, Nat.reduceAdd, List.replicate_zero, List.replicate_succ, List.append_nil, List.length_cons, List.length_nil, List.map_cons, List.map_nil, List.cons_append, List.nil_append, List.getElem?_cons_zero, List.getElem?_cons_succ, List.set_cons_zero, List.set_cons_succ, Option.some.injEq, V.int.injEq, V.bl.injEq, V.ref.injEq, V.str.injEq, exists_eq_left', exists_eq_left, exists_eq_right, exists_and_left, HO.lst.injEq, HO.dK.injEq, HO.tup.injEq, Option.isSome_some, true_and, and_true, Fw.v_m_bool, Fw.v_m_int, Fw.v_m_str, Fw.v_m_list, Fw.v_m_tuple, Fw.v_m_dict, Fw.v_flats, Bool.xor_true, Bool.xor_false, Bool.not_eq_true', decide_eq_false_iff_not, not_true_eq_false, not_false_eq_true, decide_true, decide_false, decide_eq_true_eq, ite_true, ite_false, Bool.not_true, Bool.not_false, Bool.false_eq_true, reduceCtorEq, Fw.isT_NoneType_bool, Fw.isT_NoneType_int, Fw.isT_NoneType_str, Fw.isT_NoneType_list, Fw.isT_NoneType_tuple, Fw.isT_NoneType_dict, Fw.isT_bool_bool, Fw.isT_bool_int, Fw.isT_bool_str, Fw.isT_bool_list, Fw.isT_bool_tuple, Fw.isT_bool_dict, Fw.isT_int_bool, Fw.isT_int_int, Fw.isT_int_str, Fw.isT_int_list, Fw.isT_int_tuple, Fw.isT_int_dict, Fw.isT_str_bool, Fw.isT_str_int, Fw.isT_str_str, Fw.isT_str_list, Fw.isT_str_tuple, Fw.isT_str_dict, Fw.isT_list_bool, Fw.isT_list_int, Fw.isT_list_str, Fw.isT_list_list, Fw.isT_list_tuple, Fw.isT_list_dict, Fw.isT_tuple_bool, Fw.isT_tuple_int, Fw.isT_tuple_str, Fw.isT_tuple_list, Fw.isT_tuple_tuple, Fw.isT_tuple_dict, Fw.isT_dict_bool, Fw.isT_dict_int, Fw.isT_dict_str, Fw.isT_dict_list, Fw.isT_dict_tuple, Fw.isT_dict_dict]
          refine word_use i rfl ?_
          simp -dsimp +contextual only [↓Fw.a_disp, ↓Fw.a_pnil, ↓Fw.a_pcons, Fw.v_keys0, Fw.v_keys1, Fw.v_deq, ↓Fw.a_truD1, Fw.v_truD, ↓Fw.a_dqPop, ↓Fw.a_dqApp, Fw.v_isD, ↓Fw.a_dget2, ↓Fw.b_dsetd, ↓Fw.a_star, Fw.v_pop, Fw.v_reverse, ↓Fw.a_tru1, Fw.v_tru_r, ↓Fw.a_gseq, ↓Fw.b_gcons, ↓Fw.b_gnil, ↓Fw.a_seq, ↓Fw.a_next, ↓Fw.a_brk, ↓Fw.a_cont, ↓Fw.a_asg, ↓Fw.a_name, ↓Fw.a_gsub, ↓Fw.b_var, ↓Fw.a_c, ↓Fw.a_op, ↓Fw.a_un, ↓Fw.a_cons, ↓Fw.a_nil, ↓Fw.a_ret, ↓Fw.a_retN, ↓Fw.a_drop, ↓Fw.a_if, ↓Fw.b_test, ↓Fw.b_B, ↓Fw.a_and, ↓Fw.a_or, ↓Fw.a_not, ↓Fw.b_andV, ↓Fw.b_orV, ↓Fw.b_notV, ↓Fw.a_ifE, ↓Fw.a_fn, ↓Fw.a_fnX, ↓Fw.a_hold, ↓Fw.a_holdX, ↓Fw.a_ne_rr, ↓Fw.a_eq_rr, ↓Fw.a_at, ↓Fw.a_atS, ↓Fw.a_step, Fw.v_step, Fw.v_min2, Fw.v_max2, Fw.v_clear, ↓Fw.a_mt, ↓Fw.a_mtX, ↓Fw.a_mk, ↓Fw.a_cb, ↓Fw.a_lst, ↓Fw.a_tup, ↓Fw.a_chain, ↓Fw.a_dnew, ↓Fw.a_start, Fw.v_rU, Int.reduceNeg, Fw.v_add_ii, Fw.v_add_ss, Fw.v_sub_ii, Fw.v_mul_ii, Fw.v_div_ii, Fw.v_mod_ii, Fw.v_pow_ii, Fw.v_lt_ii, Fw.v_gt_ii, Fw.v_le_ii, Fw.v_ge_ii, Fw.v_le_ss, Fw.v_eqS_ii, Fw.v_eqS_ss, Fw.v_neS_ii, Fw.v_neS_ss, Fw.v_eq_ii, Fw.v_eq_ss, Fw.v_eq_bb, Fw.v_ne_ii, Fw.v_ne_ss, Fw.v_ne_bb, Fw.v_ne_tt, Fw.v_eq_tt, Fw.v_in_sc, Fw.v_ix_s, Fw.v_len_s, Fw.v_type, Fw.v_is, ↓Fw.a_bm, ↓Fw.a_bm0, ↓Fw.a_sl, ↓Fw.a_nopart, ↓Fw.a_part, Fw.v_sl_s, Fw.v_sl_r, Fw.v_app, Fw.v_add_rr, ↓Fw.b_ix_r, Fw.b_ix_r, Fw.v_in_r, Fw.v_set_r, Fw.v_len_r, Fw.v_list_r, Fw.v_listA, Fw.v_dictA, Fw.v_int_i, Fw.v_int_b, Fw.v_key_i, Fw.v_key_s, Fw.v_lst, Fw.v_tup, Fw.v_dic, Fw.v_ty_r, Fw.v_ty_s, Fw.v_ty_i, Fw.v_ty_b, Fw.v_ty_n, Fw.v_tyL, Fw.v_same, Fw.v_old, Fw.v_ne, Fw.v_upd, Fw.v_flat_s, Fw.v_inStrs, ↓Fw.a_yes, Fw.v_wipe0, Fw.v_wipe1, Fw.cx_K, Int.reduceToNat, List.length_replicate, Nat.sub_self, Nat.reduceSub, Nat.reduceAdd, List.replicate_zero, List.replicate_succ, List.append_nil, List.length_cons, List.length_nil, List.map_cons, List.map_nil, List.cons_append, List.nil_append, List.getElem?_cons_zero, List.getElem?_cons_succ, List.set_cons_zero, List.set_cons_succ, Option.some.injEq, V.int.injEq, V.bl.injEq, V.ref.injEq, V.str.injEq, exists_eq_left', exists_eq_left, exists_eq_right, exists_and_left, HO.lst.injEq, HO.dK.injEq, HO.tup.injEq, Option.isSome_some, true_and, and_true, Fw.v_m_bool, Fw.v_m_int, Fw.v_m_str, Fw.v_m_list, Fw.v_m_tuple, Fw.v_m_dict, Fw.v_flats, Bool.xor_true, Bool.xor_false, Bool.not_eq_true', decide_eq_false_iff_not, not_true_eq_false, not_false_eq_true, decide_true, decide_false, decide_eq_true_eq, ite_true, ite_false, Bool.not_true, Bool.not_false, Bool.false_eq_true, reduceCtorEq, Fw.isT_NoneType_bool, Fw.isT_NoneType_int, Fw.isT_NoneType_str, Fw.isT_NoneType_list, Fw.isT_NoneType_tuple, Fw.isT_NoneType_dict, Fw.isT_bool_bool, Fw.isT_bool_int, Fw.isT_bool_str, Fw.isT_bool_list, Fw.isT_bool_tuple, Fw.isT_bool_dict, Fw.isT_int_bool, Fw.isT_int_int, Fw.isT_int_str, Fw.isT_int_list, Fw.isT_int_tuple, Fw.isT_int_dict, Fw.isT_str_bool, Fw.isT_str_int, Fw.isT_str_str, Fw.isT_str_list, Fw.isT_str_tuple, Fw.isT_str_dict, Fw.isT_list_bool, Fw.isT_list_int, Fw.isT_list_str, Fw.isT_list_list, Fw.isT_list_tuple, Fw.isT_list_dict, Fw.isT_tuple_bool, Fw.isT_tuple_int, Fw.isT_tuple_str, Fw.isT_tuple_list, Fw.isT_tuple_tuple, Fw.isT_tuple_dict, Fw.isT_dict_bool, Fw.isT_dict_int, Fw.isT_dict_str, Fw.isT_dict_list, Fw.isT_dict_tuple, Fw.isT_dict_dict]
          refine ⟨_, hD, ?_, hN _ ⟨same_mut sm hd, ?_⟩⟩
          · rw [List.length_map, wordsN_len]
            exact Nat.lt_of_lt_of_le (show i < 100 by omega) (by decide)
          · rw [upd_same, wordsN_succ, List.map_append]
            rfl
        · rintro d H2 hd ⟨sm, hD⟩
          exact q d H2 sm hd hD
    · exact h.elim
/-! ### _law_needs_by -/
theorem ok_needs_by (S : Src K mg "_law_needs_by" ["_law_cell", "_law_words_here"] s_needs_by) (B : Blt mg) : Fn P w K mg base 1 "_law_needs_by" ["_law_cell", "_law_words_here"] (sp_needs_by) := by
  have sc := sc_needs_by
  refine fn_mk S sc (fun vs H Q E h => ?_) (fun f cdv A outer s H vs Q E hr h => ⟨_, (pss_cons (ps_set (i := 2) sc.nd rfl (by first | exact Or.inl rfl | exact Or.inr rfl) (pe_op op_vMod (pv 0) pe_int))
     (pss_cut (ps_if (pt_cmpR (op_vEq hr.units) (pe_op op_vMod (pe_op op_vDiv (pv 0) pe_int) pe_int) pe_int (nomark _))
     (pss_one (ps_set (i := 2) sc.nd rfl (by first | exact Or.inl rfl | exact Or.inr rfl) (pe_op op_vMod (pe_op op_vDiv (pv 0) pe_int) pe_int)))
     pss_nil)
     (pss_cons (ps_set (i := 3) sc.nd rfl (by first | exact Or.inl rfl | exact Or.inr rfl) (pe_op op_vDiv (pv 0) pe_int))
     (pss_cons (ps_set (i := 4) sc.nd rfl (by first | exact Or.inl rfl | exact Or.inr rfl) (pe_lst pa_nil))
     (pss_cons (ps_for PassesOwn.never rfl (pi_range1 rfl B.n_range (pa_cons (pv 2) pa_nil)) (pg_name (i := 5) sc.nd rfl (by first | exact Or.inl rfl | exact Or.inr rfl))
     (pss_cons (ps_expr (pe_bm PySem.F.plainAttrs_list PySem.F.slot_list_append PySem.F.type_list_append mt_append (pv 4) (pa_cons (pe_ix (ix_v (hu_of hr)) (pv 1) (pe_op op_vMod (pv 3) (pe_callB call_vLen rfl B.n_len (by decide +kernel) (pa_cons (pv 1) pa_nil))) (fun _ _ => rfl)) pa_nil)))
     (pss_one (ps_set (i := 3) sc.nd rfl (by first | exact Or.inl rfl | exact Or.inr rfl) (pe_op op_vDiv (pv 3) pe_int)))))
     (pss_one (ps_ret (pv 4)))))))), ?_⟩)
  · unfold sp_needs_by at h; split at h <;> first | rfl | exact h.elim
  · unfold sp_needs_by at h
    split at h
    · rename_i cell l
      obtain ⟨ws, hL, hw, hw2, q⟩ := h
      simp -dsimp +contextual only [↓Fw.a_disp, ↓Fw.a_pnil, ↓Fw.a_pcons, Fw.v_keys0, Fw.v_keys1, Fw.v_deq, ↓Fw.a_truD1, Fw.v_truD, ↓Fw.a_dqPop, ↓Fw.a_dqApp, Fw.v_isD, ↓Fw.a_dget2, ↓Fw.b_dsetd, ↓Fw.a_star, Fw.v_pop, Fw.v_reverse, ↓Fw.a_tru1, Fw.v_tru_r, ↓Fw.a_gseq, ↓Fw.b_gcons, ↓Fw.b_gnil, ↓Fw.a_seq, ↓Fw.a_next, ↓Fw.a_brk, ↓Fw.a_cont, ↓Fw.a_asg, ↓Fw.a_name, ↓Fw.a_gsub, ↓Fw.b_var, ↓Fw.a_c, ↓Fw.a_op, ↓Fw.a_un, ↓Fw.a_cons, ↓Fw.a_nil, ↓Fw.a_ret, ↓Fw.a_retN, ↓Fw.a_drop, ↓Fw.a_if, ↓Fw.b_test, ↓Fw.b_B, ↓Fw.a_and, ↓Fw.a_or, ↓Fw.a_not, ↓Fw.b_andV, ↓Fw.b_orV, ↓Fw.b_notV, ↓Fw.a_ifE, ↓Fw.a_fn, ↓Fw.a_fnX, ↓Fw.a_hold, ↓Fw.a_holdX, ↓Fw.a_ne_rr, ↓Fw.a_eq_rr, ↓Fw.a_at, ↓Fw.a_atS, ↓Fw.a_step, Fw.v_step, Fw.v_min2, Fw.v_max2, Fw.v_clear, ↓Fw.a_mt, ↓Fw.a_mtX, ↓Fw.a_mk, ↓Fw.a_cb, ↓Fw.a_lst, ↓Fw.a_tup, ↓Fw.a_chain, ↓Fw.a_dnew, ↓Fw.a_start, Fw.v_rU, Int.reduceNeg, Fw.v_add_ii, Fw.v_add_ss, Fw.v_sub_ii, Fw.v_mul_ii, Fw.v_div_ii, Fw.v_mod_ii, Fw.v_pow_ii, Fw.v_lt_ii, Fw.v_gt_ii, Fw.v_le_ii, Fw.v_ge_ii, Fw.v_le_ss, Fw.v_eqS_ii, Fw.v_eqS_ss, Fw.v_neS_ii, Fw.v_neS_ss, Fw.v_eq_ii, Fw.v_eq_ss, Fw.v_eq_bb, Fw.v_ne_ii, Fw.v_ne_ss, Fw.v_ne_bb, Fw.v_ne_tt, Fw.v_eq_tt, Fw.v_in_sc, Fw.v_ix_s, Fw.v_len_s, Fw.v_type, Fw.v_is, ↓Fw.a_bm, ↓Fw.a_bm0, ↓Fw.a_sl, ↓Fw.a_nopart, ↓Fw.a_part, Fw.v_sl_s, Fw.v_sl_r, Fw.v_app, Fw.v_add_rr, ↓Fw.b_ix_r, Fw.b_ix_r, Fw.v_in_r, Fw.v_set_r, Fw.v_len_r, Fw.v_list_r, Fw.v_listA, Fw.v_dictA, Fw.v_int_i, Fw.v_int_b, Fw.v_key_i, Fw.v_key_s, Fw.v_lst, Fw.v_tup, Fw.v_dic, Fw.v_ty_r, Fw.v_ty_s, Fw.v_ty_i, Fw.v_ty_b, Fw.v_ty_n, Fw.v_tyL, Fw.v_same, Fw.v_old, Fw.v_ne, Fw.v_upd, Fw.v_flat_s, Fw.v_inStrs, ↓Fw.a_yes, Fw.v_wipe0, Fw.v_wipe1, Fw.cx_K, Int.reduceToNat, List.length_replicate, Nat.sub_self, Nat.reduceSub, Nat.reduceAdd, List.replicate_zero, List.replicate_succ, List.append_nil, List.length_cons, List.length_nil, List.map_cons, List.map_nil, List.cons_append, List.nil_append, List.getElem?_cons_zero, List.getElem?_cons_succ, List.set_cons_zero, List.set_cons_succ, Option.some.injEq, V.int.injEq, V.bl.injEq, V.ref.injEq, V.str.injEq, exists_eq_left', exists_eq_left, exists_eq_right, exists_and_left, HO.lst.injEq, HO.dK.injEq, HO.tup.injEq, Option.isSome_some, true_and, and_true, Fw.v_m_bool, Fw.v_m_int, Fw.v_m_str, Fw.v_m_list, Fw.v_m_tuple, Fw.v_m_dict, Fw.v_flats, Bool.xor_true, Bool.xor_false, Bool.not_eq_true', decide_eq_false_iff_not, not_true_eq_false, not_false_eq_true, decide_true, decide_false, decide_eq_true_eq, ite_true, ite_false, Bool.not_true, Bool.not_false, Bool.false_eq_true, reduceCtorEq, Fw.isT_NoneType_bool, Fw.isT_NoneType_int, Fw.isT_NoneType_str, Fw.isT_NoneType_list, Fw.isT_NoneType_tuple, Fw.isT_NoneType_dict, Fw.isT_bool_bool, Fw.isT_bool_int, Fw.isT_bool_str, Fw.isT_bool_list, Fw.isT_bool_tuple, Fw.isT_bool_dict, Fw.isT_int_bool, Fw.isT_int_int, Fw.isT_int_str, Fw.isT_int_list, Fw.isT_int_tuple, Fw.isT_int_dict, Fw.isT_str_bool, Fw.isT_str_int, Fw.isT_str_str, Fw.isT_str_list, Fw.isT_str_tuple, Fw.isT_str_dict, Fw.isT_list_bool, Fw.isT_list_int, Fw.isT_list_str, Fw.isT_list_list, Fw.isT_list_tuple, Fw.isT_list_dict, Fw.isT_tuple_bool, Fw.isT_tuple_int, Fw.isT_tuple_str, Fw.isT_tuple_list, Fw.isT_tuple_tuple, Fw.isT_tuple_dict, Fw.isT_dict_bool, Fw.isT_dict_int, Fw.isT_dict_str, Fw.isT_dict_list, Fw.isT_dict_tuple, Fw.isT_dict_dict]
      refine ⟨by decide, ?_⟩
      refine cut (fun σ' H' => σ' = [some (.int cell), some (.ref l), some (.int (sizeOf' cell)), none, none, none] ∧ H' = H) (fun N hN => ?_) ?_
      · simp -dsimp +contextual only [↓Fw.a_disp, ↓Fw.a_pnil, ↓Fw.a_pcons, Fw.v_keys0, Fw.v_keys1, Fw.v_deq, ↓Fw.a_truD1, Fw.v_truD, ↓Fw.a_dqPop, ↓Fw.a_dqApp, Fw.v_isD, ↓Fw.a_dget2, ↓Fw.b_dsetd, ↓Fw.a_star, Fw.v_pop, Fw.v_reverse, ↓Fw.a_tru1, Fw.v_tru_r, ↓Fw.a_gseq, ↓Fw.b_gcons, ↓Fw.b_gnil, ↓Fw.a_seq, ↓Fw.a_next, ↓Fw.a_brk, ↓Fw.a_cont, ↓Fw.a_asg, ↓Fw.a_name, ↓Fw.a_gsub, ↓Fw.b_var, ↓Fw.a_c, ↓Fw.a_op, ↓Fw.a_un, ↓Fw.a_cons, ↓Fw.a_nil, ↓Fw.a_ret, ↓Fw.a_retN, ↓Fw.a_drop, ↓Fw.a_if, ↓Fw.b_test, ↓Fw.b_B, ↓Fw.a_and, ↓Fw.a_or, ↓Fw.a_not, ↓Fw.b_andV, ↓Fw.b_orV, ↓Fw.b_notV, ↓Fw.a_ifE, ↓Fw.a_fn, ↓Fw.a_fnX, ↓Fw.a_hold, ↓Fw.a_holdX, ↓Fw.a_ne_rr, ↓Fw.a_eq_rr, ↓Fw.a_at, ↓Fw.a_atS, ↓Fw.a_step, Fw.v_step, Fw.v_min2, Fw.v_max2, Fw.v_clear, ↓Fw.a_mt, ↓Fw.a_mtX, ↓Fw.a_mk, ↓Fw.a_cb, ↓Fw.a_lst, ↓Fw.a_tup, ↓Fw.a_chain, ↓Fw.a_dnew, ↓Fw.a_start, Fw.v_rU, Int.reduceNeg, Fw.v_add_ii, Fw.v_add_ss, Fw.v_sub_ii, Fw.v_mul_ii, Fw.v_div_ii, Fw.v_mod_ii, Fw.v_pow_ii, Fw.v_lt_ii, Fw.v_gt_ii, Fw.v_le_ii, Fw.v_ge_ii, Fw.v_le_ss, Fw.v_eqS_ii, Fw.v_eqS_ss, Fw.v_neS_ii, Fw.v_neS_ss, Fw.v_eq_ii, Fw.v_eq_ss, Fw.v_eq_bb, Fw.v_ne_ii, Fw.v_ne_ss, Fw.v_ne_bb, Fw.v_ne_tt, Fw.v_eq_tt, Fw.v_in_sc, Fw.v_ix_s, Fw.v_len_s, Fw.v_type, Fw.v_is, ↓Fw.a_bm, ↓Fw.a_bm0, ↓Fw.a_sl, ↓Fw.a_nopart, ↓Fw.a_part, Fw.v_sl_s, Fw.v_sl_r, Fw.v_app, Fw.v_add_rr, ↓Fw.b_ix_r, Fw.b_ix_r, Fw.v_in_r, Fw.v_set_r, Fw.v_len_r, Fw.v_list_r, Fw.v_listA, Fw.v_dictA, Fw.v_int_i, Fw.v_int_b, Fw.v_key_i, Fw.v_key_s, Fw.v_lst, Fw.v_tup, Fw.v_dic, Fw.v_ty_r, Fw.v_ty_s, Fw.v_ty_i, Fw.v_ty_b, Fw.v_ty_n, Fw.v_tyL, Fw.v_same, Fw.v_old, Fw.v_ne, Fw.v_upd, Fw.v_flat_s, Fw.v_inStrs, ↓Fw.a_yes, Fw.v_wipe0, Fw.v_wipe1, Fw.cx_K, Int.reduceToNat, List.length_replicate, Nat.sub_self, Nat.reduceSub, Nat.reduceAdd, List.replicate_zero, List.replicate_succ, List.append_nil, List.length_cons, List.length_nil, List.map_cons, List.map_nil, List.cons_append, List.nil_append, List.getElem?_cons_zero, List.getElem?_cons_succ, List.set_cons_zero, List.set_cons_succ, Option.some.injEq, V.int.injEq, V.bl.injEq, V.ref.injEq, V.str.injEq, exists_eq_left', exists_eq_left, exists_eq_right, exists_and_left, HO.lst.injEq, HO.dK.injEq, HO.tup.injEq, Option.isSome_some, true_and, and_true, Fw.v_m_bool, Fw.v_m_int, Fw.v_m_str, Fw.v_m_list, Fw.v_m_tuple, Fw.v_m_dict, Fw.v_flats, Bool.xor_true, Bool.xor_false, Bool.not_eq_true', decide_eq_false_iff_not, not_true_eq_false, not_false_eq_true, decide_true, decide_false, decide_eq_true_eq, ite_true, ite_false, Bool.not_true, Bool.not_false, Bool.false_eq_true, reduceCtorEq, Fw.isT_NoneType_bool, Fw.isT_NoneType_int, Fw.isT_NoneType_str, Fw.isT_NoneType_list, Fw.isT_NoneType_tuple, Fw.isT_NoneType_dict, Fw.isT_bool_bool, Fw.isT_bool_int, Fw.isT_bool_str, Fw.isT_bool_list, Fw.isT_bool_tuple, Fw.isT_bool_dict, Fw.isT_int_bool, Fw.isT_int_int, Fw.isT_int_str, Fw.isT_int_list, Fw.isT_int_tuple, Fw.isT_int_dict, Fw.isT_str_bool, Fw.isT_str_int, Fw.isT_str_str, Fw.isT_str_list, Fw.isT_str_tuple, Fw.isT_str_dict, Fw.isT_list_bool, Fw.isT_list_int, Fw.isT_list_str, Fw.isT_list_list, Fw.isT_list_tuple, Fw.isT_list_dict, Fw.isT_tuple_bool, Fw.isT_tuple_int, Fw.isT_tuple_str, Fw.isT_tuple_list, Fw.isT_tuple_tuple, Fw.isT_tuple_dict, Fw.isT_dict_bool, Fw.isT_dict_int, Fw.isT_dict_str, Fw.isT_dict_list, Fw.isT_dict_tuple, Fw.isT_dict_dict]
        refine ⟨⟨by decide, by decide⟩, by decide, ite2 (fun c => ⟨⟨by decide, by decide⟩, by decide, hN _ _ ⟨?_, rfl⟩⟩) fun c => hN _ _ ⟨?_, rfl⟩⟩
        · have e : (sizeOf' cell : Int) = cell / 16 % 9 := by
            unfold sizeOf'
            rw [if_pos c]
            omega
          rw [e]
        · have e : (sizeOf' cell : Int) = cell % 4 := by
            unfold sizeOf'
            rw [if_neg c]
            omega
          rw [e]
      · rintro σ' H' ⟨rfl, rfl⟩
        have hz := sizeOf_le cell
        simp -dsimp +contextual only [↓Fw.a_disp, ↓Fw.a_pnil, ↓Fw.a_pcons, Fw.v_keys0, Fw.v_keys1, Fw.v_deq, ↓Fw.a_truD1, Fw.v_truD, ↓Fw.a_dqPop, ↓Fw.a_dqApp, Fw.v_isD, ↓Fw.a_dget2, ↓Fw.b_dsetd, ↓Fw.a_star, Fw.v_pop, Fw.v_reverse, ↓Fw.a_tru1, Fw.v_tru_r, ↓Fw.a_gseq, ↓Fw.b_gcons, ↓Fw.b_gnil, ↓Fw.a_seq, ↓Fw.a_next, ↓Fw.a_brk, ↓Fw.a_cont, ↓Fw.a_asg, ↓Fw.a_name, ↓Fw.a_gsub, ↓Fw.b_var, ↓Fw.a_c, ↓Fw.a_op, ↓Fw.a_un, ↓Fw.a_cons, ↓Fw.a_nil, ↓Fw.a_ret, ↓Fw.a_retN, ↓Fw.a_drop, ↓Fw.a_if, ↓Fw.b_test, ↓Fw.b_B, ↓Fw.a_and, ↓Fw.a_or, ↓Fw.a_not, ↓Fw.b_andV, ↓Fw.b_orV, ↓Fw.b_notV, ↓Fw.a_ifE, ↓Fw.a_fn, ↓Fw.a_fnX, ↓Fw.a_hold, ↓Fw.a_holdX, ↓Fw.a_ne_rr, ↓Fw.a_eq_rr, ↓Fw.a_at, ↓Fw.a_atS, ↓Fw.a_step, Fw.v_step, Fw.v_min2, Fw.v_max2, Fw.v_clear, ↓Fw.a_mt, ↓Fw.a_mtX, ↓Fw.a_mk, ↓Fw.a_cb, ↓Fw.a_lst, ↓Fw.a_tup, ↓Fw.a_chain, ↓Fw.a_dnew, ↓Fw.a_start, Fw.v_rU, Int.reduceNeg, Fw.v_add_ii, Fw.v_add_ss, Fw.v_sub_ii, Fw.v_mul_ii, Fw.v_div_ii, Fw.v_mod_ii, Fw.v_pow_ii, Fw.v_lt_ii, Fw.v_gt_ii, Fw.v_le_ii, Fw.v_ge_ii, Fw.v_le_ss, Fw.v_eqS_ii, Fw.v_eqS_ss, Fw.v_neS_ii, Fw.v_neS_ss, Fw.v_eq_ii, Fw.v_eq_ss, Fw.v_eq_bb, Fw.v_ne_ii, Fw.v_ne_ss, Fw.v_ne_bb, Fw.v_ne_tt, Fw.v_eq_tt, Fw.v_in_sc, Fw.v_ix_s, Fw.v_len_s, Fw.v_type, Fw.v_is, ↓Fw.a_bm, ↓Fw.a_bm0, ↓Fw.a_sl, ↓Fw.a_nopart, ↓Fw.a_part, Fw.v_sl_s, Fw.v_sl_r, Fw.v_app, Fw.v_add_rr, ↓Fw.b_ix_r, Fw.b_ix_r, Fw.v_in_r, Fw.v_set_r, Fw.v_len_r, Fw.v_list_r, Fw.v_listA, Fw.v_dictA, Fw.v_int_i, Fw.v_int_b, Fw.v_key_i, Fw.v_key_s, Fw.v_lst, Fw.v_tup, Fw.v_dic, Fw.v_ty_r, Fw.v_ty_s, Fw.v_ty_i, Fw.v_ty_b, Fw.v_ty_n, Fw.v_tyL, Fw.v_same, Fw.v_old, Fw.v_ne, Fw.v_upd, Fw.v_flat_s, Fw.v_inStrs, ↓Fw.a_yes, Fw.v_wipe0, Fw.v_wipe1, Fw.cx_K, Int.reduceToNat, List.length_replicate, Nat.sub_self, Nat.reduceSub, Nat.reduceAdd, List.replicate_zero, List.replicate_succ, List.append_nil, List.length_cons, List.length_nil, List.map_cons, List.map_nil, List.cons_append, List.nil_append, List.getElem?_cons_zero, List.getElem?_cons_succ, List.set_cons_zero, List.set_cons_succ, Option.some.injEq, V.int.injEq, V.bl.injEq, V.ref.injEq, V.str.injEq, exists_eq_left', exists_eq_left, exists_eq_right, exists_and_left, HO.lst.injEq, HO.dK.injEq, HO.tup.injEq, Option.isSome_some, true_and, and_true, Fw.v_m_bool, Fw.v_m_int, Fw.v_m_str, Fw.v_m_list, Fw.v_m_tuple, Fw.v_m_dict, Fw.v_flats, Bool.xor_true, Bool.xor_false, Bool.not_eq_true', decide_eq_false_iff_not, not_true_eq_false, not_false_eq_true, decide_true, decide_false, decide_eq_true_eq, ite_true, ite_false, Bool.not_true, Bool.not_false, Bool.false_eq_true, reduceCtorEq, Fw.isT_NoneType_bool, Fw.isT_NoneType_int, Fw.isT_NoneType_str, Fw.isT_NoneType_list, Fw.isT_NoneType_tuple, Fw.isT_NoneType_dict, Fw.isT_bool_bool, Fw.isT_bool_int, Fw.isT_bool_str, Fw.isT_bool_list, Fw.isT_bool_tuple, Fw.isT_bool_dict, Fw.isT_int_bool, Fw.isT_int_int, Fw.isT_int_str, Fw.isT_int_list, Fw.isT_int_tuple, Fw.isT_int_dict, Fw.isT_str_bool, Fw.isT_str_int, Fw.isT_str_str, Fw.isT_str_list, Fw.isT_str_tuple, Fw.isT_str_dict, Fw.isT_list_bool, Fw.isT_list_int, Fw.isT_list_str, Fw.isT_list_list, Fw.isT_list_tuple, Fw.isT_list_dict, Fw.isT_tuple_bool, Fw.isT_tuple_int, Fw.isT_tuple_str, Fw.isT_tuple_list, Fw.isT_tuple_tuple, Fw.isT_tuple_dict, Fw.isT_dict_bool, Fw.isT_dict_int, Fw.isT_dict_str, Fw.isT_dict_list, Fw.isT_dict_tuple, Fw.isT_dict_dict]
        refine ⟨⟨by decide, by decide⟩, by decide, fun p hp => ?_⟩
        refine f_rng (sizeOf' cell) (by omega) (fun R z => by
          simp -dsimp +contextual only [↓Fw.a_disp, ↓Fw.a_pnil, ↓Fw.a_pcons, Fw.v_keys0, Fw.v_keys1, Fw.v_deq, ↓Fw.a_truD1, Fw.v_truD, ↓Fw.a_dqPop, ↓Fw.a_dqApp, Fw.v_isD, ↓Fw.a_dget2, ↓Fw.b_dsetd, ↓Fw.a_star, Fw.v_pop, Fw.v_reverse, ↓Fw.a_tru1, Fw.v_tru_r, ↓Fw.a_gseq, ↓Fw.b_gcons, ↓Fw.b_gnil, ↓Fw.a_seq, ↓Fw.a_next, ↓Fw.a_brk, ↓Fw.a_cont, ↓Fw.a_asg, ↓Fw.a_name, ↓Fw.a_gsub, ↓Fw.b_var, ↓Fw.a_c, ↓Fw.a_op, ↓Fw.a_un, ↓Fw.a_cons, ↓Fw.a_nil, ↓Fw.a_ret, ↓Fw.a_retN, ↓Fw.a_drop, ↓Fw.a_if, ↓Fw.b_test, ↓Fw.b_B, ↓Fw.a_and, ↓Fw.a_or, ↓Fw.a_not, ↓Fw.b_andV, ↓Fw.b_orV, ↓Fw.b_notV, ↓Fw.a_ifE, ↓Fw.a_fn, ↓Fw.a_fnX, ↓Fw.a_hold, ↓Fw.a_holdX, ↓Fw.a_ne_rr, ↓Fw.a_eq_rr, ↓Fw.a_at, ↓Fw.a_atS, ↓Fw.a_step, Fw.v_step, Fw.v_min2, Fw.v_max2, Fw.v_clear, ↓Fw.a_mt, ↓Fw.a_mtX, ↓Fw.a_mk, ↓Fw.a_cb, ↓Fw.a_lst, ↓Fw.a_tup, ↓Fw.a_chain, ↓Fw.a_dnew, ↓Fw.a_start, Fw.v_rU, Int.reduceNeg, Fw.v_add_ii, Fw.v_add_ss, Fw.v_sub_ii, Fw.v_mul_ii, Fw.v_div_ii, Fw.v_mod_ii, Fw.v_pow_ii, Fw.v_lt_ii, Fw.v_gt_ii, Fw.v_le_ii, Fw.v_ge_ii, Fw.v_le_ss, Fw.v_eqS_ii, Fw.v_eqS_ss, Fw.v_neS_ii, Fw.v_neS_ss, Fw.v_eq_ii, Fw.v_eq_ss, Fw.v_eq_bb, Fw.v_ne_ii, Fw.v_ne_ss, Fw.v_ne_bb, Fw.v_ne_tt, Fw.v_eq_tt, Fw.v_in_sc, Fw.v_ix_s, Fw.v_len_s, Fw.v_type, Fw.v_is, ↓Fw.a_bm, ↓Fw.a_bm0, ↓Fw.a_sl, ↓Fw.a_nopart, ↓Fw.a_part, Fw.v_sl_s, Fw.v_sl_r, Fw.v_app, Fw.v_add_rr, ↓Fw.b_ix_r, Fw.b_ix_r, Fw.v_in_r, Fw.v_set_r, Fw.v_len_r, Fw.v_list_r, Fw.v_listA, Fw.v_dictA, Fw.v_int_i, Fw.v_int_b, Fw.v_key_i, Fw.v_key_s, Fw.v_lst, Fw.v_tup, Fw.v_dic, Fw.v_ty_r, Fw.v_ty_s, Fw.v_ty_i, Fw.v_ty_b, Fw.v_ty_n, Fw.v_tyL, Fw.v_same, Fw.v_old, Fw.v_ne, Fw.v_upd, Fw.v_flat_s, Fw.v_inStrs, ↓Fw.a_yes, Fw.v_wipe0, Fw.v_wipe1, Fw.cx_K, Int.reduceToNat, List.length_replicate, Nat.sub_self, Nat.reduceSub, Nat.reduceAdd, List.replicate_zero, List.replicate_succ, List.append_nil, List.length_cons, List.length_nil, List.map_cons, List.map_nil, List.cons_append, List.nil_append, List.getElem?_cons_zero, List.getElem?_cons_succ, List.set_cons_zero, List.set_cons_succ, Option.some.injEq, V.int.injEq, V.bl.injEq, V.ref.injEq, V.str.injEq, exists_eq_left', exists_eq_left, exists_eq_right, exists_and_left, HO.lst.injEq, HO.dK.injEq, HO.tup.injEq, Option.isSome_some, true_and, and_true, Fw.v_m_bool, Fw.v_m_int, Fw.v_m_str, Fw.v_m_list, Fw.v_m_tuple, Fw.v_m_dict, Fw.v_flats, Bool.xor_true, Bool.xor_false, Bool.not_eq_true', decide_eq_false_iff_not, not_true_eq_false, not_false_eq_true, decide_true, decide_false, decide_eq_true_eq, ite_true, ite_false, Bool.not_true, Bool.not_false, Bool.false_eq_true, reduceCtorEq, Fw.isT_NoneType_bool, Fw.isT_NoneType_int, Fw.isT_NoneType_str, Fw.isT_NoneType_list, Fw.isT_NoneType_tuple, Fw.isT_NoneType_dict, Fw.isT_bool_bool, Fw.isT_bool_int, Fw.isT_bool_str, Fw.isT_bool_list, Fw.isT_bool_tuple, Fw.isT_bool_dict, Fw.isT_int_bool, Fw.isT_int_int, Fw.isT_int_str, Fw.isT_int_list, Fw.isT_int_tuple, Fw.isT_int_dict, Fw.isT_str_bool, Fw.isT_str_int, Fw.isT_str_str, Fw.isT_str_list, Fw.isT_str_tuple, Fw.isT_str_dict, Fw.isT_list_bool, Fw.isT_list_int, Fw.isT_list_str, Fw.isT_list_list, Fw.isT_list_tuple, Fw.isT_list_dict, Fw.isT_tuple_bool, Fw.isT_tuple_int, Fw.isT_tuple_str, Fw.isT_tuple_list, Fw.isT_tuple_tuple, Fw.isT_tuple_dict, Fw.isT_dict_bool, Fw.isT_dict_int, Fw.isT_dict_str, Fw.isT_dict_list, Fw.isT_dict_tuple, Fw.isT_dict_dict]
          exact z) (fun i σ2 H2 => Same H' H2 ∧ H2 p = some (.lst ((needsL cell ws i).map V.str)) ∧ ∃ v5, σ2 = [some (.int cell), some (.ref l), some (.int (sizeOf' cell)), some (.int (restN7 (cell / 144) i)), some (.ref p), v5])
          ⟨same_new hp, upd_same, none, rfl⟩ ?_ ?_
        · rintro i σ2 H2 N hi ⟨sm, hP, v5, rfl⟩ hN
          have hL2 := sm _ _ hL
          have na := needAt_lt (r := cell / 144) (j := i) hw
          have en : restN7 (cell / 144) i % (ws.length : Int) = ((needAt (cell / 144) ws.length i : Nat) : Int) := by
            unfold needAt
            rw [Int.toNat_of_nonneg (Int.emod_nonneg _ (by omega))]
          have eg : ws[needAt (cell / 144) ws.length i]? = some (ws.getD (needAt (cell / 144) ws.length i) "") := by
            rw [List.getD_eq_getElem?_getD, List.getElem?_eq_getElem na]
            rfl
          have eg2 : atI (ws.map V.str) ((needAt (cell / 144) ws.length i : Nat) : Int) = some (.str (ws.getD (needAt (cell / 144) ws.length i) "")) := atI_nat (by
            rw [List.getElem?_map, eg]
            rfl)
          simp -dsimp +contextual only [↓Fw.a_disp, ↓Fw.a_pnil, ↓Fw.a_pcons, Fw.v_keys0, Fw.v_keys1, Fw.v_deq, ↓Fw.a_truD1, Fw.v_truD, ↓Fw.a_dqPop, ↓Fw.a_dqApp, Fw.v_isD, ↓Fw.a_dget2, ↓Fw.b_dsetd, ↓Fw.a_star, Fw.v_pop, Fw.v_reverse, ↓Fw.a_tru1, Fw.v_tru_r, ↓Fw.a_gseq, ↓Fw.b_gcons, ↓Fw.b_gnil, ↓Fw.a_seq, ↓Fw.a_next, ↓Fw.a_brk, ↓Fw.a_cont, ↓Fw.a_asg, ↓Fw.a_name, ↓Fw.a_gsub, ↓Fw.b_var, ↓Fw.a_c, ↓Fw.a_op, ↓Fw.a_un, ↓Fw.a_cons, ↓Fw.a_nil, ↓Fw.a_ret, ↓Fw.a_retN, ↓Fw.a_drop, ↓Fw.a_if, ↓Fw.b_test, ↓Fw.b_B, ↓Fw.a_and, ↓Fw.a_or, ↓Fw.a_not, ↓Fw.b_andV, ↓Fw.b_orV, ↓Fw.b_notV, ↓Fw.a_ifE, ↓Fw.a_fn, ↓Fw.a_fnX, ↓Fw.a_hold, ↓Fw.a_holdX, ↓Fw.a_ne_rr, ↓Fw.a_eq_rr, ↓Fw.a_at, ↓Fw.a_atS, ↓Fw.a_step, Fw.v_step, Fw.v_min2, Fw.v_max2, Fw.v_clear, ↓Fw.a_mt, ↓Fw.a_mtX, ↓Fw.a_mk, ↓Fw.a_cb, ↓Fw.a_lst, ↓Fw.a_tup, ↓Fw.a_chain, ↓Fw.a_dnew, ↓Fw.a_start, Fw.v_rU, Int.reduceNeg, Fw.v_add_ii, Fw.v_add_ss, Fw.v_sub_ii, Fw.v_mul_ii, Fw.v_div_ii, Fw.v_mod_ii, Fw.v_pow_ii, Fw.v_lt_ii, Fw.v_gt_ii, Fw.v_le_ii, Fw.v_ge_ii, Fw.v_le_ss, Fw.v_eqS_ii, Fw.v_eqS_ss, Fw.v_neS_ii, Fw.v_neS_ss, Fw.v_eq_ii, Fw.v_eq_ss, Fw.v_eq_bb, Fw.v_ne_ii, Fw.v_ne_ss, Fw.v_ne_bb, Fw.v_ne_tt, Fw.v_eq_tt, Fw.v_in_sc, Fw.v_ix_s, Fw.v_len_s, Fw.v_type, Fw.v_is, ↓Fw.a_bm, ↓Fw.a_bm0, ↓Fw.a_sl, ↓Fw.a_nopart, ↓Fw.a_part, Fw.v_sl_s, Fw.v_sl_r, Fw.v_app, Fw.v_add_rr, ↓Fw.b_ix_r, Fw.b_ix_r, Fw.v_in_r, Fw.v_set_r, Fw.v_len_r, Fw.v_list_r, Fw.v_listA, Fw.v_dictA, Fw.v_int_i, Fw.v_int_b, Fw.v_key_i, Fw.v_key_s, Fw.v_lst, Fw.v_tup, Fw.v_dic, Fw.v_ty_r, Fw.v_ty_s, Fw.v_ty_i, Fw.v_ty_b, Fw.v_ty_n, Fw.v_tyL, Fw.v_same, Fw.v_old, Fw.v_ne, Fw.v_upd, Fw.v_flat_s, Fw.v_inStrs, ↓Fw.a_yes, Fw.v_wipe0, Fw.v_wipe1, Fw.cx_K, Int.reduceToNat, List.length_replicate, Nat.sub_self, Nat.reduceSub, Nat.reduceAdd, List.replicate_zero, List.replicate_succ, List.append_nil, List.length_cons, List.length_nil, List.map_cons, List.map_nil, List.cons_append, List.nil_append, List.getElem?_cons_zero, List.getElem?_cons_succ, List.set_cons_zero, List.set_cons_succ, Option.some.injEq, V.int.injEq, V.bl.injEq, V.ref.injEq, V.str.injEq, exists_eq_left', exists_eq_left, exists_eq_right, exists_and_left, HO.lst.injEq, HO.dK.injEq, HO.tup.injEq, Option.isSome_some, true_and, and_true, Fw.v_m_bool, Fw.v_m_int, Fw.v_m_str, Fw.v_m_list, Fw.v_m_tuple, Fw.v_m_dict, Fw.v_flats, Bool.xor_true, Bool.xor_false, Bool.not_eq_true', decide_eq_false_iff_not, not_true_eq_false, not_false_eq_true, decide_true, decide_false, decide_eq_true_eq, ite_true, ite_false, Bool.not_true, Bool.not_false, Bool.false_eq_true, reduceCtorEq, Fw.isT_NoneType_bool, Fw.isT_NoneType_int, Fw.isT_NoneType_str, Fw.isT_NoneType_list, Fw.isT_NoneType_tuple, Fw.isT_NoneType_dict, Fw.isT_bool_bool, Fw.isT_bool_int, Fw.isT_bool_str, Fw.isT_bool_list, Fw.isT_bool_tuple, Fw.isT_bool_dict, Fw.isT_int_bool, Fw.isT_int_int, Fw.isT_int_str, Fw.isT_int_list, Fw.isT_int_tuple, Fw.isT_int_dict, Fw.isT_str_bool, Fw.isT_str_int, Fw.isT_str_str, Fw.isT_str_list, Fw.isT_str_tuple, Fw.isT_str_dict, Fw.isT_list_bool, Fw.isT_list_int, Fw.isT_list_str, Fw.isT_list_list, Fw.isT_list_tuple, Fw.isT_list_dict, Fw.isT_tuple_bool, Fw.isT_tuple_int, Fw.isT_tuple_str, Fw.isT_tuple_list, Fw.isT_tuple_tuple, Fw.isT_tuple_dict, Fw.isT_dict_bool, Fw.isT_dict_int, Fw.isT_dict_str, Fw.isT_dict_list, Fw.isT_dict_tuple, Fw.isT_dict_dict, hL2, hP, List.length_map, en, eg2]
          refine ⟨by omega, ?_, ⟨by decide, by decide⟩, hN _ _ ⟨same_mut sm hp, ?_, _, rfl⟩⟩
          · rw [needsL_len]
            exact Nat.lt_of_lt_of_le (show i < 100 by omega) (by decide)
          · rw [upd_same, needsL_succ, List.map_append]
            rfl
        · rintro σ2 H2 ⟨sm, hP, v5, rfl⟩
          simp -dsimp +contextual only [↓Fw.a_disp, ↓Fw.a_pnil, ↓Fw.a_pcons, Fw.v_keys0, Fw.v_keys1, Fw.v_deq, ↓Fw.a_truD1, Fw.v_truD, ↓Fw.a_dqPop, ↓Fw.a_dqApp, Fw.v_isD, ↓Fw.a_dget2, ↓Fw.b_dsetd, ↓Fw.a_star, Fw.v_pop, Fw.v_reverse, ↓Fw.a_tru1, Fw.v_tru_r, ↓Fw.a_gseq, ↓Fw.b_gcons, ↓Fw.b_gnil, ↓Fw.a_seq, ↓Fw.a_next, ↓Fw.a_brk, ↓Fw.a_cont, ↓Fw.a_asg, ↓Fw.a_name, ↓Fw.a_gsub, ↓Fw.b_var, ↓Fw.a_c, ↓Fw.a_op, ↓Fw.a_un, ↓Fw.a_cons, ↓Fw.a_nil, ↓Fw.a_ret, ↓Fw.a_retN, ↓Fw.a_drop, ↓Fw.a_if, ↓Fw.b_test, ↓Fw.b_B, ↓Fw.a_and, ↓Fw.a_or, ↓Fw.a_not, ↓Fw.b_andV, ↓Fw.b_orV, ↓Fw.b_notV, ↓Fw.a_ifE, ↓Fw.a_fn, ↓Fw.a_fnX, ↓Fw.a_hold, ↓Fw.a_holdX, ↓Fw.a_ne_rr, ↓Fw.a_eq_rr, ↓Fw.a_at, ↓Fw.a_atS, ↓Fw.a_step, Fw.v_step, Fw.v_min2, Fw.v_max2, Fw.v_clear, ↓Fw.a_mt, ↓Fw.a_mtX, ↓Fw.a_mk, ↓Fw.a_cb, ↓Fw.a_lst, ↓Fw.a_tup, ↓Fw.a_chain, ↓Fw.a_dnew, ↓Fw.a_start, Fw.v_rU, Int.reduceNeg, Fw.v_add_ii, Fw.v_add_ss, Fw.v_sub_ii, Fw.v_mul_ii, Fw.v_div_ii, Fw.v_mod_ii, Fw.v_pow_ii, Fw.v_lt_ii, Fw.v_gt_ii, Fw.v_le_ii, Fw.v_ge_ii, Fw.v_le_ss, Fw.v_eqS_ii, Fw.v_eqS_ss, Fw.v_neS_ii, Fw.v_neS_ss, Fw.v_eq_ii, Fw.v_eq_ss, Fw.v_eq_bb, Fw.v_ne_ii, Fw.v_ne_ss, Fw.v_ne_bb, Fw.v_ne_tt, Fw.v_eq_tt, Fw.v_in_sc, Fw.v_ix_s, Fw.v_len_s, Fw.v_type, Fw.v_is, ↓Fw.a_bm, ↓Fw.a_bm0, ↓Fw.a_sl, ↓Fw.a_nopart, ↓Fw.a_part, Fw.v_sl_s, Fw.v_sl_r, Fw.v_app, Fw.v_add_rr, ↓Fw.b_ix_r, Fw.b_ix_r, Fw.v_in_r, Fw.v_set_r, Fw.v_len_r, Fw.v_list_r, Fw.v_listA, Fw.v_dictA, Fw.v_int_i, Fw.v_int_b, Fw.v_key_i, Fw.v_key_s, Fw.v_lst, Fw.v_tup, Fw.v_dic, Fw.v_ty_r, Fw.v_ty_s, Fw.v_ty_i, Fw.v_ty_b, Fw.v_ty_n, Fw.v_tyL, Fw.v_same, Fw.v_old, Fw.v_ne, Fw.v_upd, Fw.v_flat_s, Fw.v_inStrs, ↓Fw.a_yes, Fw.v_wipe0, Fw.v_wipe1, Fw.cx_K, Int.reduceToNat, List.length_replicate, Nat.sub_self, Nat.reduceSub, Nat.reduceAdd, List.replicate_zero, List.replicate_succ, List.append_nil, List.length_cons, List.length_nil, List.map_cons, List.map_nil, List.cons_append, List.nil_append, List.getElem?_cons_zero, List.getElem?_cons_succ, List.set_cons_zero, List.set_cons_succ, Option.some.injEq, V.int.injEq, V.bl.injEq, V.ref.injEq, V.str.injEq, exists_eq_left', exists_eq_left, exists_eq_right, exists_and_left, HO.lst.injEq, HO.dK.injEq, HO.tup.injEq, Option.isSome_some, true_and, and_true, Fw.v_m_bool, Fw.v_m_int, Fw.v_m_str, Fw.v_m_list, Fw.v_m_tuple, Fw.v_m_dict, Fw.v_flats, Bool.xor_true, Bool.xor_false, Bool.not_eq_true', decide_eq_false_iff_not, not_true_eq_false, not_false_eq_true, decide_true, decide_false, decide_eq_true_eq, ite_true, ite_false, Bool.not_true, Bool.not_false, Bool.false_eq_true, reduceCtorEq, Fw.isT_NoneType_bool, Fw.isT_NoneType_int, Fw.isT_NoneType_str, Fw.isT_NoneType_list, Fw.isT_NoneType_tuple, Fw.isT_NoneType_dict, Fw.isT_bool_bool, Fw.isT_bool_int, Fw.isT_bool_str, Fw.isT_bool_list, Fw.isT_bool_tuple, Fw.isT_bool_dict, Fw.isT_int_bool, Fw.isT_int_int, Fw.isT_int_str, Fw.isT_int_list, Fw.isT_int_tuple, Fw.isT_int_dict, Fw.isT_str_bool, Fw.isT_str_int, Fw.isT_str_str, Fw.isT_str_list, Fw.isT_str_tuple, Fw.isT_str_dict, Fw.isT_list_bool, Fw.isT_list_int, Fw.isT_list_str, Fw.isT_list_list, Fw.isT_list_tuple, Fw.isT_list_dict, Fw.isT_tuple_bool, Fw.isT_tuple_int, Fw.isT_tuple_str, Fw.isT_tuple_list, Fw.isT_tuple_tuple, Fw.isT_tuple_dict, Fw.isT_dict_bool, Fw.isT_dict_int, Fw.isT_dict_str, Fw.isT_dict_list, Fw.isT_dict_tuple, Fw.isT_dict_dict]
          exact q p H2 sm hp hP
    · exact h.elim
/-! ### _law_steps -/
theorem ok_steps (S : Src K mg "_law_steps" ["_law_words_here", "_law_full", "_law_needs", "_law_done"] s_steps) (B : Blt mg) : Fn P w K mg base 1 "_law_steps" ["_law_words_here", "_law_full", "_law_needs", "_law_done"] (sp_steps) := by
  have sc := sc_steps
  refine fn_mk S sc (fun vs H Q E h => ?_) (fun f cdv A outer s H vs Q E hr h => ⟨_, (pss_cons (ps_set (i := 4) sc.nd rfl (by first | exact Or.inl rfl | exact Or.inr rfl) pe_dnewK)
     (pss_cons (ps_for PassesOwn.never rfl (pi_list (pv 0)) (pg_name (i := 5) sc.nd rfl (by first | exact Or.inl rfl | exact Or.inr rfl))
     (pss_one (ps_if (PW.pt (pw_and (pt_cmpR (op_vNotIn (hu_of hr)) (pv 5) (pv 1) (by rfl)) (pw_and1 (pt_cmpR (op_vNotIn (hu_of hr)) (pv 5) (pv 3) (by rfl)))))
     (pss_one (ps_asg pe_int (pg_sub (pv 4) (pv 5) (set_v (hu_of hr)))))
     pss_nil)))
     (pss_cons (ps_for PassesOwn.never rfl (pi_range2 rfl B.n_range (pa_cons pe_int (pa_cons (pe_op op_vAdd (pe_callB call_vLen rfl B.n_len (by decide +kernel) (pa_cons (pv 0) pa_nil)) pe_int) pa_nil))) (pg_name (i := 6) sc.nd rfl (by first | exact Or.inl rfl | exact Or.inr rfl))
     (pss_cons (ps_set (i := 7) sc.nd rfl (by first | exact Or.inl rfl | exact Or.inr rfl) (pe_lst pa_nil))
     (pss_cons (ps_for PassesOwn.never rfl (pi_list (pv 1)) (pg_name (i := 5) sc.nd rfl (by first | exact Or.inl rfl | exact Or.inr rfl))
     (pss_cons (ps_setLc (i := 8) (own := [("_law_need", 9)]) rfl sc.nd rfl rfl (sw_true rfl rfl rfl (by decide +kernel)) (pi_list (pe_ix (ix_v (hu_of hr)) (pv 2) (pv 5) (fun _ _ => rfl))) (blkOk_by (N := n_steps) (sc := defScope s_steps) (own := [("_law_need", 9)]) (by decide +kernel)) (fun _ _ _ _ _ => (pg_name (i := 9) sc.nd rfl (by first | exact Or.inl rfl | exact Or.inr rfl))) (fun _ _ _ _ _ => (pts_one (pt_cmpR (op_vIn (hu_of hr)) (pv 9) (pv 4) (by rfl)))) (fun _ _ _ _ _ => (pv 9)))
     (pss_one (ps_if (PW.pt (pw_and (pt_cmpR (op_vNotIn (hu_of hr)) (pv 5) (pv 4) (by rfl)) (pw_and1 (pt_cmpR (op_vNe hr.units) (pv 8) (pe_lst pa_nil) (nomark _)))))
     (pss_one (ps_expr (pe_bm PySem.F.plainAttrs_list PySem.F.slot_list_append PySem.F.type_list_append mt_append (pv 7) (pa_cons (pv 5) pa_nil))))
     pss_nil))))
     (pss_one (ps_for PassesOwn.never rfl (pi_list (pv 7)) (pg_name (i := 5) sc.nd rfl (by first | exact Or.inl rfl | exact Or.inr rfl))
     (pss_one (ps_asg (pv 6) (pg_sub (pv 4) (pv 5) (set_v (hu_of hr))))))))))
     (pss_one (ps_ret (pv 4)))))), ?_⟩)
  · unfold sp_steps at h; split at h <;> first | rfl | exact h.elim
  · unfold sp_steps at h
    split at h
    · rename_i c a d b
      obtain ⟨g, ws, ok, hF, hN_, hD, hC, hl, hfw, hnw, q⟩ := h
      simp -dsimp only [↓Fw.a_disp, ↓Fw.a_pnil, ↓Fw.a_pcons, Fw.v_keys0, Fw.v_keys1, Fw.v_deq, ↓Fw.a_truD1, Fw.v_truD, ↓Fw.a_dqPop, ↓Fw.a_dqApp, Fw.v_isD, ↓Fw.a_dget2, ↓Fw.b_dsetd, ↓Fw.a_star, Fw.v_pop, Fw.v_reverse, ↓Fw.a_tru1, Fw.v_tru_r, ↓Fw.a_gseq, ↓Fw.b_gcons, ↓Fw.b_gnil, ↓Fw.a_seq, ↓Fw.a_next, ↓Fw.a_brk, ↓Fw.a_cont, ↓Fw.a_asg, ↓Fw.a_name, ↓Fw.a_gsub, ↓Fw.b_var, ↓Fw.a_c, ↓Fw.a_op, ↓Fw.a_un, ↓Fw.a_cons, ↓Fw.a_nil, ↓Fw.a_ret, ↓Fw.a_retN, ↓Fw.a_drop, ↓Fw.a_if, ↓Fw.b_test, ↓Fw.b_B, ↓Fw.a_and, ↓Fw.a_or, ↓Fw.a_not, ↓Fw.b_andV, ↓Fw.b_orV, ↓Fw.b_notV, ↓Fw.a_ifE, ↓Fw.a_fn, ↓Fw.a_fnX, ↓Fw.a_hold, ↓Fw.a_holdX, ↓Fw.a_ne_rr, ↓Fw.a_eq_rr, ↓Fw.a_at, ↓Fw.a_atS, ↓Fw.a_step, Fw.v_step, Fw.v_min2, Fw.v_max2, Fw.v_clear, ↓Fw.a_mt, ↓Fw.a_mtX, ↓Fw.a_mk, ↓Fw.a_cb, ↓Fw.a_lst, ↓Fw.a_tup, ↓Fw.a_chain, ↓Fw.a_dnew, ↓Fw.a_start, Fw.v_rU, Int.reduceNeg, Fw.v_add_ii, Fw.v_add_ss, Fw.v_sub_ii, Fw.v_mul_ii, Fw.v_div_ii, Fw.v_mod_ii, Fw.v_pow_ii, Fw.v_lt_ii, Fw.v_gt_ii, Fw.v_le_ii, Fw.v_ge_ii, Fw.v_le_ss, Fw.v_eqS_ii, Fw.v_eqS_ss, Fw.v_neS_ii, Fw.v_neS_ss, Fw.v_eq_ii, Fw.v_eq_ss, Fw.v_eq_bb, Fw.v_ne_ii, Fw.v_ne_ss, Fw.v_ne_bb, Fw.v_ne_tt, Fw.v_eq_tt, Fw.v_in_sc, Fw.v_ix_s, Fw.v_len_s, Fw.v_type, Fw.v_is, ↓Fw.a_bm, ↓Fw.a_bm0, ↓Fw.a_sl, ↓Fw.a_nopart, ↓Fw.a_part, Fw.v_sl_s, Fw.v_sl_r, Fw.v_app, Fw.v_add_rr, ↓Fw.b_ix_r, Fw.b_ix_r, Fw.v_in_r, Fw.v_set_r, Fw.v_len_r, Fw.v_list_r, Fw.v_listA, Fw.v_dictA, Fw.v_int_i, Fw.v_int_b, Fw.v_key_i, Fw.v_key_s, Fw.v_lst, Fw.v_tup, Fw.v_dic, Fw.v_ty_r, Fw.v_ty_s, Fw.v_ty_i, Fw.v_ty_b, Fw.v_ty_n, Fw.v_tyL, Fw.v_same, Fw.v_old, Fw.v_ne, Fw.v_upd, Fw.v_flat_s, Fw.v_inStrs, ↓Fw.a_yes, Fw.v_wipe0, Fw.v_wipe1, Fw.cx_K, Int.reduceToNat, List.length_replicate, Nat.sub_self, Nat.reduceSub, Nat.reduceAdd, List.replicate_zero, List.replicate_succ, List.append_nil, List.length_cons, List.length_nil, List.map_cons, List.map_nil, List.cons_append, List.nil_append, List.getElem?_cons_zero, List.getElem?_cons_succ, List.set_cons_zero, List.set_cons_succ, Option.some.injEq, V.int.injEq, V.bl.injEq, V.ref.injEq, V.str.injEq, exists_eq_left', exists_eq_left, exists_eq_right, exists_and_left, HO.lst.injEq, HO.dK.injEq, HO.tup.injEq, Option.isSome_some, true_and, and_true, Fw.v_m_bool, Fw.v_m_int, Fw.v_m_str, Fw.v_m_list, Fw.v_m_tuple, Fw.v_m_dict, Fw.v_flats, Bool.xor_true, Bool.xor_false, Bool.not_eq_true', decide_eq_false_iff_not, not_true_eq_false, not_false_eq_true, decide_true, decide_false, decide_eq_true_eq, ite_true, ite_false, Bool.not_true, Bool.not_false, Bool.false_eq_true, reduceCtorEq, Fw.isT_NoneType_bool, Fw.isT_NoneType_int, Fw.isT_NoneType_str, Fw.isT_NoneType_list, Fw.isT_NoneType_tuple, Fw.isT_NoneType_dict, Fw.isT_bool_bool, Fw.isT_bool_int, Fw.isT_bool_str, Fw.isT_bool_list, Fw.isT_bool_tuple, Fw.isT_bool_dict, Fw.isT_int_bool, Fw.isT_int_int, Fw.isT_int_str, Fw.isT_int_list, Fw.isT_int_tuple, Fw.isT_int_dict, Fw.isT_str_bool, Fw.isT_str_int, Fw.isT_str_str, Fw.isT_str_list, Fw.isT_str_tuple, Fw.isT_str_dict, Fw.isT_list_bool, Fw.isT_list_int, Fw.isT_list_str, Fw.isT_list_list, Fw.isT_list_tuple, Fw.isT_list_dict, Fw.isT_tuple_bool, Fw.isT_tuple_int, Fw.isT_tuple_str, Fw.isT_tuple_list, Fw.isT_tuple_tuple, Fw.isT_tuple_dict, Fw.isT_dict_bool, Fw.isT_dict_int, Fw.isT_dict_str, Fw.isT_dict_list, Fw.isT_dict_tuple, Fw.isT_dict_dict]
      refine fun p hp => ?_
      have hC0 : upd H p (.dK []) c = some (.lst (ws.map V.str)) := same_new hp _ _ hC
      have LK : ∀ x, g.lack x = true ↔ (x ∉ g.full ∧ x ∉ g.done) := fun x => decide_eq_true_iff
      refine f_lst (fun Q z => by
        simp -dsimp only [↓Fw.a_disp, ↓Fw.a_pnil, ↓Fw.a_pcons, Fw.v_keys0, Fw.v_keys1, Fw.v_deq, ↓Fw.a_truD1, Fw.v_truD, ↓Fw.a_dqPop, ↓Fw.a_dqApp, Fw.v_isD, ↓Fw.a_dget2, ↓Fw.b_dsetd, ↓Fw.a_star, Fw.v_pop, Fw.v_reverse, ↓Fw.a_tru1, Fw.v_tru_r, ↓Fw.a_gseq, ↓Fw.b_gcons, ↓Fw.b_gnil, ↓Fw.a_seq, ↓Fw.a_next, ↓Fw.a_brk, ↓Fw.a_cont, ↓Fw.a_asg, ↓Fw.a_name, ↓Fw.a_gsub, ↓Fw.b_var, ↓Fw.a_c, ↓Fw.a_op, ↓Fw.a_un, ↓Fw.a_cons, ↓Fw.a_nil, ↓Fw.a_ret, ↓Fw.a_retN, ↓Fw.a_drop, ↓Fw.a_if, ↓Fw.b_test, ↓Fw.b_B, ↓Fw.a_and, ↓Fw.a_or, ↓Fw.a_not, ↓Fw.b_andV, ↓Fw.b_orV, ↓Fw.b_notV, ↓Fw.a_ifE, ↓Fw.a_fn, ↓Fw.a_fnX, ↓Fw.a_hold, ↓Fw.a_holdX, ↓Fw.a_ne_rr, ↓Fw.a_eq_rr, ↓Fw.a_at, ↓Fw.a_atS, ↓Fw.a_step, Fw.v_step, Fw.v_min2, Fw.v_max2, Fw.v_clear, ↓Fw.a_mt, ↓Fw.a_mtX, ↓Fw.a_mk, ↓Fw.a_cb, ↓Fw.a_lst, ↓Fw.a_tup, ↓Fw.a_chain, ↓Fw.a_dnew, ↓Fw.a_start, Fw.v_rU, Int.reduceNeg, Fw.v_add_ii, Fw.v_add_ss, Fw.v_sub_ii, Fw.v_mul_ii, Fw.v_div_ii, Fw.v_mod_ii, Fw.v_pow_ii, Fw.v_lt_ii, Fw.v_gt_ii, Fw.v_le_ii, Fw.v_ge_ii, Fw.v_le_ss, Fw.v_eqS_ii, Fw.v_eqS_ss, Fw.v_neS_ii, Fw.v_neS_ss, Fw.v_eq_ii, Fw.v_eq_ss, Fw.v_eq_bb, Fw.v_ne_ii, Fw.v_ne_ss, Fw.v_ne_bb, Fw.v_ne_tt, Fw.v_eq_tt, Fw.v_in_sc, Fw.v_ix_s, Fw.v_len_s, Fw.v_type, Fw.v_is, ↓Fw.a_bm, ↓Fw.a_bm0, ↓Fw.a_sl, ↓Fw.a_nopart, ↓Fw.a_part, Fw.v_sl_s, Fw.v_sl_r, Fw.v_app, Fw.v_add_rr, ↓Fw.b_ix_r, Fw.b_ix_r, Fw.v_in_r, Fw.v_set_r, Fw.v_len_r, Fw.v_list_r, Fw.v_listA, Fw.v_dictA, Fw.v_int_i, Fw.v_int_b, Fw.v_key_i, Fw.v_key_s, Fw.v_lst, Fw.v_tup, Fw.v_dic, Fw.v_ty_r, Fw.v_ty_s, Fw.v_ty_i, Fw.v_ty_b, Fw.v_ty_n, Fw.v_tyL, Fw.v_same, Fw.v_old, Fw.v_ne, Fw.v_upd, Fw.v_flat_s, Fw.v_inStrs, ↓Fw.a_yes, Fw.v_wipe0, Fw.v_wipe1, Fw.cx_K, Int.reduceToNat, List.length_replicate, Nat.sub_self, Nat.reduceSub, Nat.reduceAdd, List.replicate_zero, List.replicate_succ, List.append_nil, List.length_cons, List.length_nil, List.map_cons, List.map_nil, List.cons_append, List.nil_append, List.getElem?_cons_zero, List.getElem?_cons_succ, List.set_cons_zero, List.set_cons_succ, Option.some.injEq, V.int.injEq, V.bl.injEq, V.ref.injEq, V.str.injEq, exists_eq_left', exists_eq_left, exists_eq_right, exists_and_left, HO.lst.injEq, HO.dK.injEq, HO.tup.injEq, Option.isSome_some, true_and, and_true, Fw.v_m_bool, Fw.v_m_int, Fw.v_m_str, Fw.v_m_list, Fw.v_m_tuple, Fw.v_m_dict, Fw.v_flats, Bool.xor_true, Bool.xor_false, Bool.not_eq_true', decide_eq_false_iff_not, not_true_eq_false, not_false_eq_true, decide_true, decide_false, decide_eq_true_eq, ite_true, ite_false, Bool.not_true, Bool.not_false, Bool.false_eq_true, reduceCtorEq, Fw.isT_NoneType_bool, Fw.isT_NoneType_int, Fw.isT_NoneType_str, Fw.isT_NoneType_list, Fw.isT_NoneType_tuple, Fw.isT_NoneType_dict, Fw.isT_bool_bool, Fw.isT_bool_int, Fw.isT_bool_str, Fw.isT_bool_list, Fw.isT_bool_tuple, Fw.isT_bool_dict, Fw.isT_int_bool, Fw.isT_int_int, Fw.isT_int_str, Fw.isT_int_list, Fw.isT_int_tuple, Fw.isT_int_dict, Fw.isT_str_bool, Fw.isT_str_int, Fw.isT_str_str, Fw.isT_str_list, Fw.isT_str_tuple, Fw.isT_str_dict, Fw.isT_list_bool, Fw.isT_list_int, Fw.isT_list_str, Fw.isT_list_list, Fw.isT_list_tuple, Fw.isT_list_dict, Fw.isT_tuple_bool, Fw.isT_tuple_int, Fw.isT_tuple_str, Fw.isT_tuple_list, Fw.isT_tuple_tuple, Fw.isT_tuple_dict, Fw.isT_dict_bool, Fw.isT_dict_int, Fw.isT_dict_str, Fw.isT_dict_list, Fw.isT_dict_tuple, Fw.isT_dict_dict]
        exact z) (.inl (.inl hC0)) (fun i σ2 H2 => Same H H2 ∧ (∃ ks : List Str, (∀ x ∈ ks, x ∈ ws ∧ g.lack x = true) ∧ (∀ x ∈ ws.take i, g.lack x = true → x ∈ ks) ∧ ks.length ≤ i ∧ H2 p = some (.dK (sK ks fun _ => .int 1))) ∧
          ∃ v5 : Option V, σ2 = [some (.ref c), some (.ref a), some (.ref d), some (.ref b), some (.ref p), v5, none, none, none, none])
        ⟨same_new hp, ⟨[], (fun _ z => by cases z), (fun _ z => by cases z), Nat.zero_le _, upd_same⟩, none, rfl⟩ (fun i σ2 H2 _ z => .inl (.inl (z.1 _ _ hC))) ?_ ?_
      · rintro i v σ2 H2 N hv ⟨sm, ⟨ks, k1, k2, k3, k4⟩, v5, rfl⟩ hN
        obtain ⟨f, hf, rfl⟩ := map_str_get hv
        have hF2 := sm _ _ hF
        have hD2 := sm _ _ hD
        have hw : f ∈ ws := List.mem_of_getElem? hf
        have ht : ws.take (i + 1) = ws.take i ++ [f] := by
          rw [List.take_add_one, hf]
          rfl
        have hil : i < ws.length := (List.getElem?_eq_some_iff.mp hf).1
        have skip : g.lack f = false → N [some (.ref c), some (.ref a), some (.ref d), some (.ref b), some (.ref p), some (.str f), none, none, none, none] H2 := fun z =>
          hN _ _ ⟨sm, ⟨ks, k1, (fun x hx hl => by
            rw [ht] at hx
            rcases List.mem_append.mp hx with m | m
            · exact k2 x m hl
            · rw [List.mem_singleton.mp m, z] at hl
              cases hl), Nat.le_succ_of_le k3, k4⟩, _, rfl⟩
        simp -dsimp only [↓Fw.a_disp, ↓Fw.a_pnil, ↓Fw.a_pcons, Fw.v_keys0, Fw.v_keys1, Fw.v_deq, ↓Fw.a_truD1, Fw.v_truD, ↓Fw.a_dqPop, ↓Fw.a_dqApp, Fw.v_isD, ↓Fw.a_dget2, ↓Fw.b_dsetd, ↓Fw.a_star, Fw.v_pop, Fw.v_reverse, ↓Fw.a_tru1, Fw.v_tru_r, ↓Fw.a_gseq, ↓Fw.b_gcons, ↓Fw.b_gnil, ↓Fw.a_seq, ↓Fw.a_next, ↓Fw.a_brk, ↓Fw.a_cont, ↓Fw.a_asg, ↓Fw.a_name, ↓Fw.a_gsub, ↓Fw.b_var, ↓Fw.a_c, ↓Fw.a_op, ↓Fw.a_un, ↓Fw.a_cons, ↓Fw.a_nil, ↓Fw.a_ret, ↓Fw.a_retN, ↓Fw.a_drop, ↓Fw.a_if, ↓Fw.b_test, ↓Fw.b_B, ↓Fw.a_and, ↓Fw.a_or, ↓Fw.a_not, ↓Fw.b_andV, ↓Fw.b_orV, ↓Fw.b_notV, ↓Fw.a_ifE, ↓Fw.a_fn, ↓Fw.a_fnX, ↓Fw.a_hold, ↓Fw.a_holdX, ↓Fw.a_ne_rr, ↓Fw.a_eq_rr, ↓Fw.a_at, ↓Fw.a_atS, ↓Fw.a_step, Fw.v_step, Fw.v_min2, Fw.v_max2, Fw.v_clear, ↓Fw.a_mt, ↓Fw.a_mtX, ↓Fw.a_mk, ↓Fw.a_cb, ↓Fw.a_lst, ↓Fw.a_tup, ↓Fw.a_chain, ↓Fw.a_dnew, ↓Fw.a_start, Fw.v_rU, Int.reduceNeg, Fw.v_add_ii, Fw.v_add_ss, Fw.v_sub_ii, Fw.v_mul_ii, Fw.v_div_ii, Fw.v_mod_ii, Fw.v_pow_ii, Fw.v_lt_ii, Fw.v_gt_ii, Fw.v_le_ii, Fw.v_ge_ii, Fw.v_le_ss, Fw.v_eqS_ii, Fw.v_eqS_ss, Fw.v_neS_ii, Fw.v_neS_ss, Fw.v_eq_ii, Fw.v_eq_ss, Fw.v_eq_bb, Fw.v_ne_ii, Fw.v_ne_ss, Fw.v_ne_bb, Fw.v_ne_tt, Fw.v_eq_tt, Fw.v_in_sc, Fw.v_ix_s, Fw.v_len_s, Fw.v_type, Fw.v_is, ↓Fw.a_bm, ↓Fw.a_bm0, ↓Fw.a_sl, ↓Fw.a_nopart, ↓Fw.a_part, Fw.v_sl_s, Fw.v_sl_r, Fw.v_app, Fw.v_add_rr, ↓Fw.b_ix_r, Fw.b_ix_r, Fw.v_in_r, Fw.v_set_r, Fw.v_len_r, Fw.v_list_r, Fw.v_listA, Fw.v_dictA, Fw.v_int_i, Fw.v_int_b, Fw.v_key_i, Fw.v_key_s, Fw.v_lst, Fw.v_tup, Fw.v_dic, Fw.v_ty_r, Fw.v_ty_s, Fw.v_ty_i, Fw.v_ty_b, Fw.v_ty_n, Fw.v_tyL, Fw.v_same, Fw.v_old, Fw.v_ne, Fw.v_upd, Fw.v_flat_s, Fw.v_inStrs, ↓Fw.a_yes, Fw.v_wipe0, Fw.v_wipe1, Fw.cx_K, Int.reduceToNat, List.length_replicate, Nat.sub_self, Nat.reduceSub, Nat.reduceAdd, List.replicate_zero, List.replicate_succ, List.append_nil, List.length_cons, List.length_nil, List.map_cons, List.map_nil, List.cons_append, List.nil_append, List.getElem?_cons_zero, List.getElem?_cons_succ, List.set_cons_zero, List.set_cons_succ, Option.some.injEq, V.int.injEq, V.bl.injEq, V.ref.injEq, V.str.injEq, exists_eq_left', exists_eq_left, exists_eq_right, exists_and_left, HO.lst.injEq, HO.dK.injEq, HO.tup.injEq, Option.isSome_some, true_and, and_true, Fw.v_m_bool, Fw.v_m_int, Fw.v_m_str, Fw.v_m_list, Fw.v_m_tuple, Fw.v_m_dict, Fw.v_flats, Bool.xor_true, Bool.xor_false, Bool.not_eq_true', decide_eq_false_iff_not, not_true_eq_false, not_false_eq_true, decide_true, decide_false, decide_eq_true_eq, ite_true, ite_false, Bool.not_true, Bool.not_false, Bool.false_eq_true, reduceCtorEq, Fw.isT_NoneType_bool, Fw.isT_NoneType_int, Fw.isT_NoneType_str, Fw.isT_NoneType_list, Fw.isT_NoneType_tuple, Fw.isT_NoneType_dict, Fw.isT_bool_bool, Fw.isT_bool_int, Fw.isT_bool_str, Fw.isT_bool_list, Fw.isT_bool_tuple, Fw.isT_bool_dict, Fw.isT_int_bool, Fw.isT_int_int, Fw.isT_int_str, Fw.isT_int_list, Fw.isT_int_tuple, Fw.isT_int_dict, Fw.isT_str_bool, Fw.isT_str_int, Fw.isT_str_str, Fw.isT_str_list, Fw.isT_str_tuple, Fw.isT_str_dict, Fw.isT_list_bool, Fw.isT_list_int, Fw.isT_list_str, Fw.isT_list_list, Fw.isT_list_tuple, Fw.isT_list_dict, Fw.isT_tuple_bool, Fw.isT_tuple_int, Fw.isT_tuple_str, Fw.isT_tuple_list, Fw.isT_tuple_tuple, Fw.isT_tuple_dict, Fw.isT_dict_bool, Fw.isT_dict_int, Fw.isT_dict_str, Fw.isT_dict_list, Fw.isT_dict_tuple, Fw.isT_dict_dict, hF2, hD2, k4]
        refine ite2 (fun c1 => ite2 (fun c2 => ?_) fun c2 => ?_) fun c1 => ?_
        · have hlk : g.lack f = true := (LK f).mpr ⟨c1, c2⟩
          refine ⟨by rw [sK_len]; exact Nat.lt_of_le_of_lt k3 (Nat.lt_of_lt_of_le (show i < 100 by omega) (by decide)), hN _ _ ⟨same_mut sm hp, ?_, _, rfl⟩⟩
          by_cases m : f ∈ ks
          · refine ⟨ks, k1, (fun x hx hl => ?_), Nat.le_succ_of_le k3, ?_⟩
            · rw [ht] at hx
              rcases List.mem_append.mp hx with z | z
              · exact k2 x z hl
              · rw [List.mem_singleton.mp z]; exact m
            · rw [upd_same, sK_put' m]
              congr 2
              exact sK_congr fun y _ => by unfold fset; split <;> rfl
          · refine ⟨ks ++ [f], (fun x hx => ?_), (fun x hx hl => ?_), ?_, ?_⟩
            · rcases List.mem_append.mp hx with z | z
              · exact k1 x z
              · rw [List.mem_singleton.mp z]; exact ⟨hw, hlk⟩
            · rw [ht] at hx
              rcases List.mem_append.mp hx with z | z
              · exact List.mem_append_left _ (k2 x z hl)
              · exact List.mem_append_right _ z
            · rw [List.length_append]
              exact Nat.succ_le_succ k3
            · rw [upd_same, sK_put m]
              congr 2
              exact sK_congr fun y _ => by unfold fset; split <;> rfl
        · exact skip (by
            rw [← Bool.not_eq_true]
            exact fun z => c2 ((LK f).mp z).2)
        · exact skip (by
            rw [← Bool.not_eq_true]
            exact fun z => c1 ((LK f).mp z).1)
      · rintro σ2 H2 ⟨sm, ⟨ks, k1, k2, k3, k4⟩, v5, rfl⟩
        rw [List.length_map] at k2 k3
        rw [List.take_length] at k2
        have hC2 := sm _ _ hC
        simp -dsimp only [↓Fw.a_disp, ↓Fw.a_pnil, ↓Fw.a_pcons, Fw.v_keys0, Fw.v_keys1, Fw.v_deq, ↓Fw.a_truD1, Fw.v_truD, ↓Fw.a_dqPop, ↓Fw.a_dqApp, Fw.v_isD, ↓Fw.a_dget2, ↓Fw.b_dsetd, ↓Fw.a_star, Fw.v_pop, Fw.v_reverse, ↓Fw.a_tru1, Fw.v_tru_r, ↓Fw.a_gseq, ↓Fw.b_gcons, ↓Fw.b_gnil, ↓Fw.a_seq, ↓Fw.a_next, ↓Fw.a_brk, ↓Fw.a_cont, ↓Fw.a_asg, ↓Fw.a_name, ↓Fw.a_gsub, ↓Fw.b_var, ↓Fw.a_c, ↓Fw.a_op, ↓Fw.a_un, ↓Fw.a_cons, ↓Fw.a_nil, ↓Fw.a_ret, ↓Fw.a_retN, ↓Fw.a_drop, ↓Fw.a_if, ↓Fw.b_test, ↓Fw.b_B, ↓Fw.a_and, ↓Fw.a_or, ↓Fw.a_not, ↓Fw.b_andV, ↓Fw.b_orV, ↓Fw.b_notV, ↓Fw.a_ifE, ↓Fw.a_fn, ↓Fw.a_fnX, ↓Fw.a_hold, ↓Fw.a_holdX, ↓Fw.a_ne_rr, ↓Fw.a_eq_rr, ↓Fw.a_at, ↓Fw.a_atS, ↓Fw.a_step, Fw.v_step, Fw.v_min2, Fw.v_max2, Fw.v_clear, ↓Fw.a_mt, ↓Fw.a_mtX, ↓Fw.a_mk, ↓Fw.a_cb, ↓Fw.a_lst, ↓Fw.a_tup, ↓Fw.a_chain, ↓Fw.a_dnew, ↓Fw.a_start, Fw.v_rU, Int.reduceNeg, Fw.v_add_ii, Fw.v_add_ss, Fw.v_sub_ii, Fw.v_mul_ii, Fw.v_div_ii, Fw.v_mod_ii, Fw.v_pow_ii, Fw.v_lt_ii, Fw.v_gt_ii, Fw.v_le_ii, Fw.v_ge_ii, Fw.v_le_ss, Fw.v_eqS_ii, Fw.v_eqS_ss, Fw.v_neS_ii, Fw.v_neS_ss, Fw.v_eq_ii, Fw.v_eq_ss, Fw.v_eq_bb, Fw.v_ne_ii, Fw.v_ne_ss, Fw.v_ne_bb, Fw.v_ne_tt, Fw.v_eq_tt, Fw.v_in_sc, Fw.v_ix_s, Fw.v_len_s, Fw.v_type, Fw.v_is, ↓Fw.a_bm, ↓Fw.a_bm0, ↓Fw.a_sl, ↓Fw.a_nopart, ↓Fw.a_part, Fw.v_sl_s, Fw.v_sl_r, Fw.v_app, Fw.v_add_rr, ↓Fw.b_ix_r, Fw.b_ix_r, Fw.v_in_r, Fw.v_set_r, Fw.v_len_r, Fw.v_list_r, Fw.v_listA, Fw.v_dictA, Fw.v_int_i, Fw.v_int_b, Fw.v_key_i, Fw.v_key_s, Fw.v_lst, Fw.v_tup, Fw.v_dic, Fw.v_ty_r, Fw.v_ty_s, Fw.v_ty_i, Fw.v_ty_b, Fw.v_ty_n, Fw.v_tyL, Fw.v_same, Fw.v_old, Fw.v_ne, Fw.v_upd, Fw.v_flat_s, Fw.v_inStrs, ↓Fw.a_yes, Fw.v_wipe0, Fw.v_wipe1, Fw.cx_K, Int.reduceToNat, List.length_replicate, Nat.sub_self, Nat.reduceSub, Nat.reduceAdd, List.replicate_zero, List.replicate_succ, List.append_nil, List.length_cons, List.length_nil, List.map_cons, List.map_nil, List.cons_append, List.nil_append, List.getElem?_cons_zero, List.getElem?_cons_succ, List.set_cons_zero, List.set_cons_succ, Option.some.injEq, V.int.injEq, V.bl.injEq, V.ref.injEq, V.str.injEq, exists_eq_left', exists_eq_left, exists_eq_right, exists_and_left, HO.lst.injEq, HO.dK.injEq, HO.tup.injEq, Option.isSome_some, true_and, and_true, Fw.v_m_bool, Fw.v_m_int, Fw.v_m_str, Fw.v_m_list, Fw.v_m_tuple, Fw.v_m_dict, Fw.v_flats, Bool.xor_true, Bool.xor_false, Bool.not_eq_true', decide_eq_false_iff_not, not_true_eq_false, not_false_eq_true, decide_true, decide_false, decide_eq_true_eq, ite_true, ite_false, Bool.not_true, Bool.not_false, Bool.false_eq_true, reduceCtorEq, Fw.isT_NoneType_bool, Fw.isT_NoneType_int, Fw.isT_NoneType_str, Fw.isT_NoneType_list, Fw.isT_NoneType_tuple, Fw.isT_NoneType_dict, Fw.isT_bool_bool, Fw.isT_bool_int, Fw.isT_bool_str, Fw.isT_bool_list, Fw.isT_bool_tuple, Fw.isT_bool_dict, Fw.isT_int_bool, Fw.isT_int_int, Fw.isT_int_str, Fw.isT_int_list, Fw.isT_int_tuple, Fw.isT_int_dict, Fw.isT_str_bool, Fw.isT_str_int, Fw.isT_str_str, Fw.isT_str_list, Fw.isT_str_tuple, Fw.isT_str_dict, Fw.isT_list_bool, Fw.isT_list_int, Fw.isT_list_str, Fw.isT_list_list, Fw.isT_list_tuple, Fw.isT_list_dict, Fw.isT_tuple_bool, Fw.isT_tuple_int, Fw.isT_tuple_str, Fw.isT_tuple_list, Fw.isT_tuple_tuple, Fw.isT_tuple_dict, Fw.isT_dict_bool, Fw.isT_dict_int, Fw.isT_dict_str, Fw.isT_dict_list, Fw.isT_dict_tuple, Fw.isT_dict_dict]
        refine f_rng2 2 ws.length (by omega) (by omega) (fun Q z => by
          simp -dsimp only [↓Fw.a_disp, ↓Fw.a_pnil, ↓Fw.a_pcons, Fw.v_keys0, Fw.v_keys1, Fw.v_deq, ↓Fw.a_truD1, Fw.v_truD, ↓Fw.a_dqPop, ↓Fw.a_dqApp, Fw.v_isD, ↓Fw.a_dget2, ↓Fw.b_dsetd, ↓Fw.a_star, Fw.v_pop, Fw.v_reverse, ↓Fw.a_tru1, Fw.v_tru_r, ↓Fw.a_gseq, ↓Fw.b_gcons, ↓Fw.b_gnil, ↓Fw.a_seq, ↓Fw.a_next, ↓Fw.a_brk, ↓Fw.a_cont, ↓Fw.a_asg, ↓Fw.a_name, ↓Fw.a_gsub, ↓Fw.b_var, ↓Fw.a_c, ↓Fw.a_op, ↓Fw.a_un, ↓Fw.a_cons, ↓Fw.a_nil, ↓Fw.a_ret, ↓Fw.a_retN, ↓Fw.a_drop, ↓Fw.a_if, ↓Fw.b_test, ↓Fw.b_B, ↓Fw.a_and, ↓Fw.a_or, ↓Fw.a_not, ↓Fw.b_andV, ↓Fw.b_orV, ↓Fw.b_notV, ↓Fw.a_ifE, ↓Fw.a_fn, ↓Fw.a_fnX, ↓Fw.a_hold, ↓Fw.a_holdX, ↓Fw.a_ne_rr, ↓Fw.a_eq_rr, ↓Fw.a_at, ↓Fw.a_atS, ↓Fw.a_step, Fw.v_step, Fw.v_min2, Fw.v_max2, Fw.v_clear, ↓Fw.a_mt, ↓Fw.a_mtX, ↓Fw.a_mk, ↓Fw.a_cb, ↓Fw.a_lst, ↓Fw.a_tup, ↓Fw.a_chain, ↓Fw.a_dnew, ↓Fw.a_start, Fw.v_rU, Int.reduceNeg, Fw.v_add_ii, Fw.v_add_ss, Fw.v_sub_ii, Fw.v_mul_ii, Fw.v_div_ii, Fw.v_mod_ii, Fw.v_pow_ii, Fw.v_lt_ii, Fw.v_gt_ii, Fw.v_le_ii, Fw.v_ge_ii, Fw.v_le_ss, Fw.v_eqS_ii, Fw.v_eqS_ss, Fw.v_neS_ii, Fw.v_neS_ss, Fw.v_eq_ii, Fw.v_eq_ss, Fw.v_eq_bb, Fw.v_ne_ii, Fw.v_ne_ss, Fw.v_ne_bb, Fw.v_ne_tt, Fw.v_eq_tt, Fw.v_in_sc, Fw.v_ix_s, Fw.v_len_s, Fw.v_type, Fw.v_is, ↓Fw.a_bm, ↓Fw.a_bm0, ↓Fw.a_sl, ↓Fw.a_nopart, ↓Fw.a_part, Fw.v_sl_s, Fw.v_sl_r, Fw.v_app, Fw.v_add_rr, ↓Fw.b_ix_r, Fw.b_ix_r, Fw.v_in_r, Fw.v_set_r, Fw.v_len_r, Fw.v_list_r, Fw.v_listA, Fw.v_dictA, Fw.v_int_i, Fw.v_int_b, Fw.v_key_i, Fw.v_key_s, Fw.v_lst, Fw.v_tup, Fw.v_dic, Fw.v_ty_r, Fw.v_ty_s, Fw.v_ty_i, Fw.v_ty_b, Fw.v_ty_n, Fw.v_tyL, Fw.v_same, Fw.v_old, Fw.v_ne, Fw.v_upd, Fw.v_flat_s, Fw.v_inStrs, ↓Fw.a_yes, Fw.v_wipe0, Fw.v_wipe1, Fw.cx_K, Int.reduceToNat, List.length_replicate, Nat.sub_self, Nat.reduceSub, Nat.reduceAdd, List.replicate_zero, List.replicate_succ, List.append_nil, List.length_cons, List.length_nil, List.map_cons, List.map_nil, List.cons_append, List.nil_append, List.getElem?_cons_zero, List.getElem?_cons_succ, List.set_cons_zero, List.set_cons_succ, Option.some.injEq, V.int.injEq, V.bl.injEq, V.ref.injEq, V.str.injEq, exists_eq_left', exists_eq_left, exists_eq_right, exists_and_left, HO.lst.injEq, HO.dK.injEq, HO.tup.injEq, Option.isSome_some, true_and, and_true, Fw.v_m_bool, Fw.v_m_int, Fw.v_m_str, Fw.v_m_list, Fw.v_m_tuple, Fw.v_m_dict, Fw.v_flats, Bool.xor_true, Bool.xor_false, Bool.not_eq_true', decide_eq_false_iff_not, not_true_eq_false, not_false_eq_true, decide_true, decide_false, decide_eq_true_eq, ite_true, ite_false, Bool.not_true, Bool.not_false, Bool.false_eq_true, reduceCtorEq, Fw.isT_NoneType_bool, Fw.isT_NoneType_int, Fw.isT_NoneType_str, Fw.isT_NoneType_list, Fw.isT_NoneType_tuple, Fw.isT_NoneType_dict, Fw.isT_bool_bool, Fw.isT_bool_int, Fw.isT_bool_str, Fw.isT_bool_list, Fw.isT_bool_tuple, Fw.isT_bool_dict, Fw.isT_int_bool, Fw.isT_int_int, Fw.isT_int_str, Fw.isT_int_list, Fw.isT_int_tuple, Fw.isT_int_dict, Fw.isT_str_bool, Fw.isT_str_int, Fw.isT_str_str, Fw.isT_str_list, Fw.isT_str_tuple, Fw.isT_str_dict, Fw.isT_list_bool, Fw.isT_list_int, Fw.isT_list_str, Fw.isT_list_list, Fw.isT_list_tuple, Fw.isT_list_dict, Fw.isT_tuple_bool, Fw.isT_tuple_int, Fw.isT_tuple_str, Fw.isT_tuple_list, Fw.isT_tuple_tuple, Fw.isT_tuple_dict, Fw.isT_dict_bool, Fw.isT_dict_int, Fw.isT_dict_str, Fw.isT_dict_list, Fw.isT_dict_tuple, Fw.isT_dict_dict, hC2, List.length_map]
          exact z _ (by omega) (.inl (by omega))) (fun i σ3 H3 => Same H H3 ∧ (∃ ks : List Str, (∀ x ∈ ks, x ∈ ws) ∧ (∀ x ∈ ws, x ∈ ks ↔ g.near i x = true) ∧ ks.length ≤ 100 + 60 * i ∧ H3 p = some (.dK (sK ks fun x => .int (g.dst i x + 1 : Nat)))) ∧
            ∃ v5 v6 v7 v8 : Option V, σ3 = [some (.ref c), some (.ref a), some (.ref d), some (.ref b), some (.ref p), v5, v6, v7, v8, none])
          ⟨sm, ⟨ks, (fun x hx => (k1 x hx).1), (fun x hx => ⟨fun z => (k1 x z).2, fun z => k2 x hx z⟩), by omega, k4⟩, v5, none, none, none, rfl⟩ ?_ ?_
        · rintro i σ3 H3 N hi ⟨sm3, ⟨ks, k1, k2, k3, k4⟩, v5, v6, v7, v8, rfl⟩ hN
          simp -dsimp only [↓Fw.a_disp, ↓Fw.a_pnil, ↓Fw.a_pcons, Fw.v_keys0, Fw.v_keys1, Fw.v_deq, ↓Fw.a_truD1, Fw.v_truD, ↓Fw.a_dqPop, ↓Fw.a_dqApp, Fw.v_isD, ↓Fw.a_dget2, ↓Fw.b_dsetd, ↓Fw.a_star, Fw.v_pop, Fw.v_reverse, ↓Fw.a_tru1, Fw.v_tru_r, ↓Fw.a_gseq, ↓Fw.b_gcons, ↓Fw.b_gnil, ↓Fw.a_seq, ↓Fw.a_next, ↓Fw.a_brk, ↓Fw.a_cont, ↓Fw.a_asg, ↓Fw.a_name, ↓Fw.a_gsub, ↓Fw.b_var, ↓Fw.a_c, ↓Fw.a_op, ↓Fw.a_un, ↓Fw.a_cons, ↓Fw.a_nil, ↓Fw.a_ret, ↓Fw.a_retN, ↓Fw.a_drop, ↓Fw.a_if, ↓Fw.b_test, ↓Fw.b_B, ↓Fw.a_and, ↓Fw.a_or, ↓Fw.a_not, ↓Fw.b_andV, ↓Fw.b_orV, ↓Fw.b_notV, ↓Fw.a_ifE, ↓Fw.a_fn, ↓Fw.a_fnX, ↓Fw.a_hold, ↓Fw.a_holdX, ↓Fw.a_ne_rr, ↓Fw.a_eq_rr, ↓Fw.a_at, ↓Fw.a_atS, ↓Fw.a_step, Fw.v_step, Fw.v_min2, Fw.v_max2, Fw.v_clear, ↓Fw.a_mt, ↓Fw.a_mtX, ↓Fw.a_mk, ↓Fw.a_cb, ↓Fw.a_lst, ↓Fw.a_tup, ↓Fw.a_chain, ↓Fw.a_dnew, ↓Fw.a_start, Fw.v_rU, Int.reduceNeg, Fw.v_add_ii, Fw.v_add_ss, Fw.v_sub_ii, Fw.v_mul_ii, Fw.v_div_ii, Fw.v_mod_ii, Fw.v_pow_ii, Fw.v_lt_ii, Fw.v_gt_ii, Fw.v_le_ii, Fw.v_ge_ii, Fw.v_le_ss, Fw.v_eqS_ii, Fw.v_eqS_ss, Fw.v_neS_ii, Fw.v_neS_ss, Fw.v_eq_ii, Fw.v_eq_ss, Fw.v_eq_bb, Fw.v_ne_ii, Fw.v_ne_ss, Fw.v_ne_bb, Fw.v_ne_tt, Fw.v_eq_tt, Fw.v_in_sc, Fw.v_ix_s, Fw.v_len_s, Fw.v_type, Fw.v_is, ↓Fw.a_bm, ↓Fw.a_bm0, ↓Fw.a_sl, ↓Fw.a_nopart, ↓Fw.a_part, Fw.v_sl_s, Fw.v_sl_r, Fw.v_app, Fw.v_add_rr, ↓Fw.b_ix_r, Fw.b_ix_r, Fw.v_in_r, Fw.v_set_r, Fw.v_len_r, Fw.v_list_r, Fw.v_listA, Fw.v_dictA, Fw.v_int_i, Fw.v_int_b, Fw.v_key_i, Fw.v_key_s, Fw.v_lst, Fw.v_tup, Fw.v_dic, Fw.v_ty_r, Fw.v_ty_s, Fw.v_ty_i, Fw.v_ty_b, Fw.v_ty_n, Fw.v_tyL, Fw.v_same, Fw.v_old, Fw.v_ne, Fw.v_upd, Fw.v_flat_s, Fw.v_inStrs, ↓Fw.a_yes, Fw.v_wipe0, Fw.v_wipe1, Fw.cx_K, Int.reduceToNat, List.length_replicate, Nat.sub_self, Nat.reduceSub, Nat.reduceAdd, List.replicate_zero, List.replicate_succ, List.append_nil, List.length_cons, List.length_nil, List.map_cons, List.map_nil, List.cons_append, List.nil_append, List.getElem?_cons_zero, List.getElem?_cons_succ, List.set_cons_zero, List.set_cons_succ, Option.some.injEq, V.int.injEq, V.bl.injEq, V.ref.injEq, V.str.injEq, exists_eq_left', exists_eq_left, exists_eq_right, exists_and_left, HO.lst.injEq, HO.dK.injEq, HO.tup.injEq, Option.isSome_some, true_and, and_true, Fw.v_m_bool, Fw.v_m_int, Fw.v_m_str, Fw.v_m_list, Fw.v_m_tuple, Fw.v_m_dict, Fw.v_flats, Bool.xor_true, Bool.xor_false, Bool.not_eq_true', decide_eq_false_iff_not, not_true_eq_false, not_false_eq_true, decide_true, decide_false, decide_eq_true_eq, ite_true, ite_false, Bool.not_true, Bool.not_false, Bool.false_eq_true, reduceCtorEq, Fw.isT_NoneType_bool, Fw.isT_NoneType_int, Fw.isT_NoneType_str, Fw.isT_NoneType_list, Fw.isT_NoneType_tuple, Fw.isT_NoneType_dict, Fw.isT_bool_bool, Fw.isT_bool_int, Fw.isT_bool_str, Fw.isT_bool_list, Fw.isT_bool_tuple, Fw.isT_bool_dict, Fw.isT_int_bool, Fw.isT_int_int, Fw.isT_int_str, Fw.isT_int_list, Fw.isT_int_tuple, Fw.isT_int_dict, Fw.isT_str_bool, Fw.isT_str_int, Fw.isT_str_str, Fw.isT_str_list, Fw.isT_str_tuple, Fw.isT_str_dict, Fw.isT_list_bool, Fw.isT_list_int, Fw.isT_list_str, Fw.isT_list_list, Fw.isT_list_tuple, Fw.isT_list_dict, Fw.isT_tuple_bool, Fw.isT_tuple_int, Fw.isT_tuple_str, Fw.isT_tuple_list, Fw.isT_tuple_tuple, Fw.isT_tuple_dict, Fw.isT_dict_bool, Fw.isT_dict_int, Fw.isT_dict_str, Fw.isT_dict_list, Fw.isT_dict_tuple, Fw.isT_dict_dict]
          refine ⟨by decide, fun pf hpf => ?_⟩
          have hF3 := sm3 _ _ hF
          have npf : p ≠ pf := fun e => by rw [← e, k4] at hpf; cases hpf
          have kx : ∀ x ∈ ws, (x ∈ ks) = (g.near i x = true) := fun x hx => propext (k2 x hx)
          refine f_lst (fun Q z => by
            simp -dsimp only [↓Fw.a_disp, ↓Fw.a_pnil, ↓Fw.a_pcons, Fw.v_keys0, Fw.v_keys1, Fw.v_deq, ↓Fw.a_truD1, Fw.v_truD, ↓Fw.a_dqPop, ↓Fw.a_dqApp, Fw.v_isD, ↓Fw.a_dget2, ↓Fw.b_dsetd, ↓Fw.a_star, Fw.v_pop, Fw.v_reverse, ↓Fw.a_tru1, Fw.v_tru_r, ↓Fw.a_gseq, ↓Fw.b_gcons, ↓Fw.b_gnil, ↓Fw.a_seq, ↓Fw.a_next, ↓Fw.a_brk, ↓Fw.a_cont, ↓Fw.a_asg, ↓Fw.a_name, ↓Fw.a_gsub, ↓Fw.b_var, ↓Fw.a_c, ↓Fw.a_op, ↓Fw.a_un, ↓Fw.a_cons, ↓Fw.a_nil, ↓Fw.a_ret, ↓Fw.a_retN, ↓Fw.a_drop, ↓Fw.a_if, ↓Fw.b_test, ↓Fw.b_B, ↓Fw.a_and, ↓Fw.a_or, ↓Fw.a_not, ↓Fw.b_andV, ↓Fw.b_orV, ↓Fw.b_notV, ↓Fw.a_ifE, ↓Fw.a_fn, ↓Fw.a_fnX, ↓Fw.a_hold, ↓Fw.a_holdX, ↓Fw.a_ne_rr, ↓Fw.a_eq_rr, ↓Fw.a_at, ↓Fw.a_atS, ↓Fw.a_step, Fw.v_step, Fw.v_min2, Fw.v_max2, Fw.v_clear, ↓Fw.a_mt, ↓Fw.a_mtX, ↓Fw.a_mk, ↓Fw.a_cb, ↓Fw.a_lst, ↓Fw.a_tup, ↓Fw.a_chain, ↓Fw.a_dnew, ↓Fw.a_start, Fw.v_rU, Int.reduceNeg, Fw.v_add_ii, Fw.v_add_ss, Fw.v_sub_ii, Fw.v_mul_ii, Fw.v_div_ii, Fw.v_mod_ii, Fw.v_pow_ii, Fw.v_lt_ii, Fw.v_gt_ii, Fw.v_le_ii, Fw.v_ge_ii, Fw.v_le_ss, Fw.v_eqS_ii, Fw.v_eqS_ss, Fw.v_neS_ii, Fw.v_neS_ss, Fw.v_eq_ii, Fw.v_eq_ss, Fw.v_eq_bb, Fw.v_ne_ii, Fw.v_ne_ss, Fw.v_ne_bb, Fw.v_ne_tt, Fw.v_eq_tt, Fw.v_in_sc, Fw.v_ix_s, Fw.v_len_s, Fw.v_type, Fw.v_is, ↓Fw.a_bm, ↓Fw.a_bm0, ↓Fw.a_sl, ↓Fw.a_nopart, ↓Fw.a_part, Fw.v_sl_s, Fw.v_sl_r, Fw.v_app, Fw.v_add_rr, ↓Fw.b_ix_r, Fw.b_ix_r, Fw.v_in_r, Fw.v_set_r, Fw.v_len_r, Fw.v_list_r, Fw.v_listA, Fw.v_dictA, Fw.v_int_i, Fw.v_int_b, Fw.v_key_i, Fw.v_key_s, Fw.v_lst, Fw.v_tup, Fw.v_dic, Fw.v_ty_r, Fw.v_ty_s, Fw.v_ty_i, Fw.v_ty_b, Fw.v_ty_n, Fw.v_tyL, Fw.v_same, Fw.v_old, Fw.v_ne, Fw.v_upd, Fw.v_flat_s, Fw.v_inStrs, ↓Fw.a_yes, Fw.v_wipe0, Fw.v_wipe1, Fw.cx_K, Int.reduceToNat, List.length_replicate, Nat.sub_self, Nat.reduceSub, Nat.reduceAdd, List.replicate_zero, List.replicate_succ, List.append_nil, List.length_cons, List.length_nil, List.map_cons, List.map_nil, List.cons_append, List.nil_append, List.getElem?_cons_zero, List.getElem?_cons_succ, List.set_cons_zero, List.set_cons_succ, Option.some.injEq, V.int.injEq, V.bl.injEq, V.ref.injEq, V.str.injEq, exists_eq_left', exists_eq_left, exists_eq_right, exists_and_left, HO.lst.injEq, HO.dK.injEq, HO.tup.injEq, Option.isSome_some, true_and, and_true, Fw.v_m_bool, Fw.v_m_int, Fw.v_m_str, Fw.v_m_list, Fw.v_m_tuple, Fw.v_m_dict, Fw.v_flats, Bool.xor_true, Bool.xor_false, Bool.not_eq_true', decide_eq_false_iff_not, not_true_eq_false, not_false_eq_true, decide_true, decide_false, decide_eq_true_eq, ite_true, ite_false, Bool.not_true, Bool.not_false, Bool.false_eq_true, reduceCtorEq, Fw.isT_NoneType_bool, Fw.isT_NoneType_int, Fw.isT_NoneType_str, Fw.isT_NoneType_list, Fw.isT_NoneType_tuple, Fw.isT_NoneType_dict, Fw.isT_bool_bool, Fw.isT_bool_int, Fw.isT_bool_str, Fw.isT_bool_list, Fw.isT_bool_tuple, Fw.isT_bool_dict, Fw.isT_int_bool, Fw.isT_int_int, Fw.isT_int_str, Fw.isT_int_list, Fw.isT_int_tuple, Fw.isT_int_dict, Fw.isT_str_bool, Fw.isT_str_int, Fw.isT_str_str, Fw.isT_str_list, Fw.isT_str_tuple, Fw.isT_str_dict, Fw.isT_list_bool, Fw.isT_list_int, Fw.isT_list_str, Fw.isT_list_list, Fw.isT_list_tuple, Fw.isT_list_dict, Fw.isT_tuple_bool, Fw.isT_tuple_int, Fw.isT_tuple_str, Fw.isT_tuple_list, Fw.isT_tuple_tuple, Fw.isT_tuple_dict, Fw.isT_dict_bool, Fw.isT_dict_int, Fw.isT_dict_str, Fw.isT_dict_list, Fw.isT_dict_tuple, Fw.isT_dict_dict]
            exact z) (.inl (.inl (same_new hpf _ _ hF3))) (fun j σ4 H4 => Same H3 H4 ∧ H4 pf = some (.lst (((g.full.take j).filter fun x => !g.near i x && (g.nd x).any (g.near i)).map V.str)) ∧
              ∃ v5 v8 : Option V, σ4 = [some (.ref c), some (.ref a), some (.ref d), some (.ref b), some (.ref p), v5, some (.int (2 + (i : Int))), some (.ref pf), v8, none])
            ⟨same_new hpf, upd_same, v5, v8, rfl⟩ (fun j σ4 H4 _ z => .inl (.inl (z.1 _ _ hF3))) ?_ ?_
          · rintro j v σ4 H4 N4 hv ⟨sm4, hP4, v5, v8, rfl⟩ hN4
            obtain ⟨f, hf, rfl⟩ := map_str_get hv
            have hfu : f ∈ g.full := List.mem_of_getElem? hf
            have hjl : j < g.full.length := (List.getElem?_eq_some_iff.mp hf).1
            have ht : g.full.take (j + 1) = g.full.take j ++ [f] := by
              rw [List.take_add_one, hf]
              rfl
            have k44 := sm4 _ _ k4
            obtain ⟨kvs, pl, g1, g2, g3⟩ := ((hN_.same sm3).same sm4).get hfu
            have lenN := ok.lenN f hfu
            have lenF := ok.lenF
            simp -dsimp only [↓Fw.a_disp, ↓Fw.a_pnil, ↓Fw.a_pcons, Fw.v_keys0, Fw.v_keys1, Fw.v_deq, ↓Fw.a_truD1, Fw.v_truD, ↓Fw.a_dqPop, ↓Fw.a_dqApp, Fw.v_isD, ↓Fw.a_dget2, ↓Fw.b_dsetd, ↓Fw.a_star, Fw.v_pop, Fw.v_reverse, ↓Fw.a_tru1, Fw.v_tru_r, ↓Fw.a_gseq, ↓Fw.b_gcons, ↓Fw.b_gnil, ↓Fw.a_seq, ↓Fw.a_next, ↓Fw.a_brk, ↓Fw.a_cont, ↓Fw.a_asg, ↓Fw.a_name, ↓Fw.a_gsub, ↓Fw.b_var, ↓Fw.a_c, ↓Fw.a_op, ↓Fw.a_un, ↓Fw.a_cons, ↓Fw.a_nil, ↓Fw.a_ret, ↓Fw.a_retN, ↓Fw.a_drop, ↓Fw.a_if, ↓Fw.b_test, ↓Fw.b_B, ↓Fw.a_and, ↓Fw.a_or, ↓Fw.a_not, ↓Fw.b_andV, ↓Fw.b_orV, ↓Fw.b_notV, ↓Fw.a_ifE, ↓Fw.a_fn, ↓Fw.a_fnX, ↓Fw.a_hold, ↓Fw.a_holdX, ↓Fw.a_ne_rr, ↓Fw.a_eq_rr, ↓Fw.a_at, ↓Fw.a_atS, ↓Fw.a_step, Fw.v_step, Fw.v_min2, Fw.v_max2, Fw.v_clear, ↓Fw.a_mt, ↓Fw.a_mtX, ↓Fw.a_mk, ↓Fw.a_cb, ↓Fw.a_lst, ↓Fw.a_tup, ↓Fw.a_chain, ↓Fw.a_dnew, ↓Fw.a_start, Fw.v_rU, Int.reduceNeg, Fw.v_add_ii, Fw.v_add_ss, Fw.v_sub_ii, Fw.v_mul_ii, Fw.v_div_ii, Fw.v_mod_ii, Fw.v_pow_ii, Fw.v_lt_ii, Fw.v_gt_ii, Fw.v_le_ii, Fw.v_ge_ii, Fw.v_le_ss, Fw.v_eqS_ii, Fw.v_eqS_ss, Fw.v_neS_ii, Fw.v_neS_ss, Fw.v_eq_ii, Fw.v_eq_ss, Fw.v_eq_bb, Fw.v_ne_ii, Fw.v_ne_ss, Fw.v_ne_bb, Fw.v_ne_tt, Fw.v_eq_tt, Fw.v_in_sc, Fw.v_ix_s, Fw.v_len_s, Fw.v_type, Fw.v_is, ↓Fw.a_bm, ↓Fw.a_bm0, ↓Fw.a_sl, ↓Fw.a_nopart, ↓Fw.a_part, Fw.v_sl_s, Fw.v_sl_r, Fw.v_app, Fw.v_add_rr, ↓Fw.b_ix_r, Fw.b_ix_r, Fw.v_in_r, Fw.v_set_r, Fw.v_len_r, Fw.v_list_r, Fw.v_listA, Fw.v_dictA, Fw.v_int_i, Fw.v_int_b, Fw.v_key_i, Fw.v_key_s, Fw.v_lst, Fw.v_tup, Fw.v_dic, Fw.v_ty_r, Fw.v_ty_s, Fw.v_ty_i, Fw.v_ty_b, Fw.v_ty_n, Fw.v_tyL, Fw.v_same, Fw.v_old, Fw.v_ne, Fw.v_upd, Fw.v_flat_s, Fw.v_inStrs, ↓Fw.a_yes, Fw.v_wipe0, Fw.v_wipe1, Fw.cx_K, Int.reduceToNat, List.length_replicate, Nat.sub_self, Nat.reduceSub, Nat.reduceAdd, List.replicate_zero, List.replicate_succ, List.append_nil, List.length_cons, List.length_nil, List.map_cons, List.map_nil, List.cons_append, List.nil_append, List.getElem?_cons_zero, List.getElem?_cons_succ, List.set_cons_zero, List.set_cons_succ, Option.some.injEq, V.int.injEq, V.bl.injEq, V.ref.injEq, V.str.injEq, exists_eq_left', exists_eq_left, exists_eq_right, exists_and_left, HO.lst.injEq, HO.dK.injEq, HO.tup.injEq, Option.isSome_some, true_and, and_true, Fw.v_m_bool, Fw.v_m_int, Fw.v_m_str, Fw.v_m_list, Fw.v_m_tuple, Fw.v_m_dict, Fw.v_flats, Bool.xor_true, Bool.xor_false, Bool.not_eq_true', decide_eq_false_iff_not, not_true_eq_false, not_false_eq_true, decide_true, decide_false, decide_eq_true_eq, ite_true, ite_false, Bool.not_true, Bool.not_false, Bool.false_eq_true, reduceCtorEq, Fw.isT_NoneType_bool, Fw.isT_NoneType_int, Fw.isT_NoneType_str, Fw.isT_NoneType_list, Fw.isT_NoneType_tuple, Fw.isT_NoneType_dict, Fw.isT_bool_bool, Fw.isT_bool_int, Fw.isT_bool_str, Fw.isT_bool_list, Fw.isT_bool_tuple, Fw.isT_bool_dict, Fw.isT_int_bool, Fw.isT_int_int, Fw.isT_int_str, Fw.isT_int_list, Fw.isT_int_tuple, Fw.isT_int_dict, Fw.isT_str_bool, Fw.isT_str_int, Fw.isT_str_str, Fw.isT_str_list, Fw.isT_str_tuple, Fw.isT_str_dict, Fw.isT_list_bool, Fw.isT_list_int, Fw.isT_list_str, Fw.isT_list_list, Fw.isT_list_tuple, Fw.isT_list_dict, Fw.isT_tuple_bool, Fw.isT_tuple_int, Fw.isT_tuple_str, Fw.isT_tuple_list, Fw.isT_tuple_tuple, Fw.isT_tuple_dict, Fw.isT_dict_bool, Fw.isT_dict_int, Fw.isT_dict_str, Fw.isT_dict_list, Fw.isT_dict_tuple, Fw.isT_dict_dict]
            refine c_lst (a := pl) (fun R z => by
              simp -dsimp only [↓Fw.a_disp, ↓Fw.a_pnil, ↓Fw.a_pcons, Fw.v_keys0, Fw.v_keys1, Fw.v_deq, ↓Fw.a_truD1, Fw.v_truD, ↓Fw.a_dqPop, ↓Fw.a_dqApp, Fw.v_isD, ↓Fw.a_dget2, ↓Fw.b_dsetd, ↓Fw.a_star, Fw.v_pop, Fw.v_reverse, ↓Fw.a_tru1, Fw.v_tru_r, ↓Fw.a_gseq, ↓Fw.b_gcons, ↓Fw.b_gnil, ↓Fw.a_seq, ↓Fw.a_next, ↓Fw.a_brk, ↓Fw.a_cont, ↓Fw.a_asg, ↓Fw.a_name, ↓Fw.a_gsub, ↓Fw.b_var, ↓Fw.a_c, ↓Fw.a_op, ↓Fw.a_un, ↓Fw.a_cons, ↓Fw.a_nil, ↓Fw.a_ret, ↓Fw.a_retN, ↓Fw.a_drop, ↓Fw.a_if, ↓Fw.b_test, ↓Fw.b_B, ↓Fw.a_and, ↓Fw.a_or, ↓Fw.a_not, ↓Fw.b_andV, ↓Fw.b_orV, ↓Fw.b_notV, ↓Fw.a_ifE, ↓Fw.a_fn, ↓Fw.a_fnX, ↓Fw.a_hold, ↓Fw.a_holdX, ↓Fw.a_ne_rr, ↓Fw.a_eq_rr, ↓Fw.a_at, ↓Fw.a_atS, ↓Fw.a_step, Fw.v_step, Fw.v_min2, Fw.v_max2, Fw.v_clear, ↓Fw.a_mt, ↓Fw.a_mtX, ↓Fw.a_mk, ↓Fw.a_cb, ↓Fw.a_lst, ↓Fw.a_tup, ↓Fw.a_chain, ↓Fw.a_dnew, ↓Fw.a_start, Fw.v_rU, Int.reduceNeg, Fw.v_add_ii, Fw.v_add_ss, Fw.v_sub_ii, Fw.v_mul_ii, Fw.v_div_ii, Fw.v_mod_ii, Fw.v_pow_ii, Fw.v_lt_ii, Fw.v_gt_ii, Fw.v_le_ii, Fw.v_ge_ii, Fw.v_le_ss, Fw.v_eqS_ii, Fw.v_eqS_ss, Fw.v_neS_ii, Fw.v_neS_ss, Fw.v_eq_ii, Fw.v_eq_ss, Fw.v_eq_bb, Fw.v_ne_ii, Fw.v_ne_ss, Fw.v_ne_bb, Fw.v_ne_tt, Fw.v_eq_tt, Fw.v_in_sc, Fw.v_ix_s, Fw.v_len_s, Fw.v_type, Fw.v_is, ↓Fw.a_bm, ↓Fw.a_bm0, ↓Fw.a_sl, ↓Fw.a_nopart, ↓Fw.a_part, Fw.v_sl_s, Fw.v_sl_r, Fw.v_app, Fw.v_add_rr, ↓Fw.b_ix_r, Fw.b_ix_r, Fw.v_in_r, Fw.v_set_r, Fw.v_len_r, Fw.v_list_r, Fw.v_listA, Fw.v_dictA, Fw.v_int_i, Fw.v_int_b, Fw.v_key_i, Fw.v_key_s, Fw.v_lst, Fw.v_tup, Fw.v_dic, Fw.v_ty_r, Fw.v_ty_s, Fw.v_ty_i, Fw.v_ty_b, Fw.v_ty_n, Fw.v_tyL, Fw.v_same, Fw.v_old, Fw.v_ne, Fw.v_upd, Fw.v_flat_s, Fw.v_inStrs, ↓Fw.a_yes, Fw.v_wipe0, Fw.v_wipe1, Fw.cx_K, Int.reduceToNat, List.length_replicate, Nat.sub_self, Nat.reduceSub, Nat.reduceAdd, List.replicate_zero, List.replicate_succ, List.append_nil, List.length_cons, List.length_nil, List.map_cons, List.map_nil, List.cons_append, List.nil_append, List.getElem?_cons_zero, List.getElem?_cons_succ, List.set_cons_zero, List.set_cons_succ, Option.some.injEq, V.int.injEq, V.bl.injEq, V.ref.injEq, V.str.injEq, exists_eq_left', exists_eq_left, exists_eq_right, exists_and_left, HO.lst.injEq, HO.dK.injEq, HO.tup.injEq, Option.isSome_some, true_and, and_true, Fw.v_m_bool, Fw.v_m_int, Fw.v_m_str, Fw.v_m_list, Fw.v_m_tuple, Fw.v_m_dict, Fw.v_flats, Bool.xor_true, Bool.xor_false, Bool.not_eq_true', decide_eq_false_iff_not, not_true_eq_false, not_false_eq_true, decide_true, decide_false, decide_eq_true_eq, ite_true, ite_false, Bool.not_true, Bool.not_false, Bool.false_eq_true, reduceCtorEq, Fw.isT_NoneType_bool, Fw.isT_NoneType_int, Fw.isT_NoneType_str, Fw.isT_NoneType_list, Fw.isT_NoneType_tuple, Fw.isT_NoneType_dict, Fw.isT_bool_bool, Fw.isT_bool_int, Fw.isT_bool_str, Fw.isT_bool_list, Fw.isT_bool_tuple, Fw.isT_bool_dict, Fw.isT_int_bool, Fw.isT_int_int, Fw.isT_int_str, Fw.isT_int_list, Fw.isT_int_tuple, Fw.isT_int_dict, Fw.isT_str_bool, Fw.isT_str_int, Fw.isT_str_str, Fw.isT_str_list, Fw.isT_str_tuple, Fw.isT_str_dict, Fw.isT_list_bool, Fw.isT_list_int, Fw.isT_list_str, Fw.isT_list_list, Fw.isT_list_tuple, Fw.isT_list_dict, Fw.isT_tuple_bool, Fw.isT_tuple_int, Fw.isT_tuple_str, Fw.isT_tuple_list, Fw.isT_tuple_tuple, Fw.isT_tuple_dict, Fw.isT_dict_bool, Fw.isT_dict_int, Fw.isT_dict_str, Fw.isT_dict_list, Fw.isT_dict_tuple, Fw.isT_dict_dict, g1, g2]
              exact z) (.inl (.inl g3)) (fun dd m H5 => Same H4 H5 ∧ H5 dd = some (.lst ((((g.nd f).take m).filter (g.near i)).map V.str))) (fun dd hdd => ⟨same_new hdd, upd_same⟩) (fun dd m H5 _ _ z => .inl (.inl (z.1 _ _ g3))) ?_ ?_
            · rintro dd m y H5 N5 hdd hy ⟨sm5, hA⟩ hN5
              obtain ⟨u, hu, rfl⟩ := map_str_get hy
              have hun : u ∈ g.nd f := List.mem_of_getElem? hu
              have hut : (g.nd f).take (m + 1) = (g.nd f).take m ++ [u] := by
                rw [List.take_add_one, hu]
                rfl
              have k45 := sm5 _ _ k44
              have eu := kx u (hnw f hfu u hun)
              simp -dsimp only [↓Fw.a_disp, ↓Fw.a_pnil, ↓Fw.a_pcons, Fw.v_keys0, Fw.v_keys1, Fw.v_deq, ↓Fw.a_truD1, Fw.v_truD, ↓Fw.a_dqPop, ↓Fw.a_dqApp, Fw.v_isD, ↓Fw.a_dget2, ↓Fw.b_dsetd, ↓Fw.a_star, Fw.v_pop, Fw.v_reverse, ↓Fw.a_tru1, Fw.v_tru_r, ↓Fw.a_gseq, ↓Fw.b_gcons, ↓Fw.b_gnil, ↓Fw.a_seq, ↓Fw.a_next, ↓Fw.a_brk, ↓Fw.a_cont, ↓Fw.a_asg, ↓Fw.a_name, ↓Fw.a_gsub, ↓Fw.b_var, ↓Fw.a_c, ↓Fw.a_op, ↓Fw.a_un, ↓Fw.a_cons, ↓Fw.a_nil, ↓Fw.a_ret, ↓Fw.a_retN, ↓Fw.a_drop, ↓Fw.a_if, ↓Fw.b_test, ↓Fw.b_B, ↓Fw.a_and, ↓Fw.a_or, ↓Fw.a_not, ↓Fw.b_andV, ↓Fw.b_orV, ↓Fw.b_notV, ↓Fw.a_ifE, ↓Fw.a_fn, ↓Fw.a_fnX, ↓Fw.a_hold, ↓Fw.a_holdX, ↓Fw.a_ne_rr, ↓Fw.a_eq_rr, ↓Fw.a_at, ↓Fw.a_atS, ↓Fw.a_step, Fw.v_step, Fw.v_min2, Fw.v_max2, Fw.v_clear, ↓Fw.a_mt, ↓Fw.a_mtX, ↓Fw.a_mk, ↓Fw.a_cb, ↓Fw.a_lst, ↓Fw.a_tup, ↓Fw.a_chain, ↓Fw.a_dnew, ↓Fw.a_start, Fw.v_rU, Int.reduceNeg, Fw.v_add_ii, Fw.v_add_ss, Fw.v_sub_ii, Fw.v_mul_ii, Fw.v_div_ii, Fw.v_mod_ii, Fw.v_pow_ii, Fw.v_lt_ii, Fw.v_gt_ii, Fw.v_le_ii, Fw.v_ge_ii, Fw.v_le_ss, Fw.v_eqS_ii, Fw.v_eqS_ss, Fw.v_neS_ii, Fw.v_neS_ss, Fw.v_eq_ii, Fw.v_eq_ss, Fw.v_eq_bb, Fw.v_ne_ii, Fw.v_ne_ss, Fw.v_ne_bb, Fw.v_ne_tt, Fw.v_eq_tt, Fw.v_in_sc, Fw.v_ix_s, Fw.v_len_s, Fw.v_type, Fw.v_is, ↓Fw.a_bm, ↓Fw.a_bm0, ↓Fw.a_sl, ↓Fw.a_nopart, ↓Fw.a_part, Fw.v_sl_s, Fw.v_sl_r, Fw.v_app, Fw.v_add_rr, ↓Fw.b_ix_r, Fw.b_ix_r, Fw.v_in_r, Fw.v_set_r, Fw.v_len_r, Fw.v_list_r, Fw.v_listA, Fw.v_dictA, Fw.v_int_i, Fw.v_int_b, Fw.v_key_i, Fw.v_key_s, Fw.v_lst, Fw.v_tup, Fw.v_dic, Fw.v_ty_r, Fw.v_ty_s, Fw.v_ty_i, Fw.v_ty_b, Fw.v_ty_n, Fw.v_tyL, Fw.v_same, Fw.v_old, Fw.v_ne, Fw.v_upd, Fw.v_flat_s, Fw.v_inStrs, ↓Fw.a_yes, Fw.v_wipe0, Fw.v_wipe1, Fw.cx_K, Int.reduceToNat, List.length_replicate, Nat.sub_self, Nat.reduceSub, Nat.reduceAdd, List.replicate_zero, List.replicate_succ, List.append_nil, List.length_cons, List.length_nil, List.map_cons, List.map_nil, List.cons_append, List.nil_append, List.getElem?_cons_zero, List.getElem?_cons_succ, List.set_cons_zero, List.set_cons_succ, Option.some.injEq, V.int.injEq, V.bl.injEq, V.ref.injEq, V.str.injEq, exists_eq_left', exists_eq_left, exists_eq_right, exists_and_left, HO.lst.injEq, HO.dK.injEq, HO.tup.injEq, Option.isSome_some, true_and, and_true, Fw.v_m_bool, Fw.v_m_int, Fw.v_m_str, Fw.v_m_list, Fw.v_m_tuple, Fw.v_m_dict, Fw.v_flats, Bool.xor_true, Bool.xor_false, Bool.not_eq_true', decide_eq_false_iff_not, not_true_eq_false, not_false_eq_true, decide_true, decide_false, decide_eq_true_eq, ite_true, ite_false, Bool.not_true, Bool.not_false, Bool.false_eq_true, reduceCtorEq, Fw.isT_NoneType_bool, Fw.isT_NoneType_int, Fw.isT_NoneType_str, Fw.isT_NoneType_list, Fw.isT_NoneType_tuple, Fw.isT_NoneType_dict, Fw.isT_bool_bool, Fw.isT_bool_int, Fw.isT_bool_str, Fw.isT_bool_list, Fw.isT_bool_tuple, Fw.isT_bool_dict, Fw.isT_int_bool, Fw.isT_int_int, Fw.isT_int_str, Fw.isT_int_list, Fw.isT_int_tuple, Fw.isT_int_dict, Fw.isT_str_bool, Fw.isT_str_int, Fw.isT_str_str, Fw.isT_str_list, Fw.isT_str_tuple, Fw.isT_str_dict, Fw.isT_list_bool, Fw.isT_list_int, Fw.isT_list_str, Fw.isT_list_list, Fw.isT_list_tuple, Fw.isT_list_dict, Fw.isT_tuple_bool, Fw.isT_tuple_int, Fw.isT_tuple_str, Fw.isT_tuple_list, Fw.isT_tuple_tuple, Fw.isT_tuple_dict, Fw.isT_dict_bool, Fw.isT_dict_int, Fw.isT_dict_str, Fw.isT_dict_list, Fw.isT_dict_tuple, Fw.isT_dict_dict, k45, sK_is, eu, hA]
              refine ite2 (fun z => ⟨?_, hN5 _ ⟨same_mut sm5 hdd, ?_⟩⟩) fun z => hN5 _ ⟨sm5, ?_⟩
              · rw [List.length_map]
                exact Nat.lt_of_le_of_lt (Nat.le_trans (List.length_filter_le _ _) (Nat.le_trans (List.length_take_le' _ _) (Nat.le_trans lenN (show 8 ≤ 99 by decide)))) (by decide)
              · rw [upd_same, hut, List.filter_append, List.map_append, List.filter_cons_of_pos z]
                rfl
              · rw [hut, List.filter_append, List.filter_cons_of_neg z, List.filter_nil, List.append_nil]
                exact hA
            · rintro dd H5 hdd ⟨sm5, hA⟩
              rw [List.length_map, List.take_length] at hA
              have k45 := sm5 _ _ k44
              have ef := kx f (hfw f hfu)
              have sm35 := Same.trans sm4 sm5
              have hP5 := sm5 _ _ hP4
              have okn : ∀ y ∈ (g.nd f).filter (g.near i), PyData.strOk y = true := fun y hy => ok.okN f hfu y (List.mem_filter.mp hy).1
              have skip : (!g.near i f && (g.nd f).any (g.near i)) = false → ∀ H6, Same H5 H6 → N4 [some (.ref c), some (.ref a), some (.ref d), some (.ref b), some (.ref p), some (.str f), some (.int (2 + (i : Int))), some (.ref pf), some (.ref dd), none] H6 := fun z H6 sm6 =>
                hN4 _ _ ⟨Same.trans sm35 sm6, by
                  rw [ht, List.filter_append, List.filter_cons_of_neg (by rw [z]; exact Bool.false_ne_true), List.filter_nil, List.append_nil]
                  exact sm6 _ _ hP5, _, _, rfl⟩
              simp -dsimp only [↓Fw.a_disp, ↓Fw.a_pnil, ↓Fw.a_pcons, Fw.v_keys0, Fw.v_keys1, Fw.v_deq, ↓Fw.a_truD1, Fw.v_truD, ↓Fw.a_dqPop, ↓Fw.a_dqApp, Fw.v_isD, ↓Fw.a_dget2, ↓Fw.b_dsetd, ↓Fw.a_star, Fw.v_pop, Fw.v_reverse, ↓Fw.a_tru1, Fw.v_tru_r, ↓Fw.a_gseq, ↓Fw.b_gcons, ↓Fw.b_gnil, ↓Fw.a_seq, ↓Fw.a_next, ↓Fw.a_brk, ↓Fw.a_cont, ↓Fw.a_asg, ↓Fw.a_name, ↓Fw.a_gsub, ↓Fw.b_var, ↓Fw.a_c, ↓Fw.a_op, ↓Fw.a_un, ↓Fw.a_cons, ↓Fw.a_nil, ↓Fw.a_ret, ↓Fw.a_retN, ↓Fw.a_drop, ↓Fw.a_if, ↓Fw.b_test, ↓Fw.b_B, ↓Fw.a_and, ↓Fw.a_or, ↓Fw.a_not, ↓Fw.b_andV, ↓Fw.b_orV, ↓Fw.b_notV, ↓Fw.a_ifE, ↓Fw.a_fn, ↓Fw.a_fnX, ↓Fw.a_hold, ↓Fw.a_holdX, ↓Fw.a_ne_rr, ↓Fw.a_eq_rr, ↓Fw.a_at, ↓Fw.a_atS, ↓Fw.a_step, Fw.v_step, Fw.v_min2, Fw.v_max2, Fw.v_clear, ↓Fw.a_mt, ↓Fw.a_mtX, ↓Fw.a_mk, ↓Fw.a_cb, ↓Fw.a_lst, ↓Fw.a_tup, ↓Fw.a_chain, ↓Fw.a_dnew, ↓Fw.a_start, Fw.v_rU, Int.reduceNeg, Fw.v_add_ii, Fw.v_add_ss, Fw.v_sub_ii, Fw.v_mul_ii, Fw.v_div_ii, Fw.v_mod_ii, Fw.v_pow_ii, Fw.v_lt_ii, Fw.v_gt_ii, Fw.v_le_ii, Fw.v_ge_ii, Fw.v_le_ss, Fw.v_eqS_ii, Fw.v_eqS_ss, Fw.v_neS_ii, Fw.v_neS_ss, Fw.v_eq_ii, Fw.v_eq_ss, Fw.v_eq_bb, Fw.v_ne_ii, Fw.v_ne_ss, Fw.v_ne_bb, Fw.v_ne_tt, Fw.v_eq_tt, Fw.v_in_sc, Fw.v_ix_s, Fw.v_len_s, Fw.v_type, Fw.v_is, ↓Fw.a_bm, ↓Fw.a_bm0, ↓Fw.a_sl, ↓Fw.a_nopart, ↓Fw.a_part, Fw.v_sl_s, Fw.v_sl_r, Fw.v_app, Fw.v_add_rr, ↓Fw.b_ix_r, Fw.b_ix_r, Fw.v_in_r, Fw.v_set_r, Fw.v_len_r, Fw.v_list_r, Fw.v_listA, Fw.v_dictA, Fw.v_int_i, Fw.v_int_b, Fw.v_key_i, Fw.v_key_s, Fw.v_lst, Fw.v_tup, Fw.v_dic, Fw.v_ty_r, Fw.v_ty_s, Fw.v_ty_i, Fw.v_ty_b, Fw.v_ty_n, Fw.v_tyL, Fw.v_same, Fw.v_old, Fw.v_ne, Fw.v_upd, Fw.v_flat_s, Fw.v_inStrs, ↓Fw.a_yes, Fw.v_wipe0, Fw.v_wipe1, Fw.cx_K, Int.reduceToNat, List.length_replicate, Nat.sub_self, Nat.reduceSub, Nat.reduceAdd, List.replicate_zero, List.replicate_succ, List.append_nil, List.length_cons, List.length_nil, List.map_cons, List.map_nil, List.cons_append, List.nil_append, List.getElem?_cons_zero, List.getElem?_cons_succ, List.set_cons_zero, List.set_cons_succ, Option.some.injEq, V.int.injEq, V.bl.injEq, V.ref.injEq, V.str.injEq, exists_eq_left', exists_eq_left, exists_eq_right, exists_and_left, HO.lst.injEq, HO.dK.injEq, HO.tup.injEq, Option.isSome_some, true_and, and_true, Fw.v_m_bool, Fw.v_m_int, Fw.v_m_str, Fw.v_m_list, Fw.v_m_tuple, Fw.v_m_dict, Fw.v_flats, Bool.xor_true, Bool.xor_false, Bool.not_eq_true', decide_eq_false_iff_not, not_true_eq_false, not_false_eq_true, decide_true, decide_false, decide_eq_true_eq, ite_true, ite_false, Bool.not_true, Bool.not_false, Bool.false_eq_true, reduceCtorEq, Fw.isT_NoneType_bool, Fw.isT_NoneType_int, Fw.isT_NoneType_str, Fw.isT_NoneType_list, Fw.isT_NoneType_tuple, Fw.isT_NoneType_dict, Fw.isT_bool_bool, Fw.isT_bool_int, Fw.isT_bool_str, Fw.isT_bool_list, Fw.isT_bool_tuple, Fw.isT_bool_dict, Fw.isT_int_bool, Fw.isT_int_int, Fw.isT_int_str, Fw.isT_int_list, Fw.isT_int_tuple, Fw.isT_int_dict, Fw.isT_str_bool, Fw.isT_str_int, Fw.isT_str_str, Fw.isT_str_list, Fw.isT_str_tuple, Fw.isT_str_dict, Fw.isT_list_bool, Fw.isT_list_int, Fw.isT_list_str, Fw.isT_list_list, Fw.isT_list_tuple, Fw.isT_list_dict, Fw.isT_tuple_bool, Fw.isT_tuple_int, Fw.isT_tuple_str, Fw.isT_tuple_list, Fw.isT_tuple_tuple, Fw.isT_tuple_dict, Fw.isT_dict_bool, Fw.isT_dict_int, Fw.isT_dict_str, Fw.isT_dict_list, Fw.isT_dict_tuple, Fw.isT_dict_dict, k45, sK_is, ef]
              refine ite2 (fun z => ⟨by decide, fun qe he => ?_⟩) fun z => ?_
              · have hE : upd H5 qe (.lst []) qe = some (.lst (([] : List Str).map V.str)) := upd_same
                have hP6 := same_new (o := .lst []) he _ _ hP5
                refine ne_strs (lst_of (same_new he _ _ hA)) (lst_of hE) okn (fun _ z => by cases z) ?_
                simp -dsimp only [↓Fw.a_disp, ↓Fw.a_pnil, ↓Fw.a_pcons, Fw.v_keys0, Fw.v_keys1, Fw.v_deq, ↓Fw.a_truD1, Fw.v_truD, ↓Fw.a_dqPop, ↓Fw.a_dqApp, Fw.v_isD, ↓Fw.a_dget2, ↓Fw.b_dsetd, ↓Fw.a_star, Fw.v_pop, Fw.v_reverse, ↓Fw.a_tru1, Fw.v_tru_r, ↓Fw.a_gseq, ↓Fw.b_gcons, ↓Fw.b_gnil, ↓Fw.a_seq, ↓Fw.a_next, ↓Fw.a_brk, ↓Fw.a_cont, ↓Fw.a_asg, ↓Fw.a_name, ↓Fw.a_gsub, ↓Fw.b_var, ↓Fw.a_c, ↓Fw.a_op, ↓Fw.a_un, ↓Fw.a_cons, ↓Fw.a_nil, ↓Fw.a_ret, ↓Fw.a_retN, ↓Fw.a_drop, ↓Fw.a_if, ↓Fw.b_test, ↓Fw.b_B, ↓Fw.a_and, ↓Fw.a_or, ↓Fw.a_not, ↓Fw.b_andV, ↓Fw.b_orV, ↓Fw.b_notV, ↓Fw.a_ifE, ↓Fw.a_fn, ↓Fw.a_fnX, ↓Fw.a_hold, ↓Fw.a_holdX, ↓Fw.a_ne_rr, ↓Fw.a_eq_rr, ↓Fw.a_at, ↓Fw.a_atS, ↓Fw.a_step, Fw.v_step, Fw.v_min2, Fw.v_max2, Fw.v_clear, ↓Fw.a_mt, ↓Fw.a_mtX, ↓Fw.a_mk, ↓Fw.a_cb, ↓Fw.a_lst, ↓Fw.a_tup, ↓Fw.a_chain, ↓Fw.a_dnew, ↓Fw.a_start, Fw.v_rU, Int.reduceNeg, Fw.v_add_ii, Fw.v_add_ss, Fw.v_sub_ii, Fw.v_mul_ii, Fw.v_div_ii, Fw.v_mod_ii, Fw.v_pow_ii, Fw.v_lt_ii, Fw.v_gt_ii, Fw.v_le_ii, Fw.v_ge_ii, Fw.v_le_ss, Fw.v_eqS_ii, Fw.v_eqS_ss, Fw.v_neS_ii, Fw.v_neS_ss, Fw.v_eq_ii, Fw.v_eq_ss, Fw.v_eq_bb, Fw.v_ne_ii, Fw.v_ne_ss, Fw.v_ne_bb, Fw.v_ne_tt, Fw.v_eq_tt, Fw.v_in_sc, Fw.v_ix_s, Fw.v_len_s, Fw.v_type, Fw.v_is, ↓Fw.a_bm, ↓Fw.a_bm0, ↓Fw.a_sl, ↓Fw.a_nopart, ↓Fw.a_part, Fw.v_sl_s, Fw.v_sl_r, Fw.v_app, Fw.v_add_rr, ↓Fw.b_ix_r, Fw.b_ix_r, Fw.v_in_r, Fw.v_set_r, Fw.v_len_r, Fw.v_list_r, Fw.v_listA, Fw.v_dictA, Fw.v_int_i, Fw.v_int_b, Fw.v_key_i, Fw.v_key_s, Fw.v_lst, Fw.v_tup, Fw.v_dic, Fw.v_ty_r, Fw.v_ty_s, Fw.v_ty_i, Fw.v_ty_b, Fw.v_ty_n, Fw.v_tyL, Fw.v_same, Fw.v_old, Fw.v_ne, Fw.v_upd, Fw.v_flat_s, Fw.v_inStrs, ↓Fw.a_yes, Fw.v_wipe0, Fw.v_wipe1, Fw.cx_K, Int.reduceToNat, List.length_replicate, Nat.sub_self, Nat.reduceSub, Nat.reduceAdd, List.replicate_zero, List.replicate_succ, List.append_nil, List.length_cons, List.length_nil, List.map_cons, List.map_nil, List.cons_append, List.nil_append, List.getElem?_cons_zero, List.getElem?_cons_succ, List.set_cons_zero, List.set_cons_succ, Option.some.injEq, V.int.injEq, V.bl.injEq, V.ref.injEq, V.str.injEq, exists_eq_left', exists_eq_left, exists_eq_right, exists_and_left, HO.lst.injEq, HO.dK.injEq, HO.tup.injEq, Option.isSome_some, true_and, and_true, Fw.v_m_bool, Fw.v_m_int, Fw.v_m_str, Fw.v_m_list, Fw.v_m_tuple, Fw.v_m_dict, Fw.v_flats, Bool.xor_true, Bool.xor_false, Bool.not_eq_true', decide_eq_false_iff_not, not_true_eq_false, not_false_eq_true, decide_true, decide_false, decide_eq_true_eq, ite_true, ite_false, Bool.not_true, Bool.not_false, Bool.false_eq_true, reduceCtorEq, Fw.isT_NoneType_bool, Fw.isT_NoneType_int, Fw.isT_NoneType_str, Fw.isT_NoneType_list, Fw.isT_NoneType_tuple, Fw.isT_NoneType_dict, Fw.isT_bool_bool, Fw.isT_bool_int, Fw.isT_bool_str, Fw.isT_bool_list, Fw.isT_bool_tuple, Fw.isT_bool_dict, Fw.isT_int_bool, Fw.isT_int_int, Fw.isT_int_str, Fw.isT_int_list, Fw.isT_int_tuple, Fw.isT_int_dict, Fw.isT_str_bool, Fw.isT_str_int, Fw.isT_str_str, Fw.isT_str_list, Fw.isT_str_tuple, Fw.isT_str_dict, Fw.isT_list_bool, Fw.isT_list_int, Fw.isT_list_str, Fw.isT_list_list, Fw.isT_list_tuple, Fw.isT_list_dict, Fw.isT_tuple_bool, Fw.isT_tuple_int, Fw.isT_tuple_str, Fw.isT_tuple_list, Fw.isT_tuple_tuple, Fw.isT_tuple_dict, Fw.isT_dict_bool, Fw.isT_dict_int, Fw.isT_dict_str, Fw.isT_dict_list, Fw.isT_dict_tuple, Fw.isT_dict_dict, hP6, List.length_map]
                have zf : g.near i f = false := by rw [← Bool.not_eq_true]; exact z
                refine ite2 (fun z2 => ⟨?_, hN4 _ _ ⟨same_mut (Same.trans sm35 (same_new he)) hpf, ?_, _, _, rfl⟩⟩) fun z2 => ?_
                · exact Nat.lt_of_le_of_lt (Nat.le_trans (List.length_filter_le _ _) (Nat.le_trans (List.length_take_le' _ _) (Nat.le_trans lenF (show 60 ≤ 99 by decide)))) (by decide)
                · have za : (!g.near i f && (g.nd f).any (g.near i)) = true := by
                    rw [zf, Bool.not_false, Bool.true_and, List.any_eq_true]
                    obtain ⟨y, hy⟩ := List.exists_mem_of_ne_nil _ z2
                    exact ⟨y, (List.mem_filter.mp hy).1, (List.mem_filter.mp hy).2⟩
                  rw [upd_same, ht, List.filter_append, List.map_append, List.filter_cons_of_pos (p := fun x => !g.near i x && (g.nd x).any (g.near i)) za]
                  rfl
                · refine skip ?_ _ (same_new he)
                  have z3 : (g.nd f).filter (g.near i) = [] := by
                    by_cases e : (g.nd f).filter (g.near i) = []
                    · exact e
                    · exact absurd e z2
                  rw [zf, Bool.not_false, Bool.true_and, List.any_eq_false]
                  exact fun y hy hn => by
                    have := List.mem_filter.mpr ⟨hy, hn⟩
                    rw [z3] at this
                    cases this
              · refine skip ?_ _ (fun _ _ z => z)
                rw [show g.near i f = true from Decidable.not_not.mp z]
                rfl
          · rintro σ4 H4 ⟨sm4, hP4, v5, v8, rfl⟩
            rw [List.length_map, List.take_length] at hP4
            simp -dsimp only [↓Fw.a_disp, ↓Fw.a_pnil, ↓Fw.a_pcons, Fw.v_keys0, Fw.v_keys1, Fw.v_deq, ↓Fw.a_truD1, Fw.v_truD, ↓Fw.a_dqPop, ↓Fw.a_dqApp, Fw.v_isD, ↓Fw.a_dget2, ↓Fw.b_dsetd, ↓Fw.a_star, Fw.v_pop, Fw.v_reverse, ↓Fw.a_tru1, Fw.v_tru_r, ↓Fw.a_gseq, ↓Fw.b_gcons, ↓Fw.b_gnil, ↓Fw.a_seq, ↓Fw.a_next, ↓Fw.a_brk, ↓Fw.a_cont, ↓Fw.a_asg, ↓Fw.a_name, ↓Fw.a_gsub, ↓Fw.b_var, ↓Fw.a_c, ↓Fw.a_op, ↓Fw.a_un, ↓Fw.a_cons, ↓Fw.a_nil, ↓Fw.a_ret, ↓Fw.a_retN, ↓Fw.a_drop, ↓Fw.a_if, ↓Fw.b_test, ↓Fw.b_B, ↓Fw.a_and, ↓Fw.a_or, ↓Fw.a_not, ↓Fw.b_andV, ↓Fw.b_orV, ↓Fw.b_notV, ↓Fw.a_ifE, ↓Fw.a_fn, ↓Fw.a_fnX, ↓Fw.a_hold, ↓Fw.a_holdX, ↓Fw.a_ne_rr, ↓Fw.a_eq_rr, ↓Fw.a_at, ↓Fw.a_atS, ↓Fw.a_step, Fw.v_step, Fw.v_min2, Fw.v_max2, Fw.v_clear, ↓Fw.a_mt, ↓Fw.a_mtX, ↓Fw.a_mk, ↓Fw.a_cb, ↓Fw.a_lst, ↓Fw.a_tup, ↓Fw.a_chain, ↓Fw.a_dnew, ↓Fw.a_start, Fw.v_rU, Int.reduceNeg, Fw.v_add_ii, Fw.v_add_ss, Fw.v_sub_ii, Fw.v_mul_ii, Fw.v_div_ii, Fw.v_mod_ii, Fw.v_pow_ii, Fw.v_lt_ii, Fw.v_gt_ii, Fw.v_le_ii, Fw.v_ge_ii, Fw.v_le_ss, Fw.v_eqS_ii, Fw.v_eqS_ss, Fw.v_neS_ii, Fw.v_neS_ss, Fw.v_eq_ii, Fw.v_eq_ss, Fw.v_eq_bb, Fw.v_ne_ii, Fw.v_ne_ss, Fw.v_ne_bb, Fw.v_ne_tt, Fw.v_eq_tt, Fw.v_in_sc, Fw.v_ix_s, Fw.v_len_s, Fw.v_type, Fw.v_is, ↓Fw.a_bm, ↓Fw.a_bm0, ↓Fw.a_sl, ↓Fw.a_nopart, ↓Fw.a_part, Fw.v_sl_s, Fw.v_sl_r, Fw.v_app, Fw.v_add_rr, ↓Fw.b_ix_r, Fw.b_ix_r, Fw.v_in_r, Fw.v_set_r, Fw.v_len_r, Fw.v_list_r, Fw.v_listA, Fw.v_dictA, Fw.v_int_i, Fw.v_int_b, Fw.v_key_i, Fw.v_key_s, Fw.v_lst, Fw.v_tup, Fw.v_dic, Fw.v_ty_r, Fw.v_ty_s, Fw.v_ty_i, Fw.v_ty_b, Fw.v_ty_n, Fw.v_tyL, Fw.v_same, Fw.v_old, Fw.v_ne, Fw.v_upd, Fw.v_flat_s, Fw.v_inStrs, ↓Fw.a_yes, Fw.v_wipe0, Fw.v_wipe1, Fw.cx_K, Int.reduceToNat, List.length_replicate, Nat.sub_self, Nat.reduceSub, Nat.reduceAdd, List.replicate_zero, List.replicate_succ, List.append_nil, List.length_cons, List.length_nil, List.map_cons, List.map_nil, List.cons_append, List.nil_append, List.getElem?_cons_zero, List.getElem?_cons_succ, List.set_cons_zero, List.set_cons_succ, Option.some.injEq, V.int.injEq, V.bl.injEq, V.ref.injEq, V.str.injEq, exists_eq_left', exists_eq_left, exists_eq_right, exists_and_left, HO.lst.injEq, HO.dK.injEq, HO.tup.injEq, Option.isSome_some, true_and, and_true, Fw.v_m_bool, Fw.v_m_int, Fw.v_m_str, Fw.v_m_list, Fw.v_m_tuple, Fw.v_m_dict, Fw.v_flats, Bool.xor_true, Bool.xor_false, Bool.not_eq_true', decide_eq_false_iff_not, not_true_eq_false, not_false_eq_true, decide_true, decide_false, decide_eq_true_eq, ite_true, ite_false, Bool.not_true, Bool.not_false, Bool.false_eq_true, reduceCtorEq, Fw.isT_NoneType_bool, Fw.isT_NoneType_int, Fw.isT_NoneType_str, Fw.isT_NoneType_list, Fw.isT_NoneType_tuple, Fw.isT_NoneType_dict, Fw.isT_bool_bool, Fw.isT_bool_int, Fw.isT_bool_str, Fw.isT_bool_list, Fw.isT_bool_tuple, Fw.isT_bool_dict, Fw.isT_int_bool, Fw.isT_int_int, Fw.isT_int_str, Fw.isT_int_list, Fw.isT_int_tuple, Fw.isT_int_dict, Fw.isT_str_bool, Fw.isT_str_int, Fw.isT_str_str, Fw.isT_str_list, Fw.isT_str_tuple, Fw.isT_str_dict, Fw.isT_list_bool, Fw.isT_list_int, Fw.isT_list_str, Fw.isT_list_list, Fw.isT_list_tuple, Fw.isT_list_dict, Fw.isT_tuple_bool, Fw.isT_tuple_int, Fw.isT_tuple_str, Fw.isT_tuple_list, Fw.isT_tuple_tuple, Fw.isT_tuple_dict, Fw.isT_dict_bool, Fw.isT_dict_int, Fw.isT_dict_str, Fw.isT_dict_list, Fw.isT_dict_tuple, Fw.isT_dict_dict]
            have k44 := sm4 _ _ k4
            have nF : (g.full.filter fun x => !g.near i x && (g.nd x).any (g.near i)).Nodup := List.Pairwise.filter _ ok.nodup
            have mF : ∀ x ∈ g.full.filter (fun x => !g.near i x && (g.nd x).any (g.near i)), x ∈ g.full ∧ g.near i x = false ∧ (g.nd x).any (g.near i) = true := fun x hx => by
              obtain ⟨m1, m2⟩ := List.mem_filter.mp hx
              simp only [Bool.and_eq_true, Bool.not_eq_true'] at m2
              exact ⟨m1, m2.1, m2.2⟩
            have mF' : ∀ x ∈ g.full, g.near i x = false → (g.nd x).any (g.near i) = true → x ∈ g.full.filter (fun x => !g.near i x && (g.nd x).any (g.near i)) := fun x m1 m2 m3 =>
              List.mem_filter.mpr ⟨m1, by rw [m2, m3]; rfl⟩
            have lF : (g.full.filter fun x => !g.near i x && (g.nd x).any (g.near i)).length ≤ 60 := Nat.le_trans (List.length_filter_le _ _) ok.lenF
            generalize g.full.filter (fun x => !g.near i x && (g.nd x).any (g.near i)) = F at hP4 nF mF mF' lF
            have ksn : ∀ x ∈ ks, g.near i x = true := fun x hx => (k2 x (k1 x hx)).mp hx
            refine f_lst (fun Q z => by
              simp -dsimp only [↓Fw.a_disp, ↓Fw.a_pnil, ↓Fw.a_pcons, Fw.v_keys0, Fw.v_keys1, Fw.v_deq, ↓Fw.a_truD1, Fw.v_truD, ↓Fw.a_dqPop, ↓Fw.a_dqApp, Fw.v_isD, ↓Fw.a_dget2, ↓Fw.b_dsetd, ↓Fw.a_star, Fw.v_pop, Fw.v_reverse, ↓Fw.a_tru1, Fw.v_tru_r, ↓Fw.a_gseq, ↓Fw.b_gcons, ↓Fw.b_gnil, ↓Fw.a_seq, ↓Fw.a_next, ↓Fw.a_brk, ↓Fw.a_cont, ↓Fw.a_asg, ↓Fw.a_name, ↓Fw.a_gsub, ↓Fw.b_var, ↓Fw.a_c, ↓Fw.a_op, ↓Fw.a_un, ↓Fw.a_cons, ↓Fw.a_nil, ↓Fw.a_ret, ↓Fw.a_retN, ↓Fw.a_drop, ↓Fw.a_if, ↓Fw.b_test, ↓Fw.b_B, ↓Fw.a_and, ↓Fw.a_or, ↓Fw.a_not, ↓Fw.b_andV, ↓Fw.b_orV, ↓Fw.b_notV, ↓Fw.a_ifE, ↓Fw.a_fn, ↓Fw.a_fnX, ↓Fw.a_hold, ↓Fw.a_holdX, ↓Fw.a_ne_rr, ↓Fw.a_eq_rr, ↓Fw.a_at, ↓Fw.a_atS, ↓Fw.a_step, Fw.v_step, Fw.v_min2, Fw.v_max2, Fw.v_clear, ↓Fw.a_mt, ↓Fw.a_mtX, ↓Fw.a_mk, ↓Fw.a_cb, ↓Fw.a_lst, ↓Fw.a_tup, ↓Fw.a_chain, ↓Fw.a_dnew, ↓Fw.a_start, Fw.v_rU, Int.reduceNeg, Fw.v_add_ii, Fw.v_add_ss, Fw.v_sub_ii, Fw.v_mul_ii, Fw.v_div_ii, Fw.v_mod_ii, Fw.v_pow_ii, Fw.v_lt_ii, Fw.v_gt_ii, Fw.v_le_ii, Fw.v_ge_ii, Fw.v_le_ss, Fw.v_eqS_ii, Fw.v_eqS_ss, Fw.v_neS_ii, Fw.v_neS_ss, Fw.v_eq_ii, Fw.v_eq_ss, Fw.v_eq_bb, Fw.v_ne_ii, Fw.v_ne_ss, Fw.v_ne_bb, Fw.v_ne_tt, Fw.v_eq_tt, Fw.v_in_sc, Fw.v_ix_s, Fw.v_len_s, Fw.v_type, Fw.v_is, ↓Fw.a_bm, ↓Fw.a_bm0, ↓Fw.a_sl, ↓Fw.a_nopart, ↓Fw.a_part, Fw.v_sl_s, Fw.v_sl_r, Fw.v_app, Fw.v_add_rr, ↓Fw.b_ix_r, Fw.b_ix_r, Fw.v_in_r, Fw.v_set_r, Fw.v_len_r, Fw.v_list_r, Fw.v_listA, Fw.v_dictA, Fw.v_int_i, Fw.v_int_b, Fw.v_key_i, Fw.v_key_s, Fw.v_lst, Fw.v_tup, Fw.v_dic, Fw.v_ty_r, Fw.v_ty_s, Fw.v_ty_i, Fw.v_ty_b, Fw.v_ty_n, Fw.v_tyL, Fw.v_same, Fw.v_old, Fw.v_ne, Fw.v_upd, Fw.v_flat_s, Fw.v_inStrs, ↓Fw.a_yes, Fw.v_wipe0, Fw.v_wipe1, Fw.cx_K, Int.reduceToNat, List.length_replicate, Nat.sub_self, Nat.reduceSub, Nat.reduceAdd, List.replicate_zero, List.replicate_succ, List.append_nil, List.length_cons, List.length_nil, List.map_cons, List.map_nil, List.cons_append, List.nil_append, List.getElem?_cons_zero, List.getElem?_cons_succ, List.set_cons_zero, List.set_cons_succ, Option.some.injEq, V.int.injEq, V.bl.injEq, V.ref.injEq, V.str.injEq, exists_eq_left', exists_eq_left, exists_eq_right, exists_and_left, HO.lst.injEq, HO.dK.injEq, HO.tup.injEq, Option.isSome_some, true_and, and_true, Fw.v_m_bool, Fw.v_m_int, Fw.v_m_str, Fw.v_m_list, Fw.v_m_tuple, Fw.v_m_dict, Fw.v_flats, Bool.xor_true, Bool.xor_false, Bool.not_eq_true', decide_eq_false_iff_not, not_true_eq_false, not_false_eq_true, decide_true, decide_false, decide_eq_true_eq, ite_true, ite_false, Bool.not_true, Bool.not_false, Bool.false_eq_true, reduceCtorEq, Fw.isT_NoneType_bool, Fw.isT_NoneType_int, Fw.isT_NoneType_str, Fw.isT_NoneType_list, Fw.isT_NoneType_tuple, Fw.isT_NoneType_dict, Fw.isT_bool_bool, Fw.isT_bool_int, Fw.isT_bool_str, Fw.isT_bool_list, Fw.isT_bool_tuple, Fw.isT_bool_dict, Fw.isT_int_bool, Fw.isT_int_int, Fw.isT_int_str, Fw.isT_int_list, Fw.isT_int_tuple, Fw.isT_int_dict, Fw.isT_str_bool, Fw.isT_str_int, Fw.isT_str_str, Fw.isT_str_list, Fw.isT_str_tuple, Fw.isT_str_dict, Fw.isT_list_bool, Fw.isT_list_int, Fw.isT_list_str, Fw.isT_list_list, Fw.isT_list_tuple, Fw.isT_list_dict, Fw.isT_tuple_bool, Fw.isT_tuple_int, Fw.isT_tuple_str, Fw.isT_tuple_list, Fw.isT_tuple_tuple, Fw.isT_tuple_dict, Fw.isT_dict_bool, Fw.isT_dict_int, Fw.isT_dict_str, Fw.isT_dict_list, Fw.isT_dict_tuple, Fw.isT_dict_dict]
              exact z) (.inl (.inl hP4)) (fun j σ5 H5 => Same H H5 ∧ H5 pf = some (.lst (F.map V.str)) ∧ H5 p = some (.dK (sK (ks ++ F.take j) fun x => .int (g.dst (i + 1) x + 1 : Nat))) ∧
                ∃ v5 : Option V, σ5 = [some (.ref c), some (.ref a), some (.ref d), some (.ref b), some (.ref p), v5, some (.int (2 + (i : Int))), some (.ref pf), v8, none])
              ⟨Same.trans sm3 sm4, hP4, ?_, v5, rfl⟩ (fun j σ5 H5 _ z => .inl (.inl z.2.1)) ?_ ?_
            · rw [List.take_zero, List.append_nil, k44]
              congr 2
              exact sK_congr fun x hx => by rw [Net.dst_up (ksn x hx) (Nat.le_succ i)]
            · rintro j v σ5 H5 N5 hv ⟨sm5, hP5, k5, v5, rfl⟩ hN5
              obtain ⟨f, hf, rfl⟩ := map_str_get hv
              obtain ⟨f1, f2, f3⟩ := mF f (List.mem_of_getElem? hf)
              have ht : F.take (j + 1) = F.take j ++ [f] := by
                rw [List.take_add_one, hf]
                rfl
              have nt : f ∉ F.take j := fun z => by
                obtain ⟨m, hm, e⟩ := List.mem_iff_getElem.mp z
                rw [List.length_take] at hm
                rw [List.getElem_take] at e
                obtain ⟨hi, e2⟩ := List.getElem?_eq_some_iff.mp hf
                exact (List.pairwise_iff_getElem.mp (List.nodup_iff_pairwise_ne.mp nF)) m j (by omega) hi (by omega) (e.trans e2.symm)
              have nk : f ∉ ks ++ F.take j := fun z => by
                rcases List.mem_append.mp z with m | m
                · rw [ksn f m] at f2
                  cases f2
                · exact nt m
              have ed : g.dst (i + 1) f = i + 1 := by
                rw [Net.dst, if_neg (by rw [f2]; exact Bool.false_ne_true)]
              simp -dsimp only [↓Fw.a_disp, ↓Fw.a_pnil, ↓Fw.a_pcons, Fw.v_keys0, Fw.v_keys1, Fw.v_deq, ↓Fw.a_truD1, Fw.v_truD, ↓Fw.a_dqPop, ↓Fw.a_dqApp, Fw.v_isD, ↓Fw.a_dget2, ↓Fw.b_dsetd, ↓Fw.a_star, Fw.v_pop, Fw.v_reverse, ↓Fw.a_tru1, Fw.v_tru_r, ↓Fw.a_gseq, ↓Fw.b_gcons, ↓Fw.b_gnil, ↓Fw.a_seq, ↓Fw.a_next, ↓Fw.a_brk, ↓Fw.a_cont, ↓Fw.a_asg, ↓Fw.a_name, ↓Fw.a_gsub, ↓Fw.b_var, ↓Fw.a_c, ↓Fw.a_op, ↓Fw.a_un, ↓Fw.a_cons, ↓Fw.a_nil, ↓Fw.a_ret, ↓Fw.a_retN, ↓Fw.a_drop, ↓Fw.a_if, ↓Fw.b_test, ↓Fw.b_B, ↓Fw.a_and, ↓Fw.a_or, ↓Fw.a_not, ↓Fw.b_andV, ↓Fw.b_orV, ↓Fw.b_notV, ↓Fw.a_ifE, ↓Fw.a_fn, ↓Fw.a_fnX, ↓Fw.a_hold, ↓Fw.a_holdX, ↓Fw.a_ne_rr, ↓Fw.a_eq_rr, ↓Fw.a_at, ↓Fw.a_atS, ↓Fw.a_step, Fw.v_step, Fw.v_min2, Fw.v_max2, Fw.v_clear, ↓Fw.a_mt, ↓Fw.a_mtX, ↓Fw.a_mk, ↓Fw.a_cb, ↓Fw.a_lst, ↓Fw.a_tup, ↓Fw.a_chain, ↓Fw.a_dnew, ↓Fw.a_start, Fw.v_rU, Int.reduceNeg, Fw.v_add_ii, Fw.v_add_ss, Fw.v_sub_ii, Fw.v_mul_ii, Fw.v_div_ii, Fw.v_mod_ii, Fw.v_pow_ii, Fw.v_lt_ii, Fw.v_gt_ii, Fw.v_le_ii, Fw.v_ge_ii, Fw.v_le_ss, Fw.v_eqS_ii, Fw.v_eqS_ss, Fw.v_neS_ii, Fw.v_neS_ss, Fw.v_eq_ii, Fw.v_eq_ss, Fw.v_eq_bb, Fw.v_ne_ii, Fw.v_ne_ss, Fw.v_ne_bb, Fw.v_ne_tt, Fw.v_eq_tt, Fw.v_in_sc, Fw.v_ix_s, Fw.v_len_s, Fw.v_type, Fw.v_is, ↓Fw.a_bm, ↓Fw.a_bm0, ↓Fw.a_sl, ↓Fw.a_nopart, ↓Fw.a_part, Fw.v_sl_s, Fw.v_sl_r, Fw.v_app, Fw.v_add_rr, ↓Fw.b_ix_r, Fw.b_ix_r, Fw.v_in_r, Fw.v_set_r, Fw.v_len_r, Fw.v_list_r, Fw.v_listA, Fw.v_dictA, Fw.v_int_i, Fw.v_int_b, Fw.v_key_i, Fw.v_key_s, Fw.v_lst, Fw.v_tup, Fw.v_dic, Fw.v_ty_r, Fw.v_ty_s, Fw.v_ty_i, Fw.v_ty_b, Fw.v_ty_n, Fw.v_tyL, Fw.v_same, Fw.v_old, Fw.v_ne, Fw.v_upd, Fw.v_flat_s, Fw.v_inStrs, ↓Fw.a_yes, Fw.v_wipe0, Fw.v_wipe1, Fw.cx_K, Int.reduceToNat, List.length_replicate, Nat.sub_self, Nat.reduceSub, Nat.reduceAdd, List.replicate_zero, List.replicate_succ, List.append_nil, List.length_cons, List.length_nil, List.map_cons, List.map_nil, List.cons_append, List.nil_append, List.getElem?_cons_zero, List.getElem?_cons_succ, List.set_cons_zero, List.set_cons_succ, Option.some.injEq, V.int.injEq, V.bl.injEq, V.ref.injEq, V.str.injEq, exists_eq_left', exists_eq_left, exists_eq_right, exists_and_left, HO.lst.injEq, HO.dK.injEq, HO.tup.injEq, Option.isSome_some, true_and, and_true, Fw.v_m_bool, Fw.v_m_int, Fw.v_m_str, Fw.v_m_list, Fw.v_m_tuple, Fw.v_m_dict, Fw.v_flats, Bool.xor_true, Bool.xor_false, Bool.not_eq_true', decide_eq_false_iff_not, not_true_eq_false, not_false_eq_true, decide_true, decide_false, decide_eq_true_eq, ite_true, ite_false, Bool.not_true, Bool.not_false, Bool.false_eq_true, reduceCtorEq, Fw.isT_NoneType_bool, Fw.isT_NoneType_int, Fw.isT_NoneType_str, Fw.isT_NoneType_list, Fw.isT_NoneType_tuple, Fw.isT_NoneType_dict, Fw.isT_bool_bool, Fw.isT_bool_int, Fw.isT_bool_str, Fw.isT_bool_list, Fw.isT_bool_tuple, Fw.isT_bool_dict, Fw.isT_int_bool, Fw.isT_int_int, Fw.isT_int_str, Fw.isT_int_list, Fw.isT_int_tuple, Fw.isT_int_dict, Fw.isT_str_bool, Fw.isT_str_int, Fw.isT_str_str, Fw.isT_str_list, Fw.isT_str_tuple, Fw.isT_str_dict, Fw.isT_list_bool, Fw.isT_list_int, Fw.isT_list_str, Fw.isT_list_list, Fw.isT_list_tuple, Fw.isT_list_dict, Fw.isT_tuple_bool, Fw.isT_tuple_int, Fw.isT_tuple_str, Fw.isT_tuple_list, Fw.isT_tuple_tuple, Fw.isT_tuple_dict, Fw.isT_dict_bool, Fw.isT_dict_int, Fw.isT_dict_str, Fw.isT_dict_list, Fw.isT_dict_tuple, Fw.isT_dict_dict, k5]
              refine ⟨?_, hN5 _ _ ⟨same_mut sm5 hp, ?_, ?_, _, rfl⟩⟩
              · rw [sK_len, List.length_append, List.length_take]
                exact Nat.lt_of_le_of_lt (show _ ≤ 10000 by omega) (by decide)
              · rw [upd_ne (Ne.symm npf)]
                exact hP5
              · rw [upd_same, sK_put nk, ht, List.append_assoc]
                congr 2
                refine sK_congr fun x hx => ?_
                unfold fset
                split
                · rename_i e
                  rw [e, ed]
                  congr 1
                  omega
                · rfl
            · rintro σ5 H5 ⟨sm5, hP5, k5, v5, rfl⟩
              rw [List.length_map, List.take_length] at k5
              refine hN _ _ ⟨sm5, ⟨ks ++ F, fun x hx => ?_, fun x hx => ?_, ?_, k5⟩, _, _, _, _, rfl⟩
              · rcases List.mem_append.mp hx with m | m
                · exact k1 x m
                · exact hfw x (mF x m).1
              · have st : g.near (i + 1) x = (g.near i x || (decide (x ∈ g.full) && (g.nd x).any (g.near i))) := rfl
                constructor
                · intro z
                  rw [st]
                  rcases List.mem_append.mp z with m | m
                  · rw [ksn x m]
                    rfl
                  · obtain ⟨m1, m2, m3⟩ := mF x m
                    rw [m2, m3, decide_eq_true m1]
                    rfl
                · intro z
                  cases e : g.near i x with
                  | true => exact List.mem_append_left _ ((k2 x hx).mpr e)
                  | false =>
                    rw [st, e, Bool.false_or, Bool.and_eq_true] at z
                    exact List.mem_append_right _ (mF' x (of_decide_eq_true z.1) e z.2)
              · rw [List.length_append]
                omega
        · rintro σ3 H3 ⟨sm3, ⟨ks, k1, k2, k3, k4⟩, v5, v6, v7, v8, rfl⟩
          simp -dsimp only [↓Fw.a_disp, ↓Fw.a_pnil, ↓Fw.a_pcons, Fw.v_keys0, Fw.v_keys1, Fw.v_deq, ↓Fw.a_truD1, Fw.v_truD, ↓Fw.a_dqPop, ↓Fw.a_dqApp, Fw.v_isD, ↓Fw.a_dget2, ↓Fw.b_dsetd, ↓Fw.a_star, Fw.v_pop, Fw.v_reverse, ↓Fw.a_tru1, Fw.v_tru_r, ↓Fw.a_gseq, ↓Fw.b_gcons, ↓Fw.b_gnil, ↓Fw.a_seq, ↓Fw.a_next, ↓Fw.a_brk, ↓Fw.a_cont, ↓Fw.a_asg, ↓Fw.a_name, ↓Fw.a_gsub, ↓Fw.b_var, ↓Fw.a_c, ↓Fw.a_op, ↓Fw.a_un, ↓Fw.a_cons, ↓Fw.a_nil, ↓Fw.a_ret, ↓Fw.a_retN, ↓Fw.a_drop, ↓Fw.a_if, ↓Fw.b_test, ↓Fw.b_B, ↓Fw.a_and, ↓Fw.a_or, ↓Fw.a_not, ↓Fw.b_andV, ↓Fw.b_orV, ↓Fw.b_notV, ↓Fw.a_ifE, ↓Fw.a_fn, ↓Fw.a_fnX, ↓Fw.a_hold, ↓Fw.a_holdX, ↓Fw.a_ne_rr, ↓Fw.a_eq_rr, ↓Fw.a_at, ↓Fw.a_atS, ↓Fw.a_step, Fw.v_step, Fw.v_min2, Fw.v_max2, Fw.v_clear, ↓Fw.a_mt, ↓Fw.a_mtX, ↓Fw.a_mk, ↓Fw.a_cb, ↓Fw.a_lst, ↓Fw.a_tup, ↓Fw.a_chain, ↓Fw.a_dnew, ↓Fw.a_start, Fw.v_rU, Int.reduceNeg, Fw.v_add_ii, Fw.v_add_ss, Fw.v_sub_ii, Fw.v_mul_ii, Fw.v_div_ii, Fw.v_mod_ii, Fw.v_pow_ii, Fw.v_lt_ii, Fw.v_gt_ii, Fw.v_le_ii, Fw.v_ge_ii, Fw.v_le_ss, Fw.v_eqS_ii, Fw.v_eqS_ss, Fw.v_neS_ii, Fw.v_neS_ss, Fw.v_eq_ii, Fw.v_eq_ss, Fw.v_eq_bb, Fw.v_ne_ii, Fw.v_ne_ss, Fw.v_ne_bb, Fw.v_ne_tt, Fw.v_eq_tt, Fw.v_in_sc, Fw.v_ix_s, Fw.v_len_s, Fw.v_type, Fw.v_is, ↓Fw.a_bm, ↓Fw.a_bm0, ↓Fw.a_sl, ↓Fw.a_nopart, ↓Fw.a_part, Fw.v_sl_s, Fw.v_sl_r, Fw.v_app, Fw.v_add_rr, ↓Fw.b_ix_r, Fw.b_ix_r, Fw.v_in_r, Fw.v_set_r, Fw.v_len_r, Fw.v_list_r, Fw.v_listA, Fw.v_dictA, Fw.v_int_i, Fw.v_int_b, Fw.v_key_i, Fw.v_key_s, Fw.v_lst, Fw.v_tup, Fw.v_dic, Fw.v_ty_r, Fw.v_ty_s, Fw.v_ty_i, Fw.v_ty_b, Fw.v_ty_n, Fw.v_tyL, Fw.v_same, Fw.v_old, Fw.v_ne, Fw.v_upd, Fw.v_flat_s, Fw.v_inStrs, ↓Fw.a_yes, Fw.v_wipe0, Fw.v_wipe1, Fw.cx_K, Int.reduceToNat, List.length_replicate, Nat.sub_self, Nat.reduceSub, Nat.reduceAdd, List.replicate_zero, List.replicate_succ, List.append_nil, List.length_cons, List.length_nil, List.map_cons, List.map_nil, List.cons_append, List.nil_append, List.getElem?_cons_zero, List.getElem?_cons_succ, List.set_cons_zero, List.set_cons_succ, Option.some.injEq, V.int.injEq, V.bl.injEq, V.ref.injEq, V.str.injEq, exists_eq_left', exists_eq_left, exists_eq_right, exists_and_left, HO.lst.injEq, HO.dK.injEq, HO.tup.injEq, Option.isSome_some, true_and, and_true, Fw.v_m_bool, Fw.v_m_int, Fw.v_m_str, Fw.v_m_list, Fw.v_m_tuple, Fw.v_m_dict, Fw.v_flats, Bool.xor_true, Bool.xor_false, Bool.not_eq_true', decide_eq_false_iff_not, not_true_eq_false, not_false_eq_true, decide_true, decide_false, decide_eq_true_eq, ite_true, ite_false, Bool.not_true, Bool.not_false, Bool.false_eq_true, reduceCtorEq, Fw.isT_NoneType_bool, Fw.isT_NoneType_int, Fw.isT_NoneType_str, Fw.isT_NoneType_list, Fw.isT_NoneType_tuple, Fw.isT_NoneType_dict, Fw.isT_bool_bool, Fw.isT_bool_int, Fw.isT_bool_str, Fw.isT_bool_list, Fw.isT_bool_tuple, Fw.isT_bool_dict, Fw.isT_int_bool, Fw.isT_int_int, Fw.isT_int_str, Fw.isT_int_list, Fw.isT_int_tuple, Fw.isT_int_dict, Fw.isT_str_bool, Fw.isT_str_int, Fw.isT_str_str, Fw.isT_str_list, Fw.isT_str_tuple, Fw.isT_str_dict, Fw.isT_list_bool, Fw.isT_list_int, Fw.isT_list_str, Fw.isT_list_list, Fw.isT_list_tuple, Fw.isT_list_dict, Fw.isT_tuple_bool, Fw.isT_tuple_int, Fw.isT_tuple_str, Fw.isT_tuple_list, Fw.isT_tuple_tuple, Fw.isT_tuple_dict, Fw.isT_dict_bool, Fw.isT_dict_int, Fw.isT_dict_str, Fw.isT_dict_list, Fw.isT_dict_tuple, Fw.isT_dict_dict]
          refine q p H3 sm3 hp ⟨ks, k1, k2, ?_, k4⟩
          omega
    · exact h.elim
/-! ### law -/
theorem ok_law (S : Src K mg "law" ["_law_script"] s_law) (B : Blt mg) (G_greatest : Fn P w K mg base 2 "greatest" ["full", "needs", "done"] (sp_greatest)) (G_chain : Fn P w K mg base 2 "chain" ["name", "full", "needs", "done"] (sp_chain)) (G__law_cell_at : Fn P w K mg base 1 "_law_cell_at" ["_law_script", "_law_k"] (sp_cell_at K)) (G__law_mixed : Fn P w K mg base 1 "_law_mixed" ["_law_number", "_law_k"] (sp_mixed)) (G__law_words : Fn P w K mg base 3 "_law_words" ["_law_script"] (sp_words K)) (G__law_needs_by : Fn P w K mg base 1 "_law_needs_by" ["_law_cell", "_law_words_here"] (sp_needs_by)) (G__law_steps : Fn P w K mg base 1 "_law_steps" ["_law_words_here", "_law_full", "_law_needs", "_law_done"] (sp_steps)) : Fn P w K mg base 4 "law" ["_law_script"] (sp_law K) := by
  have sc := sc_law
  refine fn_mk S sc (fun vs H Q E h => ?_) (fun f cdv A outer s H vs Q E hr h => ⟨_, (pss_cons (ps_set (i := 1) sc.nd rfl (by first | exact Or.inl rfl | exact Or.inr rfl) (pe_fn G__law_words (hr.mono (by decide)) rfl (pa_cons (pv 0) pa_nil)))
     (pss_cons (ps_set (i := 2) sc.nd rfl (by first | exact Or.inl rfl | exact Or.inr rfl) (pe_lst pa_nil))
     (pss_cons (ps_set (i := 3) sc.nd rfl (by first | exact Or.inl rfl | exact Or.inr rfl) (pe_lst pa_nil))
     (pss_cons (ps_set (i := 4) sc.nd rfl (by first | exact Or.inl rfl | exact Or.inr rfl) pe_dnewK)
     (pss_cons (ps_for PassesOwn.never rfl (pi_range1 rfl B.n_range (pa_cons (pe_callB call_vLen rfl B.n_len (by decide +kernel) (pa_cons (pv 1) pa_nil)) pa_nil)) (pg_name (i := 5) sc.nd rfl (by first | exact Or.inl rfl | exact Or.inr rfl))
     (pss_cons (ps_set (i := 6) sc.nd rfl (by first | exact Or.inl rfl | exact Or.inr rfl) (pe_fn G__law_mixed (hr.mono (by decide)) rfl (pa_cons (pe_fn G__law_cell_at (hr.mono (by decide)) rfl (pa_cons (pv 0) (pa_cons (pe_op op_vAdd pe_int (pe_op op_vMod (pv 5) pe_int)) pa_nil))) (pa_cons (pv 5) pa_nil))))
     (pss_one (ps_if (pt_cmpR op_vLt (pe_op op_vMod (pv 6) pe_int) pe_int (nomark _))
     (pss_cons (ps_expr (pe_bm PySem.F.plainAttrs_list PySem.F.slot_list_append PySem.F.type_list_append mt_append (pv 2) (pa_cons (pe_ix (ix_v (hu_of hr)) (pv 1) (pv 5) (fun _ _ => rfl)) pa_nil)))
     (pss_one (ps_asg (pe_fn G__law_needs_by (hr.mono (by decide)) rfl (pa_cons (pe_op op_vDiv (pv 6) pe_int) (pa_cons (pv 1) pa_nil))) (pg_sub (pv 4) (pe_ix (ix_v (hu_of hr)) (pv 1) (pv 5) (fun _ _ => rfl)) (set_v (hu_of hr))))))
     (pss_one (ps_if (pt_cmpR (op_vEq hr.units) (pe_op op_vMod (pv 6) pe_int) pe_int (nomark _))
     (pss_one (ps_expr (pe_bm PySem.F.plainAttrs_list PySem.F.slot_list_append PySem.F.type_list_append mt_append (pv 3) (pa_cons (pe_ix (ix_v (hu_of hr)) (pv 1) (pv 5) (fun _ _ => rfl)) pa_nil))))
     pss_nil))))))
     (pss_cons (ps_set (i := 7) sc.nd rfl (by first | exact Or.inl rfl | exact Or.inr rfl) (pe_ix (ix_v (hu_of hr)) (pe_op op_vAdd (pv 1) (pe_lst (pa_cons pe_str pa_nil))) (pe_op op_vMod (pe_fn G__law_cell_at (hr.mono (by decide)) rfl (pa_cons (pv 0) (pa_cons pe_int pa_nil))) (pe_op op_vAdd (pe_callB call_vLen rfl B.n_len (by decide +kernel) (pa_cons (pv 1) pa_nil)) pe_int)) (fun _ _ => rfl)))
     (pss_cons (ps_set (i := 8) sc.nd rfl (by first | exact Or.inl rfl | exact Or.inr rfl) (pe_fn G__law_steps (hr.mono (by decide)) rfl (pa_cons (pe_op op_vAdd (pv 1) (pe_lst (pa_cons pe_str pa_nil))) (pa_cons (pv 2) (pa_cons (pv 4) (pa_cons (pv 3) pa_nil))))))
     (pss_cons (ps_set (i := 9) sc.nd rfl (by first | exact Or.inl rfl | exact Or.inr rfl) (pe_lst pa_nil))
     (pss_cons (ps_set (i := 10) sc.nd rfl (by first | exact Or.inl rfl | exact Or.inr rfl) (pv 7))
     (pss_cut (ps_while PassesOwn.never (PW.pt (pw_and (pt_cmpR (op_vIn (hu_of hr)) (pv 10) (pv 8) (by rfl)) (pw_and1 (pt_cmpR op_vLt (pe_callB call_vLen rfl B.n_len (by decide +kernel) (pa_cons (pv 9) pa_nil)) (pe_ix (ix_v (hu_of hr)) (pv 8) (pv 7) (fun _ _ => rfl)) (nomark _)))))
     (pss_cons (ps_expr (pe_bm PySem.F.plainAttrs_list PySem.F.slot_list_append PySem.F.type_list_append mt_append (pv 9) (pa_cons (pv 10) pa_nil)))
     (pss_one (ps_if (pt_cmpR op_vGt (pe_ix (ix_v (hu_of hr)) (pv 8) (pv 10) (fun _ _ => rfl)) pe_int (nomark _))
     (pss_one (ps_set (i := 10) sc.nd rfl (by first | exact Or.inl rfl | exact Or.inr rfl) (pe_ix (ix_v (hu_of hr)) (pe_lc (own := [("_law_need", 11)]) rfl sc.nd  (pi_list (pe_ix (ix_v (hu_of hr)) (pv 4) (pv 10) (fun _ _ => rfl))) (blkOk_by (N := n_law) (sc := defScope s_law) (own := [("_law_need", 11)]) (by decide +kernel)) (fun _ _ _ _ _ => (pg_name (i := 11) sc.nd rfl (by first | exact Or.inl rfl | exact Or.inr rfl))) (fun _ _ _ _ _ => (pts_one (PW.pt (pw_and (pt_cmpR (op_vIn (hu_of hr)) (pv 11) (pv 8) (by rfl)) (pw_and1 (pt_cmpR op_vEqS (pe_ix (ix_v (hu_of hr)) (pv 8) (pv 11) (fun _ _ => rfl)) (pe_op op_vSub (pe_ix (ix_v (hu_of hr)) (pv 8) (pv 10) (fun _ _ => rfl)) pe_int) (nomark _))))))) (fun _ _ _ _ _ => (pv 11))) pe_int (fun _ _ => rfl))))
     pss_nil))))
     (pss_cons (ps_set (i := 12) sc.nd rfl (by first | exact Or.inl rfl | exact Or.inr rfl) (pe_fn G_chain (hr.mono (by decide)) rfl (pa_cons (pv 7) (pa_cons (pe_callTy (call_vListA rfl) rfl B.n_list (by decide +kernel) (pa_cons (pv 2) pa_nil)) (pa_cons (pv 4) (pa_cons (pe_callTy (call_vListA rfl) rfl B.n_list (by decide +kernel) (pa_cons (pv 3) pa_nil)) pa_nil))))))
     (pss_cons (ps_if (PW.pt (pw_or (pt_not (pt_val (pe_callB call_vIs rfl B.n_isinstance (by decide +kernel) (pa_cons (pv 12) (pa_cons (pe_bltn (v := .ty "list") rfl B.n_list (by decide +kernel) rfl) pa_nil))))) (pw_or1 (pt_cmpR (op_vNe hr.units) (pe_callB call_vLen rfl B.n_len (by decide +kernel) (pa_cons (pv 12) pa_nil)) (pe_callB call_vLen rfl B.n_len (by decide +kernel) (pa_cons (pv 9) pa_nil)) (nomark _)))))
     (pss_one (ps_ret pe_bl))
     pss_nil)
     (pss_cons (ps_for PassesOwn.never rfl (pi_list (pv 12)) (pg_name (i := 13) sc.nd rfl (by first | exact Or.inl rfl | exact Or.inr rfl))
     (pss_one (ps_if (pt_not (pt_val (pe_callB call_vIs rfl B.n_isinstance (by decide +kernel) (pa_cons (pv 13) (pa_cons (pe_bltn (v := .ty "str") rfl B.n_str (by decide +kernel) rfl) pa_nil)))))
     (pss_one (ps_ret pe_bl))
     pss_nil)))
     (pss_cons (ps_set (i := 14) sc.nd rfl (by first | exact Or.inl rfl | exact Or.inr rfl) (pe_cmpR (op_vIn (hu_of hr)) (pv 7) (pe_fn G_greatest (hr.mono (by decide)) rfl (pa_cons (pe_callTy (call_vListA rfl) rfl B.n_list (by decide +kernel) (pa_cons (pv 2) pa_nil)) (pa_cons (pv 4) (pa_cons (pe_callTy (call_vListA rfl) rfl B.n_list (by decide +kernel) (pa_cons (pv 3) pa_nil)) pa_nil)))) (by rfl)))
     (pss_one (ps_ret (pe_and (pe_cmpR (op_vEq hr.units) (pv 12) (pv 9) (nomark _)) (pe_one (pe_cmpR (op_vEq hr.units) (pv 14) (pe_and (pe_cmpR (op_vIn (hu_of hr)) (pv 7) (pv 2) (by rfl)) (pe_one (pe_cmpR (op_vEq hr.units) (pv 9) (pe_lst pa_nil) (nomark _)))) (nomark _)))))))))))))))))))), ?_⟩)
  · unfold sp_law at h; split at h <;> first | rfl | exact h.elim
  · unfold sp_law at h
    split at h
    · rename_i a
      obtain ⟨⟨ns, hS⟩, q⟩ := h
      simp -dsimp only [↓Fw.a_disp, ↓Fw.a_pnil, ↓Fw.a_pcons, Fw.v_keys0, Fw.v_keys1, Fw.v_deq, ↓Fw.a_truD1, Fw.v_truD, ↓Fw.a_dqPop, ↓Fw.a_dqApp, Fw.v_isD, ↓Fw.a_dget2, ↓Fw.b_dsetd, ↓Fw.a_star, Fw.v_pop, Fw.v_reverse, ↓Fw.a_tru1, Fw.v_tru_r, ↓Fw.a_gseq, ↓Fw.b_gcons, ↓Fw.b_gnil, ↓Fw.a_seq, ↓Fw.a_next, ↓Fw.a_brk, ↓Fw.a_cont, ↓Fw.a_asg, ↓Fw.a_name, ↓Fw.a_gsub, ↓Fw.b_var, ↓Fw.a_c, ↓Fw.a_op, ↓Fw.a_un, ↓Fw.a_cons, ↓Fw.a_nil, ↓Fw.a_ret, ↓Fw.a_retN, ↓Fw.a_drop, ↓Fw.a_if, ↓Fw.b_test, ↓Fw.b_B, ↓Fw.a_and, ↓Fw.a_or, ↓Fw.a_not, ↓Fw.b_andV, ↓Fw.b_orV, ↓Fw.b_notV, ↓Fw.a_ifE, ↓Fw.a_fn, ↓Fw.a_fnX, ↓Fw.a_hold, ↓Fw.a_holdX, ↓Fw.a_ne_rr, ↓Fw.a_eq_rr, ↓Fw.a_at, ↓Fw.a_atS, ↓Fw.a_step, Fw.v_step, Fw.v_min2, Fw.v_max2, Fw.v_clear, ↓Fw.a_mt, ↓Fw.a_mtX, ↓Fw.a_mk, ↓Fw.a_cb, ↓Fw.a_lst, ↓Fw.a_tup, ↓Fw.a_chain, ↓Fw.a_dnew, ↓Fw.a_start, Fw.v_rU, Int.reduceNeg, Fw.v_add_ii, Fw.v_add_ss, Fw.v_sub_ii, Fw.v_mul_ii, Fw.v_div_ii, Fw.v_mod_ii, Fw.v_pow_ii, Fw.v_lt_ii, Fw.v_gt_ii, Fw.v_le_ii, Fw.v_ge_ii, Fw.v_le_ss, Fw.v_eqS_ii, Fw.v_eqS_ss, Fw.v_neS_ii, Fw.v_neS_ss, Fw.v_eq_ii, Fw.v_eq_ss, Fw.v_eq_bb, Fw.v_ne_ii, Fw.v_ne_ss, Fw.v_ne_bb, Fw.v_ne_tt, Fw.v_eq_tt, Fw.v_in_sc, Fw.v_ix_s, Fw.v_len_s, Fw.v_type, Fw.v_is, ↓Fw.a_bm, ↓Fw.a_bm0, ↓Fw.a_sl, ↓Fw.a_nopart, ↓Fw.a_part, Fw.v_sl_s, Fw.v_sl_r, Fw.v_app, Fw.v_add_rr, ↓Fw.b_ix_r, Fw.b_ix_r, Fw.v_in_r, Fw.v_set_r, Fw.v_len_r, Fw.v_list_r, Fw.v_listA, Fw.v_dictA, Fw.v_int_i, Fw.v_int_b, Fw.v_key_i, Fw.v_key_s, Fw.v_lst, Fw.v_tup, Fw.v_dic, Fw.v_ty_r, Fw.v_ty_s, Fw.v_ty_i, Fw.v_ty_b, Fw.v_ty_n, Fw.v_tyL, Fw.v_same, Fw.v_old, Fw.v_ne, Fw.v_upd, Fw.v_flat_s, Fw.v_inStrs, ↓Fw.a_yes, Fw.v_wipe0, Fw.v_wipe1, Fw.cx_K, Int.reduceToNat, List.length_replicate, Nat.sub_self, Nat.reduceSub, Nat.reduceAdd, List.replicate_zero, List.replicate_succ, List.append_nil, List.length_cons, List.length_nil, List.map_cons, List.map_nil, List.cons_append, List.nil_append, List.getElem?_cons_zero, List.getElem?_cons_succ, List.set_cons_zero, List.set_cons_succ, Option.some.injEq, V.int.injEq, V.bl.injEq, V.ref.injEq, V.str.injEq, exists_eq_left', exists_eq_left, exists_eq_right, exists_and_left, HO.lst.injEq, HO.dK.injEq, HO.tup.injEq, Option.isSome_some, true_and, and_true, Fw.v_m_bool, Fw.v_m_int, Fw.v_m_str, Fw.v_m_list, Fw.v_m_tuple, Fw.v_m_dict, Fw.v_flats, Bool.xor_true, Bool.xor_false, Bool.not_eq_true', decide_eq_false_iff_not, not_true_eq_false, not_false_eq_true, decide_true, decide_false, decide_eq_true_eq, ite_true, ite_false, Bool.not_true, Bool.not_false, Bool.false_eq_true, reduceCtorEq, Fw.isT_NoneType_bool, Fw.isT_NoneType_int, Fw.isT_NoneType_str, Fw.isT_NoneType_list, Fw.isT_NoneType_tuple, Fw.isT_NoneType_dict, Fw.isT_bool_bool, Fw.isT_bool_int, Fw.isT_bool_str, Fw.isT_bool_list, Fw.isT_bool_tuple, Fw.isT_bool_dict, Fw.isT_int_bool, Fw.isT_int_int, Fw.isT_int_str, Fw.isT_int_list, Fw.isT_int_tuple, Fw.isT_int_dict, Fw.isT_str_bool, Fw.isT_str_int, Fw.isT_str_str, Fw.isT_str_list, Fw.isT_str_tuple, Fw.isT_str_dict, Fw.isT_list_bool, Fw.isT_list_int, Fw.isT_list_str, Fw.isT_list_list, Fw.isT_list_tuple, Fw.isT_list_dict, Fw.isT_tuple_bool, Fw.isT_tuple_int, Fw.isT_tuple_str, Fw.isT_tuple_list, Fw.isT_tuple_tuple, Fw.isT_tuple_dict, Fw.isT_dict_bool, Fw.isT_dict_int, Fw.isT_dict_str, Fw.isT_dict_list, Fw.isT_dict_tuple, Fw.isT_dict_dict]
      refine ⟨ns, hS, fun pw H1 sm1 hpw hW => ?_⟩
      have hc : 0 < cntOf 31 ns ∧ cntOf 31 ns ≤ 40 := by
        unfold cntOf
        split <;> omega
      generalize cntOf 31 ns = n at hc hW
      have ok := netOf_ok (o := 3) (m := 60) (ns := ns) (n := n) hc.1 (by omega)
      simp -dsimp only [↓Fw.a_disp, ↓Fw.a_pnil, ↓Fw.a_pcons, Fw.v_keys0, Fw.v_keys1, Fw.v_deq, ↓Fw.a_truD1, Fw.v_truD, ↓Fw.a_dqPop, ↓Fw.a_dqApp, Fw.v_isD, ↓Fw.a_dget2, ↓Fw.b_dsetd, ↓Fw.a_star, Fw.v_pop, Fw.v_reverse, ↓Fw.a_tru1, Fw.v_tru_r, ↓Fw.a_gseq, ↓Fw.b_gcons, ↓Fw.b_gnil, ↓Fw.a_seq, ↓Fw.a_next, ↓Fw.a_brk, ↓Fw.a_cont, ↓Fw.a_asg, ↓Fw.a_name, ↓Fw.a_gsub, ↓Fw.b_var, ↓Fw.a_c, ↓Fw.a_op, ↓Fw.a_un, ↓Fw.a_cons, ↓Fw.a_nil, ↓Fw.a_ret, ↓Fw.a_retN, ↓Fw.a_drop, ↓Fw.a_if, ↓Fw.b_test, ↓Fw.b_B, ↓Fw.a_and, ↓Fw.a_or, ↓Fw.a_not, ↓Fw.b_andV, ↓Fw.b_orV, ↓Fw.b_notV, ↓Fw.a_ifE, ↓Fw.a_fn, ↓Fw.a_fnX, ↓Fw.a_hold, ↓Fw.a_holdX, ↓Fw.a_ne_rr, ↓Fw.a_eq_rr, ↓Fw.a_at, ↓Fw.a_atS, ↓Fw.a_step, Fw.v_step, Fw.v_min2, Fw.v_max2, Fw.v_clear, ↓Fw.a_mt, ↓Fw.a_mtX, ↓Fw.a_mk, ↓Fw.a_cb, ↓Fw.a_lst, ↓Fw.a_tup, ↓Fw.a_chain, ↓Fw.a_dnew, ↓Fw.a_start, Fw.v_rU, Int.reduceNeg, Fw.v_add_ii, Fw.v_add_ss, Fw.v_sub_ii, Fw.v_mul_ii, Fw.v_div_ii, Fw.v_mod_ii, Fw.v_pow_ii, Fw.v_lt_ii, Fw.v_gt_ii, Fw.v_le_ii, Fw.v_ge_ii, Fw.v_le_ss, Fw.v_eqS_ii, Fw.v_eqS_ss, Fw.v_neS_ii, Fw.v_neS_ss, Fw.v_eq_ii, Fw.v_eq_ss, Fw.v_eq_bb, Fw.v_ne_ii, Fw.v_ne_ss, Fw.v_ne_bb, Fw.v_ne_tt, Fw.v_eq_tt, Fw.v_in_sc, Fw.v_ix_s, Fw.v_len_s, Fw.v_type, Fw.v_is, ↓Fw.a_bm, ↓Fw.a_bm0, ↓Fw.a_sl, ↓Fw.a_nopart, ↓Fw.a_part, Fw.v_sl_s, Fw.v_sl_r, Fw.v_app, Fw.v_add_rr, ↓Fw.b_ix_r, Fw.b_ix_r, Fw.v_in_r, Fw.v_set_r, Fw.v_len_r, Fw.v_list_r, Fw.v_listA, Fw.v_dictA, Fw.v_int_i, Fw.v_int_b, Fw.v_key_i, Fw.v_key_s, Fw.v_lst, Fw.v_tup, Fw.v_dic, Fw.v_ty_r, Fw.v_ty_s, Fw.v_ty_i, Fw.v_ty_b, Fw.v_ty_n, Fw.v_tyL, Fw.v_same, Fw.v_old, Fw.v_ne, Fw.v_upd, Fw.v_flat_s, Fw.v_inStrs, ↓Fw.a_yes, Fw.v_wipe0, Fw.v_wipe1, Fw.cx_K, Int.reduceToNat, List.length_replicate, Nat.sub_self, Nat.reduceSub, Nat.reduceAdd, List.replicate_zero, List.replicate_succ, List.append_nil, List.length_cons, List.length_nil, List.map_cons, List.map_nil, List.cons_append, List.nil_append, List.getElem?_cons_zero, List.getElem?_cons_succ, List.set_cons_zero, List.set_cons_succ, Option.some.injEq, V.int.injEq, V.bl.injEq, V.ref.injEq, V.str.injEq, exists_eq_left', exists_eq_left, exists_eq_right, exists_and_left, HO.lst.injEq, HO.dK.injEq, HO.tup.injEq, Option.isSome_some, true_and, and_true, Fw.v_m_bool, Fw.v_m_int, Fw.v_m_str, Fw.v_m_list, Fw.v_m_tuple, Fw.v_m_dict, Fw.v_flats, Bool.xor_true, Bool.xor_false, Bool.not_eq_true', decide_eq_false_iff_not, not_true_eq_false, not_false_eq_true, decide_true, decide_false, decide_eq_true_eq, ite_true, ite_false, Bool.not_true, Bool.not_false, Bool.false_eq_true, reduceCtorEq, Fw.isT_NoneType_bool, Fw.isT_NoneType_int, Fw.isT_NoneType_str, Fw.isT_NoneType_list, Fw.isT_NoneType_tuple, Fw.isT_NoneType_dict, Fw.isT_bool_bool, Fw.isT_bool_int, Fw.isT_bool_str, Fw.isT_bool_list, Fw.isT_bool_tuple, Fw.isT_bool_dict, Fw.isT_int_bool, Fw.isT_int_int, Fw.isT_int_str, Fw.isT_int_list, Fw.isT_int_tuple, Fw.isT_int_dict, Fw.isT_str_bool, Fw.isT_str_int, Fw.isT_str_str, Fw.isT_str_list, Fw.isT_str_tuple, Fw.isT_str_dict, Fw.isT_list_bool, Fw.isT_list_int, Fw.isT_list_str, Fw.isT_list_list, Fw.isT_list_tuple, Fw.isT_list_dict, Fw.isT_tuple_bool, Fw.isT_tuple_int, Fw.isT_tuple_str, Fw.isT_tuple_list, Fw.isT_tuple_tuple, Fw.isT_tuple_dict, Fw.isT_dict_bool, Fw.isT_dict_int, Fw.isT_dict_str, Fw.isT_dict_list, Fw.isT_dict_tuple, Fw.isT_dict_dict]
      refine ⟨by decide, fun p hp => ⟨by decide, fun p1 hp1 p2 hp2 => ?_⟩⟩
      refine draw (sm1.seq hS) hW hc.1 (by omega) hp hp1 hp2 (fun v5 v6 H2 sm2 hF hD hN2 => ?_)
      have hW2 := sm2 _ _ hW
      simp -dsimp +contextual only [↓Fw.a_disp, ↓Fw.a_pnil, ↓Fw.a_pcons, Fw.v_keys0, Fw.v_keys1, Fw.v_deq, ↓Fw.a_truD1, Fw.v_truD, ↓Fw.a_dqPop, ↓Fw.a_dqApp, Fw.v_isD, ↓Fw.a_dget2, ↓Fw.b_dsetd, ↓Fw.a_star, Fw.v_pop, Fw.v_reverse, ↓Fw.a_tru1, Fw.v_tru_r, ↓Fw.a_gseq, ↓Fw.b_gcons, ↓Fw.b_gnil, ↓Fw.a_seq, ↓Fw.a_next, ↓Fw.a_brk, ↓Fw.a_cont, ↓Fw.a_asg, ↓Fw.a_name, ↓Fw.a_gsub, ↓Fw.b_var, ↓Fw.a_c, ↓Fw.a_op, ↓Fw.a_un, ↓Fw.a_cons, ↓Fw.a_nil, ↓Fw.a_ret, ↓Fw.a_retN, ↓Fw.a_drop, ↓Fw.a_if, ↓Fw.b_test, ↓Fw.b_B, ↓Fw.a_and, ↓Fw.a_or, ↓Fw.a_not, ↓Fw.b_andV, ↓Fw.b_orV, ↓Fw.b_notV, ↓Fw.a_ifE, ↓Fw.a_fn, ↓Fw.a_fnX, ↓Fw.a_hold, ↓Fw.a_holdX, ↓Fw.a_ne_rr, ↓Fw.a_eq_rr, ↓Fw.a_at, ↓Fw.a_atS, ↓Fw.a_step, Fw.v_step, Fw.v_min2, Fw.v_max2, Fw.v_clear, ↓Fw.a_mt, ↓Fw.a_mtX, ↓Fw.a_mk, ↓Fw.a_cb, ↓Fw.a_lst, ↓Fw.a_tup, ↓Fw.a_chain, ↓Fw.a_dnew, ↓Fw.a_start, Fw.v_rU, Int.reduceNeg, Fw.v_add_ii, Fw.v_add_ss, Fw.v_sub_ii, Fw.v_mul_ii, Fw.v_div_ii, Fw.v_mod_ii, Fw.v_pow_ii, Fw.v_lt_ii, Fw.v_gt_ii, Fw.v_le_ii, Fw.v_ge_ii, Fw.v_le_ss, Fw.v_eqS_ii, Fw.v_eqS_ss, Fw.v_neS_ii, Fw.v_neS_ss, Fw.v_eq_ii, Fw.v_eq_ss, Fw.v_eq_bb, Fw.v_ne_ii, Fw.v_ne_ss, Fw.v_ne_bb, Fw.v_ne_tt, Fw.v_eq_tt, Fw.v_in_sc, Fw.v_ix_s, Fw.v_len_s, Fw.v_type, Fw.v_is, ↓Fw.a_bm, ↓Fw.a_bm0, ↓Fw.a_sl, ↓Fw.a_nopart, ↓Fw.a_part, Fw.v_sl_s, Fw.v_sl_r, Fw.v_app, Fw.v_add_rr, ↓Fw.b_ix_r, Fw.b_ix_r, Fw.v_in_r, Fw.v_set_r, Fw.v_len_r, Fw.v_list_r, Fw.v_listA, Fw.v_dictA, Fw.v_int_i, Fw.v_int_b, Fw.v_key_i, Fw.v_key_s, Fw.v_lst, Fw.v_tup, Fw.v_dic, Fw.v_ty_r, Fw.v_ty_s, Fw.v_ty_i, Fw.v_ty_b, Fw.v_ty_n, Fw.v_tyL, Fw.v_same, Fw.v_old, Fw.v_ne, Fw.v_upd, Fw.v_flat_s, Fw.v_inStrs, ↓Fw.a_yes, Fw.v_wipe0, Fw.v_wipe1, Fw.cx_K, Int.reduceToNat, List.length_replicate, Nat.sub_self, Nat.reduceSub, Nat.reduceAdd, List.replicate_zero, List.replicate_succ, List.append_nil, List.length_cons, List.length_nil, List.map_cons, List.map_nil, List.cons_append, List.nil_append, List.getElem?_cons_zero, List.getElem?_cons_succ, List.set_cons_zero, List.set_cons_succ, Option.some.injEq, V.int.injEq, V.bl.injEq, V.ref.injEq, V.str.injEq, exists_eq_left', exists_eq_left, exists_eq_right, exists_and_left, HO.lst.injEq, HO.dK.injEq, HO.tup.injEq, Option.isSome_some, true_and, and_true, Fw.v_m_bool, Fw.v_m_int, Fw.v_m_str, Fw.v_m_list, Fw.v_m_tuple, Fw.v_m_dict, Fw.v_flats, Bool.xor_true, Bool.xor_false, Bool.not_eq_true', decide_eq_false_iff_not, not_true_eq_false, not_false_eq_true, decide_true, decide_false, decide_eq_true_eq, ite_true, ite_false, Bool.not_true, Bool.not_false, Bool.false_eq_true, reduceCtorEq, Fw.isT_NoneType_bool, Fw.isT_NoneType_int, Fw.isT_NoneType_str, Fw.isT_NoneType_list, Fw.isT_NoneType_tuple, Fw.isT_NoneType_dict, Fw.isT_bool_bool, Fw.isT_bool_int, Fw.isT_bool_str, Fw.isT_bool_list, Fw.isT_bool_tuple, Fw.isT_bool_dict, Fw.isT_int_bool, Fw.isT_int_int, Fw.isT_int_str, Fw.isT_int_list, Fw.isT_int_tuple, Fw.isT_int_dict, Fw.isT_str_bool, Fw.isT_str_int, Fw.isT_str_str, Fw.isT_str_list, Fw.isT_str_tuple, Fw.isT_str_dict, Fw.isT_list_bool, Fw.isT_list_int, Fw.isT_list_str, Fw.isT_list_list, Fw.isT_list_tuple, Fw.isT_list_dict, Fw.isT_tuple_bool, Fw.isT_tuple_int, Fw.isT_tuple_str, Fw.isT_tuple_list, Fw.isT_tuple_tuple, Fw.isT_tuple_dict, Fw.isT_dict_bool, Fw.isT_dict_int, Fw.isT_dict_str, Fw.isT_dict_list, Fw.isT_dict_tuple, Fw.isT_dict_dict, hW2, List.length_map, wordsN_len]
      refine ⟨by decide, fun q1 hq1 => ⟨Nat.le_trans (show n + 1 ≤ 100 by omega) (by decide), fun q2 hq2 => ?_⟩⟩
      obtain ⟨sm3, hA3, hB3⟩ := two_new (u := .lst (((wordsN n (cellAt ns 1)) ++ [(Str.ofString "nobody")]).map V.str)) hq1 (by exact hq2)
      rw [List.map_append] at sm3 hA3 hB3
      have eB : (wordsN n (cellAt ns 1)).map V.str ++ [(Str.ofString "nobody")].map V.str = (wordsN n (cellAt ns 1)).map V.str ++ [V.str (Str.ofString "nobody")] := rfl
      rw [eB] at sm3 hA3 hB3
      generalize upd (upd H2 q1 (.lst [V.str (Str.ofString "nobody")])) q2 (.lst ((wordsN n (cellAt ns 1)).map V.str ++ [V.str (Str.ofString "nobody")])) = H3 at sm3 hA3 hB3 ⊢
      have hW3 := sm3 _ _ hW2
      refine cell_use 2 ((Same.trans sm1 (Same.trans sm2 sm3)).seq hS) rfl ?_
      have na : 0 ≤ cellAt ns 2 % ((n : Int) + 1) := Int.emod_nonneg _ (by omega)
      have nb : cellAt ns 2 % ((n : Int) + 1) < (n : Int) + 1 := Int.emod_lt_of_pos _ (by omega)
      obtain ⟨ws, ews⟩ : ∃ ws, ws = wordsN n (cellAt ns 1) ++ [Str.ofString "nobody"] := ⟨_, rfl⟩
      have lws : ws.length = n + 1 := by rw [ews, List.length_append, wordsN_len]; rfl
      have mws : (wordsN n (cellAt ns 1)).map V.str ++ [V.str (Str.ofString "nobody")] = ws.map V.str := by rw [ews, List.map_append]; rfl
      have okw : ∀ x ∈ ws, PyData.strOk x = true := fun x hx => by
        rw [ews] at hx
        rcases List.mem_append.mp hx with m | m
        · exact wordsN_ok m
        · rw [List.mem_singleton.mp m]
          decide +kernel
      rw [mws] at hB3
      obtain ⟨x, hx1, hx2⟩ : ∃ x, atI (ws.map V.str) (cellAt ns 2 % ((n : Int) + 1)) = some (.str x) ∧ x ∈ ws := by
        obtain ⟨c, h1, h2⟩ := at_ex (xs := ws.map V.str) na (by rw [List.length_map, lws]; omega)
        obtain ⟨f, h3, rfl⟩ := map_str_get h2
        exact ⟨f, h1, List.mem_of_getElem? h3⟩
      simp -dsimp +contextual only [↓Fw.a_disp, ↓Fw.a_pnil, ↓Fw.a_pcons, Fw.v_keys0, Fw.v_keys1, Fw.v_deq, ↓Fw.a_truD1, Fw.v_truD, ↓Fw.a_dqPop, ↓Fw.a_dqApp, Fw.v_isD, ↓Fw.a_dget2, ↓Fw.b_dsetd, ↓Fw.a_star, Fw.v_pop, Fw.v_reverse, ↓Fw.a_tru1, Fw.v_tru_r, ↓Fw.a_gseq, ↓Fw.b_gcons, ↓Fw.b_gnil, ↓Fw.a_seq, ↓Fw.a_next, ↓Fw.a_brk, ↓Fw.a_cont, ↓Fw.a_asg, ↓Fw.a_name, ↓Fw.a_gsub, ↓Fw.b_var, ↓Fw.a_c, ↓Fw.a_op, ↓Fw.a_un, ↓Fw.a_cons, ↓Fw.a_nil, ↓Fw.a_ret, ↓Fw.a_retN, ↓Fw.a_drop, ↓Fw.a_if, ↓Fw.b_test, ↓Fw.b_B, ↓Fw.a_and, ↓Fw.a_or, ↓Fw.a_not, ↓Fw.b_andV, ↓Fw.b_orV, ↓Fw.b_notV, ↓Fw.a_ifE, ↓Fw.a_fn, ↓Fw.a_fnX, ↓Fw.a_hold, ↓Fw.a_holdX, ↓Fw.a_ne_rr, ↓Fw.a_eq_rr, ↓Fw.a_at, ↓Fw.a_atS, ↓Fw.a_step, Fw.v_step, Fw.v_min2, Fw.v_max2, Fw.v_clear, ↓Fw.a_mt, ↓Fw.a_mtX, ↓Fw.a_mk, ↓Fw.a_cb, ↓Fw.a_lst, ↓Fw.a_tup, ↓Fw.a_chain, ↓Fw.a_dnew, ↓Fw.a_start, Fw.v_rU, Int.reduceNeg, Fw.v_add_ii, Fw.v_add_ss, Fw.v_sub_ii, Fw.v_mul_ii, Fw.v_div_ii, Fw.v_mod_ii, Fw.v_pow_ii, Fw.v_lt_ii, Fw.v_gt_ii, Fw.v_le_ii, Fw.v_ge_ii, Fw.v_le_ss, Fw.v_eqS_ii, Fw.v_eqS_ss, Fw.v_neS_ii, Fw.v_neS_ss, Fw.v_eq_ii, Fw.v_eq_ss, Fw.v_eq_bb, Fw.v_ne_ii, Fw.v_ne_ss, Fw.v_ne_bb, Fw.v_ne_tt, Fw.v_eq_tt, Fw.v_in_sc, Fw.v_ix_s, Fw.v_len_s, Fw.v_type, Fw.v_is, ↓Fw.a_bm, ↓Fw.a_bm0, ↓Fw.a_sl, ↓Fw.a_nopart, ↓Fw.a_part, Fw.v_sl_s, Fw.v_sl_r, Fw.v_app, Fw.v_add_rr, ↓Fw.b_ix_r, Fw.b_ix_r, Fw.v_in_r, Fw.v_set_r, Fw.v_len_r, Fw.v_list_r, Fw.v_listA, Fw.v_dictA, Fw.v_int_i, Fw.v_int_b, Fw.v_key_i, Fw.v_key_s, Fw.v_lst, Fw.v_tup, Fw.v_dic, Fw.v_ty_r, Fw.v_ty_s, Fw.v_ty_i, Fw.v_ty_b, Fw.v_ty_n, Fw.v_tyL, Fw.v_same, Fw.v_old, Fw.v_ne, Fw.v_upd, Fw.v_flat_s, Fw.v_inStrs, ↓Fw.a_yes, Fw.v_wipe0, Fw.v_wipe1, Fw.cx_K, Int.reduceToNat, List.length_replicate, Nat.sub_self, Nat.reduceSub, Nat.reduceAdd, List.replicate_zero, List.replicate_succ, List.append_nil, List.length_cons, List.length_nil, List.map_cons, List.map_nil, List.cons_append, List.nil_append, List.getElem?_cons_zero, List.getElem?_cons_succ, List.set_cons_zero, List.set_cons_succ, Option.some.injEq, V.int.injEq, V.bl.injEq, V.ref.injEq, V.str.injEq, exists_eq_left', exists_eq_left, exists_eq_right, exists_and_left, HO.lst.injEq, HO.dK.injEq, HO.tup.injEq, Option.isSome_some, true_and, and_true, Fw.v_m_bool, Fw.v_m_int, Fw.v_m_str, Fw.v_m_list, Fw.v_m_tuple, Fw.v_m_dict, Fw.v_flats, Bool.xor_true, Bool.xor_false, Bool.not_eq_true', decide_eq_false_iff_not, not_true_eq_false, not_false_eq_true, decide_true, decide_false, decide_eq_true_eq, ite_true, ite_false, Bool.not_true, Bool.not_false, Bool.false_eq_true, reduceCtorEq, Fw.isT_NoneType_bool, Fw.isT_NoneType_int, Fw.isT_NoneType_str, Fw.isT_NoneType_list, Fw.isT_NoneType_tuple, Fw.isT_NoneType_dict, Fw.isT_bool_bool, Fw.isT_bool_int, Fw.isT_bool_str, Fw.isT_bool_list, Fw.isT_bool_tuple, Fw.isT_bool_dict, Fw.isT_int_bool, Fw.isT_int_int, Fw.isT_int_str, Fw.isT_int_list, Fw.isT_int_tuple, Fw.isT_int_dict, Fw.isT_str_bool, Fw.isT_str_int, Fw.isT_str_str, Fw.isT_str_list, Fw.isT_str_tuple, Fw.isT_str_dict, Fw.isT_list_bool, Fw.isT_list_int, Fw.isT_list_str, Fw.isT_list_list, Fw.isT_list_tuple, Fw.isT_list_dict, Fw.isT_tuple_bool, Fw.isT_tuple_int, Fw.isT_tuple_str, Fw.isT_tuple_list, Fw.isT_tuple_tuple, Fw.isT_tuple_dict, Fw.isT_dict_bool, Fw.isT_dict_int, Fw.isT_dict_str, Fw.isT_dict_list, Fw.isT_dict_tuple, Fw.isT_dict_dict, hW3, hB3, List.length_map, wordsN_len, hx1]
      refine ⟨by omega, by decide, fun q3 hq3 => ⟨Nat.le_trans (show n + 1 ≤ 100 by omega) (by decide), fun q4 hq4 => ?_⟩⟩
      rw [mws]
      obtain ⟨sm4, hA4, hB4⟩ := two_new (u := .lst (ws.map V.str)) hq3 (by exact hq4)
      generalize upd (upd H3 q3 (.lst [V.str (Str.ofString "nobody")])) q4 (.lst (ws.map V.str)) = H4 at sm4 hA4 hB4 ⊢
      have sm24 := Same.trans sm3 sm4
      have hF4 := sm24 _ _ hF
      have hD4 := sm24 _ _ hD
      have hN4 : DictAt H4 p2 (fullN 3 60 ns n) (ndOf 3 60 ns n) [] := (hN2.less (by simp)).same sm24
      have fws : ∀ y ∈ (netOf 3 60 ns n).full, y ∈ ws := fun y hy => by rw [ews]; exact List.mem_append_left _ (fullN_sub hy)
      have dws : ∀ y ∈ (netOf 3 60 ns n).full, ∀ u ∈ (netOf 3 60 ns n).nd y, u ∈ ws := fun y _ u hu => by rw [ews]; exact List.mem_append_left _ (ndOf_sub hc.1 hu)
      refine ⟨netOf 3 60 ns n, ws, ok, hF4, hN4, hD4, hB4, by omega, fws, dws, fun pS H5 sm5 hpS hS5 => ?_⟩
      obtain ⟨ks, s1, s2, s3, s4⟩ := hS5
      have lge : (netOf 3 60 ns n).full.length ≤ ws.length := by
        rw [lws]
        exact Nat.le_succ_of_le fullN_len
      have ec := Net.chain_at (x := x) lge
      have hF5 := sm5 _ _ hF4
      have hD5 := sm5 _ _ hD4
      have hN5 : DictAt H5 p2 (netOf 3 60 ns n).full (netOf 3 60 ns n).nd [] := hN4.same sm5
      have lfull := ok.lenF
      obtain ⟨g, eg⟩ : ∃ g, netOf 3 60 ns n = g := ⟨_, rfl⟩
      have hFg : H5 p = some (.lst (g.full.map V.str)) := by rw [← eg]; exact hF5
      have hDg : H5 p1 = some (.lst (g.done.map V.str)) := by rw [← eg]; exact hD5
      rw [eg] at ok fws dws s2 s4 lge ec hN5 lfull
      clear hF5 hD5 eg
      generalize ws.length = N at *
      have kx : ∀ y ∈ ws, (y ∈ ks) = (g.near N y = true) := fun y hy => propext (s2 y hy)
      simp -dsimp only [↓Fw.a_disp, ↓Fw.a_pnil, ↓Fw.a_pcons, Fw.v_keys0, Fw.v_keys1, Fw.v_deq, ↓Fw.a_truD1, Fw.v_truD, ↓Fw.a_dqPop, ↓Fw.a_dqApp, Fw.v_isD, ↓Fw.a_dget2, ↓Fw.b_dsetd, ↓Fw.a_star, Fw.v_pop, Fw.v_reverse, ↓Fw.a_tru1, Fw.v_tru_r, ↓Fw.a_gseq, ↓Fw.b_gcons, ↓Fw.b_gnil, ↓Fw.a_seq, ↓Fw.a_next, ↓Fw.a_brk, ↓Fw.a_cont, ↓Fw.a_asg, ↓Fw.a_name, ↓Fw.a_gsub, ↓Fw.b_var, ↓Fw.a_c, ↓Fw.a_op, ↓Fw.a_un, ↓Fw.a_cons, ↓Fw.a_nil, ↓Fw.a_ret, ↓Fw.a_retN, ↓Fw.a_drop, ↓Fw.a_if, ↓Fw.b_test, ↓Fw.b_B, ↓Fw.a_and, ↓Fw.a_or, ↓Fw.a_not, ↓Fw.b_andV, ↓Fw.b_orV, ↓Fw.b_notV, ↓Fw.a_ifE, ↓Fw.a_fn, ↓Fw.a_fnX, ↓Fw.a_hold, ↓Fw.a_holdX, ↓Fw.a_ne_rr, ↓Fw.a_eq_rr, ↓Fw.a_at, ↓Fw.a_atS, ↓Fw.a_step, Fw.v_step, Fw.v_min2, Fw.v_max2, Fw.v_clear, ↓Fw.a_mt, ↓Fw.a_mtX, ↓Fw.a_mk, ↓Fw.a_cb, ↓Fw.a_lst, ↓Fw.a_tup, ↓Fw.a_chain, ↓Fw.a_dnew, ↓Fw.a_start, Fw.v_rU, Int.reduceNeg, Fw.v_add_ii, Fw.v_add_ss, Fw.v_sub_ii, Fw.v_mul_ii, Fw.v_div_ii, Fw.v_mod_ii, Fw.v_pow_ii, Fw.v_lt_ii, Fw.v_gt_ii, Fw.v_le_ii, Fw.v_ge_ii, Fw.v_le_ss, Fw.v_eqS_ii, Fw.v_eqS_ss, Fw.v_neS_ii, Fw.v_neS_ss, Fw.v_eq_ii, Fw.v_eq_ss, Fw.v_eq_bb, Fw.v_ne_ii, Fw.v_ne_ss, Fw.v_ne_bb, Fw.v_ne_tt, Fw.v_eq_tt, Fw.v_in_sc, Fw.v_ix_s, Fw.v_len_s, Fw.v_type, Fw.v_is, ↓Fw.a_bm, ↓Fw.a_bm0, ↓Fw.a_sl, ↓Fw.a_nopart, ↓Fw.a_part, Fw.v_sl_s, Fw.v_sl_r, Fw.v_app, Fw.v_add_rr, ↓Fw.b_ix_r, Fw.b_ix_r, Fw.v_in_r, Fw.v_set_r, Fw.v_len_r, Fw.v_list_r, Fw.v_listA, Fw.v_dictA, Fw.v_int_i, Fw.v_int_b, Fw.v_key_i, Fw.v_key_s, Fw.v_lst, Fw.v_tup, Fw.v_dic, Fw.v_ty_r, Fw.v_ty_s, Fw.v_ty_i, Fw.v_ty_b, Fw.v_ty_n, Fw.v_tyL, Fw.v_same, Fw.v_old, Fw.v_ne, Fw.v_upd, Fw.v_flat_s, Fw.v_inStrs, ↓Fw.a_yes, Fw.v_wipe0, Fw.v_wipe1, Fw.cx_K, Int.reduceToNat, List.length_replicate, Nat.sub_self, Nat.reduceSub, Nat.reduceAdd, List.replicate_zero, List.replicate_succ, List.append_nil, List.length_cons, List.length_nil, List.map_cons, List.map_nil, List.cons_append, List.nil_append, List.getElem?_cons_zero, List.getElem?_cons_succ, List.set_cons_zero, List.set_cons_succ, Option.some.injEq, V.int.injEq, V.bl.injEq, V.ref.injEq, V.str.injEq, exists_eq_left', exists_eq_left, exists_eq_right, exists_and_left, HO.lst.injEq, HO.dK.injEq, HO.tup.injEq, Option.isSome_some, true_and, and_true, Fw.v_m_bool, Fw.v_m_int, Fw.v_m_str, Fw.v_m_list, Fw.v_m_tuple, Fw.v_m_dict, Fw.v_flats, Bool.xor_true, Bool.xor_false, Bool.not_eq_true', decide_eq_false_iff_not, not_true_eq_false, not_false_eq_true, decide_true, decide_false, decide_eq_true_eq, ite_true, ite_false, Bool.not_true, Bool.not_false, Bool.false_eq_true, reduceCtorEq, Fw.isT_NoneType_bool, Fw.isT_NoneType_int, Fw.isT_NoneType_str, Fw.isT_NoneType_list, Fw.isT_NoneType_tuple, Fw.isT_NoneType_dict, Fw.isT_bool_bool, Fw.isT_bool_int, Fw.isT_bool_str, Fw.isT_bool_list, Fw.isT_bool_tuple, Fw.isT_bool_dict, Fw.isT_int_bool, Fw.isT_int_int, Fw.isT_int_str, Fw.isT_int_list, Fw.isT_int_tuple, Fw.isT_int_dict, Fw.isT_str_bool, Fw.isT_str_int, Fw.isT_str_str, Fw.isT_str_list, Fw.isT_str_tuple, Fw.isT_str_dict, Fw.isT_list_bool, Fw.isT_list_int, Fw.isT_list_str, Fw.isT_list_list, Fw.isT_list_tuple, Fw.isT_list_dict, Fw.isT_tuple_bool, Fw.isT_tuple_int, Fw.isT_tuple_str, Fw.isT_tuple_list, Fw.isT_tuple_tuple, Fw.isT_tuple_dict, Fw.isT_dict_bool, Fw.isT_dict_int, Fw.isT_dict_str, Fw.isT_dict_list, Fw.isT_dict_tuple, Fw.isT_dict_dict]
      refine ⟨by decide, fun pd hpd => ?_⟩
      have npd : pd ≠ pS := fun e => by rw [e, s4] at hpd; cases hpd
      refine cut (fun σ7 H7 => Same H5 H7 ∧ H7 pd = some (.lst ((g.chain x).map V.str)) ∧ ∃ (v10 v11 : Option V), σ7 = [some (.ref a), some (.ref pw), some (.ref p), some (.ref p1), some (.ref p2), v5, v6, some (.str x), some (.ref pS), some (.ref pd), v10, v11, none, none, none]) (fun M hM => ?_) ?_
      refine ⟨fun m σ7 H7 => Same H5 H7 ∧ ∃ (dl : List Str) (y : Str) (v11 : Option V), H7 pd = some (.lst (dl.map V.str)) ∧ y ∈ ws ∧ m + dl.length = (g.way N x).length ∧
          ((g.near N x = true ∧ g.near N y = true ∧ (dl ++ g.way N y = g.way N x ∨ dl = g.way N x)) ∨ (g.near N x = false ∧ dl = [] ∧ y = x)) ∧
          σ7 = [some (.ref a), some (.ref pw), some (.ref p), some (.ref p1), some (.ref p2), v5, v6, some (.str x), some (.ref pS), some (.ref pd), some (.str y), v11, none, none, none],
        ⟨(g.way N x).length, same_new hpd, [], x, none, upd_same, hx2, rfl, ?_, rfl⟩, ?_⟩
      · cases e : g.near N x with
        | true => exact .inl ⟨rfl, rfl, .inl rfl⟩
        | false => exact .inr ⟨rfl, rfl, rfl⟩
      · rintro m σ7 H7 ⟨sm7, dl, y, v11, hP7, hyw, hm, hcase, rfl⟩
        have s47 := sm7 _ _ s4
        have ky := kx y hyw
        have kxx := kx x hx2
        rcases hcase with ⟨hnx, hny, hcase⟩ | ⟨hnx, rfl, rfl⟩
        · have vx : valV (sK ks fun z => V.int (g.dst N z + 1 : Nat)) (.inr x) = some (.int (g.dst N x + 1 : Nat)) := sK_val ((s2 x hx2).mpr hnx)
          have vy : valV (sK ks fun z => V.int (g.dst N z + 1 : Nat)) (.inr y) = some (.int (g.dst N y + 1 : Nat)) := sK_val ((s2 y hyw).mpr hny)
          have lx := Net.way_dst (g := g) _ N x hnx rfl
          have hP7' : H7 pd = some (.lst (dl.map V.str)) := hP7
          have s48 : upd H7 pd (.lst (dl.map V.str ++ [.str y])) pS = some (.dK (sK ks fun z => V.int (g.dst N z + 1 : Nat))) := by rw [upd_ne (Ne.symm npd)]; exact s47
          have smu : Same H5 (upd H7 pd (.lst (dl.map V.str ++ [.str y]))) := same_mut sm7 hpd
          have hdu : upd H7 pd (.lst (dl.map V.str ++ [.str y])) pd = some (.lst ((dl ++ [y]).map V.str)) := by rw [upd_same, List.map_append]; rfl
          simp -dsimp only [↓Fw.a_disp, ↓Fw.a_pnil, ↓Fw.a_pcons, Fw.v_keys0, Fw.v_keys1, Fw.v_deq, ↓Fw.a_truD1, Fw.v_truD, ↓Fw.a_dqPop, ↓Fw.a_dqApp, Fw.v_isD, ↓Fw.a_dget2, ↓Fw.b_dsetd, ↓Fw.a_star, Fw.v_pop, Fw.v_reverse, ↓Fw.a_tru1, Fw.v_tru_r, ↓Fw.a_gseq, ↓Fw.b_gcons, ↓Fw.b_gnil, ↓Fw.a_seq, ↓Fw.a_next, ↓Fw.a_brk, ↓Fw.a_cont, ↓Fw.a_asg, ↓Fw.a_name, ↓Fw.a_gsub, ↓Fw.b_var, ↓Fw.a_c, ↓Fw.a_op, ↓Fw.a_un, ↓Fw.a_cons, ↓Fw.a_nil, ↓Fw.a_ret, ↓Fw.a_retN, ↓Fw.a_drop, ↓Fw.a_if, ↓Fw.b_test, ↓Fw.b_B, ↓Fw.a_and, ↓Fw.a_or, ↓Fw.a_not, ↓Fw.b_andV, ↓Fw.b_orV, ↓Fw.b_notV, ↓Fw.a_ifE, ↓Fw.a_fn, ↓Fw.a_fnX, ↓Fw.a_hold, ↓Fw.a_holdX, ↓Fw.a_ne_rr, ↓Fw.a_eq_rr, ↓Fw.a_at, ↓Fw.a_atS, ↓Fw.a_step, Fw.v_step, Fw.v_min2, Fw.v_max2, Fw.v_clear, ↓Fw.a_mt, ↓Fw.a_mtX, ↓Fw.a_mk, ↓Fw.a_cb, ↓Fw.a_lst, ↓Fw.a_tup, ↓Fw.a_chain, ↓Fw.a_dnew, ↓Fw.a_start, Fw.v_rU, Int.reduceNeg, Fw.v_add_ii, Fw.v_add_ss, Fw.v_sub_ii, Fw.v_mul_ii, Fw.v_div_ii, Fw.v_mod_ii, Fw.v_pow_ii, Fw.v_lt_ii, Fw.v_gt_ii, Fw.v_le_ii, Fw.v_ge_ii, Fw.v_le_ss, Fw.v_eqS_ii, Fw.v_eqS_ss, Fw.v_neS_ii, Fw.v_neS_ss, Fw.v_eq_ii, Fw.v_eq_ss, Fw.v_eq_bb, Fw.v_ne_ii, Fw.v_ne_ss, Fw.v_ne_bb, Fw.v_ne_tt, Fw.v_eq_tt, Fw.v_in_sc, Fw.v_ix_s, Fw.v_len_s, Fw.v_type, Fw.v_is, ↓Fw.a_bm, ↓Fw.a_bm0, ↓Fw.a_sl, ↓Fw.a_nopart, ↓Fw.a_part, Fw.v_sl_s, Fw.v_sl_r, Fw.v_app, Fw.v_add_rr, ↓Fw.b_ix_r, Fw.b_ix_r, Fw.v_in_r, Fw.v_set_r, Fw.v_len_r, Fw.v_list_r, Fw.v_listA, Fw.v_dictA, Fw.v_int_i, Fw.v_int_b, Fw.v_key_i, Fw.v_key_s, Fw.v_lst, Fw.v_tup, Fw.v_dic, Fw.v_ty_r, Fw.v_ty_s, Fw.v_ty_i, Fw.v_ty_b, Fw.v_ty_n, Fw.v_tyL, Fw.v_same, Fw.v_old, Fw.v_ne, Fw.v_upd, Fw.v_flat_s, Fw.v_inStrs, ↓Fw.a_yes, Fw.v_wipe0, Fw.v_wipe1, Fw.cx_K, Int.reduceToNat, List.length_replicate, Nat.sub_self, Nat.reduceSub, Nat.reduceAdd, List.replicate_zero, List.replicate_succ, List.append_nil, List.length_cons, List.length_nil, List.map_cons, List.map_nil, List.cons_append, List.nil_append, List.getElem?_cons_zero, List.getElem?_cons_succ, List.set_cons_zero, List.set_cons_succ, Option.some.injEq, V.int.injEq, V.bl.injEq, V.ref.injEq, V.str.injEq, exists_eq_left', exists_eq_left, exists_eq_right, exists_and_left, HO.lst.injEq, HO.dK.injEq, HO.tup.injEq, Option.isSome_some, true_and, and_true, Fw.v_m_bool, Fw.v_m_int, Fw.v_m_str, Fw.v_m_list, Fw.v_m_tuple, Fw.v_m_dict, Fw.v_flats, Bool.xor_true, Bool.xor_false, Bool.not_eq_true', decide_eq_false_iff_not, not_true_eq_false, not_false_eq_true, decide_true, decide_false, decide_eq_true_eq, ite_true, ite_false, Bool.not_true, Bool.not_false, Bool.false_eq_true, reduceCtorEq, Fw.isT_NoneType_bool, Fw.isT_NoneType_int, Fw.isT_NoneType_str, Fw.isT_NoneType_list, Fw.isT_NoneType_tuple, Fw.isT_NoneType_dict, Fw.isT_bool_bool, Fw.isT_bool_int, Fw.isT_bool_str, Fw.isT_bool_list, Fw.isT_bool_tuple, Fw.isT_bool_dict, Fw.isT_int_bool, Fw.isT_int_int, Fw.isT_int_str, Fw.isT_int_list, Fw.isT_int_tuple, Fw.isT_int_dict, Fw.isT_str_bool, Fw.isT_str_int, Fw.isT_str_str, Fw.isT_str_list, Fw.isT_str_tuple, Fw.isT_str_dict, Fw.isT_list_bool, Fw.isT_list_int, Fw.isT_list_str, Fw.isT_list_list, Fw.isT_list_tuple, Fw.isT_list_dict, Fw.isT_tuple_bool, Fw.isT_tuple_int, Fw.isT_tuple_str, Fw.isT_tuple_list, Fw.isT_tuple_tuple, Fw.isT_tuple_dict, Fw.isT_dict_bool, Fw.isT_dict_int, Fw.isT_dict_str, Fw.isT_dict_list, Fw.isT_dict_tuple, Fw.isT_dict_dict, s47, hP7, sK_is, ky, hny, List.length_map, vx, vy, s48]
          generalize upd H7 pd (.lst (dl.map V.str ++ [.str y])) = H8 at s48 smu hdu ⊢
          refine ite2 (fun c => ?_) fun c => ?_
          · have hca : dl ++ g.way N y = g.way N x := hcase.resolve_right fun e => by
              rw [e] at c
              omega
            have dlx := Net.dst_le (g := g) N x
            refine ⟨_, fun σ' H' z => z, ?_⟩
            refine ⟨Nat.lt_of_le_of_lt (show dl.length ≤ 200 by omega) (by decide), ?_⟩
            rcases Net.way_cons N y hny with ⟨e1, e2⟩ | ⟨z, d, e1, e2, e3, e4, e5, e6, e7⟩
            · rw [if_neg (by omega)]
              rw [e2] at hca
              refine ⟨m - 1, ?_, smu, dl ++ [y], hdu, y, hyw, ?_, .inl ⟨hnx, hny, .inr hca⟩, _, rfl⟩
              · omega
              · rw [List.length_append]
                show m - 1 + (dl.length + 1) = _
                omega
            · rw [if_pos (by omega)]
              obtain ⟨kvs, pl, g1, g2, g3⟩ := (hN5.same smu).get e2
              have lenN := ok.lenN y e2
              refine c_lst (a := pl) (fun R z => by
                simp -dsimp only [↓Fw.a_disp, ↓Fw.a_pnil, ↓Fw.a_pcons, Fw.v_keys0, Fw.v_keys1, Fw.v_deq, ↓Fw.a_truD1, Fw.v_truD, ↓Fw.a_dqPop, ↓Fw.a_dqApp, Fw.v_isD, ↓Fw.a_dget2, ↓Fw.b_dsetd, ↓Fw.a_star, Fw.v_pop, Fw.v_reverse, ↓Fw.a_tru1, Fw.v_tru_r, ↓Fw.a_gseq, ↓Fw.b_gcons, ↓Fw.b_gnil, ↓Fw.a_seq, ↓Fw.a_next, ↓Fw.a_brk, ↓Fw.a_cont, ↓Fw.a_asg, ↓Fw.a_name, ↓Fw.a_gsub, ↓Fw.b_var, ↓Fw.a_c, ↓Fw.a_op, ↓Fw.a_un, ↓Fw.a_cons, ↓Fw.a_nil, ↓Fw.a_ret, ↓Fw.a_retN, ↓Fw.a_drop, ↓Fw.a_if, ↓Fw.b_test, ↓Fw.b_B, ↓Fw.a_and, ↓Fw.a_or, ↓Fw.a_not, ↓Fw.b_andV, ↓Fw.b_orV, ↓Fw.b_notV, ↓Fw.a_ifE, ↓Fw.a_fn, ↓Fw.a_fnX, ↓Fw.a_hold, ↓Fw.a_holdX, ↓Fw.a_ne_rr, ↓Fw.a_eq_rr, ↓Fw.a_at, ↓Fw.a_atS, ↓Fw.a_step, Fw.v_step, Fw.v_min2, Fw.v_max2, Fw.v_clear, ↓Fw.a_mt, ↓Fw.a_mtX, ↓Fw.a_mk, ↓Fw.a_cb, ↓Fw.a_lst, ↓Fw.a_tup, ↓Fw.a_chain, ↓Fw.a_dnew, ↓Fw.a_start, Fw.v_rU, Int.reduceNeg, Fw.v_add_ii, Fw.v_add_ss, Fw.v_sub_ii, Fw.v_mul_ii, Fw.v_div_ii, Fw.v_mod_ii, Fw.v_pow_ii, Fw.v_lt_ii, Fw.v_gt_ii, Fw.v_le_ii, Fw.v_ge_ii, Fw.v_le_ss, Fw.v_eqS_ii, Fw.v_eqS_ss, Fw.v_neS_ii, Fw.v_neS_ss, Fw.v_eq_ii, Fw.v_eq_ss, Fw.v_eq_bb, Fw.v_ne_ii, Fw.v_ne_ss, Fw.v_ne_bb, Fw.v_ne_tt, Fw.v_eq_tt, Fw.v_in_sc, Fw.v_ix_s, Fw.v_len_s, Fw.v_type, Fw.v_is, ↓Fw.a_bm, ↓Fw.a_bm0, ↓Fw.a_sl, ↓Fw.a_nopart, ↓Fw.a_part, Fw.v_sl_s, Fw.v_sl_r, Fw.v_app, Fw.v_add_rr, ↓Fw.b_ix_r, Fw.b_ix_r, Fw.v_in_r, Fw.v_set_r, Fw.v_len_r, Fw.v_list_r, Fw.v_listA, Fw.v_dictA, Fw.v_int_i, Fw.v_int_b, Fw.v_key_i, Fw.v_key_s, Fw.v_lst, Fw.v_tup, Fw.v_dic, Fw.v_ty_r, Fw.v_ty_s, Fw.v_ty_i, Fw.v_ty_b, Fw.v_ty_n, Fw.v_tyL, Fw.v_same, Fw.v_old, Fw.v_ne, Fw.v_upd, Fw.v_flat_s, Fw.v_inStrs, ↓Fw.a_yes, Fw.v_wipe0, Fw.v_wipe1, Fw.cx_K, Int.reduceToNat, List.length_replicate, Nat.sub_self, Nat.reduceSub, Nat.reduceAdd, List.replicate_zero, List.replicate_succ, List.append_nil, List.length_cons, List.length_nil, List.map_cons, List.map_nil, List.cons_append, List.nil_append, List.getElem?_cons_zero, List.getElem?_cons_succ, List.set_cons_zero, List.set_cons_succ, Option.some.injEq, V.int.injEq, V.bl.injEq, V.ref.injEq, V.str.injEq, exists_eq_left', exists_eq_left, exists_eq_right, exists_and_left, HO.lst.injEq, HO.dK.injEq, HO.tup.injEq, Option.isSome_some, true_and, and_true, Fw.v_m_bool, Fw.v_m_int, Fw.v_m_str, Fw.v_m_list, Fw.v_m_tuple, Fw.v_m_dict, Fw.v_flats, Bool.xor_true, Bool.xor_false, Bool.not_eq_true', decide_eq_false_iff_not, not_true_eq_false, not_false_eq_true, decide_true, decide_false, decide_eq_true_eq, ite_true, ite_false, Bool.not_true, Bool.not_false, Bool.false_eq_true, reduceCtorEq, Fw.isT_NoneType_bool, Fw.isT_NoneType_int, Fw.isT_NoneType_str, Fw.isT_NoneType_list, Fw.isT_NoneType_tuple, Fw.isT_NoneType_dict, Fw.isT_bool_bool, Fw.isT_bool_int, Fw.isT_bool_str, Fw.isT_bool_list, Fw.isT_bool_tuple, Fw.isT_bool_dict, Fw.isT_int_bool, Fw.isT_int_int, Fw.isT_int_str, Fw.isT_int_list, Fw.isT_int_tuple, Fw.isT_int_dict, Fw.isT_str_bool, Fw.isT_str_int, Fw.isT_str_str, Fw.isT_str_list, Fw.isT_str_tuple, Fw.isT_str_dict, Fw.isT_list_bool, Fw.isT_list_int, Fw.isT_list_str, Fw.isT_list_list, Fw.isT_list_tuple, Fw.isT_list_dict, Fw.isT_tuple_bool, Fw.isT_tuple_int, Fw.isT_tuple_str, Fw.isT_tuple_list, Fw.isT_tuple_tuple, Fw.isT_tuple_dict, Fw.isT_dict_bool, Fw.isT_dict_int, Fw.isT_dict_str, Fw.isT_dict_list, Fw.isT_dict_tuple, Fw.isT_dict_dict, g1, g2]
                exact z) (.inl (.inl g3)) (fun dd m H9 => Same H8 H9 ∧ H9 dd = some (.lst ((((g.nd y).take m).filter fun z => g.near N z && decide (g.dst N z = d)).map V.str))) (fun dd hdd => ⟨same_new hdd, upd_same⟩) (fun dd m H9 _ _ z => .inl (.inl (z.1 _ _ g3))) ?_ ?_
              · rintro dd mm u0 H9 N9 hdd hu0 ⟨sm9, hA⟩ hN9
                obtain ⟨u, hu, rfl⟩ := map_str_get hu0
                have hun : u ∈ g.nd y := List.mem_of_getElem? hu
                have huw := dws y e2 u hun
                have hut : (g.nd y).take (mm + 1) = (g.nd y).take mm ++ [u] := by
                  rw [List.take_add_one, hu]
                  rfl
                have s49 := sm9 _ _ s48
                have ku := kx u huw
                have no : ¬ (g.near N u && decide (g.dst N u = d)) = true → N9 H9 := fun z => hN9 _ ⟨sm9, by
                  rw [hut, List.filter_append, List.filter_cons_of_neg (p := fun z => g.near N z && decide (g.dst N z = d)) z, List.filter_nil, List.append_nil]
                  exact hA⟩
                cases eu : g.near N u with
                | false =>
                  simp -dsimp only [↓Fw.a_disp, ↓Fw.a_pnil, ↓Fw.a_pcons, Fw.v_keys0, Fw.v_keys1, Fw.v_deq, ↓Fw.a_truD1, Fw.v_truD, ↓Fw.a_dqPop, ↓Fw.a_dqApp, Fw.v_isD, ↓Fw.a_dget2, ↓Fw.b_dsetd, ↓Fw.a_star, Fw.v_pop, Fw.v_reverse, ↓Fw.a_tru1, Fw.v_tru_r, ↓Fw.a_gseq, ↓Fw.b_gcons, ↓Fw.b_gnil, ↓Fw.a_seq, ↓Fw.a_next, ↓Fw.a_brk, ↓Fw.a_cont, ↓Fw.a_asg, ↓Fw.a_name, ↓Fw.a_gsub, ↓Fw.b_var, ↓Fw.a_c, ↓Fw.a_op, ↓Fw.a_un, ↓Fw.a_cons, ↓Fw.a_nil, ↓Fw.a_ret, ↓Fw.a_retN, ↓Fw.a_drop, ↓Fw.a_if, ↓Fw.b_test, ↓Fw.b_B, ↓Fw.a_and, ↓Fw.a_or, ↓Fw.a_not, ↓Fw.b_andV, ↓Fw.b_orV, ↓Fw.b_notV, ↓Fw.a_ifE, ↓Fw.a_fn, ↓Fw.a_fnX, ↓Fw.a_hold, ↓Fw.a_holdX, ↓Fw.a_ne_rr, ↓Fw.a_eq_rr, ↓Fw.a_at, ↓Fw.a_atS, ↓Fw.a_step, Fw.v_step, Fw.v_min2, Fw.v_max2, Fw.v_clear, ↓Fw.a_mt, ↓Fw.a_mtX, ↓Fw.a_mk, ↓Fw.a_cb, ↓Fw.a_lst, ↓Fw.a_tup, ↓Fw.a_chain, ↓Fw.a_dnew, ↓Fw.a_start, Fw.v_rU, Int.reduceNeg, Fw.v_add_ii, Fw.v_add_ss, Fw.v_sub_ii, Fw.v_mul_ii, Fw.v_div_ii, Fw.v_mod_ii, Fw.v_pow_ii, Fw.v_lt_ii, Fw.v_gt_ii, Fw.v_le_ii, Fw.v_ge_ii, Fw.v_le_ss, Fw.v_eqS_ii, Fw.v_eqS_ss, Fw.v_neS_ii, Fw.v_neS_ss, Fw.v_eq_ii, Fw.v_eq_ss, Fw.v_eq_bb, Fw.v_ne_ii, Fw.v_ne_ss, Fw.v_ne_bb, Fw.v_ne_tt, Fw.v_eq_tt, Fw.v_in_sc, Fw.v_ix_s, Fw.v_len_s, Fw.v_type, Fw.v_is, ↓Fw.a_bm, ↓Fw.a_bm0, ↓Fw.a_sl, ↓Fw.a_nopart, ↓Fw.a_part, Fw.v_sl_s, Fw.v_sl_r, Fw.v_app, Fw.v_add_rr, ↓Fw.b_ix_r, Fw.b_ix_r, Fw.v_in_r, Fw.v_set_r, Fw.v_len_r, Fw.v_list_r, Fw.v_listA, Fw.v_dictA, Fw.v_int_i, Fw.v_int_b, Fw.v_key_i, Fw.v_key_s, Fw.v_lst, Fw.v_tup, Fw.v_dic, Fw.v_ty_r, Fw.v_ty_s, Fw.v_ty_i, Fw.v_ty_b, Fw.v_ty_n, Fw.v_tyL, Fw.v_same, Fw.v_old, Fw.v_ne, Fw.v_upd, Fw.v_flat_s, Fw.v_inStrs, ↓Fw.a_yes, Fw.v_wipe0, Fw.v_wipe1, Fw.cx_K, Int.reduceToNat, List.length_replicate, Nat.sub_self, Nat.reduceSub, Nat.reduceAdd, List.replicate_zero, List.replicate_succ, List.append_nil, List.length_cons, List.length_nil, List.map_cons, List.map_nil, List.cons_append, List.nil_append, List.getElem?_cons_zero, List.getElem?_cons_succ, List.set_cons_zero, List.set_cons_succ, Option.some.injEq, V.int.injEq, V.bl.injEq, V.ref.injEq, V.str.injEq, exists_eq_left', exists_eq_left, exists_eq_right, exists_and_left, HO.lst.injEq, HO.dK.injEq, HO.tup.injEq, Option.isSome_some, true_and, and_true, Fw.v_m_bool, Fw.v_m_int, Fw.v_m_str, Fw.v_m_list, Fw.v_m_tuple, Fw.v_m_dict, Fw.v_flats, Bool.xor_true, Bool.xor_false, Bool.not_eq_true', decide_eq_false_iff_not, not_true_eq_false, not_false_eq_true, decide_true, decide_false, decide_eq_true_eq, ite_true, ite_false, Bool.not_true, Bool.not_false, Bool.false_eq_true, reduceCtorEq, Fw.isT_NoneType_bool, Fw.isT_NoneType_int, Fw.isT_NoneType_str, Fw.isT_NoneType_list, Fw.isT_NoneType_tuple, Fw.isT_NoneType_dict, Fw.isT_bool_bool, Fw.isT_bool_int, Fw.isT_bool_str, Fw.isT_bool_list, Fw.isT_bool_tuple, Fw.isT_bool_dict, Fw.isT_int_bool, Fw.isT_int_int, Fw.isT_int_str, Fw.isT_int_list, Fw.isT_int_tuple, Fw.isT_int_dict, Fw.isT_str_bool, Fw.isT_str_int, Fw.isT_str_str, Fw.isT_str_list, Fw.isT_str_tuple, Fw.isT_str_dict, Fw.isT_list_bool, Fw.isT_list_int, Fw.isT_list_str, Fw.isT_list_list, Fw.isT_list_tuple, Fw.isT_list_dict, Fw.isT_tuple_bool, Fw.isT_tuple_int, Fw.isT_tuple_str, Fw.isT_tuple_list, Fw.isT_tuple_tuple, Fw.isT_tuple_dict, Fw.isT_dict_bool, Fw.isT_dict_int, Fw.isT_dict_str, Fw.isT_dict_list, Fw.isT_dict_tuple, Fw.isT_dict_dict, s49, sK_is, ku, eu]
                  exact no (by rw [eu]; exact Bool.false_ne_true)
                | true =>
                  have vu : valV (sK ks fun z => V.int (g.dst N z + 1 : Nat)) (.inr u) = some (.int (g.dst N u + 1 : Nat)) := sK_val ((s2 u huw).mpr eu)
                  simp -dsimp only [↓Fw.a_disp, ↓Fw.a_pnil, ↓Fw.a_pcons, Fw.v_keys0, Fw.v_keys1, Fw.v_deq, ↓Fw.a_truD1, Fw.v_truD, ↓Fw.a_dqPop, ↓Fw.a_dqApp, Fw.v_isD, ↓Fw.a_dget2, ↓Fw.b_dsetd, ↓Fw.a_star, Fw.v_pop, Fw.v_reverse, ↓Fw.a_tru1, Fw.v_tru_r, ↓Fw.a_gseq, ↓Fw.b_gcons, ↓Fw.b_gnil, ↓Fw.a_seq, ↓Fw.a_next, ↓Fw.a_brk, ↓Fw.a_cont, ↓Fw.a_asg, ↓Fw.a_name, ↓Fw.a_gsub, ↓Fw.b_var, ↓Fw.a_c, ↓Fw.a_op, ↓Fw.a_un, ↓Fw.a_cons, ↓Fw.a_nil, ↓Fw.a_ret, ↓Fw.a_retN, ↓Fw.a_drop, ↓Fw.a_if, ↓Fw.b_test, ↓Fw.b_B, ↓Fw.a_and, ↓Fw.a_or, ↓Fw.a_not, ↓Fw.b_andV, ↓Fw.b_orV, ↓Fw.b_notV, ↓Fw.a_ifE, ↓Fw.a_fn, ↓Fw.a_fnX, ↓Fw.a_hold, ↓Fw.a_holdX, ↓Fw.a_ne_rr, ↓Fw.a_eq_rr, ↓Fw.a_at, ↓Fw.a_atS, ↓Fw.a_step, Fw.v_step, Fw.v_min2, Fw.v_max2, Fw.v_clear, ↓Fw.a_mt, ↓Fw.a_mtX, ↓Fw.a_mk, ↓Fw.a_cb, ↓Fw.a_lst, ↓Fw.a_tup, ↓Fw.a_chain, ↓Fw.a_dnew, ↓Fw.a_start, Fw.v_rU, Int.reduceNeg, Fw.v_add_ii, Fw.v_add_ss, Fw.v_sub_ii, Fw.v_mul_ii, Fw.v_div_ii, Fw.v_mod_ii, Fw.v_pow_ii, Fw.v_lt_ii, Fw.v_gt_ii, Fw.v_le_ii, Fw.v_ge_ii, Fw.v_le_ss, Fw.v_eqS_ii, Fw.v_eqS_ss, Fw.v_neS_ii, Fw.v_neS_ss, Fw.v_eq_ii, Fw.v_eq_ss, Fw.v_eq_bb, Fw.v_ne_ii, Fw.v_ne_ss, Fw.v_ne_bb, Fw.v_ne_tt, Fw.v_eq_tt, Fw.v_in_sc, Fw.v_ix_s, Fw.v_len_s, Fw.v_type, Fw.v_is, ↓Fw.a_bm, ↓Fw.a_bm0, ↓Fw.a_sl, ↓Fw.a_nopart, ↓Fw.a_part, Fw.v_sl_s, Fw.v_sl_r, Fw.v_app, Fw.v_add_rr, ↓Fw.b_ix_r, Fw.b_ix_r, Fw.v_in_r, Fw.v_set_r, Fw.v_len_r, Fw.v_list_r, Fw.v_listA, Fw.v_dictA, Fw.v_int_i, Fw.v_int_b, Fw.v_key_i, Fw.v_key_s, Fw.v_lst, Fw.v_tup, Fw.v_dic, Fw.v_ty_r, Fw.v_ty_s, Fw.v_ty_i, Fw.v_ty_b, Fw.v_ty_n, Fw.v_tyL, Fw.v_same, Fw.v_old, Fw.v_ne, Fw.v_upd, Fw.v_flat_s, Fw.v_inStrs, ↓Fw.a_yes, Fw.v_wipe0, Fw.v_wipe1, Fw.cx_K, Int.reduceToNat, List.length_replicate, Nat.sub_self, Nat.reduceSub, Nat.reduceAdd, List.replicate_zero, List.replicate_succ, List.append_nil, List.length_cons, List.length_nil, List.map_cons, List.map_nil, List.cons_append, List.nil_append, List.getElem?_cons_zero, List.getElem?_cons_succ, List.set_cons_zero, List.set_cons_succ, Option.some.injEq, V.int.injEq, V.bl.injEq, V.ref.injEq, V.str.injEq, exists_eq_left', exists_eq_left, exists_eq_right, exists_and_left, HO.lst.injEq, HO.dK.injEq, HO.tup.injEq, Option.isSome_some, true_and, and_true, Fw.v_m_bool, Fw.v_m_int, Fw.v_m_str, Fw.v_m_list, Fw.v_m_tuple, Fw.v_m_dict, Fw.v_flats, Bool.xor_true, Bool.xor_false, Bool.not_eq_true', decide_eq_false_iff_not, not_true_eq_false, not_false_eq_true, decide_true, decide_false, decide_eq_true_eq, ite_true, ite_false, Bool.not_true, Bool.not_false, Bool.false_eq_true, reduceCtorEq, Fw.isT_NoneType_bool, Fw.isT_NoneType_int, Fw.isT_NoneType_str, Fw.isT_NoneType_list, Fw.isT_NoneType_tuple, Fw.isT_NoneType_dict, Fw.isT_bool_bool, Fw.isT_bool_int, Fw.isT_bool_str, Fw.isT_bool_list, Fw.isT_bool_tuple, Fw.isT_bool_dict, Fw.isT_int_bool, Fw.isT_int_int, Fw.isT_int_str, Fw.isT_int_list, Fw.isT_int_tuple, Fw.isT_int_dict, Fw.isT_str_bool, Fw.isT_str_int, Fw.isT_str_str, Fw.isT_str_list, Fw.isT_str_tuple, Fw.isT_str_dict, Fw.isT_list_bool, Fw.isT_list_int, Fw.isT_list_str, Fw.isT_list_list, Fw.isT_list_tuple, Fw.isT_list_dict, Fw.isT_tuple_bool, Fw.isT_tuple_int, Fw.isT_tuple_str, Fw.isT_tuple_list, Fw.isT_tuple_tuple, Fw.isT_tuple_dict, Fw.isT_dict_bool, Fw.isT_dict_int, Fw.isT_dict_str, Fw.isT_dict_list, Fw.isT_dict_tuple, Fw.isT_dict_dict, s49, sK_is, ku, eu, vu, vy, hA]
                  refine ite2 (fun c2 => ⟨?_, hN9 _ ⟨same_mut sm9 hdd, ?_⟩⟩) fun c2 => no ?_
                  · rw [List.length_map]
                    exact Nat.lt_of_le_of_lt (Nat.le_trans (List.length_filter_le _ _) (Nat.le_trans (List.length_take_le' _ _) (Nat.le_trans lenN (show 8 ≤ 99 by decide)))) (by decide)
                  · rw [upd_same, hut, List.filter_append, List.map_append, List.filter_cons_of_pos (p := fun z => g.near N z && decide (g.dst N z = d)) (by show (g.near N u && decide (g.dst N u = d)) = true; rw [eu, Bool.true_and]; exact decide_eq_true (by omega))]
                    rfl
                  · rw [eu, Bool.true_and]
                    exact fun z => c2 (by have := of_decide_eq_true z; omega)
              · rintro dd H9 hdd ⟨sm9, hA⟩
                rw [List.length_map, List.take_length] at hA
                have a0 : atI ((((g.nd y).filter fun z => g.near N z && decide (g.dst N z = d)).map V.str)) ((0 : Nat) : Int) = some (.str z) := atI_nat (by
                  rw [List.getElem?_map, ← List.head?_eq_getElem?, e6]
                  rfl)
                have a0 : atI ((((g.nd y).filter fun z => g.near N z && decide (g.dst N z = d)).map V.str)) 0 = some (.str z) := a0
                simp -dsimp only [↓Fw.a_disp, ↓Fw.a_pnil, ↓Fw.a_pcons, Fw.v_keys0, Fw.v_keys1, Fw.v_deq, ↓Fw.a_truD1, Fw.v_truD, ↓Fw.a_dqPop, ↓Fw.a_dqApp, Fw.v_isD, ↓Fw.a_dget2, ↓Fw.b_dsetd, ↓Fw.a_star, Fw.v_pop, Fw.v_reverse, ↓Fw.a_tru1, Fw.v_tru_r, ↓Fw.a_gseq, ↓Fw.b_gcons, ↓Fw.b_gnil, ↓Fw.a_seq, ↓Fw.a_next, ↓Fw.a_brk, ↓Fw.a_cont, ↓Fw.a_asg, ↓Fw.a_name, ↓Fw.a_gsub, ↓Fw.b_var, ↓Fw.a_c, ↓Fw.a_op, ↓Fw.a_un, ↓Fw.a_cons, ↓Fw.a_nil, ↓Fw.a_ret, ↓Fw.a_retN, ↓Fw.a_drop, ↓Fw.a_if, ↓Fw.b_test, ↓Fw.b_B, ↓Fw.a_and, ↓Fw.a_or, ↓Fw.a_not, ↓Fw.b_andV, ↓Fw.b_orV, ↓Fw.b_notV, ↓Fw.a_ifE, ↓Fw.a_fn, ↓Fw.a_fnX, ↓Fw.a_hold, ↓Fw.a_holdX, ↓Fw.a_ne_rr, ↓Fw.a_eq_rr, ↓Fw.a_at, ↓Fw.a_atS, ↓Fw.a_step, Fw.v_step, Fw.v_min2, Fw.v_max2, Fw.v_clear, ↓Fw.a_mt, ↓Fw.a_mtX, ↓Fw.a_mk, ↓Fw.a_cb, ↓Fw.a_lst, ↓Fw.a_tup, ↓Fw.a_chain, ↓Fw.a_dnew, ↓Fw.a_start, Fw.v_rU, Int.reduceNeg, Fw.v_add_ii, Fw.v_add_ss, Fw.v_sub_ii, Fw.v_mul_ii, Fw.v_div_ii, Fw.v_mod_ii, Fw.v_pow_ii, Fw.v_lt_ii, Fw.v_gt_ii, Fw.v_le_ii, Fw.v_ge_ii, Fw.v_le_ss, Fw.v_eqS_ii, Fw.v_eqS_ss, Fw.v_neS_ii, Fw.v_neS_ss, Fw.v_eq_ii, Fw.v_eq_ss, Fw.v_eq_bb, Fw.v_ne_ii, Fw.v_ne_ss, Fw.v_ne_bb, Fw.v_ne_tt, Fw.v_eq_tt, Fw.v_in_sc, Fw.v_ix_s, Fw.v_len_s, Fw.v_type, Fw.v_is, ↓Fw.a_bm, ↓Fw.a_bm0, ↓Fw.a_sl, ↓Fw.a_nopart, ↓Fw.a_part, Fw.v_sl_s, Fw.v_sl_r, Fw.v_app, Fw.v_add_rr, ↓Fw.b_ix_r, Fw.b_ix_r, Fw.v_in_r, Fw.v_set_r, Fw.v_len_r, Fw.v_list_r, Fw.v_listA, Fw.v_dictA, Fw.v_int_i, Fw.v_int_b, Fw.v_key_i, Fw.v_key_s, Fw.v_lst, Fw.v_tup, Fw.v_dic, Fw.v_ty_r, Fw.v_ty_s, Fw.v_ty_i, Fw.v_ty_b, Fw.v_ty_n, Fw.v_tyL, Fw.v_same, Fw.v_old, Fw.v_ne, Fw.v_upd, Fw.v_flat_s, Fw.v_inStrs, ↓Fw.a_yes, Fw.v_wipe0, Fw.v_wipe1, Fw.cx_K, Int.reduceToNat, List.length_replicate, Nat.sub_self, Nat.reduceSub, Nat.reduceAdd, List.replicate_zero, List.replicate_succ, List.append_nil, List.length_cons, List.length_nil, List.map_cons, List.map_nil, List.cons_append, List.nil_append, List.getElem?_cons_zero, List.getElem?_cons_succ, List.set_cons_zero, List.set_cons_succ, Option.some.injEq, V.int.injEq, V.bl.injEq, V.ref.injEq, V.str.injEq, exists_eq_left', exists_eq_left, exists_eq_right, exists_and_left, HO.lst.injEq, HO.dK.injEq, HO.tup.injEq, Option.isSome_some, true_and, and_true, Fw.v_m_bool, Fw.v_m_int, Fw.v_m_str, Fw.v_m_list, Fw.v_m_tuple, Fw.v_m_dict, Fw.v_flats, Bool.xor_true, Bool.xor_false, Bool.not_eq_true', decide_eq_false_iff_not, not_true_eq_false, not_false_eq_true, decide_true, decide_false, decide_eq_true_eq, ite_true, ite_false, Bool.not_true, Bool.not_false, Bool.false_eq_true, reduceCtorEq, Fw.isT_NoneType_bool, Fw.isT_NoneType_int, Fw.isT_NoneType_str, Fw.isT_NoneType_list, Fw.isT_NoneType_tuple, Fw.isT_NoneType_dict, Fw.isT_bool_bool, Fw.isT_bool_int, Fw.isT_bool_str, Fw.isT_bool_list, Fw.isT_bool_tuple, Fw.isT_bool_dict, Fw.isT_int_bool, Fw.isT_int_int, Fw.isT_int_str, Fw.isT_int_list, Fw.isT_int_tuple, Fw.isT_int_dict, Fw.isT_str_bool, Fw.isT_str_int, Fw.isT_str_str, Fw.isT_str_list, Fw.isT_str_tuple, Fw.isT_str_dict, Fw.isT_list_bool, Fw.isT_list_int, Fw.isT_list_str, Fw.isT_list_list, Fw.isT_list_tuple, Fw.isT_list_dict, Fw.isT_tuple_bool, Fw.isT_tuple_int, Fw.isT_tuple_str, Fw.isT_tuple_list, Fw.isT_tuple_tuple, Fw.isT_tuple_dict, Fw.isT_dict_bool, Fw.isT_dict_int, Fw.isT_dict_str, Fw.isT_dict_list, Fw.isT_dict_tuple, Fw.isT_dict_dict, hA, a0]
                refine ⟨m - 1, by omega, Same.trans smu sm9, dl ++ [y], sm9 _ _ hdu, z, dws y e2 z e3, ?_, .inl ⟨hnx, e4, .inl ?_⟩, _, rfl⟩
                · rw [List.length_append]
                  show m - 1 + (dl.length + 1) = _
                  omega
                · rw [List.append_assoc, ← hca, e7]
                  rfl
          · refine hM _ _ ⟨sm7, ?_, _, _, rfl⟩
            rw [ec, if_pos hnx, hP7]
            rcases hcase with e | e
            · exfalso
              have := congrArg List.length e
              rw [List.length_append, Net.way_dst (g := g) _ N y hny rfl, lx] at this
              omega
            · rw [e]
        · simp -dsimp only [↓Fw.a_disp, ↓Fw.a_pnil, ↓Fw.a_pcons, Fw.v_keys0, Fw.v_keys1, Fw.v_deq, ↓Fw.a_truD1, Fw.v_truD, ↓Fw.a_dqPop, ↓Fw.a_dqApp, Fw.v_isD, ↓Fw.a_dget2, ↓Fw.b_dsetd, ↓Fw.a_star, Fw.v_pop, Fw.v_reverse, ↓Fw.a_tru1, Fw.v_tru_r, ↓Fw.a_gseq, ↓Fw.b_gcons, ↓Fw.b_gnil, ↓Fw.a_seq, ↓Fw.a_next, ↓Fw.a_brk, ↓Fw.a_cont, ↓Fw.a_asg, ↓Fw.a_name, ↓Fw.a_gsub, ↓Fw.b_var, ↓Fw.a_c, ↓Fw.a_op, ↓Fw.a_un, ↓Fw.a_cons, ↓Fw.a_nil, ↓Fw.a_ret, ↓Fw.a_retN, ↓Fw.a_drop, ↓Fw.a_if, ↓Fw.b_test, ↓Fw.b_B, ↓Fw.a_and, ↓Fw.a_or, ↓Fw.a_not, ↓Fw.b_andV, ↓Fw.b_orV, ↓Fw.b_notV, ↓Fw.a_ifE, ↓Fw.a_fn, ↓Fw.a_fnX, ↓Fw.a_hold, ↓Fw.a_holdX, ↓Fw.a_ne_rr, ↓Fw.a_eq_rr, ↓Fw.a_at, ↓Fw.a_atS, ↓Fw.a_step, Fw.v_step, Fw.v_min2, Fw.v_max2, Fw.v_clear, ↓Fw.a_mt, ↓Fw.a_mtX, ↓Fw.a_mk, ↓Fw.a_cb, ↓Fw.a_lst, ↓Fw.a_tup, ↓Fw.a_chain, ↓Fw.a_dnew, ↓Fw.a_start, Fw.v_rU, Int.reduceNeg, Fw.v_add_ii, Fw.v_add_ss, Fw.v_sub_ii, Fw.v_mul_ii, Fw.v_div_ii, Fw.v_mod_ii, Fw.v_pow_ii, Fw.v_lt_ii, Fw.v_gt_ii, Fw.v_le_ii, Fw.v_ge_ii, Fw.v_le_ss, Fw.v_eqS_ii, Fw.v_eqS_ss, Fw.v_neS_ii, Fw.v_neS_ss, Fw.v_eq_ii, Fw.v_eq_ss, Fw.v_eq_bb, Fw.v_ne_ii, Fw.v_ne_ss, Fw.v_ne_bb, Fw.v_ne_tt, Fw.v_eq_tt, Fw.v_in_sc, Fw.v_ix_s, Fw.v_len_s, Fw.v_type, Fw.v_is, ↓Fw.a_bm, ↓Fw.a_bm0, ↓Fw.a_sl, ↓Fw.a_nopart, ↓Fw.a_part, Fw.v_sl_s, Fw.v_sl_r, Fw.v_app, Fw.v_add_rr, ↓Fw.b_ix_r, Fw.b_ix_r, Fw.v_in_r, Fw.v_set_r, Fw.v_len_r, Fw.v_list_r, Fw.v_listA, Fw.v_dictA, Fw.v_int_i, Fw.v_int_b, Fw.v_key_i, Fw.v_key_s, Fw.v_lst, Fw.v_tup, Fw.v_dic, Fw.v_ty_r, Fw.v_ty_s, Fw.v_ty_i, Fw.v_ty_b, Fw.v_ty_n, Fw.v_tyL, Fw.v_same, Fw.v_old, Fw.v_ne, Fw.v_upd, Fw.v_flat_s, Fw.v_inStrs, ↓Fw.a_yes, Fw.v_wipe0, Fw.v_wipe1, Fw.cx_K, Int.reduceToNat, List.length_replicate, Nat.sub_self, Nat.reduceSub, Nat.reduceAdd, List.replicate_zero, List.replicate_succ, List.append_nil, List.length_cons, List.length_nil, List.map_cons, List.map_nil, List.cons_append, List.nil_append, List.getElem?_cons_zero, List.getElem?_cons_succ, List.set_cons_zero, List.set_cons_succ, Option.some.injEq, V.int.injEq, V.bl.injEq, V.ref.injEq, V.str.injEq, exists_eq_left', exists_eq_left, exists_eq_right, exists_and_left, HO.lst.injEq, HO.dK.injEq, HO.tup.injEq, Option.isSome_some, true_and, and_true, Fw.v_m_bool, Fw.v_m_int, Fw.v_m_str, Fw.v_m_list, Fw.v_m_tuple, Fw.v_m_dict, Fw.v_flats, Bool.xor_true, Bool.xor_false, Bool.not_eq_true', decide_eq_false_iff_not, not_true_eq_false, not_false_eq_true, decide_true, decide_false, decide_eq_true_eq, ite_true, ite_false, Bool.not_true, Bool.not_false, Bool.false_eq_true, reduceCtorEq, Fw.isT_NoneType_bool, Fw.isT_NoneType_int, Fw.isT_NoneType_str, Fw.isT_NoneType_list, Fw.isT_NoneType_tuple, Fw.isT_NoneType_dict, Fw.isT_bool_bool, Fw.isT_bool_int, Fw.isT_bool_str, Fw.isT_bool_list, Fw.isT_bool_tuple, Fw.isT_bool_dict, Fw.isT_int_bool, Fw.isT_int_int, Fw.isT_int_str, Fw.isT_int_list, Fw.isT_int_tuple, Fw.isT_int_dict, Fw.isT_str_bool, Fw.isT_str_int, Fw.isT_str_str, Fw.isT_str_list, Fw.isT_str_tuple, Fw.isT_str_dict, Fw.isT_list_bool, Fw.isT_list_int, Fw.isT_list_str, Fw.isT_list_list, Fw.isT_list_tuple, Fw.isT_list_dict, Fw.isT_tuple_bool, Fw.isT_tuple_int, Fw.isT_tuple_str, Fw.isT_tuple_list, Fw.isT_tuple_tuple, Fw.isT_tuple_dict, Fw.isT_dict_bool, Fw.isT_dict_int, Fw.isT_dict_str, Fw.isT_dict_list, Fw.isT_dict_tuple, Fw.isT_dict_dict, s47, sK_is, ky, hnx]
          refine hM _ _ ⟨sm7, ?_, _, _, rfl⟩
          rw [ec, if_neg (by rw [hnx]; exact Bool.false_ne_true)]
          exact hP7
      · rintro σ7 H7 ⟨sm7, hP7, v10, v11, rfl⟩
        have hF7 := sm7 _ _ hFg
        have hD7 := sm7 _ _ hDg
        simp -dsimp +contextual only [↓Fw.a_disp, ↓Fw.a_pnil, ↓Fw.a_pcons, Fw.v_keys0, Fw.v_keys1, Fw.v_deq, ↓Fw.a_truD1, Fw.v_truD, ↓Fw.a_dqPop, ↓Fw.a_dqApp, Fw.v_isD, ↓Fw.a_dget2, ↓Fw.b_dsetd, ↓Fw.a_star, Fw.v_pop, Fw.v_reverse, ↓Fw.a_tru1, Fw.v_tru_r, ↓Fw.a_gseq, ↓Fw.b_gcons, ↓Fw.b_gnil, ↓Fw.a_seq, ↓Fw.a_next, ↓Fw.a_brk, ↓Fw.a_cont, ↓Fw.a_asg, ↓Fw.a_name, ↓Fw.a_gsub, ↓Fw.b_var, ↓Fw.a_c, ↓Fw.a_op, ↓Fw.a_un, ↓Fw.a_cons, ↓Fw.a_nil, ↓Fw.a_ret, ↓Fw.a_retN, ↓Fw.a_drop, ↓Fw.a_if, ↓Fw.b_test, ↓Fw.b_B, ↓Fw.a_and, ↓Fw.a_or, ↓Fw.a_not, ↓Fw.b_andV, ↓Fw.b_orV, ↓Fw.b_notV, ↓Fw.a_ifE, ↓Fw.a_fn, ↓Fw.a_fnX, ↓Fw.a_hold, ↓Fw.a_holdX, ↓Fw.a_ne_rr, ↓Fw.a_eq_rr, ↓Fw.a_at, ↓Fw.a_atS, ↓Fw.a_step, Fw.v_step, Fw.v_min2, Fw.v_max2, Fw.v_clear, ↓Fw.a_mt, ↓Fw.a_mtX, ↓Fw.a_mk, ↓Fw.a_cb, ↓Fw.a_lst, ↓Fw.a_tup, ↓Fw.a_chain, ↓Fw.a_dnew, ↓Fw.a_start, Fw.v_rU, Int.reduceNeg, Fw.v_add_ii, Fw.v_add_ss, Fw.v_sub_ii, Fw.v_mul_ii, Fw.v_div_ii, Fw.v_mod_ii, Fw.v_pow_ii, Fw.v_lt_ii, Fw.v_gt_ii, Fw.v_le_ii, Fw.v_ge_ii, Fw.v_le_ss, Fw.v_eqS_ii, Fw.v_eqS_ss, Fw.v_neS_ii, Fw.v_neS_ss, Fw.v_eq_ii, Fw.v_eq_ss, Fw.v_eq_bb, Fw.v_ne_ii, Fw.v_ne_ss, Fw.v_ne_bb, Fw.v_ne_tt, Fw.v_eq_tt, Fw.v_in_sc, Fw.v_ix_s, Fw.v_len_s, Fw.v_type, Fw.v_is, ↓Fw.a_bm, ↓Fw.a_bm0, ↓Fw.a_sl, ↓Fw.a_nopart, ↓Fw.a_part, Fw.v_sl_s, Fw.v_sl_r, Fw.v_app, Fw.v_add_rr, ↓Fw.b_ix_r, Fw.b_ix_r, Fw.v_in_r, Fw.v_set_r, Fw.v_len_r, Fw.v_list_r, Fw.v_listA, Fw.v_dictA, Fw.v_int_i, Fw.v_int_b, Fw.v_key_i, Fw.v_key_s, Fw.v_lst, Fw.v_tup, Fw.v_dic, Fw.v_ty_r, Fw.v_ty_s, Fw.v_ty_i, Fw.v_ty_b, Fw.v_ty_n, Fw.v_tyL, Fw.v_same, Fw.v_old, Fw.v_ne, Fw.v_upd, Fw.v_flat_s, Fw.v_inStrs, ↓Fw.a_yes, Fw.v_wipe0, Fw.v_wipe1, Fw.cx_K, Int.reduceToNat, List.length_replicate, Nat.sub_self, Nat.reduceSub, Nat.reduceAdd, List.replicate_zero, List.replicate_succ, List.append_nil, List.length_cons, List.length_nil, List.map_cons, List.map_nil, List.cons_append, List.nil_append, List.getElem?_cons_zero, List.getElem?_cons_succ, List.set_cons_zero, List.set_cons_succ, Option.some.injEq, V.int.injEq, V.bl.injEq, V.ref.injEq, V.str.injEq, exists_eq_left', exists_eq_left, exists_eq_right, exists_and_left, HO.lst.injEq, HO.dK.injEq, HO.tup.injEq, Option.isSome_some, true_and, and_true, Fw.v_m_bool, Fw.v_m_int, Fw.v_m_str, Fw.v_m_list, Fw.v_m_tuple, Fw.v_m_dict, Fw.v_flats, Bool.xor_true, Bool.xor_false, Bool.not_eq_true', decide_eq_false_iff_not, not_true_eq_false, not_false_eq_true, decide_true, decide_false, decide_eq_true_eq, ite_true, ite_false, Bool.not_true, Bool.not_false, Bool.false_eq_true, reduceCtorEq, Fw.isT_NoneType_bool, Fw.isT_NoneType_int, Fw.isT_NoneType_str, Fw.isT_NoneType_list, Fw.isT_NoneType_tuple, Fw.isT_NoneType_dict, Fw.isT_bool_bool, Fw.isT_bool_int, Fw.isT_bool_str, Fw.isT_bool_list, Fw.isT_bool_tuple, Fw.isT_bool_dict, Fw.isT_int_bool, Fw.isT_int_int, Fw.isT_int_str, Fw.isT_int_list, Fw.isT_int_tuple, Fw.isT_int_dict, Fw.isT_str_bool, Fw.isT_str_int, Fw.isT_str_str, Fw.isT_str_list, Fw.isT_str_tuple, Fw.isT_str_dict, Fw.isT_list_bool, Fw.isT_list_int, Fw.isT_list_str, Fw.isT_list_list, Fw.isT_list_tuple, Fw.isT_list_dict, Fw.isT_tuple_bool, Fw.isT_tuple_int, Fw.isT_tuple_str, Fw.isT_tuple_list, Fw.isT_tuple_tuple, Fw.isT_tuple_dict, Fw.isT_dict_bool, Fw.isT_dict_int, Fw.isT_dict_str, Fw.isT_dict_list, Fw.isT_dict_tuple, Fw.isT_dict_dict, hF7, hD7]
        refine fun po ho pt ht => ?_
        obtain ⟨sm8, hO8, hT8⟩ := two_new (u := .lst (g.done.map V.str)) ho ht
        generalize upd (upd H7 po (.lst (g.full.map V.str))) pt (.lst (g.done.map V.str)) = H8 at sm8 hO8 hT8 ⊢
        refine ⟨g, ok, hO8, (hN5.same sm7).same sm8, hT8, okw x hx2, fun pf H9 sm9 hpf hP9 => ?_⟩
        have sm79 := Same.trans sm8 sm9
        have hE9 := sm79 _ _ hP7
        have hF9 := sm79 _ _ hF7
        have hD9 := sm79 _ _ hD7
        have okc : ∀ y ∈ g.chain x, PyData.strOk y = true := Net.chain_ok ok (okw x hx2)
        simp -dsimp only [↓Fw.a_disp, ↓Fw.a_pnil, ↓Fw.a_pcons, Fw.v_keys0, Fw.v_keys1, Fw.v_deq, ↓Fw.a_truD1, Fw.v_truD, ↓Fw.a_dqPop, ↓Fw.a_dqApp, Fw.v_isD, ↓Fw.a_dget2, ↓Fw.b_dsetd, ↓Fw.a_star, Fw.v_pop, Fw.v_reverse, ↓Fw.a_tru1, Fw.v_tru_r, ↓Fw.a_gseq, ↓Fw.b_gcons, ↓Fw.b_gnil, ↓Fw.a_seq, ↓Fw.a_next, ↓Fw.a_brk, ↓Fw.a_cont, ↓Fw.a_asg, ↓Fw.a_name, ↓Fw.a_gsub, ↓Fw.b_var, ↓Fw.a_c, ↓Fw.a_op, ↓Fw.a_un, ↓Fw.a_cons, ↓Fw.a_nil, ↓Fw.a_ret, ↓Fw.a_retN, ↓Fw.a_drop, ↓Fw.a_if, ↓Fw.b_test, ↓Fw.b_B, ↓Fw.a_and, ↓Fw.a_or, ↓Fw.a_not, ↓Fw.b_andV, ↓Fw.b_orV, ↓Fw.b_notV, ↓Fw.a_ifE, ↓Fw.a_fn, ↓Fw.a_fnX, ↓Fw.a_hold, ↓Fw.a_holdX, ↓Fw.a_ne_rr, ↓Fw.a_eq_rr, ↓Fw.a_at, ↓Fw.a_atS, ↓Fw.a_step, Fw.v_step, Fw.v_min2, Fw.v_max2, Fw.v_clear, ↓Fw.a_mt, ↓Fw.a_mtX, ↓Fw.a_mk, ↓Fw.a_cb, ↓Fw.a_lst, ↓Fw.a_tup, ↓Fw.a_chain, ↓Fw.a_dnew, ↓Fw.a_start, Fw.v_rU, Int.reduceNeg, Fw.v_add_ii, Fw.v_add_ss, Fw.v_sub_ii, Fw.v_mul_ii, Fw.v_div_ii, Fw.v_mod_ii, Fw.v_pow_ii, Fw.v_lt_ii, Fw.v_gt_ii, Fw.v_le_ii, Fw.v_ge_ii, Fw.v_le_ss, Fw.v_eqS_ii, Fw.v_eqS_ss, Fw.v_neS_ii, Fw.v_neS_ss, Fw.v_eq_ii, Fw.v_eq_ss, Fw.v_eq_bb, Fw.v_ne_ii, Fw.v_ne_ss, Fw.v_ne_bb, Fw.v_ne_tt, Fw.v_eq_tt, Fw.v_in_sc, Fw.v_ix_s, Fw.v_len_s, Fw.v_type, Fw.v_is, ↓Fw.a_bm, ↓Fw.a_bm0, ↓Fw.a_sl, ↓Fw.a_nopart, ↓Fw.a_part, Fw.v_sl_s, Fw.v_sl_r, Fw.v_app, Fw.v_add_rr, ↓Fw.b_ix_r, Fw.b_ix_r, Fw.v_in_r, Fw.v_set_r, Fw.v_len_r, Fw.v_list_r, Fw.v_listA, Fw.v_dictA, Fw.v_int_i, Fw.v_int_b, Fw.v_key_i, Fw.v_key_s, Fw.v_lst, Fw.v_tup, Fw.v_dic, Fw.v_ty_r, Fw.v_ty_s, Fw.v_ty_i, Fw.v_ty_b, Fw.v_ty_n, Fw.v_tyL, Fw.v_same, Fw.v_old, Fw.v_ne, Fw.v_upd, Fw.v_flat_s, Fw.v_inStrs, ↓Fw.a_yes, Fw.v_wipe0, Fw.v_wipe1, Fw.cx_K, Int.reduceToNat, List.length_replicate, Nat.sub_self, Nat.reduceSub, Nat.reduceAdd, List.replicate_zero, List.replicate_succ, List.append_nil, List.length_cons, List.length_nil, List.map_cons, List.map_nil, List.cons_append, List.nil_append, List.getElem?_cons_zero, List.getElem?_cons_succ, List.set_cons_zero, List.set_cons_succ, Option.some.injEq, V.int.injEq, V.bl.injEq, V.ref.injEq, V.str.injEq, exists_eq_left', exists_eq_left, exists_eq_right, exists_and_left, HO.lst.injEq, HO.dK.injEq, HO.tup.injEq, Option.isSome_some, true_and, and_true, Fw.v_m_bool, Fw.v_m_int, Fw.v_m_str, Fw.v_m_list, Fw.v_m_tuple, Fw.v_m_dict, Fw.v_flats, Bool.xor_true, Bool.xor_false, Bool.not_eq_true', decide_eq_false_iff_not, not_true_eq_false, not_false_eq_true, decide_true, decide_false, decide_eq_true_eq, ite_true, ite_false, Bool.not_true, Bool.not_false, Bool.false_eq_true, reduceCtorEq, Fw.isT_NoneType_bool, Fw.isT_NoneType_int, Fw.isT_NoneType_str, Fw.isT_NoneType_list, Fw.isT_NoneType_tuple, Fw.isT_NoneType_dict, Fw.isT_bool_bool, Fw.isT_bool_int, Fw.isT_bool_str, Fw.isT_bool_list, Fw.isT_bool_tuple, Fw.isT_bool_dict, Fw.isT_int_bool, Fw.isT_int_int, Fw.isT_int_str, Fw.isT_int_list, Fw.isT_int_tuple, Fw.isT_int_dict, Fw.isT_str_bool, Fw.isT_str_int, Fw.isT_str_str, Fw.isT_str_list, Fw.isT_str_tuple, Fw.isT_str_dict, Fw.isT_list_bool, Fw.isT_list_int, Fw.isT_list_str, Fw.isT_list_list, Fw.isT_list_tuple, Fw.isT_list_dict, Fw.isT_tuple_bool, Fw.isT_tuple_int, Fw.isT_tuple_str, Fw.isT_tuple_list, Fw.isT_tuple_tuple, Fw.isT_tuple_dict, Fw.isT_dict_bool, Fw.isT_dict_int, Fw.isT_dict_str, Fw.isT_dict_list, Fw.isT_dict_tuple, Fw.isT_dict_dict, hP9, hE9, List.length_map]
        refine f_lst (fun Q z => by
          simp -dsimp only [↓Fw.a_disp, ↓Fw.a_pnil, ↓Fw.a_pcons, Fw.v_keys0, Fw.v_keys1, Fw.v_deq, ↓Fw.a_truD1, Fw.v_truD, ↓Fw.a_dqPop, ↓Fw.a_dqApp, Fw.v_isD, ↓Fw.a_dget2, ↓Fw.b_dsetd, ↓Fw.a_star, Fw.v_pop, Fw.v_reverse, ↓Fw.a_tru1, Fw.v_tru_r, ↓Fw.a_gseq, ↓Fw.b_gcons, ↓Fw.b_gnil, ↓Fw.a_seq, ↓Fw.a_next, ↓Fw.a_brk, ↓Fw.a_cont, ↓Fw.a_asg, ↓Fw.a_name, ↓Fw.a_gsub, ↓Fw.b_var, ↓Fw.a_c, ↓Fw.a_op, ↓Fw.a_un, ↓Fw.a_cons, ↓Fw.a_nil, ↓Fw.a_ret, ↓Fw.a_retN, ↓Fw.a_drop, ↓Fw.a_if, ↓Fw.b_test, ↓Fw.b_B, ↓Fw.a_and, ↓Fw.a_or, ↓Fw.a_not, ↓Fw.b_andV, ↓Fw.b_orV, ↓Fw.b_notV, ↓Fw.a_ifE, ↓Fw.a_fn, ↓Fw.a_fnX, ↓Fw.a_hold, ↓Fw.a_holdX, ↓Fw.a_ne_rr, ↓Fw.a_eq_rr, ↓Fw.a_at, ↓Fw.a_atS, ↓Fw.a_step, Fw.v_step, Fw.v_min2, Fw.v_max2, Fw.v_clear, ↓Fw.a_mt, ↓Fw.a_mtX, ↓Fw.a_mk, ↓Fw.a_cb, ↓Fw.a_lst, ↓Fw.a_tup, ↓Fw.a_chain, ↓Fw.a_dnew, ↓Fw.a_start, Fw.v_rU, Int.reduceNeg, Fw.v_add_ii, Fw.v_add_ss, Fw.v_sub_ii, Fw.v_mul_ii, Fw.v_div_ii, Fw.v_mod_ii, Fw.v_pow_ii, Fw.v_lt_ii, Fw.v_gt_ii, Fw.v_le_ii, Fw.v_ge_ii, Fw.v_le_ss, Fw.v_eqS_ii, Fw.v_eqS_ss, Fw.v_neS_ii, Fw.v_neS_ss, Fw.v_eq_ii, Fw.v_eq_ss, Fw.v_eq_bb, Fw.v_ne_ii, Fw.v_ne_ss, Fw.v_ne_bb, Fw.v_ne_tt, Fw.v_eq_tt, Fw.v_in_sc, Fw.v_ix_s, Fw.v_len_s, Fw.v_type, Fw.v_is, ↓Fw.a_bm, ↓Fw.a_bm0, ↓Fw.a_sl, ↓Fw.a_nopart, ↓Fw.a_part, Fw.v_sl_s, Fw.v_sl_r, Fw.v_app, Fw.v_add_rr, ↓Fw.b_ix_r, Fw.b_ix_r, Fw.v_in_r, Fw.v_set_r, Fw.v_len_r, Fw.v_list_r, Fw.v_listA, Fw.v_dictA, Fw.v_int_i, Fw.v_int_b, Fw.v_key_i, Fw.v_key_s, Fw.v_lst, Fw.v_tup, Fw.v_dic, Fw.v_ty_r, Fw.v_ty_s, Fw.v_ty_i, Fw.v_ty_b, Fw.v_ty_n, Fw.v_tyL, Fw.v_same, Fw.v_old, Fw.v_ne, Fw.v_upd, Fw.v_flat_s, Fw.v_inStrs, ↓Fw.a_yes, Fw.v_wipe0, Fw.v_wipe1, Fw.cx_K, Int.reduceToNat, List.length_replicate, Nat.sub_self, Nat.reduceSub, Nat.reduceAdd, List.replicate_zero, List.replicate_succ, List.append_nil, List.length_cons, List.length_nil, List.map_cons, List.map_nil, List.cons_append, List.nil_append, List.getElem?_cons_zero, List.getElem?_cons_succ, List.set_cons_zero, List.set_cons_succ, Option.some.injEq, V.int.injEq, V.bl.injEq, V.ref.injEq, V.str.injEq, exists_eq_left', exists_eq_left, exists_eq_right, exists_and_left, HO.lst.injEq, HO.dK.injEq, HO.tup.injEq, Option.isSome_some, true_and, and_true, Fw.v_m_bool, Fw.v_m_int, Fw.v_m_str, Fw.v_m_list, Fw.v_m_tuple, Fw.v_m_dict, Fw.v_flats, Bool.xor_true, Bool.xor_false, Bool.not_eq_true', decide_eq_false_iff_not, not_true_eq_false, not_false_eq_true, decide_true, decide_false, decide_eq_true_eq, ite_true, ite_false, Bool.not_true, Bool.not_false, Bool.false_eq_true, reduceCtorEq, Fw.isT_NoneType_bool, Fw.isT_NoneType_int, Fw.isT_NoneType_str, Fw.isT_NoneType_list, Fw.isT_NoneType_tuple, Fw.isT_NoneType_dict, Fw.isT_bool_bool, Fw.isT_bool_int, Fw.isT_bool_str, Fw.isT_bool_list, Fw.isT_bool_tuple, Fw.isT_bool_dict, Fw.isT_int_bool, Fw.isT_int_int, Fw.isT_int_str, Fw.isT_int_list, Fw.isT_int_tuple, Fw.isT_int_dict, Fw.isT_str_bool, Fw.isT_str_int, Fw.isT_str_str, Fw.isT_str_list, Fw.isT_str_tuple, Fw.isT_str_dict, Fw.isT_list_bool, Fw.isT_list_int, Fw.isT_list_str, Fw.isT_list_list, Fw.isT_list_tuple, Fw.isT_list_dict, Fw.isT_tuple_bool, Fw.isT_tuple_int, Fw.isT_tuple_str, Fw.isT_tuple_list, Fw.isT_tuple_tuple, Fw.isT_tuple_dict, Fw.isT_dict_bool, Fw.isT_dict_int, Fw.isT_dict_str, Fw.isT_dict_list, Fw.isT_dict_tuple, Fw.isT_dict_dict]
          exact z) (.inl (.inl hP9)) (fun i σ10 H10 => H10 = H9 ∧ ∃ v13 : Option V, σ10 = [some (.ref a), some (.ref pw), some (.ref p), some (.ref p1), some (.ref p2), v5, v6, some (.str x), some (.ref pS), some (.ref pd), v10, v11, some (.ref pf), v13, none])
          ⟨rfl, none, rfl⟩ (fun i σ10 H10 _ z => by rw [z.1]; exact .inl (.inl hP9)) ?_ ?_
        · rintro i v σ10 H10 N10 hv ⟨rfl, v13, rfl⟩ hN10
          obtain ⟨f, hf, rfl⟩ := map_str_get hv
          simp -dsimp only [↓Fw.a_disp, ↓Fw.a_pnil, ↓Fw.a_pcons, Fw.v_keys0, Fw.v_keys1, Fw.v_deq, ↓Fw.a_truD1, Fw.v_truD, ↓Fw.a_dqPop, ↓Fw.a_dqApp, Fw.v_isD, ↓Fw.a_dget2, ↓Fw.b_dsetd, ↓Fw.a_star, Fw.v_pop, Fw.v_reverse, ↓Fw.a_tru1, Fw.v_tru_r, ↓Fw.a_gseq, ↓Fw.b_gcons, ↓Fw.b_gnil, ↓Fw.a_seq, ↓Fw.a_next, ↓Fw.a_brk, ↓Fw.a_cont, ↓Fw.a_asg, ↓Fw.a_name, ↓Fw.a_gsub, ↓Fw.b_var, ↓Fw.a_c, ↓Fw.a_op, ↓Fw.a_un, ↓Fw.a_cons, ↓Fw.a_nil, ↓Fw.a_ret, ↓Fw.a_retN, ↓Fw.a_drop, ↓Fw.a_if, ↓Fw.b_test, ↓Fw.b_B, ↓Fw.a_and, ↓Fw.a_or, ↓Fw.a_not, ↓Fw.b_andV, ↓Fw.b_orV, ↓Fw.b_notV, ↓Fw.a_ifE, ↓Fw.a_fn, ↓Fw.a_fnX, ↓Fw.a_hold, ↓Fw.a_holdX, ↓Fw.a_ne_rr, ↓Fw.a_eq_rr, ↓Fw.a_at, ↓Fw.a_atS, ↓Fw.a_step, Fw.v_step, Fw.v_min2, Fw.v_max2, Fw.v_clear, ↓Fw.a_mt, ↓Fw.a_mtX, ↓Fw.a_mk, ↓Fw.a_cb, ↓Fw.a_lst, ↓Fw.a_tup, ↓Fw.a_chain, ↓Fw.a_dnew, ↓Fw.a_start, Fw.v_rU, Int.reduceNeg, Fw.v_add_ii, Fw.v_add_ss, Fw.v_sub_ii, Fw.v_mul_ii, Fw.v_div_ii, Fw.v_mod_ii, Fw.v_pow_ii, Fw.v_lt_ii, Fw.v_gt_ii, Fw.v_le_ii, Fw.v_ge_ii, Fw.v_le_ss, Fw.v_eqS_ii, Fw.v_eqS_ss, Fw.v_neS_ii, Fw.v_neS_ss, Fw.v_eq_ii, Fw.v_eq_ss, Fw.v_eq_bb, Fw.v_ne_ii, Fw.v_ne_ss, Fw.v_ne_bb, Fw.v_ne_tt, Fw.v_eq_tt, Fw.v_in_sc, Fw.v_ix_s, Fw.v_len_s, Fw.v_type, Fw.v_is, ↓Fw.a_bm, ↓Fw.a_bm0, ↓Fw.a_sl, ↓Fw.a_nopart, ↓Fw.a_part, Fw.v_sl_s, Fw.v_sl_r, Fw.v_app, Fw.v_add_rr, ↓Fw.b_ix_r, Fw.b_ix_r, Fw.v_in_r, Fw.v_set_r, Fw.v_len_r, Fw.v_list_r, Fw.v_listA, Fw.v_dictA, Fw.v_int_i, Fw.v_int_b, Fw.v_key_i, Fw.v_key_s, Fw.v_lst, Fw.v_tup, Fw.v_dic, Fw.v_ty_r, Fw.v_ty_s, Fw.v_ty_i, Fw.v_ty_b, Fw.v_ty_n, Fw.v_tyL, Fw.v_same, Fw.v_old, Fw.v_ne, Fw.v_upd, Fw.v_flat_s, Fw.v_inStrs, ↓Fw.a_yes, Fw.v_wipe0, Fw.v_wipe1, Fw.cx_K, Int.reduceToNat, List.length_replicate, Nat.sub_self, Nat.reduceSub, Nat.reduceAdd, List.replicate_zero, List.replicate_succ, List.append_nil, List.length_cons, List.length_nil, List.map_cons, List.map_nil, List.cons_append, List.nil_append, List.getElem?_cons_zero, List.getElem?_cons_succ, List.set_cons_zero, List.set_cons_succ, Option.some.injEq, V.int.injEq, V.bl.injEq, V.ref.injEq, V.str.injEq, exists_eq_left', exists_eq_left, exists_eq_right, exists_and_left, HO.lst.injEq, HO.dK.injEq, HO.tup.injEq, Option.isSome_some, true_and, and_true, Fw.v_m_bool, Fw.v_m_int, Fw.v_m_str, Fw.v_m_list, Fw.v_m_tuple, Fw.v_m_dict, Fw.v_flats, Bool.xor_true, Bool.xor_false, Bool.not_eq_true', decide_eq_false_iff_not, not_true_eq_false, not_false_eq_true, decide_true, decide_false, decide_eq_true_eq, ite_true, ite_false, Bool.not_true, Bool.not_false, Bool.false_eq_true, reduceCtorEq, Fw.isT_NoneType_bool, Fw.isT_NoneType_int, Fw.isT_NoneType_str, Fw.isT_NoneType_list, Fw.isT_NoneType_tuple, Fw.isT_NoneType_dict, Fw.isT_bool_bool, Fw.isT_bool_int, Fw.isT_bool_str, Fw.isT_bool_list, Fw.isT_bool_tuple, Fw.isT_bool_dict, Fw.isT_int_bool, Fw.isT_int_int, Fw.isT_int_str, Fw.isT_int_list, Fw.isT_int_tuple, Fw.isT_int_dict, Fw.isT_str_bool, Fw.isT_str_int, Fw.isT_str_str, Fw.isT_str_list, Fw.isT_str_tuple, Fw.isT_str_dict, Fw.isT_list_bool, Fw.isT_list_int, Fw.isT_list_str, Fw.isT_list_list, Fw.isT_list_tuple, Fw.isT_list_dict, Fw.isT_tuple_bool, Fw.isT_tuple_int, Fw.isT_tuple_str, Fw.isT_tuple_list, Fw.isT_tuple_tuple, Fw.isT_tuple_dict, Fw.isT_dict_bool, Fw.isT_dict_int, Fw.isT_dict_str, Fw.isT_dict_list, Fw.isT_dict_tuple, Fw.isT_dict_dict]
          exact hN10 _ _ ⟨rfl, _, rfl⟩
        · rintro σ10 H10 ⟨rfl, v13, rfl⟩
          simp -dsimp +contextual only [↓Fw.a_disp, ↓Fw.a_pnil, ↓Fw.a_pcons, Fw.v_keys0, Fw.v_keys1, Fw.v_deq, ↓Fw.a_truD1, Fw.v_truD, ↓Fw.a_dqPop, ↓Fw.a_dqApp, Fw.v_isD, ↓Fw.a_dget2, ↓Fw.b_dsetd, ↓Fw.a_star, Fw.v_pop, Fw.v_reverse, ↓Fw.a_tru1, Fw.v_tru_r, ↓Fw.a_gseq, ↓Fw.b_gcons, ↓Fw.b_gnil, ↓Fw.a_seq, ↓Fw.a_next, ↓Fw.a_brk, ↓Fw.a_cont, ↓Fw.a_asg, ↓Fw.a_name, ↓Fw.a_gsub, ↓Fw.b_var, ↓Fw.a_c, ↓Fw.a_op, ↓Fw.a_un, ↓Fw.a_cons, ↓Fw.a_nil, ↓Fw.a_ret, ↓Fw.a_retN, ↓Fw.a_drop, ↓Fw.a_if, ↓Fw.b_test, ↓Fw.b_B, ↓Fw.a_and, ↓Fw.a_or, ↓Fw.a_not, ↓Fw.b_andV, ↓Fw.b_orV, ↓Fw.b_notV, ↓Fw.a_ifE, ↓Fw.a_fn, ↓Fw.a_fnX, ↓Fw.a_hold, ↓Fw.a_holdX, ↓Fw.a_ne_rr, ↓Fw.a_eq_rr, ↓Fw.a_at, ↓Fw.a_atS, ↓Fw.a_step, Fw.v_step, Fw.v_min2, Fw.v_max2, Fw.v_clear, ↓Fw.a_mt, ↓Fw.a_mtX, ↓Fw.a_mk, ↓Fw.a_cb, ↓Fw.a_lst, ↓Fw.a_tup, ↓Fw.a_chain, ↓Fw.a_dnew, ↓Fw.a_start, Fw.v_rU, Int.reduceNeg, Fw.v_add_ii, Fw.v_add_ss, Fw.v_sub_ii, Fw.v_mul_ii, Fw.v_div_ii, Fw.v_mod_ii, Fw.v_pow_ii, Fw.v_lt_ii, Fw.v_gt_ii, Fw.v_le_ii, Fw.v_ge_ii, Fw.v_le_ss, Fw.v_eqS_ii, Fw.v_eqS_ss, Fw.v_neS_ii, Fw.v_neS_ss, Fw.v_eq_ii, Fw.v_eq_ss, Fw.v_eq_bb, Fw.v_ne_ii, Fw.v_ne_ss, Fw.v_ne_bb, Fw.v_ne_tt, Fw.v_eq_tt, Fw.v_in_sc, Fw.v_ix_s, Fw.v_len_s, Fw.v_type, Fw.v_is, ↓Fw.a_bm, ↓Fw.a_bm0, ↓Fw.a_sl, ↓Fw.a_nopart, ↓Fw.a_part, Fw.v_sl_s, Fw.v_sl_r, Fw.v_app, Fw.v_add_rr, ↓Fw.b_ix_r, Fw.b_ix_r, Fw.v_in_r, Fw.v_set_r, Fw.v_len_r, Fw.v_list_r, Fw.v_listA, Fw.v_dictA, Fw.v_int_i, Fw.v_int_b, Fw.v_key_i, Fw.v_key_s, Fw.v_lst, Fw.v_tup, Fw.v_dic, Fw.v_ty_r, Fw.v_ty_s, Fw.v_ty_i, Fw.v_ty_b, Fw.v_ty_n, Fw.v_tyL, Fw.v_same, Fw.v_old, Fw.v_ne, Fw.v_upd, Fw.v_flat_s, Fw.v_inStrs, ↓Fw.a_yes, Fw.v_wipe0, Fw.v_wipe1, Fw.cx_K, Int.reduceToNat, List.length_replicate, Nat.sub_self, Nat.reduceSub, Nat.reduceAdd, List.replicate_zero, List.replicate_succ, List.append_nil, List.length_cons, List.length_nil, List.map_cons, List.map_nil, List.cons_append, List.nil_append, List.getElem?_cons_zero, List.getElem?_cons_succ, List.set_cons_zero, List.set_cons_succ, Option.some.injEq, V.int.injEq, V.bl.injEq, V.ref.injEq, V.str.injEq, exists_eq_left', exists_eq_left, exists_eq_right, exists_and_left, HO.lst.injEq, HO.dK.injEq, HO.tup.injEq, Option.isSome_some, true_and, and_true, Fw.v_m_bool, Fw.v_m_int, Fw.v_m_str, Fw.v_m_list, Fw.v_m_tuple, Fw.v_m_dict, Fw.v_flats, Bool.xor_true, Bool.xor_false, Bool.not_eq_true', decide_eq_false_iff_not, not_true_eq_false, not_false_eq_true, decide_true, decide_false, decide_eq_true_eq, ite_true, ite_false, Bool.not_true, Bool.not_false, Bool.false_eq_true, reduceCtorEq, Fw.isT_NoneType_bool, Fw.isT_NoneType_int, Fw.isT_NoneType_str, Fw.isT_NoneType_list, Fw.isT_NoneType_tuple, Fw.isT_NoneType_dict, Fw.isT_bool_bool, Fw.isT_bool_int, Fw.isT_bool_str, Fw.isT_bool_list, Fw.isT_bool_tuple, Fw.isT_bool_dict, Fw.isT_int_bool, Fw.isT_int_int, Fw.isT_int_str, Fw.isT_int_list, Fw.isT_int_tuple, Fw.isT_int_dict, Fw.isT_str_bool, Fw.isT_str_int, Fw.isT_str_str, Fw.isT_str_list, Fw.isT_str_tuple, Fw.isT_str_dict, Fw.isT_list_bool, Fw.isT_list_int, Fw.isT_list_str, Fw.isT_list_list, Fw.isT_list_tuple, Fw.isT_list_dict, Fw.isT_tuple_bool, Fw.isT_tuple_int, Fw.isT_tuple_str, Fw.isT_tuple_list, Fw.isT_tuple_tuple, Fw.isT_tuple_dict, Fw.isT_dict_bool, Fw.isT_dict_int, Fw.isT_dict_str, Fw.isT_dict_list, Fw.isT_dict_tuple, Fw.isT_dict_dict, hF9, hD9]
          refine fun po2 ho2 pt2 ht2 => ?_
          obtain ⟨sm11, hO11, hT11⟩ := two_new (u := .lst (g.done.map V.str)) ho2 ht2
          generalize upd (upd H10 po2 (.lst (g.full.map V.str))) pt2 (.lst (g.done.map V.str)) = H11 at sm11 hO11 hT11 ⊢
          refine ⟨g, ok, hO11, ((hN5.same sm7).same sm79).same sm11, hT11, fun pg H12 sm12 hpg hG12 => ?_⟩
          have sm1012 := Same.trans sm11 sm12
          have hE12 := sm1012 _ _ hE9
          have hF12 := sm1012 _ _ hF9
          have hP12 := sm1012 _ _ hP9
          simp -dsimp only [↓Fw.a_disp, ↓Fw.a_pnil, ↓Fw.a_pcons, Fw.v_keys0, Fw.v_keys1, Fw.v_deq, ↓Fw.a_truD1, Fw.v_truD, ↓Fw.a_dqPop, ↓Fw.a_dqApp, Fw.v_isD, ↓Fw.a_dget2, ↓Fw.b_dsetd, ↓Fw.a_star, Fw.v_pop, Fw.v_reverse, ↓Fw.a_tru1, Fw.v_tru_r, ↓Fw.a_gseq, ↓Fw.b_gcons, ↓Fw.b_gnil, ↓Fw.a_seq, ↓Fw.a_next, ↓Fw.a_brk, ↓Fw.a_cont, ↓Fw.a_asg, ↓Fw.a_name, ↓Fw.a_gsub, ↓Fw.b_var, ↓Fw.a_c, ↓Fw.a_op, ↓Fw.a_un, ↓Fw.a_cons, ↓Fw.a_nil, ↓Fw.a_ret, ↓Fw.a_retN, ↓Fw.a_drop, ↓Fw.a_if, ↓Fw.b_test, ↓Fw.b_B, ↓Fw.a_and, ↓Fw.a_or, ↓Fw.a_not, ↓Fw.b_andV, ↓Fw.b_orV, ↓Fw.b_notV, ↓Fw.a_ifE, ↓Fw.a_fn, ↓Fw.a_fnX, ↓Fw.a_hold, ↓Fw.a_holdX, ↓Fw.a_ne_rr, ↓Fw.a_eq_rr, ↓Fw.a_at, ↓Fw.a_atS, ↓Fw.a_step, Fw.v_step, Fw.v_min2, Fw.v_max2, Fw.v_clear, ↓Fw.a_mt, ↓Fw.a_mtX, ↓Fw.a_mk, ↓Fw.a_cb, ↓Fw.a_lst, ↓Fw.a_tup, ↓Fw.a_chain, ↓Fw.a_dnew, ↓Fw.a_start, Fw.v_rU, Int.reduceNeg, Fw.v_add_ii, Fw.v_add_ss, Fw.v_sub_ii, Fw.v_mul_ii, Fw.v_div_ii, Fw.v_mod_ii, Fw.v_pow_ii, Fw.v_lt_ii, Fw.v_gt_ii, Fw.v_le_ii, Fw.v_ge_ii, Fw.v_le_ss, Fw.v_eqS_ii, Fw.v_eqS_ss, Fw.v_neS_ii, Fw.v_neS_ss, Fw.v_eq_ii, Fw.v_eq_ss, Fw.v_eq_bb, Fw.v_ne_ii, Fw.v_ne_ss, Fw.v_ne_bb, Fw.v_ne_tt, Fw.v_eq_tt, Fw.v_in_sc, Fw.v_ix_s, Fw.v_len_s, Fw.v_type, Fw.v_is, ↓Fw.a_bm, ↓Fw.a_bm0, ↓Fw.a_sl, ↓Fw.a_nopart, ↓Fw.a_part, Fw.v_sl_s, Fw.v_sl_r, Fw.v_app, Fw.v_add_rr, ↓Fw.b_ix_r, Fw.b_ix_r, Fw.v_in_r, Fw.v_set_r, Fw.v_len_r, Fw.v_list_r, Fw.v_listA, Fw.v_dictA, Fw.v_int_i, Fw.v_int_b, Fw.v_key_i, Fw.v_key_s, Fw.v_lst, Fw.v_tup, Fw.v_dic, Fw.v_ty_r, Fw.v_ty_s, Fw.v_ty_i, Fw.v_ty_b, Fw.v_ty_n, Fw.v_tyL, Fw.v_same, Fw.v_old, Fw.v_ne, Fw.v_upd, Fw.v_flat_s, Fw.v_inStrs, ↓Fw.a_yes, Fw.v_wipe0, Fw.v_wipe1, Fw.cx_K, Int.reduceToNat, List.length_replicate, Nat.sub_self, Nat.reduceSub, Nat.reduceAdd, List.replicate_zero, List.replicate_succ, List.append_nil, List.length_cons, List.length_nil, List.map_cons, List.map_nil, List.cons_append, List.nil_append, List.getElem?_cons_zero, List.getElem?_cons_succ, List.set_cons_zero, List.set_cons_succ, Option.some.injEq, V.int.injEq, V.bl.injEq, V.ref.injEq, V.str.injEq, exists_eq_left', exists_eq_left, exists_eq_right, exists_and_left, HO.lst.injEq, HO.dK.injEq, HO.tup.injEq, Option.isSome_some, true_and, and_true, Fw.v_m_bool, Fw.v_m_int, Fw.v_m_str, Fw.v_m_list, Fw.v_m_tuple, Fw.v_m_dict, Fw.v_flats, Bool.xor_true, Bool.xor_false, Bool.not_eq_true', decide_eq_false_iff_not, not_true_eq_false, not_false_eq_true, decide_true, decide_false, decide_eq_true_eq, ite_true, ite_false, Bool.not_true, Bool.not_false, Bool.false_eq_true, reduceCtorEq, Fw.isT_NoneType_bool, Fw.isT_NoneType_int, Fw.isT_NoneType_str, Fw.isT_NoneType_list, Fw.isT_NoneType_tuple, Fw.isT_NoneType_dict, Fw.isT_bool_bool, Fw.isT_bool_int, Fw.isT_bool_str, Fw.isT_bool_list, Fw.isT_bool_tuple, Fw.isT_bool_dict, Fw.isT_int_bool, Fw.isT_int_int, Fw.isT_int_str, Fw.isT_int_list, Fw.isT_int_tuple, Fw.isT_int_dict, Fw.isT_str_bool, Fw.isT_str_int, Fw.isT_str_str, Fw.isT_str_list, Fw.isT_str_tuple, Fw.isT_str_dict, Fw.isT_list_bool, Fw.isT_list_int, Fw.isT_list_str, Fw.isT_list_list, Fw.isT_list_tuple, Fw.isT_list_dict, Fw.isT_tuple_bool, Fw.isT_tuple_int, Fw.isT_tuple_str, Fw.isT_tuple_list, Fw.isT_tuple_tuple, Fw.isT_tuple_dict, Fw.isT_dict_bool, Fw.isT_dict_int, Fw.isT_dict_str, Fw.isT_dict_list, Fw.isT_dict_tuple, Fw.isT_dict_dict, hG12]
          refine eq_strs (lst_of hP12) (lst_of hE12) okc okc ?_
          simp -dsimp only [↓Fw.a_disp, ↓Fw.a_pnil, ↓Fw.a_pcons, Fw.v_keys0, Fw.v_keys1, Fw.v_deq, ↓Fw.a_truD1, Fw.v_truD, ↓Fw.a_dqPop, ↓Fw.a_dqApp, Fw.v_isD, ↓Fw.a_dget2, ↓Fw.b_dsetd, ↓Fw.a_star, Fw.v_pop, Fw.v_reverse, ↓Fw.a_tru1, Fw.v_tru_r, ↓Fw.a_gseq, ↓Fw.b_gcons, ↓Fw.b_gnil, ↓Fw.a_seq, ↓Fw.a_next, ↓Fw.a_brk, ↓Fw.a_cont, ↓Fw.a_asg, ↓Fw.a_name, ↓Fw.a_gsub, ↓Fw.b_var, ↓Fw.a_c, ↓Fw.a_op, ↓Fw.a_un, ↓Fw.a_cons, ↓Fw.a_nil, ↓Fw.a_ret, ↓Fw.a_retN, ↓Fw.a_drop, ↓Fw.a_if, ↓Fw.b_test, ↓Fw.b_B, ↓Fw.a_and, ↓Fw.a_or, ↓Fw.a_not, ↓Fw.b_andV, ↓Fw.b_orV, ↓Fw.b_notV, ↓Fw.a_ifE, ↓Fw.a_fn, ↓Fw.a_fnX, ↓Fw.a_hold, ↓Fw.a_holdX, ↓Fw.a_ne_rr, ↓Fw.a_eq_rr, ↓Fw.a_at, ↓Fw.a_atS, ↓Fw.a_step, Fw.v_step, Fw.v_min2, Fw.v_max2, Fw.v_clear, ↓Fw.a_mt, ↓Fw.a_mtX, ↓Fw.a_mk, ↓Fw.a_cb, ↓Fw.a_lst, ↓Fw.a_tup, ↓Fw.a_chain, ↓Fw.a_dnew, ↓Fw.a_start, Fw.v_rU, Int.reduceNeg, Fw.v_add_ii, Fw.v_add_ss, Fw.v_sub_ii, Fw.v_mul_ii, Fw.v_div_ii, Fw.v_mod_ii, Fw.v_pow_ii, Fw.v_lt_ii, Fw.v_gt_ii, Fw.v_le_ii, Fw.v_ge_ii, Fw.v_le_ss, Fw.v_eqS_ii, Fw.v_eqS_ss, Fw.v_neS_ii, Fw.v_neS_ss, Fw.v_eq_ii, Fw.v_eq_ss, Fw.v_eq_bb, Fw.v_ne_ii, Fw.v_ne_ss, Fw.v_ne_bb, Fw.v_ne_tt, Fw.v_eq_tt, Fw.v_in_sc, Fw.v_ix_s, Fw.v_len_s, Fw.v_type, Fw.v_is, ↓Fw.a_bm, ↓Fw.a_bm0, ↓Fw.a_sl, ↓Fw.a_nopart, ↓Fw.a_part, Fw.v_sl_s, Fw.v_sl_r, Fw.v_app, Fw.v_add_rr, ↓Fw.b_ix_r, Fw.b_ix_r, Fw.v_in_r, Fw.v_set_r, Fw.v_len_r, Fw.v_list_r, Fw.v_listA, Fw.v_dictA, Fw.v_int_i, Fw.v_int_b, Fw.v_key_i, Fw.v_key_s, Fw.v_lst, Fw.v_tup, Fw.v_dic, Fw.v_ty_r, Fw.v_ty_s, Fw.v_ty_i, Fw.v_ty_b, Fw.v_ty_n, Fw.v_tyL, Fw.v_same, Fw.v_old, Fw.v_ne, Fw.v_upd, Fw.v_flat_s, Fw.v_inStrs, ↓Fw.a_yes, Fw.v_wipe0, Fw.v_wipe1, Fw.cx_K, Int.reduceToNat, List.length_replicate, Nat.sub_self, Nat.reduceSub, Nat.reduceAdd, List.replicate_zero, List.replicate_succ, List.append_nil, List.length_cons, List.length_nil, List.map_cons, List.map_nil, List.cons_append, List.nil_append, List.getElem?_cons_zero, List.getElem?_cons_succ, List.set_cons_zero, List.set_cons_succ, Option.some.injEq, V.int.injEq, V.bl.injEq, V.ref.injEq, V.str.injEq, exists_eq_left', exists_eq_left, exists_eq_right, exists_and_left, HO.lst.injEq, HO.dK.injEq, HO.tup.injEq, Option.isSome_some, true_and, and_true, Fw.v_m_bool, Fw.v_m_int, Fw.v_m_str, Fw.v_m_list, Fw.v_m_tuple, Fw.v_m_dict, Fw.v_flats, Bool.xor_true, Bool.xor_false, Bool.not_eq_true', decide_eq_false_iff_not, not_true_eq_false, not_false_eq_true, decide_true, decide_false, decide_eq_true_eq, ite_true, ite_false, Bool.not_true, Bool.not_false, Bool.false_eq_true, reduceCtorEq, Fw.isT_NoneType_bool, Fw.isT_NoneType_int, Fw.isT_NoneType_str, Fw.isT_NoneType_list, Fw.isT_NoneType_tuple, Fw.isT_NoneType_dict, Fw.isT_bool_bool, Fw.isT_bool_int, Fw.isT_bool_str, Fw.isT_bool_list, Fw.isT_bool_tuple, Fw.isT_bool_dict, Fw.isT_int_bool, Fw.isT_int_int, Fw.isT_int_str, Fw.isT_int_list, Fw.isT_int_tuple, Fw.isT_int_dict, Fw.isT_str_bool, Fw.isT_str_int, Fw.isT_str_str, Fw.isT_str_list, Fw.isT_str_tuple, Fw.isT_str_dict, Fw.isT_list_bool, Fw.isT_list_int, Fw.isT_list_str, Fw.isT_list_list, Fw.isT_list_tuple, Fw.isT_list_dict, Fw.isT_tuple_bool, Fw.isT_tuple_int, Fw.isT_tuple_str, Fw.isT_tuple_list, Fw.isT_tuple_tuple, Fw.isT_tuple_dict, Fw.isT_dict_bool, Fw.isT_dict_int, Fw.isT_dict_str, Fw.isT_dict_list, Fw.isT_dict_tuple, Fw.isT_dict_dict, hF12]
          refine ite2 (fun c => ⟨by decide, fun qe he => ?_⟩) fun c => ?_
          · have hE : upd H12 qe (.lst []) qe = some (.lst (([] : List Str).map V.str)) := upd_same
            refine eq_strs (lst_of (same_new he _ _ hE12)) (lst_of hE) okc (fun _ z => by cases z) ?_
            simp -dsimp only [↓Fw.a_disp, ↓Fw.a_pnil, ↓Fw.a_pcons, Fw.v_keys0, Fw.v_keys1, Fw.v_deq, ↓Fw.a_truD1, Fw.v_truD, ↓Fw.a_dqPop, ↓Fw.a_dqApp, Fw.v_isD, ↓Fw.a_dget2, ↓Fw.b_dsetd, ↓Fw.a_star, Fw.v_pop, Fw.v_reverse, ↓Fw.a_tru1, Fw.v_tru_r, ↓Fw.a_gseq, ↓Fw.b_gcons, ↓Fw.b_gnil, ↓Fw.a_seq, ↓Fw.a_next, ↓Fw.a_brk, ↓Fw.a_cont, ↓Fw.a_asg, ↓Fw.a_name, ↓Fw.a_gsub, ↓Fw.b_var, ↓Fw.a_c, ↓Fw.a_op, ↓Fw.a_un, ↓Fw.a_cons, ↓Fw.a_nil, ↓Fw.a_ret, ↓Fw.a_retN, ↓Fw.a_drop, ↓Fw.a_if, ↓Fw.b_test, ↓Fw.b_B, ↓Fw.a_and, ↓Fw.a_or, ↓Fw.a_not, ↓Fw.b_andV, ↓Fw.b_orV, ↓Fw.b_notV, ↓Fw.a_ifE, ↓Fw.a_fn, ↓Fw.a_fnX, ↓Fw.a_hold, ↓Fw.a_holdX, ↓Fw.a_ne_rr, ↓Fw.a_eq_rr, ↓Fw.a_at, ↓Fw.a_atS, ↓Fw.a_step, Fw.v_step, Fw.v_min2, Fw.v_max2, Fw.v_clear, ↓Fw.a_mt, ↓Fw.a_mtX, ↓Fw.a_mk, ↓Fw.a_cb, ↓Fw.a_lst, ↓Fw.a_tup, ↓Fw.a_chain, ↓Fw.a_dnew, ↓Fw.a_start, Fw.v_rU, Int.reduceNeg, Fw.v_add_ii, Fw.v_add_ss, Fw.v_sub_ii, Fw.v_mul_ii, Fw.v_div_ii, Fw.v_mod_ii, Fw.v_pow_ii, Fw.v_lt_ii, Fw.v_gt_ii, Fw.v_le_ii, Fw.v_ge_ii, Fw.v_le_ss, Fw.v_eqS_ii, Fw.v_eqS_ss, Fw.v_neS_ii, Fw.v_neS_ss, Fw.v_eq_ii, Fw.v_eq_ss, Fw.v_eq_bb, Fw.v_ne_ii, Fw.v_ne_ss, Fw.v_ne_bb, Fw.v_ne_tt, Fw.v_eq_tt, Fw.v_in_sc, Fw.v_ix_s, Fw.v_len_s, Fw.v_type, Fw.v_is, ↓Fw.a_bm, ↓Fw.a_bm0, ↓Fw.a_sl, ↓Fw.a_nopart, ↓Fw.a_part, Fw.v_sl_s, Fw.v_sl_r, Fw.v_app, Fw.v_add_rr, ↓Fw.b_ix_r, Fw.b_ix_r, Fw.v_in_r, Fw.v_set_r, Fw.v_len_r, Fw.v_list_r, Fw.v_listA, Fw.v_dictA, Fw.v_int_i, Fw.v_int_b, Fw.v_key_i, Fw.v_key_s, Fw.v_lst, Fw.v_tup, Fw.v_dic, Fw.v_ty_r, Fw.v_ty_s, Fw.v_ty_i, Fw.v_ty_b, Fw.v_ty_n, Fw.v_tyL, Fw.v_same, Fw.v_old, Fw.v_ne, Fw.v_upd, Fw.v_flat_s, Fw.v_inStrs, ↓Fw.a_yes, Fw.v_wipe0, Fw.v_wipe1, Fw.cx_K, Int.reduceToNat, List.length_replicate, Nat.sub_self, Nat.reduceSub, Nat.reduceAdd, List.replicate_zero, List.replicate_succ, List.append_nil, List.length_cons, List.length_nil, List.map_cons, List.map_nil, List.cons_append, List.nil_append, List.getElem?_cons_zero, List.getElem?_cons_succ, List.set_cons_zero, List.set_cons_succ, Option.some.injEq, V.int.injEq, V.bl.injEq, V.ref.injEq, V.str.injEq, exists_eq_left', exists_eq_left, exists_eq_right, exists_and_left, HO.lst.injEq, HO.dK.injEq, HO.tup.injEq, Option.isSome_some, true_and, and_true, Fw.v_m_bool, Fw.v_m_int, Fw.v_m_str, Fw.v_m_list, Fw.v_m_tuple, Fw.v_m_dict, Fw.v_flats, Bool.xor_true, Bool.xor_false, Bool.not_eq_true', decide_eq_false_iff_not, not_true_eq_false, not_false_eq_true, decide_true, decide_false, decide_eq_true_eq, ite_true, ite_false, Bool.not_true, Bool.not_false, Bool.false_eq_true, reduceCtorEq, Fw.isT_NoneType_bool, Fw.isT_NoneType_int, Fw.isT_NoneType_str, Fw.isT_NoneType_list, Fw.isT_NoneType_tuple, Fw.isT_NoneType_dict, Fw.isT_bool_bool, Fw.isT_bool_int, Fw.isT_bool_str, Fw.isT_bool_list, Fw.isT_bool_tuple, Fw.isT_bool_dict, Fw.isT_int_bool, Fw.isT_int_int, Fw.isT_int_str, Fw.isT_int_list, Fw.isT_int_tuple, Fw.isT_int_dict, Fw.isT_str_bool, Fw.isT_str_int, Fw.isT_str_str, Fw.isT_str_list, Fw.isT_str_tuple, Fw.isT_str_dict, Fw.isT_list_bool, Fw.isT_list_int, Fw.isT_list_str, Fw.isT_list_list, Fw.isT_list_tuple, Fw.isT_list_dict, Fw.isT_tuple_bool, Fw.isT_tuple_int, Fw.isT_tuple_str, Fw.isT_tuple_list, Fw.isT_tuple_tuple, Fw.isT_tuple_dict, Fw.isT_dict_bool, Fw.isT_dict_int, Fw.isT_dict_str, Fw.isT_dict_list, Fw.isT_dict_tuple, Fw.isT_dict_dict]
            rw [decide_eq_true (show decide (x ∈ g.great) = decide (g.chain x = []) from decide_eq_decide.mpr (Net.chain_nil_iff ok c).symm)]
            exact q _
          · have ng : ¬ x ∈ g.great := fun z => c (List.Sublist.mem z Net.great_sub)
            rw [decide_eq_true ng]
            exact q _
    · exact h.elim
end
theorem all_ok {P : Program} {w : World} {K : PySem.W.Frag} {mg : Str → Option Value}  (B : Blt mg)
  (S_needing_of : Src K mg "needing_of" ["needs"] s_needing_of) (S_greatest : Src K mg "greatest" ["full", "needs", "done"] s_greatest) (S_way_to : Src K mg "_way_to" ["name", "reached_from"] s_way_to) (S_chain : Src K mg "chain" ["name", "full", "needs", "done"] s_chain) (S_cell_at : Src K mg "_law_cell_at" ["_law_script", "_law_k"] s_cell_at) (S_mixed : Src K mg "_law_mixed" ["_law_number", "_law_k"] s_mixed) (S_word : Src K mg "_law_word" ["_law_k", "_law_cell"] s_word) (S_words : Src K mg "_law_words" ["_law_script"] s_words) (S_needs_by : Src K mg "_law_needs_by" ["_law_cell", "_law_words_here"] s_needs_by) (S_steps : Src K mg "_law_steps" ["_law_words_here", "_law_full", "_law_needs", "_law_done"] s_steps) (S_law : Src K mg "law" ["_law_script"] s_law)
  (g_deque : mg "deque" = some (.type "collections.deque"))
  (base : Heap) : Fn P w K mg base 4 "law" ["_law_script"] (sp_law K) :=
  have G_needing_of := ok_needing_of (P := P) (w := w) (base := base) S_needing_of B 
  have G_greatest := ok_greatest (P := P) (w := w) (base := base) S_greatest B G_needing_of
  have G__way_to := ok_way_to (P := P) (w := w) (base := base) S_way_to B 
  have G_chain := ok_chain (P := P) (w := w) (base := base) S_chain B G__way_to g_deque
  have G__law_cell_at := ok_cell_at (P := P) (w := w) (base := base) S_cell_at B 
  have G__law_mixed := ok_mixed (P := P) (w := w) (base := base) S_mixed B 
  have G__law_word := ok_word (P := P) (w := w) (base := base) S_word B G__law_mixed
  have G__law_words := ok_words (P := P) (w := w) (base := base) S_words B G__law_cell_at G__law_word
  have G__law_needs_by := ok_needs_by (P := P) (w := w) (base := base) S_needs_by B 
  have G__law_steps := ok_steps (P := P) (w := w) (base := base) S_steps B 
  ok_law (P := P) (w := w) (base := base) S_law B G_greatest G_chain G__law_cell_at G__law_mixed G__law_words G__law_needs_by G__law_steps
theorem all_mk {P : Program} {w : World} {K : PySem.W.Frag} {h : Heap} {mg : Str → Option Value} {fa : Addr} (X : K.In h) (G : h.Ns mainGlobals mg) (hfa : mg "law" = some (.ref fa))
    {f_needing_of : Addr} {oc_needing_of kV_needing_of doc_needing_of pm_needing_of cd_needing_of ct_needing_of : Value} {od_needing_of an_needing_of : Option Addr} {osl_needing_of : Array (Option Value)}
    {f_greatest : Addr} {oc_greatest kV_greatest doc_greatest pm_greatest cd_greatest ct_greatest : Value} {od_greatest an_greatest : Option Addr} {osl_greatest : Array (Option Value)}
    {f_way_to : Addr} {oc_way_to kV_way_to doc_way_to pm_way_to cd_way_to ct_way_to : Value} {od_way_to an_way_to : Option Addr} {osl_way_to : Array (Option Value)}
    {f_chain : Addr} {oc_chain kV_chain doc_chain pm_chain cd_chain ct_chain : Value} {od_chain an_chain : Option Addr} {osl_chain : Array (Option Value)}
    {f_cell_at : Addr} {oc_cell_at kV_cell_at doc_cell_at pm_cell_at cd_cell_at ct_cell_at : Value} {od_cell_at an_cell_at : Option Addr} {osl_cell_at : Array (Option Value)}
    {f_mixed : Addr} {oc_mixed kV_mixed doc_mixed pm_mixed cd_mixed ct_mixed : Value} {od_mixed an_mixed : Option Addr} {osl_mixed : Array (Option Value)}
    {f_word : Addr} {oc_word kV_word doc_word pm_word cd_word ct_word : Value} {od_word an_word : Option Addr} {osl_word : Array (Option Value)}
    {f_words : Addr} {oc_words kV_words doc_words pm_words cd_words ct_words : Value} {od_words an_words : Option Addr} {osl_words : Array (Option Value)}
    {f_needs_by : Addr} {oc_needs_by kV_needs_by doc_needs_by pm_needs_by cd_needs_by ct_needs_by : Value} {od_needs_by an_needs_by : Option Addr} {osl_needs_by : Array (Option Value)}
    {f_steps : Addr} {oc_steps kV_steps doc_steps pm_steps cd_steps ct_steps : Value} {od_steps an_steps : Option Addr} {osl_steps : Array (Option Value)}
    {f_law : Addr} {oc_law kV_law doc_law pm_law cd_law ct_law : Value} {od_law an_law : Option Addr} {osl_law : Array (Option Value)}
    (a_needing_of : PySem.W.nsIn K mainGlobals "needing_of" = some (some (.ref f_needing_of)))
    (l_needing_of : K.lookup f_needing_of = some ⟨oc_needing_of, od_needing_of, .func (PySem.W.fnOf "needing_of" "needing_of" (defArgs s_needing_of) (defBody s_needing_of) (defScope s_needing_of) .none kV_needing_of doc_needing_of pm_needing_of an_needing_of cd_needing_of ct_needing_of), osl_needing_of⟩)
    (c_needing_of : PySem.W.codeIn K cd_needing_of "needing_of" = true)
    (k_needing_of : PySem.W.keepIn K (.ref f_needing_of) = true)
    (a_greatest : PySem.W.nsIn K mainGlobals "greatest" = some (some (.ref f_greatest)))
    (l_greatest : K.lookup f_greatest = some ⟨oc_greatest, od_greatest, .func (PySem.W.fnOf "greatest" "greatest" (defArgs s_greatest) (defBody s_greatest) (defScope s_greatest) .none kV_greatest doc_greatest pm_greatest an_greatest cd_greatest ct_greatest), osl_greatest⟩)
    (c_greatest : PySem.W.codeIn K cd_greatest "greatest" = true)
    (k_greatest : PySem.W.keepIn K (.ref f_greatest) = true)
    (a_way_to : PySem.W.nsIn K mainGlobals "_way_to" = some (some (.ref f_way_to)))
    (l_way_to : K.lookup f_way_to = some ⟨oc_way_to, od_way_to, .func (PySem.W.fnOf "_way_to" "_way_to" (defArgs s_way_to) (defBody s_way_to) (defScope s_way_to) .none kV_way_to doc_way_to pm_way_to an_way_to cd_way_to ct_way_to), osl_way_to⟩)
    (c_way_to : PySem.W.codeIn K cd_way_to "_way_to" = true)
    (k_way_to : PySem.W.keepIn K (.ref f_way_to) = true)
    (a_chain : PySem.W.nsIn K mainGlobals "chain" = some (some (.ref f_chain)))
    (l_chain : K.lookup f_chain = some ⟨oc_chain, od_chain, .func (PySem.W.fnOf "chain" "chain" (defArgs s_chain) (defBody s_chain) (defScope s_chain) .none kV_chain doc_chain pm_chain an_chain cd_chain ct_chain), osl_chain⟩)
    (c_chain : PySem.W.codeIn K cd_chain "chain" = true)
    (k_chain : PySem.W.keepIn K (.ref f_chain) = true)
    (a_cell_at : PySem.W.nsIn K mainGlobals "_law_cell_at" = some (some (.ref f_cell_at)))
    (l_cell_at : K.lookup f_cell_at = some ⟨oc_cell_at, od_cell_at, .func (PySem.W.fnOf "_law_cell_at" "_law_cell_at" (defArgs s_cell_at) (defBody s_cell_at) (defScope s_cell_at) .none kV_cell_at doc_cell_at pm_cell_at an_cell_at cd_cell_at ct_cell_at), osl_cell_at⟩)
    (c_cell_at : PySem.W.codeIn K cd_cell_at "_law_cell_at" = true)
    (k_cell_at : PySem.W.keepIn K (.ref f_cell_at) = true)
    (a_mixed : PySem.W.nsIn K mainGlobals "_law_mixed" = some (some (.ref f_mixed)))
    (l_mixed : K.lookup f_mixed = some ⟨oc_mixed, od_mixed, .func (PySem.W.fnOf "_law_mixed" "_law_mixed" (defArgs s_mixed) (defBody s_mixed) (defScope s_mixed) .none kV_mixed doc_mixed pm_mixed an_mixed cd_mixed ct_mixed), osl_mixed⟩)
    (c_mixed : PySem.W.codeIn K cd_mixed "_law_mixed" = true)
    (k_mixed : PySem.W.keepIn K (.ref f_mixed) = true)
    (a_word : PySem.W.nsIn K mainGlobals "_law_word" = some (some (.ref f_word)))
    (l_word : K.lookup f_word = some ⟨oc_word, od_word, .func (PySem.W.fnOf "_law_word" "_law_word" (defArgs s_word) (defBody s_word) (defScope s_word) .none kV_word doc_word pm_word an_word cd_word ct_word), osl_word⟩)
    (c_word : PySem.W.codeIn K cd_word "_law_word" = true)
    (k_word : PySem.W.keepIn K (.ref f_word) = true)
    (a_words : PySem.W.nsIn K mainGlobals "_law_words" = some (some (.ref f_words)))
    (l_words : K.lookup f_words = some ⟨oc_words, od_words, .func (PySem.W.fnOf "_law_words" "_law_words" (defArgs s_words) (defBody s_words) (defScope s_words) .none kV_words doc_words pm_words an_words cd_words ct_words), osl_words⟩)
    (c_words : PySem.W.codeIn K cd_words "_law_words" = true)
    (k_words : PySem.W.keepIn K (.ref f_words) = true)
    (a_needs_by : PySem.W.nsIn K mainGlobals "_law_needs_by" = some (some (.ref f_needs_by)))
    (l_needs_by : K.lookup f_needs_by = some ⟨oc_needs_by, od_needs_by, .func (PySem.W.fnOf "_law_needs_by" "_law_needs_by" (defArgs s_needs_by) (defBody s_needs_by) (defScope s_needs_by) .none kV_needs_by doc_needs_by pm_needs_by an_needs_by cd_needs_by ct_needs_by), osl_needs_by⟩)
    (c_needs_by : PySem.W.codeIn K cd_needs_by "_law_needs_by" = true)
    (k_needs_by : PySem.W.keepIn K (.ref f_needs_by) = true)
    (a_steps : PySem.W.nsIn K mainGlobals "_law_steps" = some (some (.ref f_steps)))
    (l_steps : K.lookup f_steps = some ⟨oc_steps, od_steps, .func (PySem.W.fnOf "_law_steps" "_law_steps" (defArgs s_steps) (defBody s_steps) (defScope s_steps) .none kV_steps doc_steps pm_steps an_steps cd_steps ct_steps), osl_steps⟩)
    (c_steps : PySem.W.codeIn K cd_steps "_law_steps" = true)
    (k_steps : PySem.W.keepIn K (.ref f_steps) = true)
    (a_law : PySem.W.nsIn K mainGlobals "law" = some (some (.ref f_law)))
    (l_law : K.lookup f_law = some ⟨oc_law, od_law, .func (PySem.W.fnOf "law" "law" (defArgs s_law) (defBody s_law) (defScope s_law) .none kV_law doc_law pm_law an_law cd_law ct_law), osl_law⟩)
    (c_law : PySem.W.codeIn K cd_law "law" = true)
    (k_law : PySem.W.keepIn K (.ref f_law) = true)
    (z_isinstance : PySem.W.nsIn K mainGlobals "isinstance" = some none)
    (z_len : PySem.W.nsIn K mainGlobals "len" = some none)
    (z_range : PySem.W.nsIn K mainGlobals "range" = some none)
    (z_str : PySem.W.nsIn K mainGlobals "str" = some none)
    (z_list : PySem.W.nsIn K mainGlobals "list" = some none)
    (g_deque : mg "deque" = some (.type "collections.deque"))
    : ∃ fd : FuncData, (∀ (s : Shared) (v : Value), BindsTo s fd ⟨[v], []⟩ [("_law_script", v)]) ∧ ∀ base : Heap, K.In base → base.Ns mainGlobals mg → FnOk P w K mg base CX0 4 fa fd ["_law_script"] (sp_law K) := by
  have B : Blt mg := ⟨PySem.W.mg_none_of X G z_isinstance, PySem.W.mg_none_of X G z_len, PySem.W.mg_none_of X G z_range, PySem.W.mg_none_of X G z_str, PySem.W.mg_none_of X G z_list⟩
  have S_needing_of : Src K mg "needing_of" ["needs"] s_needing_of := src_mk X G a_needing_of l_needing_of c_needing_of k_needing_of fun us hl => match us, hl with | [_], _ => rfl
  have S_greatest : Src K mg "greatest" ["full", "needs", "done"] s_greatest := src_mk X G a_greatest l_greatest c_greatest k_greatest fun us hl => match us, hl with | [_, _, _], _ => rfl
  have S_way_to : Src K mg "_way_to" ["name", "reached_from"] s_way_to := src_mk X G a_way_to l_way_to c_way_to k_way_to fun us hl => match us, hl with | [_, _], _ => rfl
  have S_chain : Src K mg "chain" ["name", "full", "needs", "done"] s_chain := src_mk X G a_chain l_chain c_chain k_chain fun us hl => match us, hl with | [_, _, _, _], _ => rfl
  have S_cell_at : Src K mg "_law_cell_at" ["_law_script", "_law_k"] s_cell_at := src_mk X G a_cell_at l_cell_at c_cell_at k_cell_at fun us hl => match us, hl with | [_, _], _ => rfl
  have S_mixed : Src K mg "_law_mixed" ["_law_number", "_law_k"] s_mixed := src_mk X G a_mixed l_mixed c_mixed k_mixed fun us hl => match us, hl with | [_, _], _ => rfl
  have S_word : Src K mg "_law_word" ["_law_k", "_law_cell"] s_word := src_mk X G a_word l_word c_word k_word fun us hl => match us, hl with | [_, _], _ => rfl
  have S_words : Src K mg "_law_words" ["_law_script"] s_words := src_mk X G a_words l_words c_words k_words fun us hl => match us, hl with | [_], _ => rfl
  have S_needs_by : Src K mg "_law_needs_by" ["_law_cell", "_law_words_here"] s_needs_by := src_mk X G a_needs_by l_needs_by c_needs_by k_needs_by fun us hl => match us, hl with | [_, _], _ => rfl
  have S_steps : Src K mg "_law_steps" ["_law_words_here", "_law_full", "_law_needs", "_law_done"] s_steps := src_mk X G a_steps l_steps c_steps k_steps fun us hl => match us, hl with | [_, _, _, _], _ => rfl
  have S_law : Src K mg "law" ["_law_script"] s_law := src_mk X G a_law l_law c_law k_law fun us hl => match us, hl with | [_], _ => rfl
  exact fin_of S_law hfa fun base => all_ok B S_needing_of S_greatest S_way_to S_chain S_cell_at S_mixed S_word S_words S_needs_by S_steps S_law g_deque base
end Pf
open PySem PySem.W PyProof.Rows
set_option maxHeartbeats 0 in
theorem PySem.Challenge.cw_escrowbook_k06_shortest_ways_holds : PySem.Challenge.rw_escrowbook_k06_shortest_ways.Holds := by
  w_on; o_law; k_head; (case hw => w_witness2)
  k_fill
  refine L2.walk_of (l := PySem.Challenge.rw_escrowbook_k06_shortest_ways) (n := 63) (k := 4) (x := "_law_script") (CX := fun _ => L2.CX0) (sp := fun w => Pf.sp_law _) rfl (by decide) rfl ⟨rfl, by decide, by decide⟩ (fun w h Y => PySem.W.kIn_of Y) ?F (fun _ _ a ns hl _ hS => ⟨⟨ns, hS⟩, fun _ => rfl⟩) (fun _ _ _ _ _ h => h)
  case F =>
    intro w mg fa h KX G hmg
    refine' Pf.all_mk KX G hmg ?a_needing_of ?l_needing_of ?c_needing_of ?k_needing_of ?a_greatest ?l_greatest ?c_greatest ?k_greatest ?a_way_to ?l_way_to ?c_way_to ?k_way_to ?a_chain ?l_chain ?c_chain ?k_chain ?a_cell_at ?l_cell_at ?c_cell_at ?k_cell_at ?a_mixed ?l_mixed ?c_mixed ?k_mixed ?a_word ?l_word ?c_word ?k_word ?a_words ?l_words ?c_words ?k_words ?a_needs_by ?l_needs_by ?c_needs_by ?k_needs_by ?a_steps ?l_steps ?c_steps ?k_steps ?a_law ?l_law ?c_law ?k_law ?z_isinstance ?z_len ?z_range ?z_str ?z_list ?g_deque
    (case a_needing_of => k_is)
    (case l_needing_of => k_is)
    (case c_needing_of => k_is)
    (case k_needing_of => k_is)
    (case a_greatest => k_is)
    (case l_greatest => k_is)
    (case c_greatest => k_is)
    (case k_greatest => k_is)
    (case a_way_to => k_is)
    (case l_way_to => k_is)
    (case c_way_to => k_is)
    (case k_way_to => k_is)
    (case a_chain => k_is)
    (case l_chain => k_is)
    (case c_chain => k_is)
    (case k_chain => k_is)
    (case a_cell_at => k_is)
    (case l_cell_at => k_is)
    (case c_cell_at => k_is)
    (case k_cell_at => k_is)
    (case a_mixed => k_is)
    (case l_mixed => k_is)
    (case c_mixed => k_is)
    (case k_mixed => k_is)
    (case a_word => k_is)
    (case l_word => k_is)
    (case c_word => k_is)
    (case k_word => k_is)
    (case a_words => k_is)
    (case l_words => k_is)
    (case c_words => k_is)
    (case k_words => k_is)
    (case a_needs_by => k_is)
    (case l_needs_by => k_is)
    (case c_needs_by => k_is)
    (case k_needs_by => k_is)
    (case a_steps => k_is)
    (case l_steps => k_is)
    (case c_steps => k_is)
    (case k_steps => k_is)
    (case a_law => k_is)
    (case l_law => k_is)
    (case c_law => k_is)
    (case k_law => k_is)
    (case z_isinstance => k_is)
    (case z_len => k_is)
    (case z_range => k_is)
    (case z_str => k_is)
    (case z_list => k_is)
    (case g_deque => exact PySem.W.mg_of KX G (by k_is))
