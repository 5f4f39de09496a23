import PyProof.Rows.All
import Wide.All
import OpenK.AllK
import Wide.FinOn
import HandS.SortKw
import HandS.TryOnly
import HandS.Keys
import HandS.Exc
import HandS.List
import KE.SortKeyHeap
import KE.KDictCopyH
import KE.KDictDisplayH
import KE.KDictSum
import PyProof.AssignAttr
import HandS.ForMost
import HandS.ForExc
import HandS.IsInst
import HandS.Style
import HandS.TupAny
import HandS.Strs
import HandS.Deep
import HandS.Walk
import HandS.Zip
import HandS.RevTup
import HandS.FStr
import HandS.Small
import HandS.Comp
import HandS.Rev
import HandS.ExcIs
import HandS.FStrTup
import HandS.RaiseMore
import HandS.TupMul
import HandS.WideBits
import PyProof.FitsInt
import HandS.Text
import HandS.Replace
import HandS.ExcInit
import HandS.ExcField
import PyProof.StrLawsChain
import PyProof.StrLawsTight
import HandS.Iter
import HandS.ListEq
import HandS.DictEq
import HandS.DictComp
import HandS.TupLen
import KE.KDictWalk
import KE.KDictKeyed
import PySem.Challenge.RW_ramet_k15_words_that_tell_apart
set_option Elab.async false
set_option linter.all false
set_option maxRecDepth 100000
/-! Data: Python values without the heap, names that own their lists, and the hand layer's judgements by functions on them. -/
namespace DL
open PySem PySem.Spec PyProof.Rows L2

/-! ### outcomes -/
/-- an exception: its class by name, and its one field (where it has one) -/
abbrev Xn := Str × Option (Str × PyData)
inductive Rz (α : Type) where
  | ok (a : α) | ex (x : Xn) | st
/-- a mark that keeps what follows a bind as it is until its head is known -/
inductive Lk {α β : Type} (f : α → Rz β) : Type where
  | mk
def Rz.bind {α β : Type} (x : Rz α) (f : α → Rz β) (l : Lk f := .mk) : Rz β :=
  match x with
  | .ok a => f a
  | .ex x => .ex x
  | .st => .st
@[simp] theorem Rz.bind_ok {α β : Type} (a : α) (f : α → Rz β) (l : Lk f) : Rz.bind (.ok a) f l = f a := rfl
@[simp] theorem Rz.bind_ex {α β : Type} (x : Xn) (f : α → Rz β) (l : Lk f) : Rz.bind (.ex x) f l = .ex x := rfl
@[simp] theorem Rz.bind_st {α β : Type} (f : α → Rz β) (l : Lk f) : Rz.bind .st f l = .st := rfl

/-! ### a list, a tuple of the written part -/
def KL (K : PySem.W.Frag) (a : Addr) (xs : List V) : Prop :=
  ∃ (its : Array Value) (n : Nat), K.lookup a = some { cls := .type "list", data := .seq its n } ∧ its.size ≤ sizeLine ∧ Vals xs its.toList
theorem KL.sq {K : PySem.W.Frag} {H : Hp} {a : Addr} {xs : List V} (h : KL K a xs) : SqL K H a xs :=
  let ⟨its, n, h1, h2, h3⟩ := h; .inr ⟨_, its, n, h1, rfl, rfl, rfl, h2, h3⟩
def KT (K : PySem.W.Frag) (a : Addr) (xs : List V) : Prop :=
  ∃ (o : Obj) (its : Array Value) (n : Nat), K.lookup a = some o ∧ o.cls = .type "tuple" ∧ o.data = .seq its n ∧ its.size ≤ sizeLine ∧ Vals xs its.toList

/-! ### dicts as data: the pairs behind a mark -/
/-- m: its keys are ints and texts; else tuples -/
abbrev dkM (m : Bool) (kvs : List (PyData × PyData)) : PyData := .dict ((.none, .bool m) :: kvs)
abbrev insD (C : Nat) (ns : List Str) (ds : List PyData) : PyData := .dict [(.list (.int (C : Nat) :: ns.map .str), .tuple ds)]
mutual
/-- a key's number for the dict: tuples of ints, and of such tuples -/
def nh : PyData → Int
  | .int i => hashInt i
  | .tuple ds => reduceHash (Builtin.Tuple.tupleHashOf (nhs ds))
  | _ => 0
def nhs : List PyData → List Int
  | [] => []
  | d :: ds => nh d :: nhs ds
end
mutual
/-- ints and tuples of such, n levels at most -/
def tkey : Nat → PyData → Bool
  | _, .int _ => true
  | n + 1, .tuple ds => tkeys n ds
  | _, _ => false
def tkeys : Nat → List PyData → Bool
  | _, [] => true
  | n, d :: ds => tkey n d && tkeys n ds
end
/-- a tuple that may be a key -/
def tupKey : PyData → Bool
  | .tuple ds => tkeys 7 ds
  | _ => false
/-- the entries as they lie -/
inductive EsL : List DictEntry → List (V × V) → List (PyData × PyData) → Prop
  | nil : EsL [] [] []
  | cons {b : Addr} {u : Value} {v : V} {k d : PyData} {es : List DictEntry} {vs : List (V × V)} {kvs : List (PyData × PyData)} : tupKey k = true → RelV v u → EsL es vs kvs → EsL (⟨nh k, .ref b, u⟩ :: es) ((.ref b, v) :: vs) ((k, d) :: kvs)
/-- a dict whose entries lie so -/
def dHO (a : Addr) (es : List DictEntry) (ep : Nat) : HO := .ext fun h => h.DictRaw a es.toArray ep
structure DsOk (a : Addr) (kvs : List (PyData × PyData)) : Prop where
  low : (a == sysModules) = false
  few : kvs.length ≤ 1000000
  nd : (kvs.map (·.1)).Nodup
/-! ### what stands for what: O the addresses that are not met on the way -/
mutual
inductive Rp (K : PySem.W.Frag) (H : Hp) (O : Addr → Prop) : V → PyData → Prop
  | non : Rp K H O .non .none
  | bl (b : Bool) : Rp K H O (.bl b) (.bool b)
  | int (i : Int) : Rp K H O (.int i) (.int i)
  | str (x : Str) : Rp K H O (.str x) (.str x)
  | lst {a : Addr} {xs : List V} {ds : List PyData} : Rd H a (.lst xs) → ¬ O a → RpA K H O xs ds → Rp K H O (.ref a) (.list ds)
  | lstK {a : Addr} {xs : List V} {ds : List PyData} : KL K a xs → RpA K H O xs ds → Rp K H O (.ref a) (.list ds)
  | tup {a : Addr} {xs : List V} {ds : List PyData} : Rd H a (.tup xs) → RpA K H O xs ds → Rp K H O (.ref a) (.tuple ds)
  | tupK {a : Addr} {xs : List V} {ds : List PyData} : KT K a xs → RpA K H O xs ds → Rp K H O (.ref a) (.tuple ds)
  | ins {a C dx : Addr} {ns : List Str} {xs : List V} {ds : List PyData} : H a = some (.ins C dx (ns.zip xs)) → ¬ O a → ns.length = xs.length → RpA K H O xs ds → Rp K H O (.ref a) (.dict [(.list (.int (C : Nat) :: ns.map .str), .tuple ds)])
  | dct {a : Addr} {es : List DictEntry} {ep : Nat} {vs : List (V × V)} {kvs : List (PyData × PyData)} : H a = some (dHO a es ep) → ¬ O a → DsOk a kvs → EsL es vs kvs → RpE K H O vs kvs → Rp K H O (.ref a) (.dict ((.none, .bool false) :: kvs))
  | dck {a : Addr} {ps : List (Key × V)} {kvs : List (PyData × PyData)} : H a = some (.dK ps) → ¬ O a → RpE K H O (ps.map fun p => (kV p.1, p.2)) kvs → Rp K H O (.ref a) (.dict ((.none, .bool true) :: kvs))
inductive RpA (K : PySem.W.Frag) (H : Hp) (O : Addr → Prop) : List V → List PyData → Prop
  | nil : RpA K H O [] []
  | cons {v : V} {vs : List V} {d : PyData} {ds : List PyData} : Rp K H O v d → RpA K H O vs ds → RpA K H O (v :: vs) (d :: ds)
inductive RpE (K : PySem.W.Frag) (H : Hp) (O : Addr → Prop) : List (V × V) → List (PyData × PyData) → Prop
  | nil : RpE K H O [] []
  | cons {u v : V} {vs : List (V × V)} {k d : PyData} {kvs : List (PyData × PyData)} : Rp K H O u k → Rp K H O v d → RpE K H O vs kvs → RpE K H O ((u, v) :: vs) ((k, d) :: kvs)
end
/-- what may change -/
def Mt : HO → Prop
  | .lst _ => True
  | .ins _ _ _ => True
  | .dK _ => True
  | .ext _ => True
  | _ => False
def Keep (O : Addr → Prop) (H H' : Hp) : Prop := ∀ a u, H a = some u → (¬ Mt u ∨ ¬ O a) → H' a = some u
theorem Keep.of_same {O : Addr → Prop} {H H' : Hp} (s : Same H H') : Keep O H H' := fun a u e _ => s a u e
section
variable {K : PySem.W.Frag} {H H' : Hp} {O O' : Addr → Prop}
mutual
theorem Rp.mv (k : Keep O H H') (m : ∀ a, O' a → O a ∨ H a = none) {v : V} {d : PyData} (h : Rp K H O v d) : Rp K H' O' v d := by
  cases h with
  | non => exact .non
  | bl b => exact .bl b
  | int i => exact .int i
  | str x => exact .str x
  | lst r n s =>
    refine .lst ?_ (fun z => ?_) (Rp.mvA k m s)
    · rcases r with r | ⟨o, r⟩
      · exact .inl (k _ _ r (.inr n))
      · exact .inr ⟨o, k _ _ r (.inl fun z => z)⟩
    · rcases m _ z with z | z
      · exact n z
      · rcases r with r | ⟨o, r⟩ <;> rw [r] at z <;> cases z
  | lstK r s => exact .lstK r (Rp.mvA k m s)
  | tup r s =>
    refine .tup ?_ (Rp.mvA k m s)
    rcases r with r | ⟨o, r⟩
    · exact .inl (k _ _ r (.inl fun z => z))
    · exact .inr ⟨o, k _ _ r (.inl fun z => z)⟩
  | tupK r s => exact .tupK r (Rp.mvA k m s)
  | ins r n l s =>
    refine .ins (k _ _ r (.inr n)) (fun z => ?_) l (Rp.mvA k m s)
    rcases m _ z with z | z
    · exact n z
    · rw [r] at z; cases z
  | dct r n w e s =>
    refine .dct (k _ _ r (.inr n)) (fun z => ?_) w e (Rp.mvE k m s)
    rcases m _ z with z | z
    · exact n z
    · rw [r] at z; cases z
  | dck r n s =>
    refine .dck (k _ _ r (.inr n)) (fun z => ?_) (Rp.mvE k m s)
    rcases m _ z with z | z
    · exact n z
    · rw [r] at z; cases z
theorem Rp.mvA (k : Keep O H H') (m : ∀ a, O' a → O a ∨ H a = none) {vs : List V} {ds : List PyData} (h : RpA K H O vs ds) : RpA K H' O' vs ds := by
  cases h with
  | nil => exact .nil
  | cons a b => exact .cons (Rp.mv k m a) (Rp.mvA k m b)
theorem Rp.mvE (k : Keep O H H') (m : ∀ a, O' a → O a ∨ H a = none) {vs : List (V × V)} {ds : List (PyData × PyData)} (h : RpE K H O vs ds) : RpE K H' O' vs ds := by
  cases h with
  | nil => exact .nil
  | cons a b c => exact .cons (Rp.mv k m a) (Rp.mv k m b) (Rp.mvE k m c)
end
theorem Rp.move (k : Keep O H H') (m : ∀ a, O' a → O a ∨ H a = none) (d : PyData) (v : V) (h : Rp K H O v d) : Rp K H' O' v d := Rp.mv k m h
theorem Rp.moveA (k : Keep O H H') (m : ∀ a, O' a → O a ∨ H a = none) (ds : List PyData) (vs : List V) (h : RpA K H O vs ds) : RpA K H' O' vs ds := Rp.mvA k m h
theorem RpE.same {v : List (V × V)} {d : List (PyData × PyData)} (s : Same H H') (h : RpE K H O v d) : RpE K H' O v d := Rp.mvE (.of_same s) (fun _ z => .inl z) h
theorem RpE.less {v : List (V × V)} {d : List (PyData × PyData)} (m : ∀ a, O' a → O a) (h : RpE K H O v d) : RpE K H O' v d := Rp.mvE (.of_same (.refl H)) (fun _ z => .inl (m _ z)) h
theorem RpE.length : ∀ {vs : List (V × V)} {ds : List (PyData × PyData)}, RpE K H O vs ds → vs.length = ds.length
  | _, _, .nil => rfl
  | _, _, .cons _ _ t => by rw [List.length_cons, List.length_cons, RpE.length t]
theorem Rp.same {v : V} {d : PyData} (s : Same H H') (h : Rp K H O v d) : Rp K H' O v d := Rp.move (.of_same s) (fun _ z => .inl z) d v h
theorem RpA.same {v : List V} {d : List PyData} (s : Same H H') (h : RpA K H O v d) : RpA K H' O v d := Rp.moveA (.of_same s) (fun _ z => .inl z) d v h
theorem Rp.less {v : V} {d : PyData} (m : ∀ a, O' a → O a) (h : Rp K H O v d) : Rp K H O' v d := Rp.move (.of_same (.refl H)) (fun _ z => .inl (m _ z)) d v h
theorem RpA.less {v : List V} {d : List PyData} (m : ∀ a, O' a → O a) (h : RpA K H O v d) : RpA K H O' v d := Rp.moveA (.of_same (.refl H)) (fun _ z => .inl (m _ z)) d v h
theorem RpA.length : ∀ {vs : List V} {ds : List PyData}, RpA K H O vs ds → vs.length = ds.length
  | _, _, .nil => rfl
  | _, _, .cons _ t => by rw [List.length_cons, List.length_cons, RpA.length t]
theorem RpA.get : ∀ {vs : List V} {ds : List PyData} {i : Nat} {d : PyData}, RpA K H O vs ds → ds[i]? = some d → ∃ v, vs[i]? = some v ∧ Rp K H O v d
  | _, _, _, _, .nil, e => by simp at e
  | _, _, 0, _, .cons r _, e => by simp at e; subst e; exact ⟨_, rfl, r⟩
  | _, _, i + 1, _, .cons _ t, e => by
    obtain ⟨v, h1, h2⟩ := RpA.get (i := i) t (by simpa using e)
    exact ⟨v, by simpa using h1, h2⟩
theorem RpA.get' : ∀ {vs : List V} {ds : List PyData} {i : Nat} {v : V}, RpA K H O vs ds → vs[i]? = some v → ∃ d, ds[i]? = some d ∧ Rp K H O v d
  | _, _, _, _, .nil, e => by simp at e
  | _, _, 0, _, .cons r _, e => by simp at e; subst e; exact ⟨_, rfl, r⟩
  | _, _, i + 1, _, .cons _ t, e => by
    obtain ⟨v, h1, h2⟩ := RpA.get' (i := i) t (by simpa using e)
    exact ⟨v, by simpa using h1, h2⟩
theorem RpA.append : ∀ {vs ws : List V} {ds es : List PyData}, RpA K H O vs ds → RpA K H O ws es → RpA K H O (vs ++ ws) (ds ++ es)
  | _, _, _, _, .nil, s => s
  | _, _, _, _, .cons r t, s => .cons r (RpA.append t s)
theorem RpA.take : ∀ {vs : List V} {ds : List PyData} (n : Nat), RpA K H O vs ds → RpA K H O (vs.take n) (ds.take n)
  | _, _, 0, _ => by simp; exact .nil
  | _, _, _ + 1, .nil => .nil
  | _, _, n + 1, .cons r t => .cons r (RpA.take n t)
theorem RpA.drop : ∀ {vs : List V} {ds : List PyData} (n : Nat), RpA K H O vs ds → RpA K H O (vs.drop n) (ds.drop n)
  | _, _, 0, r => r
  | _, _, _ + 1, .nil => .nil
  | _, _, n + 1, .cons _ t => RpA.drop n t
theorem RpA.set {v : V} {d : PyData} (r : Rp K H O v d) : ∀ {vs : List V} {ds : List PyData} (i : Nat), RpA K H O vs ds → RpA K H O (vs.set i v) (ds.set i d)
  | _, _, _, .nil => .nil
  | _, _, 0, .cons _ t => .cons r t
  | _, _, i + 1, .cons q t => .cons q (RpA.set r i t)
theorem RpA.one {v : V} {d : PyData} (r : Rp K H O v d) : RpA K H O [v] [d] := .cons r .nil
theorem RpA.reverse {vs : List V} {ds : List PyData} (h : RpA K H O vs ds) : RpA K H O vs.reverse ds.reverse := by
  induction vs generalizing ds with
  | nil => cases h; exact .nil
  | cons v vs ih =>
    cases h with
    | cons r t =>
      rw [List.reverse_cons, List.reverse_cons]
      exact RpA.append (ih t) (.one r)
/-- read as a list, a tuple -/
theorem Rp.sqL {v : V} {ds : List PyData} (h : Rp K H O v (.list ds)) : ∃ a xs, v = .ref a ∧ SqL K H a xs ∧ RpA K H O xs ds := by
  cases h with
  | lst r _ s => exact ⟨_, _, rfl, .inl r, s⟩
  | lstK r s => exact ⟨_, _, rfl, r.sq, s⟩
theorem Rp.sqT {v : V} {ds : List PyData} (h : Rp K H O v (.tuple ds)) : ∃ a xs, v = .ref a ∧ SqT K H a xs ∧ RpA K H O xs ds := by
  cases h with
  | tup r s => exact ⟨_, _, rfl, .inl r, s⟩
  | tupK r s => exact ⟨_, _, rfl, .inr r, s⟩
theorem Rp.int_of {v : V} {i : Int} (h : Rp K H O v (.int i)) : v = .int i := by cases h; rfl
theorem Rp.bl_of {v : V} {b : Bool} (h : Rp K H O v (.bool b)) : v = .bl b := by cases h; rfl
theorem Rp.str_of {v : V} {x : Str} (h : Rp K H O v (.str x)) : v = .str x := by cases h; rfl
theorem Rp.non_of {v : V} (h : Rp K H O v .none) : v = .non := by cases h; rfl
mutual
theorem Rp.dp : ∀ (d : PyData) (v : V), PyData.canLay0 d = true → Rp K H O v d → Dp K H v d
  | .none, _, _, h => by cases h; exact .non
  | .bool b, _, _, h => by cases h; exact .bl b
  | .int i, _, _, h => by cases h; exact .int i
  | .str x, _, _, h => by cases h; exact .str x
  | .list ds, _, c, h => by
    cases h with
    | lst r n s => exact .lst (.inl r) (Rp.dpA ds _ c s)
    | lstK r s => exact .lst r.sq (Rp.dpA ds _ c s)
  | .tuple ds, _, c, h => by
    cases h with
    | tup r s => exact .tup (.inl r) (Rp.dpA ds _ c s)
    | tupK r s => exact .tup (.inr r) (Rp.dpA ds _ c s)
  | .dict _, _, c, h => by cases c
theorem Rp.dpA : ∀ (ds : List PyData) (vs : List V), PyData.canLayAll0 ds = true → RpA K H O vs ds → DpAll K H vs ds
  | [], _, _, h => by cases h; exact .nil
  | d :: ds, _, c, h => by
    have c' : (d.canLay0 && PyData.canLayAll0 ds) = true := c
    rw [Bool.and_eq_true] at c'
    cases h with
    | cons a b => exact .cons (Rp.dp d _ c'.1 a) (Rp.dpA ds _ c'.2 b)
end
end
theorem lay_of {d : PyData} (h : SeqAt.shaped d = true) : d.canLay0 = true := by
  unfold SeqAt.shaped at h
  rw [Bool.and_eq_true] at h
  exact h.1

/-- what lies at a place, whoever owns it -/
inductive Cn (K : PySem.W.Frag) (H : Hp) (O : Addr → Prop) (a : Addr) : PyData → Prop
  | lst {vs : List V} {ds : List PyData} : H a = some (.lst vs) → RpA K H O vs ds → Cn K H O a (.list ds)
  | dct {es : List DictEntry} {ep : Nat} {vs : List (V × V)} {kvs : List (PyData × PyData)} : H a = some (dHO a es ep) → DsOk a kvs → EsL es vs kvs → RpE K H O vs kvs → Cn K H O a (dkM false kvs)
  | dck {ps : List (Key × V)} {kvs : List (PyData × PyData)} : H a = some (.dK ps) → RpE K H O (ps.map fun p => (kV p.1, p.2)) kvs → Cn K H O a (dkM true kvs)
section
variable {K : PySem.W.Frag} {H H' : Hp} {O O' : Addr → Prop} {a : Addr} {d : PyData}
theorem Cn.rp (h : Cn K H O a d) (n : ¬ O a) : Rp K H O (.ref a) d := by
  cases h with
  | lst r s => exact .lst (.inl r) n s
  | dct r w e s => exact .dct r n w e s
  | dck r s => exact .dck r n s
/-- the place itself stands as it was -/
theorem Cn.move (h : Cn K H O a d) (e : ∀ u, H a = some u → H' a = some u) (k : Keep O H H') (m : ∀ a, O' a → O a ∨ H a = none) : Cn K H' O' a d := by
  cases h with
  | lst r s => exact .lst (e _ r) (Rp.mvA k m s)
  | dct r w q s => exact .dct (e _ r) w q (Rp.mvE k m s)
  | dck r s => exact .dck (e _ r) (Rp.mvE k m s)
theorem Cn.same (h : Cn K H O a d) (s : Same H H') : Cn K H' O a d := h.move (fun u e => s a u e) (.of_same s) fun _ z => .inl z
theorem Cn.less (h : Cn K H O a d) (m : ∀ a, O' a → O a) : Cn K H O' a d := h.move (fun _ e => e) (.of_same (.refl H)) fun _ z => .inl (m _ z)
theorem Cn.some (h : Cn K H O a d) : ∃ u, H a = some u := by
  cases h with
  | lst r s => exact ⟨_, r⟩
  | dct r w q s => exact ⟨_, r⟩
  | dck r s => exact ⟨_, r⟩
theorem Cn.list {ds : List PyData} (h : Cn K H O a (.list ds)) : ∃ vs, H a = .some (.lst vs) ∧ RpA K H O vs ds := by
  cases h with
  | lst r s => exact ⟨_, r, s⟩
end
/-- read for a moment: as Rp, or what a name owns -/
def RpB (K : PySem.W.Frag) (H : Hp) (O : Addr → Prop) (v : V) (d : PyData) : Prop :=
  Rp K H O v d ∨ ∃ a, v = .ref a ∧ Cn K H O a d
section
variable {K : PySem.W.Frag} {H H' : Hp} {O O' : Addr → Prop} {v : V}
theorem RpB.move {d : PyData} (s : Same H H') (m : ∀ a, O' a → O a) (h : RpB K H O v d) : RpB K H' O' v d := by
  rcases h with h | ⟨a, e, h⟩
  · exact .inl ((h.same s).less m)
  · exact .inr ⟨a, e, (h.same s).less m⟩
theorem RpB.mv {d : PyData} (s : Same H H') (m : ∀ a, O' a → O a ∨ H a = none) (h : RpB K H O v d) : RpB K H' O' v d := by
  rcases h with h | ⟨a, e, h⟩
  · exact .inl (Rp.mv (.of_same s) m h)
  · exact .inr ⟨a, e, h.move (fun u e => s _ u e) (.of_same s) m⟩
theorem RpB.sqL {ds : List PyData} (h : RpB K H O v (.list ds)) : ∃ a xs, v = .ref a ∧ SqL K H a xs ∧ RpA K H O xs ds := by
  rcases h with h | ⟨a, e, h⟩
  · exact h.sqL
  · obtain ⟨vs, h1, h2⟩ := h.list
    exact ⟨a, vs, e, .of h1, h2⟩
theorem RpB.rp {d : PyData} (h : RpB K H O v d) (hd : ∀ ds, d ≠ .list ds) (hk : ∀ m kvs, d ≠ .dict ((.none, .bool m) :: kvs) := by intro _ _ z; cases z) : Rp K H O v d := by
  rcases h with h | ⟨a, e, h⟩
  · exact h
  · cases h with
    | lst r s => exact absurd rfl (hd _)
    | dct r w q s => exact absurd rfl (hk _ _)
    | dck r s => exact absurd rfl (hk _ _)
theorem RpB.sqT {ds : List PyData} (h : RpB K H O v (.tuple ds)) : ∃ a xs, v = .ref a ∧ SqT K H a xs ∧ RpA K H O xs ds := (h.rp fun _ z => nomatch z).sqT
theorem RpB.dp {d : PyData} (h : RpB K H O v d) (c : SeqAt.shaped d = true) : Dp K H v d := by
  rcases h with h | ⟨a, rfl, h⟩
  · exact h.dp _ _ (lay_of c)
  · cases h with
    | lst r s => exact .lst (.of r) (Rp.dpA _ _ (lay_of c) s)
    | dct r w q s => cases (lay_of c)
    | dck r s => cases (lay_of c)
end

/-! ### a value of the written part, tuples as they lie there -/
mutual
inductive RW (K : PySem.W.Frag) : V → PyData → Prop
  | non : RW K .non .none
  | bl (b : Bool) : RW K (.bl b) (.bool b)
  | int (i : Int) : RW K (.int i) (.int i)
  | str (x : Str) : RW K (.str x) (.str x)
  | tup {a : Addr} {xs : List V} {ds : List PyData} {o : Obj} {its : Array Value} {n : Nat} : K.lookup a = some o → o.cls = .type "tuple" → o.dict = none → o.data = .seq its n → its.size ≤ sizeLine → Vals xs its.toList → RWA K xs ds → RW K (.ref a) (.tuple ds)
inductive RWA (K : PySem.W.Frag) : List V → List PyData → Prop
  | nil : RWA K [] []
  | cons {v : V} {vs : List V} {d : PyData} {ds : List PyData} : RW K v d → RWA K vs ds → RWA K (v :: vs) (d :: ds)
end
mutual
theorem RW.rp {K : PySem.W.Frag} {H : Hp} {O : Addr → Prop} : ∀ (d : PyData) (v : V), RW K v d → Rp K H O v d
  | .none, _, h => by cases h; exact .non
  | .bool b, _, h => by cases h; exact .bl b
  | .int i, _, h => by cases h; exact .int i
  | .str x, _, h => by cases h; exact .str x
  | .list ds, _, h => by cases h
  | .tuple ds, _, h => by
    cases h with
    | tup h1 h2 _ h3 h4 h5 h6 => exact .tupK ⟨_, _, _, h1, h2, h3, h4, h5⟩ (RW.rpA ds _ h6)
  | .dict _, _, h => by cases h
theorem RW.rpA {K : PySem.W.Frag} {H : Hp} {O : Addr → Prop} : ∀ (ds : List PyData) (vs : List V), RWA K vs ds → RpA K H O vs ds
  | [], _, h => by cases h; exact .nil
  | d :: ds, _, h => by
    cases h with
    | cons a b => exact .cons (RW.rp d _ a) (RW.rpA ds _ b)
end
theorem RWA.get {K : PySem.W.Frag} : ∀ {vs : List V} {ds : List PyData} {i : Nat} {v : V}, RWA K vs ds → vs[i]? = some v → ∃ d, ds[i]? = some d ∧ RW K v d
  | _, _, _, _, .nil, e => by simp at e
  | _, _, 0, _, .cons r _, e => by simp at e; subst e; exact ⟨_, rfl, r⟩
  | _, _, i + 1, _, .cons _ t, e => by
    obtain ⟨d, h1, h2⟩ := RWA.get (i := i) t (by simpa using e)
    exact ⟨d, by simpa using h1, h2⟩
theorem RWA.length {K : PySem.W.Frag} : ∀ {vs : List V} {ds : List PyData}, RWA K vs ds → vs.length = ds.length
  | _, _, .nil => rfl
  | _, _, .cons _ t => by rw [List.length_cons, List.length_cons, RWA.length t]
/-! ### what a name owns, as a tree -/
inductive Tr where
  | im (d : PyData) | ls (ds : List PyData) | di (m : Bool) (kvs : List (PyData × PyData)) | ob (C : Nat) (ns : List Str) (ts : List Tr) | dt (ks : List Str) (ts : List Tr) | lt (ts : List Tr)
/-- the places that it owns -/
inductive Nd : Tr → List Nat → Prop
  | ls {ds : List PyData} : Nd (.ls ds) []
  | di {m : Bool} {kvs : List (PyData × PyData)} : Nd (.di m kvs) []
  | ob {C : Nat} {ns : List Str} {ts : List Tr} : Nd (.ob C ns ts) []
  | dt {ks : List Str} {ts : List Tr} : Nd (.dt ks ts) []
  | lt {ts : List Tr} : Nd (.lt ts) []
  | obS {C : Nat} {ns : List Str} {ts : List Tr} {i : Nat} {t : Tr} {p : List Nat} : ts[i]? = some t → Nd t p → Nd (.ob C ns ts) (i :: p)
  | dtS {ks : List Str} {ts : List Tr} {i : Nat} {t : Tr} {p : List Nat} : ts[i]? = some t → Nd t p → Nd (.dt ks ts) (i :: p)
  | ltS {ts : List Tr} {i : Nat} {t : Tr} {p : List Nat} : ts[i]? = some t → Nd t p → Nd (.lt ts) (i :: p)
mutual
inductive TrR (K : PySem.W.Frag) (H : Hp) (O : Addr → Prop) (ad : List Nat → Addr) : List Nat → V → Tr → Prop
  | im {p : List Nat} {v : V} {d : PyData} : Rp K H O v d → TrR K H O ad p v (.im d)
  | ls {p : List Nat} {ds : List PyData} : Cn K H O (ad p) (.list ds) → TrR K H O ad p (.ref (ad p)) (.ls ds)
  | di {p : List Nat} {m : Bool} {kvs : List (PyData × PyData)} : Cn K H O (ad p) (dkM m kvs) → TrR K H O ad p (.ref (ad p)) (.di m kvs)
  | ob {p : List Nat} {C dx : Addr} {ns : List Str} {xs : List V} {ts : List Tr} : H (ad p) = some (.ins C dx (ns.zip xs)) → ns.length = xs.length → TrA K H O ad p 0 xs ts → TrR K H O ad p (.ref (ad p)) (.ob C ns ts)
  | dt {p : List Nat} {ks : List Str} {xs : List V} {ts : List Tr} : H (ad p) = some (.dK ((ks.map Sum.inr).zip xs)) → ks.length = xs.length → TrA K H O ad p 0 xs ts → TrR K H O ad p (.ref (ad p)) (.dt ks ts)
  | lt {p : List Nat} {xs : List V} {ts : List Tr} : H (ad p) = some (.lst xs) → TrA K H O ad p 0 xs ts → TrR K H O ad p (.ref (ad p)) (.lt ts)
inductive TrA (K : PySem.W.Frag) (H : Hp) (O : Addr → Prop) (ad : List Nat → Addr) : List Nat → Nat → List V → List Tr → Prop
  | nil {p : List Nat} {n : Nat} : TrA K H O ad p n [] []
  | cons {p : List Nat} {n : Nat} {v : V} {vs : List V} {t : Tr} {ts : List Tr} : TrR K H O ad (p ++ [n]) v t → TrA K H O ad p (n + 1) vs ts → TrA K H O ad p n (v :: vs) (t :: ts)
end
section
variable {K : PySem.W.Frag} {H H' : Hp} {O O' : Addr → Prop} {ad ad' : List Nat → Addr}
mutual
/-- the tree's own places stand (perhaps elsewhere), what it leans on stays -/
theorem TrR.move (k : Keep O H H') (m : ∀ a, O' a → O a ∨ H a = none) {p : List Nat} {v : V} {t : Tr} (h : TrR K H O ad p v t) (hn : ∀ q, Nd t q → ad' (p ++ q) = ad (p ++ q) ∧ ∀ u, H (ad (p ++ q)) = some u → H' (ad (p ++ q)) = some u) : TrR K H' O' ad' p v t := by
  cases h with
  | im r => exact .im (Rp.mv k m r)
  | ls c =>
    have e := hn [] .ls
    rw [List.append_nil] at e
    rw [← e.1]
    exact .ls (by rw [e.1]; exact c.move e.2 k m)
  | di c =>
    have e := hn [] .di
    rw [List.append_nil] at e
    rw [← e.1]
    exact .di (by rw [e.1]; exact c.move e.2 k m)
  | ob r l s =>
    have e := hn [] .ob
    rw [List.append_nil] at e
    rw [← e.1]
    exact .ob (by rw [e.1]; exact e.2 _ r) l (TrA.move k m s fun i t' ht q hq => by have := hn (i :: q) (.obS (by simpa using ht) hq); simpa using this)
  | dt r l s =>
    have e := hn [] .dt
    rw [List.append_nil] at e
    rw [← e.1]
    exact .dt (by rw [e.1]; exact e.2 _ r) l (TrA.move k m s fun i t' ht q hq => by have := hn (i :: q) (.dtS (by simpa using ht) hq); simpa using this)
  | lt r s =>
    have e := hn [] .lt
    rw [List.append_nil] at e
    rw [← e.1]
    exact .lt (by rw [e.1]; exact e.2 _ r) (TrA.move k m s fun i t' ht q hq => by have := hn (i :: q) (.ltS (by simpa using ht) hq); simpa using this)
theorem TrA.move (k : Keep O H H') (m : ∀ a, O' a → O a ∨ H a = none) {p : List Nat} {n : Nat} {vs : List V} {ts : List Tr} (h : TrA K H O ad p n vs ts) (hn : ∀ i t, ts[i]? = some t → ∀ q, Nd t q → ad' (p ++ (n + i) :: q) = ad (p ++ (n + i) :: q) ∧ ∀ u, H (ad (p ++ (n + i) :: q)) = some u → H' (ad (p ++ (n + i) :: q)) = some u) : TrA K H' O' ad' p n vs ts := by
  cases h with
  | nil => exact .nil
  | cons a s =>
    refine .cons (TrR.move k m a fun q hq => ?_) (TrA.move k m s fun i t' ht q hq => ?_)
    · have := hn 0 _ rfl q hq
      simpa using this
    · have := hn (i + 1) t' (by simpa using ht) q hq
      rw [show n + (i + 1) = n + 1 + i by omega] at this
      exact this
end
theorem TrA.get : ∀ {p : List Nat} {n i : Nat} {vs : List V} {ts : List Tr} {t : Tr}, TrA K H O ad p n vs ts → ts[i]? = some t → ∃ v, vs[i]? = some v ∧ TrR K H O ad (p ++ [n + i]) v t
  | _, _, _, _, _, _, .nil, e => by simp at e
  | _, _, 0, _, _, _, .cons a s, e => by simp at e; subst e; exact ⟨_, rfl, a⟩
  | _, n, i + 1, _, _, _, .cons a s, e => by
    obtain ⟨v, h1, h2⟩ := TrA.get (i := i) s (by simpa using e)
    rw [show n + 1 + i = n + (i + 1) by omega] at h2
    exact ⟨v, by simpa using h1, h2⟩
theorem TrA.length : ∀ {p : List Nat} {n : Nat} {vs : List V} {ts : List Tr}, TrA K H O ad p n vs ts → vs.length = ts.length
  | _, _, _, _, .nil => rfl
  | _, _, _, _, .cons _ s => by rw [List.length_cons, List.length_cons, TrA.length s]
theorem TrR.some : ∀ {q : List Nat} {t : Tr} {p : List Nat} {v : V}, Nd t q → TrR K H O ad p v t → ∃ u, H (ad (p ++ q)) = some u
  | _, _, p, _, .ls, h => by rw [List.append_nil]; cases h with | ls c => exact c.some
  | _, _, p, _, .di, h => by rw [List.append_nil]; cases h with | di c => exact c.some
  | _, _, p, _, .ob, h => by rw [List.append_nil]; cases h with | ob r _ _ => exact ⟨_, r⟩
  | _, _, p, _, .dt, h => by rw [List.append_nil]; cases h with | dt r _ _ => exact ⟨_, r⟩
  | _, _, p, _, .lt, h => by rw [List.append_nil]; cases h with | lt r _ => exact ⟨_, r⟩
  | _, _, p, _, .obS (i := i) ht hq, h => by
    cases h with
    | ob r l s =>
      obtain ⟨v, _, h2⟩ := s.get ht
      have := TrR.some hq h2
      simpa using this
  | _, _, p, _, .dtS (i := i) ht hq, h => by
    cases h with
    | dt r l s =>
      obtain ⟨v, _, h2⟩ := s.get ht
      have := TrR.some hq h2
      simpa using this
  | _, _, p, _, .ltS (i := i) ht hq, h => by
    cases h with
    | lt r s =>
      obtain ⟨v, _, h2⟩ := s.get ht
      have := TrR.some hq h2
      simpa using this
end
/-! ### the slots of a frame -/
inductive Sl where
  | no | val (d : PyData) | own (ds : List PyData) | exn | kv (d : PyData) | bor (ds : List PyData) | ob (t : Tr) | al (i : Nat) (p : List Nat)
abbrev En := List Sl
/-- the places that a slot owns -/
def Sl.node : Sl → List Nat → Prop
  | .own _, p => p = []
  | .ob t, p => Nd t p
  | _, _ => False
def freeze (i : Nat) (env : En) : En := match env[i]? with
  | some (Sl.own ds) => env.set i (Sl.val (.list ds))
  | some (Sl.ob (.di m kvs)) => env.set i (Sl.val (dkM m kvs))
  | _ => env
def frees : List Nat → En → En
  | [], env => env
  | i :: L, env => frees L (freeze i env)
/-- what a slot is worth when it is its owner's no more -/
def froz : Sl → Option PyData
  | .own ds => some (.list ds)
  | .ob (.di m kvs) => some (dkM m kvs)
  | _ => none
theorem freeze_none {i : Nat} {env : En} (h : env[i]?.bind froz = none) : freeze i env = env := by
  unfold freeze
  split
  · rename_i e; rw [e] at h; cases h
  · rename_i e; rw [e] at h; cases h
  · rfl
theorem freeze_some {i : Nat} {env : En} {s : Sl} {d : PyData} (h : env[i]? = some s) (e : froz s = some d) : freeze i env = env.set i (Sl.val d) := by
  unfold freeze
  rw [h]
  cases s with
  | own ds => cases e; rfl
  | ob t =>
    cases t with
    | di m kvs => cases e; rfl
    | _ => cases e
  | _ => cases e
theorem froz_node {s : Sl} {d : PyData} (e : froz s = some d) {p : List Nat} (h : s.node p) : p = [] := by
  cases s with
  | own ds => exact h
  | ob t =>
    cases t with
    | di m kvs => cases h; rfl
    | _ => cases e
  | _ => cases e
/-- fixed through a body: the heap at its entry, what the caller owns, what is wanted of an exception, the classes' values -/
structure Bs where
  H0 : Hp
  O0 : Addr → Prop
  xw : Value → Option Addr → Hp → Prop
  cls : Str → Value
  pin : Option Addr
  bq : V → List PyData → Prop
/-- no list is lent -/
def noBq : V → List PyData → Prop := fun _ _ => False
def Ex (b : Bs) (env : En) (o : Nat → List Nat → Addr) : Addr → Prop := fun a => b.O0 a ∨ ∃ i s p, env[i]? = some s ∧ s.node p ∧ o i p = a
theorem Ex.ow {b : Bs} {env : En} {o : Nat → List Nat → Addr} {i : Nat} {ds : List PyData} (h : env[i]? = some (Sl.own ds)) : Ex b env o (o i []) := .inr ⟨i, _, [], h, rfl, rfl⟩
structure RS (K : PySem.W.Frag) (b : Bs) (H : Hp) (env : En) (σ : L2.St) (o : Nat → List Nat → Addr) : Prop where
  len : env.length = σ.length
  val : ∀ (i : Nat) (d : PyData), env[i]? = some (Sl.val d) → ∃ v, σ[i]? = some (some v) ∧ Rp K H (Ex b env o) v d
  own : ∀ (i : Nat) (ds : List PyData), env[i]? = some (Sl.own ds) → ∃ vs : List V, σ[i]? = some (some (.ref (o i []))) ∧ H (o i []) = some (.lst vs) ∧ RpA K H (Ex b env o) vs ds ∧ b.H0 (o i []) = none
  injN : ∀ (i j : Nat) (s s' : Sl) (p p' : List Nat), env[i]? = some s → env[j]? = some s' → s.node p → s'.node p' → o i p = o j p' → i = j ∧ p = p'
  ext : Same b.H0 H
  o0 : ∀ a, b.O0 a → ∃ u, b.H0 a = some u
  exn : ∀ (i : Nat), env[i]? = some Sl.exn → ∃ a, b.pin = some a ∧ σ[i]? = some (some (.ref a))
  kv : ∀ (i : Nat) (d : PyData), env[i]? = some (Sl.kv d) → ∃ v, σ[i]? = some (some v) ∧ RW K v d
  pin : ∀ (a : Addr), b.pin = some a → ∀ es, env[1]? = some (Sl.own es) → o 1 [] = a
  bor : ∀ (i : Nat) (ds : List PyData), env[i]? = some (Sl.bor ds) → ∃ v, σ[i]? = some (some v) ∧ b.bq v ds
  bqk : ∀ (v : V) (ds : List PyData), b.bq v ds → RpB K b.H0 b.O0 v (.list ds)
  ob : ∀ (i : Nat) (t : Tr), env[i]? = some (Sl.ob t) → ∃ v, σ[i]? = some (some v) ∧ TrR K H (Ex b env o) (o i) [] v t ∧ ∀ p, Nd t p → b.H0 (o i p) = none
  al : ∀ (j i : Nat) (p : List Nat) (t : Tr), env[j]? = some (Sl.al i p) → env[i]? = some (Sl.ob t) → Nd t p → σ[j]? = some (some (.ref (o i p)))
  pin0 : ∀ (a : Addr), b.pin = some a → ∀ t, env[0]? = some (Sl.ob t) → o 0 [] = a
section
variable {K : PySem.W.Frag} {b : Bs} {H H' : Hp} {env : En} {σ : L2.St} {o : Nat → List Nat → Addr}
theorem RS.inj (r : RS K b H env σ o) (i j : Nat) (ds es : List PyData) (h1 : env[i]? = some (Sl.own ds)) (h2 : env[j]? = some (Sl.own es)) (e : o i [] = o j []) : i = j := (r.injN i j _ _ [] [] h1 h2 rfl rfl e).1
theorem RS.dom (r : RS K b H env σ o) {a : Addr} (h : Ex b env o a) : ∃ u, H a = some u := by
  rcases h with h | ⟨i, s, p, e, n, rfl⟩
  · obtain ⟨u, e⟩ := r.o0 a h
    exact ⟨u, r.ext _ _ e⟩
  · cases s with
    | own ds =>
      obtain ⟨vs, _, e2, _⟩ := r.own i ds e
      cases n
      exact ⟨_, e2⟩
    | ob t =>
      obtain ⟨v, _, h2, _⟩ := r.ob i t e
      have := TrR.some n h2
      rw [List.nil_append] at this
      exact this
    | _ => exact n.elim
/-- what a slot owns is new since the entry -/
theorem RS.new (r : RS K b H env σ o) {i : Nat} {s : Sl} {p : List Nat} (e : env[i]? = some s) (n : s.node p) : b.H0 (o i p) = none := by
  cases s with
  | own ds =>
    obtain ⟨vs, _, _, _, h⟩ := r.own i ds e
    cases n
    exact h
  | ob t =>
    obtain ⟨v, _, _, h⟩ := r.ob i t e
    exact h p n
  | _ => exact n.elim
/-- what lies at the root of a slot that can be given away -/
theorem RS.cn (r : RS K b H env σ o) {i : Nat} {s : Sl} {d : PyData} (e : env[i]? = some s) (f : froz s = some d) : σ[i]? = some (some (.ref (o i []))) ∧ Cn K H (Ex b env o) (o i []) d ∧ s.node [] := by
  cases s with
  | own ds =>
    cases f
    obtain ⟨vs, h1, h2, h3, _⟩ := r.own i ds e
    exact ⟨h1, .lst h2 h3, rfl⟩
  | ob t =>
    cases t with
    | di m kvs =>
      cases f
      obtain ⟨v, h1, h2, _⟩ := r.ob i _ e
      cases h2 with
      | di c => exact ⟨h1, c, .di⟩
    | _ => cases f
  | _ => cases f
theorem RS.same (r : RS K b H env σ o) (s : Same H H') : RS K b H' env σ o :=
  ⟨r.len, fun i d e => let ⟨v, h1, h2⟩ := r.val i d e; ⟨v, h1, h2.same s⟩, fun i ds e => let ⟨vs, h1, h2, h3, h4⟩ := r.own i ds e; ⟨vs, h1, s _ _ h2, h3.same s, h4⟩, r.injN, r.ext.trans s, r.o0, r.exn, r.kv, r.pin, r.bor, r.bqk,
    fun i t e => let ⟨v, h1, h2, h3⟩ := r.ob i t e; ⟨v, h1, h2.move (.of_same s) (fun _ z => .inl z) fun q _ => ⟨rfl, fun u z => s _ _ z⟩, h3⟩, r.al, r.pin0⟩
theorem set_get {env : En} {i j : Nat} {s s' : Sl} (h : (env.set i s)[j]? = some s') : (j = i ∧ s' = s ∧ i < env.length) ∨ (j ≠ i ∧ env[j]? = some s') := by
  by_cases hj : j = i
  · subst hj
    by_cases hl : j < env.length
    · rw [List.getElem?_set_self hl] at h
      cases h
      exact .inl ⟨rfl, rfl, hl⟩
    · rw [List.getElem?_eq_none (by rw [List.length_set]; omega)] at h
      cases h
  · rw [List.getElem?_set_ne (Ne.symm hj)] at h
    exact .inr ⟨hj, h⟩
/-- a slot that owns nothing is put into a place -/
theorem ex_put {i : Nat} {s : Sl} {a : Addr} (hs : ∀ p, ¬ s.node p) (z : Ex b (env.set i s) o a) : Ex b env o a := by
  rcases z with z | ⟨j, s', p, e, n, q⟩
  · exact .inl z
  · rcases set_get e with ⟨_, rfl, _⟩ | ⟨_, e⟩
    · exact (hs p n).elim
    · exact .inr ⟨j, s', p, e, n, q⟩
theorem val_node {d : PyData} : ∀ p, ¬ (Sl.val d).node p := fun _ h => h
theorem kv_node {d : PyData} : ∀ p, ¬ (Sl.kv d).node p := fun _ h => h
/-- what is asked of a slot that owns nothing -/
def SlR (K : PySem.W.Frag) (b : Bs) (H : Hp) (O : Addr → Prop) (v : V) : Sl → Prop
  | .val d => Rp K H O v d
  | .kv d => RW K v d
  | .bor ds => b.bq v ds
  | .exn => ∃ a, b.pin = some a ∧ v = .ref a
  | .no => True
  | _ => False
theorem RS.put {i : Nat} {v : V} {s : Sl} (r : RS K b H env σ o) (hs : SlR K b H (Ex b env o) v s) : RS K b H (env.set i s) (σ.set i (some v)) o := by
  have hn : ∀ p, ¬ s.node p := by
    intro p h
    cases s <;> first | exact h | exact hs
  have le : ∀ a, Ex b (env.set i s) o a → Ex b env o a := fun a => ex_put hn
  have sg : ∀ {j : Nat}, j ≠ i → (σ.set i (some v))[j]? = σ[j]? := fun hj => List.getElem?_set_ne (Ne.symm hj)
  have si : i < env.length → (σ.set i (some v))[i]? = some (some v) := fun hl => List.getElem?_set_self (by rw [← r.len]; exact hl)
  refine ⟨by rw [List.length_set, List.length_set]; exact r.len, fun j d e => ?_, fun j ds e => ?_, fun j k s1 s2 p p' e1 e2 n1 n2 => ?_, r.ext, r.o0, fun j e => ?_, fun j d e => ?_, fun a ha es e => ?_, fun j ds e => ?_, r.bqk, fun j t e => ?_, fun j k p t e1 e2 n => ?_, fun a ha t e => ?_⟩
  · rcases set_get e with ⟨rfl, rfl, hl⟩ | ⟨hj, e⟩
    · exact ⟨v, si hl, Rp.less le hs⟩
    · obtain ⟨w, h1, h2⟩ := r.val j d e
      exact ⟨w, by rw [sg hj]; exact h1, h2.less le⟩
  · rcases set_get e with ⟨rfl, rfl, hl⟩ | ⟨hj, e⟩
    · exact hs.elim
    · obtain ⟨vs, h1, h2, h3, h4⟩ := r.own j ds e
      exact ⟨vs, by rw [sg hj]; exact h1, h2, h3.less le, h4⟩
  · rcases set_get e1 with ⟨_, rfl, _⟩ | ⟨_, e1⟩
    · exact (hn _ n1).elim
    · rcases set_get e2 with ⟨_, rfl, _⟩ | ⟨_, e2⟩
      · exact (hn _ n2).elim
      · exact r.injN j k s1 s2 p p' e1 e2 n1 n2
  · rcases set_get e with ⟨rfl, rfl, hl⟩ | ⟨hj, e⟩
    · obtain ⟨a, h1, rfl⟩ := hs
      exact ⟨a, h1, si hl⟩
    · obtain ⟨a, h1, h2⟩ := r.exn j e
      exact ⟨a, h1, by rw [sg hj]; exact h2⟩
  · rcases set_get e with ⟨rfl, rfl, hl⟩ | ⟨hj, e⟩
    · exact ⟨v, si hl, hs⟩
    · obtain ⟨w, h1, h2⟩ := r.kv j d e
      exact ⟨w, by rw [sg hj]; exact h1, h2⟩
  · rcases set_get e with ⟨_, rfl, _⟩ | ⟨_, e⟩
    · exact hs.elim
    · exact r.pin a ha es e
  · rcases set_get e with ⟨rfl, rfl, hl⟩ | ⟨hj, e⟩
    · exact ⟨v, si hl, hs⟩
    · obtain ⟨w, h1, h2⟩ := r.bor j ds e
      exact ⟨w, by rw [sg hj]; exact h1, h2⟩
  · rcases set_get e with ⟨_, rfl, _⟩ | ⟨hj, e⟩
    · exact hs.elim
    · obtain ⟨w, h1, h2, h3⟩ := r.ob j t e
      exact ⟨w, by rw [sg hj]; exact h1, h2.move (.of_same (.refl H)) (fun a z => .inl (le a z)) fun _ _ => ⟨rfl, fun _ z => z⟩, h3⟩
  · rcases set_get e1 with ⟨_, rfl, _⟩ | ⟨hj, e1⟩
    · exact hs.elim
    · rcases set_get e2 with ⟨_, rfl, _⟩ | ⟨_, e2⟩
      · exact hs.elim
      · rw [sg hj]; exact r.al j k p t e1 e2 n
  · rcases set_get e with ⟨_, rfl, _⟩ | ⟨_, e⟩
    · exact hs.elim
    · exact r.pin0 a ha t e
/-- a name gets a value -/
theorem RS.set {i : Nat} {v : V} {d : PyData} (r : RS K b H env σ o) (h : Rp K H (Ex b env o) v d) : RS K b H (env.set i (Sl.val d)) (σ.set i (some v)) o := r.put h
/-- a name gets a written value -/
theorem RS.setK {i : Nat} {v : V} {d : PyData} (r : RS K b H env σ o) (h : RW K v d) : RS K b H (env.set i (Sl.kv d)) (σ.set i (some v)) o := r.put h
theorem set_same {σ : L2.St} {i : Nat} {v : Option V} (h : σ[i]? = some v) : σ.set i v = σ := by
  obtain ⟨hl, e⟩ := List.getElem?_eq_some_iff.mp h
  rw [← e]
  exact List.set_getElem_self hl
theorem ex_freeze {i : Nat} {a : Addr} (h : Ex b (freeze i env) o a) : Ex b env o a := by
  cases q : env[i]?.bind froz with
  | none => rw [freeze_none q] at h; exact h
  | some d =>
    obtain ⟨s, e, f⟩ := Option.bind_eq_some_iff.mp q
    rw [freeze_some e f] at h
    exact ex_put val_node h
theorem ex_frees : ∀ {L : List Nat} {env : En} {a : Addr}, Ex b (frees L env) o a → Ex b env o a
  | [], _, _, h => h
  | i :: L, env, a, h => ex_freeze (ex_frees (L := L) h)
theorem freeze_get {i j : Nat} (h : i ≠ j) : (freeze i env)[j]? = env[j]? := by
  cases q : env[i]?.bind froz with
  | none => rw [freeze_none q]
  | some d =>
    obtain ⟨s, e, f⟩ := Option.bind_eq_some_iff.mp q
    rw [freeze_some e f, List.getElem?_set_ne h]
theorem freeze_comm (i j : Nat) (env : En) : freeze j (freeze i env) = freeze i (freeze j env) := by
  by_cases hij : i = j
  · subst hij; rfl
  · have gj : (freeze i env)[j]? = env[j]? := freeze_get hij
    have gi : (freeze j env)[i]? = env[i]? := freeze_get (Ne.symm hij)
    cases qi : env[i]?.bind froz with
    | none =>
      have qi' : (freeze j env)[i]?.bind froz = none := by rw [gi]; exact qi
      rw [freeze_none qi, freeze_none qi']
    | some d =>
      obtain ⟨s, e, f⟩ := Option.bind_eq_some_iff.mp qi
      cases qj : env[j]?.bind froz with
      | none =>
        have qj' : (freeze i env)[j]?.bind froz = none := by rw [gj]; exact qj
        rw [freeze_none qj', freeze_none qj]
      | some d' =>
        obtain ⟨s', e', f'⟩ := Option.bind_eq_some_iff.mp qj
        rw [freeze_some (by rw [gj]; exact e') f', freeze_some e f, freeze_some (s := s) (by rw [gi]; exact e) f, freeze_some e' f']
        exact List.set_comm _ _ hij
theorem ex_frees_app : ∀ {L M : List Nat} {env : En} {a : Addr}, Ex b (frees (L ++ M) env) o a → Ex b (frees L env) o a ∧ Ex b (frees M env) o a
  | [], M, env, a, h => ⟨ex_frees h, h⟩
  | i :: L, M, env, a, h => by
    obtain ⟨h1, h2⟩ := ex_frees_app (L := L) (M := M) (env := freeze i env) h
    refine ⟨h1, ?_⟩
    have : ∀ {M : List Nat} {env : En}, Ex b (frees M (freeze i env)) o a → Ex b (frees M env) o a := by
      intro M
      induction M with
      | nil => intro env h; exact ex_freeze h
      | cons j M ih =>
        intro env h
        show Ex b (frees M (freeze j env)) o a
        refine ih (env := freeze j env) ?_
        rw [← freeze_comm]
        exact h
    exact this h2
theorem RS.freeze (r : RS K b H env σ o) (i : Nat) : RS K b H (freeze i env) σ o := by
  cases q : env[i]?.bind froz with
  | none => rw [freeze_none q]; exact r
  | some d =>
    obtain ⟨s, e, f⟩ := Option.bind_eq_some_iff.mp q
    rw [freeze_some e f]
    obtain ⟨h1, h2, h3⟩ := r.cn e f
    have hl : i < env.length := (List.getElem?_eq_some_iff.mp e).1
    -- the exclusions without the slot's own place
    have le : ∀ a, Ex b (env.set i (Sl.val d)) o a → Ex b env o a := fun a => ex_put val_node
    have no : ¬ Ex b (env.set i (Sl.val d)) o (o i []) := by
      rintro (z | ⟨j, s', p, e', n, q'⟩)
      · obtain ⟨u, hu⟩ := r.o0 _ z
        rw [r.new e h3] at hu; cases hu
      · rcases set_get e' with ⟨_, rfl, _⟩ | ⟨hj, e'⟩
        · exact n
        · exact hj (r.injN j i s' s p [] e' e n h3 q').1
    have r' : RS K b H (env.set i Sl.no) (σ.set i (some (.ref (o i [])))) o := r.put (s := Sl.no) (v := .ref (o i [])) True.intro
    have ex : ∀ a, Ex b (env.set i (Sl.val d)) o a ↔ Ex b (env.set i Sl.no) o a := by
      intro a
      constructor
      · rintro (z | ⟨j, s', p, e', n, q'⟩)
        · exact .inl z
        · rcases set_get e' with ⟨_, rfl, _⟩ | ⟨hj, e'⟩
          · exact n.elim
          · exact .inr ⟨j, s', p, by rw [List.getElem?_set_ne (Ne.symm hj)]; exact e', n, q'⟩
      · rintro (z | ⟨j, s', p, e', n, q'⟩)
        · exact .inl z
        · rcases set_get e' with ⟨_, rfl, _⟩ | ⟨hj, e'⟩
          · exact n.elim
          · exact .inr ⟨j, s', p, by rw [List.getElem?_set_ne (Ne.symm hj)]; exact e', n, q'⟩
    have rp : Rp K H (Ex b (env.set i Sl.no) o) (.ref (o i [])) d := (h2.less fun a z => le a ((ex a).mpr z)).rp fun z => no ((ex _).mpr z)
    have r2 := r'.put (i := i) (s := Sl.val d) (v := .ref (o i [])) rp
    rw [List.set_set, List.set_set, set_same h1] at r2
    exact r2
theorem RS.frees : ∀ (L : List Nat) {env : En}, RS K b H env σ o → RS K b H (frees L env) σ o
  | [], _, r => r
  | i :: L, _, r => RS.frees L (r.freeze i)
/-- the new exclusions of an own list at p -/
theorem ex_setOwn {i : Nat} {p : Addr} {ds : List PyData} {a : Addr} (z : Ex b (env.set i (Sl.own ds)) (fun j => if j = i then fun _ => p else o j) a) : Ex b env o a ∨ a = p := by
  rcases z with z | ⟨j, s, q, z1, n, z2⟩
  · exact .inl (.inl z)
  · dsimp only at z2
    rcases set_get z1 with ⟨rfl, rfl, _⟩ | ⟨hj, z1⟩
    · rw [if_pos rfl] at z2
      exact .inr z2.symm
    · rw [if_neg hj] at z2
      exact .inl (.inr ⟨j, s, q, z1, n, z2⟩)
/-- a name gets a new thing of its own, whose places are new -/
theorem RS.setNew {H1 : Hp} {i : Nat} {ad : List Nat → Addr} {s : Sl} {v : V} (r : RS K b H env σ o) (sm : Same H H1)
    (hn : ∀ p, s.node p → H (ad p) = none) (hi : ∀ p q, s.node p → s.node q → ad p = ad q → p = q)
    (h : ∀ (O : Addr → Prop), (∀ a, O a → Ex b env o a ∨ ∃ p, s.node p ∧ a = ad p) → match s with
      | .own ds => ∃ vs, v = .ref (ad []) ∧ H1 (ad []) = some (.lst vs) ∧ RpA K H1 O vs ds
      | .ob t => TrR K H1 O ad [] v t
      | _ => False)
    (hc : ∀ (j : Nat) (p : List Nat), env[j]? ≠ some (Sl.al i p)) (hpin : b.pin = none ∨ (i ≠ 1 ∧ i ≠ 0)) :
    RS K b H1 (env.set i s) (σ.set i (some v)) (fun j => if j = i then ad else o j) := by
  have le : ∀ a, Ex b (env.set i s) (fun j => if j = i then ad else o j) a → Ex b env o a ∨ ∃ p, s.node p ∧ a = ad p := by
    rintro a (z | ⟨j, s', q, z1, n, z2⟩)
    · exact .inl (.inl z)
    · dsimp only at z2
      rcases set_get z1 with ⟨rfl, rfl, _⟩ | ⟨hj, z1⟩
      · rw [if_pos rfl] at z2
        exact .inr ⟨q, n, z2.symm⟩
      · rw [if_neg hj] at z2
        exact .inl (.inr ⟨j, s', q, z1, n, z2⟩)
  have le' : ∀ a, Ex b (env.set i s) (fun j => if j = i then ad else o j) a → Ex b env o a ∨ H a = none := fun a z => by
    rcases le a z with z | ⟨p, n, rfl⟩
    · exact .inl z
    · exact .inr (hn p n)
  have kp : Keep (Ex b env o) H H1 := .of_same sm
  have sg : ∀ {j : Nat}, j ≠ i → (σ.set i (some v))[j]? = σ[j]? := fun hj => List.getElem?_set_ne (Ne.symm hj)
  have si : i < env.length → (σ.set i (some v))[i]? = some (some v) := fun hl => List.getElem?_set_self (by rw [← r.len]; exact hl)
  have h0 : ∀ p, s.node p → b.H0 (ad p) = none := fun p n => by
    cases q : b.H0 (ad p) with
    | none => rfl
    | some u =>
      have e1 := r.ext _ _ q
      rw [hn p n] at e1; cases e1
  replace h := h _ le
  refine ⟨by rw [List.length_set, List.length_set]; exact r.len, fun j d e => ?_, fun j ds e => ?_, fun j k s1 s2 p p' e1 e2 n1 n2 q => ?_, r.ext.trans sm, r.o0, fun j e => ?_, fun j d e => ?_, fun a ha es e => ?_, fun j ds e => ?_, r.bqk, fun j t e => ?_, fun j k p t e1 e2 n => ?_, fun a ha t e => ?_⟩
  · rcases set_get e with ⟨rfl, rfl, hl⟩ | ⟨hj, e⟩
    · exact h.elim
    · obtain ⟨w, h1, h2⟩ := r.val j d e
      exact ⟨w, by rw [sg hj]; exact h1, Rp.move kp le' _ _ h2⟩
  · rcases set_get e with ⟨rfl, rfl, hl⟩ | ⟨hj, e⟩
    · obtain ⟨vs, rfl, h2, h3⟩ := h
      rw [if_pos rfl]
      exact ⟨vs, si hl, h2, h3, h0 [] rfl⟩
    · obtain ⟨vs, h1, h2, h3, h4⟩ := r.own j ds e
      rw [if_neg hj]
      exact ⟨vs, by rw [sg hj]; exact h1, sm _ _ h2, Rp.moveA kp le' _ _ h3, h4⟩
  · have ne : ∀ {j : Nat} {s' : Sl} {p p' : List Nat}, env[j]? = some s' → s'.node p → s.node p' → o j p ≠ ad p' := fun {j s' p p'} e n n' z => by
      obtain ⟨u, hu⟩ := r.dom (.inr ⟨j, s', p, e, n, rfl⟩)
      rw [z, hn p' n'] at hu; cases hu
    rcases set_get e1 with ⟨rfl, rfl, _⟩ | ⟨hj, e1'⟩
    · rw [if_pos rfl] at q
      rcases set_get e2 with ⟨rfl, rfl, _⟩ | ⟨hk, e2'⟩
      · rw [if_pos rfl] at q
        exact ⟨rfl, hi p p' n1 n2 q⟩
      · rw [if_neg hk] at q
        exact absurd q.symm (ne e2' n2 n1)
    · rw [if_neg hj] at q
      rcases set_get e2 with ⟨rfl, rfl, _⟩ | ⟨hk, e2'⟩
      · rw [if_pos rfl] at q
        exact absurd q (ne e1' n1 n2)
      · rw [if_neg hk] at q
        exact r.injN j k s1 s2 p p' e1' e2' n1 n2 q
  · rcases set_get e with ⟨rfl, rfl, hl⟩ | ⟨hj, e⟩
    · exact h.elim
    · obtain ⟨a, h1, h2⟩ := r.exn j e
      exact ⟨a, h1, by rw [sg hj]; exact h2⟩
  · rcases set_get e with ⟨rfl, rfl, hl⟩ | ⟨hj, e⟩
    · exact h.elim
    · obtain ⟨w, h1, h2⟩ := r.kv j d e
      exact ⟨w, by rw [sg hj]; exact h1, h2⟩
  · rcases hpin with z | ⟨z, _⟩
    · rw [z] at ha; cases ha
    · rcases set_get e with ⟨rfl, _, _⟩ | ⟨hj, e⟩
      · exact absurd rfl z
      · rw [if_neg hj]; exact r.pin a ha es e
  · rcases set_get e with ⟨rfl, rfl, hl⟩ | ⟨hj, e⟩
    · exact h.elim
    · obtain ⟨w, h1, h2⟩ := r.bor j ds e
      exact ⟨w, by rw [sg hj]; exact h1, h2⟩
  · rcases set_get e with ⟨rfl, rfl, hl⟩ | ⟨hj, e⟩
    · rw [if_pos rfl]
      exact ⟨v, si hl, h, h0⟩
    · obtain ⟨w, h1, h2, h3⟩ := r.ob j t e
      rw [if_neg hj]
      exact ⟨w, by rw [sg hj]; exact h1, h2.move kp le' fun q _ => ⟨rfl, fun u z => sm _ _ z⟩, h3⟩
  · rcases set_get e1 with ⟨rfl, rfl, _⟩ | ⟨hj, e1'⟩
    · exact h.elim
    · rcases set_get e2 with ⟨rfl, rfl, _⟩ | ⟨hk, e2'⟩
      · exact absurd e1' (hc j p)
      · rw [sg hj, if_neg hk]; exact r.al j k p t e1' e2' n
  · rcases hpin with z | ⟨_, z⟩
    · rw [z] at ha; cases ha
    · rcases set_get e with ⟨rfl, _, _⟩ | ⟨hj, e⟩
      · exact absurd rfl z
      · rw [if_neg hj]; exact r.pin0 a ha t e
/-- a name gets a new list of its own -/
theorem RS.setOwn {H1 : Hp} {i : Nat} {p : Addr} {vs : List V} {ds : List PyData} (r : RS K b H env σ o) (s : Same H H1) (hn : H p = none) (hp : H1 p = some (.lst vs)) (h : RpA K H1 (fun a => Ex b env o a ∨ a = p) vs ds) (hpin : b.pin = none ∨ i ≠ 1) :
    RS K b H1 (env.set i (Sl.own ds)) (σ.set i (some (.ref p))) (fun j => if j = i then fun _ => p else o j) := by
  have le : ∀ a, Ex b (env.set i (Sl.own ds)) (fun j => if j = i then fun _ => p else o j) a → Ex b env o a ∨ a = p := fun a => ex_setOwn
  have le' : ∀ a, Ex b (env.set i (Sl.own ds)) (fun j => if j = i then fun _ => p else o j) a → Ex b env o a ∨ H a = none := fun a z => by
    rcases le a z with z | z
    · exact .inl z
    · subst z; exact .inr hn
  have kp : Keep (Ex b env o) H H1 := .of_same s
  have sg : ∀ {j : Nat}, j ≠ i → (σ.set i (some (V.ref p)))[j]? = σ[j]? := fun hj => List.getElem?_set_ne (Ne.symm hj)
  have si : i < env.length → (σ.set i (some (V.ref p)))[i]? = some (some (.ref p)) := fun hl => List.getElem?_set_self (by rw [← r.len]; exact hl)
  refine ⟨by rw [List.length_set, List.length_set]; exact r.len, fun j d e => ?_, fun j es e => ?_, fun j k s1 s2 q q' e1 e2 n1 n2 z => ?_, r.ext.trans s, r.o0, fun j e => ?_, fun j d e => ?_, fun a ha es e => ?_, fun j es e => ?_, r.bqk, fun j t e => ?_, fun j k q t e1 e2 n => ?_, fun a ha t e => ?_⟩
  · rcases set_get e with ⟨rfl, z, hl⟩ | ⟨hj, e⟩
    · cases z
    · obtain ⟨w, h1, h2⟩ := r.val j d e
      exact ⟨w, by rw [sg hj]; exact h1, Rp.move kp le' _ _ h2⟩
  · rcases set_get e with ⟨rfl, z, hl⟩ | ⟨hj, e⟩
    · cases z
      rw [if_pos rfl]
      refine ⟨vs, si hl, hp, h.less le, ?_⟩
      cases q2 : b.H0 p with
      | none => rfl
      | some u => rw [r.ext _ _ q2] at hn; cases hn
    · obtain ⟨ws, h1, h2, h3, h4⟩ := r.own j es e
      rw [if_neg hj]
      exact ⟨ws, by rw [sg hj]; exact h1, s _ _ h2, Rp.moveA kp le' _ _ h3, h4⟩
  · have ne : ∀ {j : Nat} {s' : Sl} {q : List Nat}, env[j]? = some s' → s'.node q → o j q ≠ p := fun {j s' q} e n z => by
      obtain ⟨u, hu⟩ := r.dom (.inr ⟨j, s', q, e, n, rfl⟩)
      rw [z, hn] at hu; cases hu
    rcases set_get e1 with ⟨rfl, rfl, _⟩ | ⟨hj, e1'⟩
    · rw [if_pos rfl] at z
      rcases set_get e2 with ⟨rfl, rfl, _⟩ | ⟨hk, e2'⟩
      · cases n1; cases n2; exact ⟨rfl, rfl⟩
      · rw [if_neg hk] at z
        exact absurd z.symm (ne e2' n2)
    · rw [if_neg hj] at z
      rcases set_get e2 with ⟨rfl, rfl, _⟩ | ⟨hk, e2'⟩
      · rw [if_pos rfl] at z
        exact absurd z (ne e1' n1)
      · rw [if_neg hk] at z
        exact r.injN j k s1 s2 q q' e1' e2' n1 n2 z
  · rcases set_get e with ⟨rfl, z, hl⟩ | ⟨hj, e⟩
    · cases z
    · obtain ⟨a, h1, h2⟩ := r.exn j e
      exact ⟨a, h1, by rw [sg hj]; exact h2⟩
  · rcases set_get e with ⟨rfl, z, hl⟩ | ⟨hj, e⟩
    · cases z
    · obtain ⟨w, h1, h2⟩ := r.kv j d e
      exact ⟨w, by rw [sg hj]; exact h1, h2⟩
  · rcases hpin with z | z
    · rw [z] at ha; cases ha
    · rcases set_get e with ⟨rfl, _, _⟩ | ⟨hj, e⟩
      · exact absurd rfl z
      · rw [if_neg hj]; exact r.pin a ha es e
  · rcases set_get e with ⟨rfl, z, hl⟩ | ⟨hj, e⟩
    · cases z
    · obtain ⟨w, h1, h2⟩ := r.bor j es e
      exact ⟨w, by rw [sg hj]; exact h1, h2⟩
  · rcases set_get e with ⟨rfl, z, hl⟩ | ⟨hj, e⟩
    · cases z
    · obtain ⟨w, h1, h2, h3⟩ := r.ob j t e
      rw [if_neg hj]
      exact ⟨w, by rw [sg hj]; exact h1, h2.move kp le' fun q _ => ⟨rfl, fun u z => s _ _ z⟩, h3⟩
  · rcases set_get e1 with ⟨rfl, z, _⟩ | ⟨hj, e1⟩
    · cases z
    · rcases set_get e2 with ⟨rfl, z, _⟩ | ⟨hk, e2⟩
      · cases z
      · rw [sg hj, if_neg hk]; exact r.al j k q t e1 e2 n
  · rcases set_get e with ⟨rfl, z, _⟩ | ⟨hj, e⟩
    · cases z
    · rw [if_neg hj]; exact r.pin0 a ha t e
/-- an own list changes -/
theorem RS.updOwn {i : Nat} {vs : List V} {ds es : List PyData} (r : RS K b H env σ o) (q : env[i]? = some (Sl.own ds)) (h : RpA K H (Ex b env o) vs es) :
    RS K b (upd H (o i []) (.lst vs)) (env.set i (Sl.own es)) σ o ∧ Keep (Ex b env o) H (upd H (o i []) (.lst vs)) ∧ ∀ a, Ex b (env.set i (Sl.own es)) o a → Ex b env o a := by
  have hl : i < env.length := (List.getElem?_eq_some_iff.mp q).1
  obtain ⟨ws, w1, w2, w3, w4⟩ := r.own i ds q
  have exi : Ex b env o (o i []) := .ow q
  have kp : Keep (Ex b env o) H (upd H (o i []) (.lst vs)) := fun a u e z => by
    by_cases ha : a = o i []
    · subst ha
      rw [w2] at e; cases e
      rcases z with z | z
      · exact absurd True.intro z
      · exact absurd exi z
    · rw [upd_ne ha]; exact e
  have le : ∀ a, Ex b (env.set i (Sl.own es)) o a → Ex b env o a := by
    rintro a (z | ⟨j, s, p, z1, n, z2⟩)
    · exact .inl z
    · rcases set_get z1 with ⟨rfl, rfl, _⟩ | ⟨hj, z1⟩
      · exact .inr ⟨j, _, p, q, n, z2⟩
      · exact .inr ⟨j, s, p, z1, n, z2⟩
  have ne : ∀ {j : Nat} {s : Sl} {p : List Nat}, j ≠ i → env[j]? = some s → s.node p → o j p ≠ o i [] := fun {j s p} hj e n z => hj (r.injN j i s _ p [] e q n rfl z).1
  refine ⟨⟨by rw [List.length_set]; exact r.len, fun j d e => ?_, fun j fs e => ?_, fun j k s1 s2 p p' e1 e2 n1 n2 z => ?_, fun a u z => ?_, r.o0, fun j e => ?_, fun j d e => ?_, fun a ha fs e => ?_, fun j d e => ?_, r.bqk, fun j t e => ?_, fun j k p t e1 e2 n => ?_, fun a ha t e => ?_⟩, kp, le⟩
  · rcases set_get e with ⟨rfl, z, _⟩ | ⟨hj, e⟩
    · cases z
    · obtain ⟨w, h1, h2⟩ := r.val j d e
      exact ⟨w, h1, Rp.move kp (fun a z => .inl (le a z)) _ _ h2⟩
  · rcases set_get e with ⟨rfl, z, _⟩ | ⟨hj, e⟩
    · cases z
      exact ⟨vs, w1, upd_same, Rp.moveA kp (fun a z => .inl (le a z)) _ _ h, w4⟩
    · obtain ⟨xs, h1, h2, h3, h4⟩ := r.own j fs e
      exact ⟨xs, h1, by rw [upd_ne (ne hj e rfl)]; exact h2, Rp.moveA kp (fun a z => .inl (le a z)) _ _ h3, h4⟩
  · have b1 : ∀ {j : Nat} {s : Sl} {p : List Nat}, (env.set i (Sl.own es))[j]? = some s → s.node p → ∃ s', env[j]? = some s' ∧ s'.node p := fun {j s p} e n => by
      rcases set_get e with ⟨rfl, rfl, _⟩ | ⟨_, e⟩
      · exact ⟨_, q, n⟩
      · exact ⟨_, e, n⟩
    obtain ⟨_, q1, m1⟩ := b1 e1 n1
    obtain ⟨_, q2, m2⟩ := b1 e2 n2
    exact r.injN j k _ _ p p' q1 q2 m1 m2 z
  · have ha : a ≠ o i [] := fun q2 => by rw [q2, w4] at z; cases z
    rw [upd_ne ha]
    exact r.ext _ _ z
  · rcases set_get e with ⟨rfl, z, _⟩ | ⟨hj, e⟩
    · cases z
    · exact r.exn j e
  · rcases set_get e with ⟨rfl, z, _⟩ | ⟨hj, e⟩
    · cases z
    · exact r.kv j d e
  · rcases set_get e with ⟨rfl, z, _⟩ | ⟨hj, e⟩
    · exact r.pin a ha ds q
    · exact r.pin a ha fs e
  · rcases set_get e with ⟨rfl, z, _⟩ | ⟨hj, e⟩
    · cases z
    · exact r.bor j d e
  · rcases set_get e with ⟨rfl, z, _⟩ | ⟨hj, e⟩
    · cases z
    · obtain ⟨w, h1, h2, h3⟩ := r.ob j t e
      exact ⟨w, h1, h2.move kp (fun a z => .inl (le a z)) fun p hp => ⟨rfl, fun u z => by rw [List.nil_append] at z ⊢; rw [upd_ne (ne hj e hp)]; exact z⟩, h3⟩
  · rcases set_get e1 with ⟨rfl, z, _⟩ | ⟨hj, e1⟩
    · cases z
    · rcases set_get e2 with ⟨rfl, z, _⟩ | ⟨hk, e2⟩
      · cases z
      · exact r.al j k p t e1 e2 n
  · rcases set_get e with ⟨rfl, z, _⟩ | ⟨hj, e⟩
    · cases z
    · exact r.pin0 a ha t e
/-- an own dict changes -/
theorem RS.updDi {i : Nat} {u : HO} {m m' : Bool} {kvs kvs' : List (PyData × PyData)} (r : RS K b H env σ o) (q : env[i]? = some (Sl.ob (.di m kvs))) (hc : Keep (Ex b env o) H (upd H (o i []) u) → Cn K (upd H (o i []) u) (Ex b env o) (o i []) (dkM m' kvs')) :
    RS K b (upd H (o i []) u) (env.set i (Sl.ob (.di m' kvs'))) σ o ∧ Keep (Ex b env o) H (upd H (o i []) u) ∧ ∀ a, Ex b (env.set i (Sl.ob (.di m' kvs'))) o a → Ex b env o a := by
  have hl : i < env.length := (List.getElem?_eq_some_iff.mp q).1
  obtain ⟨w1, w2, w3⟩ := r.cn (d := dkM m kvs) q rfl
  have w4 := r.new q w3
  have exi : Ex b env o (o i []) := .inr ⟨i, _, [], q, w3, rfl⟩
  have mt : ∀ x, H (o i []) = some x → Mt x := fun x hx => by
    cases w2 with
    | dct h _ _ _ => rw [h] at hx; cases hx; exact True.intro
    | dck h _ => rw [h] at hx; cases hx; exact True.intro
  have kp : Keep (Ex b env o) H (upd H (o i []) u) := fun a x e z => by
    by_cases ha : a = o i []
    · subst ha
      rcases z with z | z
      · exact absurd (mt x e) z
      · exact absurd exi z
    · rw [upd_ne ha]; exact e
  have hc := hc kp
  have le : ∀ a, Ex b (env.set i (Sl.ob (.di m' kvs'))) o a → Ex b env o a := by
    rintro a (z | ⟨j, s, p, z1, n, z2⟩)
    · exact .inl z
    · rcases set_get z1 with ⟨rfl, rfl, _⟩ | ⟨hj, z1⟩
      · cases n
        exact .inr ⟨j, _, [], q, .di, z2⟩
      · exact .inr ⟨j, s, p, z1, n, z2⟩
  have ne : ∀ {j : Nat} {s : Sl} {p : List Nat}, j ≠ i → env[j]? = some s → s.node p → o j p ≠ o i [] := fun {j s p} hj e n z => hj (r.injN j i s _ p [] e q n w3 z).1
  refine ⟨⟨by rw [List.length_set]; exact r.len, fun j d e => ?_, fun j fs e => ?_, fun j k s1 s2 p p' e1 e2 n1 n2 z => ?_, fun a u z => ?_, r.o0, fun j e => ?_, fun j d e => ?_, fun a ha fs e => ?_, fun j d e => ?_, r.bqk, fun j t e => ?_, fun j k p t e1 e2 n => ?_, fun a ha t e => ?_⟩, kp, le⟩
  · rcases set_get e with ⟨rfl, z, _⟩ | ⟨hj, e⟩
    · cases z
    · obtain ⟨w, h1, h2⟩ := r.val j d e
      exact ⟨w, h1, Rp.move kp (fun a z => .inl (le a z)) _ _ h2⟩
  · rcases set_get e with ⟨rfl, z, _⟩ | ⟨hj, e⟩
    · cases z
    · obtain ⟨xs, h1, h2, h3, h4⟩ := r.own j fs e
      exact ⟨xs, h1, by rw [upd_ne (ne hj e rfl)]; exact h2, Rp.moveA kp (fun a z => .inl (le a z)) _ _ h3, h4⟩
  · have b1 : ∀ {j : Nat} {s : Sl} {p : List Nat}, (env.set i (Sl.ob (.di m' kvs')))[j]? = some s → s.node p → ∃ s', env[j]? = some s' ∧ s'.node p := fun {j s p} e n => by
      rcases set_get e with ⟨rfl, rfl, _⟩ | ⟨_, e⟩
      · cases n
        exact ⟨_, q, .di⟩
      · exact ⟨_, e, n⟩
    obtain ⟨_, q1, m1⟩ := b1 e1 n1
    obtain ⟨_, q2, m2⟩ := b1 e2 n2
    exact r.injN j k _ _ p p' q1 q2 m1 m2 z
  · have ha : a ≠ o i [] := fun q2 => by rw [q2, w4] at z; cases z
    rw [upd_ne ha]
    exact r.ext _ _ z
  · rcases set_get e with ⟨rfl, z, _⟩ | ⟨hj, e⟩
    · cases z
    · exact r.exn j e
  · rcases set_get e with ⟨rfl, z, _⟩ | ⟨hj, e⟩
    · cases z
    · exact r.kv j d e
  · rcases set_get e with ⟨rfl, z, _⟩ | ⟨hj, e⟩
    · cases z
    · exact r.pin a ha fs e
  · rcases set_get e with ⟨rfl, z, _⟩ | ⟨hj, e⟩
    · cases z
    · exact r.bor j d e
  · rcases set_get e with ⟨rfl, z, _⟩ | ⟨hj, e⟩
    · cases z
      exact ⟨_, w1, .di (hc.less le), fun p n => by cases n; exact w4⟩
    · obtain ⟨w, h1, h2, h3⟩ := r.ob j t e
      exact ⟨w, h1, h2.move kp (fun a z => .inl (le a z)) fun p hp => ⟨rfl, fun u z => by rw [List.nil_append] at z ⊢; rw [upd_ne (ne hj e hp)]; exact z⟩, h3⟩
  · rcases set_get e1 with ⟨rfl, z, _⟩ | ⟨hj, e1'⟩
    · cases z
    · rcases set_get e2 with ⟨rfl, z, _⟩ | ⟨hk, e2'⟩
      · cases z
        cases n
        exact r.al j k [] _ e1' q .di
      · exact r.al j k p t e1' e2' n
  · rcases set_get e with ⟨rfl, z, _⟩ | ⟨hj, e⟩
    · exact r.pin0 a ha _ q
    · exact r.pin0 a ha t e
end
end DL
namespace DL
open PySem PySem.Spec PyProof.Rows L2

/-! ### judgements -/
/-- what an exception asks -/
def XP (K : PySem.W.Frag) (b : Bs) (x : Xn) : Prop :=
  match x.2 with
  | none => ∀ H', Same b.H0 H' → b.xw (b.cls x.1) none H'
  | some fd => ∀ (H' : Hp) (a : Addr) (v : V), Same b.H0 H' → b.H0 a = none → H' a = some (.xd [(fd.1, v)]) → Rp K H' (fun _ => False) v fd.2 → b.xw (b.cls x.1) (some a) H'
def Pz {α : Type} (K : PySem.W.Frag) (b : Bs) (r : Rz α) (P : α → Prop) : Prop :=
  match r with
  | .ok a => P a
  | .ex x => XP K b x
  | .st => False
section
variable {K : PySem.W.Frag} {b : Bs} {α β : Type}
theorem Pz.imp {r : Rz α} {P P' : α → Prop} (h : Pz K b r P) (k : ∀ a, r = .ok a → P a → P' a) : Pz K b r P' := by
  cases r with
  | ok a => exact k a rfl h
  | ex x => exact h
  | st => exact h
theorem Pz.bind {r : Rz α} {f : α → Rz β} {P : β → Prop} (h : Pz K b (r.bind f) P) : Pz K b r (fun a => Pz K b (f a) P) := by
  cases r with
  | ok a => exact h
  | ex x => exact h
  | st => exact h
end
/-- an operation that raises nothing -/
def Rz.of {α : Type} : Option α → Rz α
  | some a => .ok a
  | none => .st
@[simp] theorem Rz.of_some {α : Type} (a : α) : Rz.of (some a) = .ok a := rfl
@[simp] theorem Rz.of_none {α : Type} : Rz.of (none : Option α) = .st := rfl
theorem Pz.of {α : Type} {K : PySem.W.Frag} {b : Bs} {r : Option α} {P : α → Prop} (h : Pz K b (Rz.of r) P) : ∃ a, r = some a ∧ P a := by
  cases r with
  | some a => exact ⟨a, rfl, h⟩
  | none => exact False.elim h
abbrev FE := En → Rz PyData
abbrev FA := En → Rz (List PyData)
abbrev FT := En → Rz Bool
abbrev FO := En → Rz (List PyData)
def tD (K : PySem.W.Frag) (b : Bs) (f : FE) (L : List Nat) : TE := fun σ H Q => ∃ env o, RS K b H env σ o ∧
  Pz K b (f env) fun d => ∀ v H', Same H H' → Rp K H' (Ex b (frees L env) o) v d → Q v H'
/-- read for a moment -/
def tDB (K : PySem.W.Frag) (b : Bs) (f : FE) (L : List Nat) : TE := fun σ H Q => ∃ env o, RS K b H env σ o ∧
  Pz K b (f env) fun d => ∀ v H', Same H H' → RpB K H' (Ex b (frees L env) o) v d → Q v H'
/-- a new list, nobody else's -/
def tDO (K : PySem.W.Frag) (b : Bs) (f : FO) (L : List Nat) : TE := fun σ H Q => ∃ env o, RS K b H env σ o ∧
  Pz K b (f env) fun ds => ∀ a vs H', Same H H' → H a = none → H' a = some (.lst vs) → RpA K H' (fun c => Ex b (frees L env) o c ∨ c = a) vs ds → Q (.ref a) H'
def tDT (K : PySem.W.Frag) (b : Bs) (f : FT) : TT := fun σ H Q => ∃ env o, RS K b H env σ o ∧
  Pz K b (f env) fun c => ∀ H', Same H H' → Q c H'
def tDA (K : PySem.W.Frag) (b : Bs) (f : FA) (L : List Nat) : TA := fun σ H Q => ∃ env o, RS K b H env σ o ∧
  Pz K b (f env) fun ds => ∀ vs H', Same H H' → RpA K H' (Ex b (frees L env) o) vs ds → Q vs H'
def DE (X : Cx) (b : Bs) (e : Expr) (f : FE) (L : List Nat) : Prop := PE X e (tD X.K b f L)
def DB (X : Cx) (b : Bs) (e : Expr) (f : FE) (L : List Nat) : Prop := PE X e (tDB X.K b f L)
def DO (X : Cx) (b : Bs) (e : Expr) (f : FO) (L : List Nat) : Prop := PE X e (tDO X.K b f L)
def DT (X : Cx) (b : Bs) (e : Expr) (f : FT) : Prop := PT X e (tDT X.K b f)
def DW (X : Cx) (b : Bs) (e : Expr) (f : FT) : Prop := PW X e (tDT X.K b f)
def DA (X : Cx) (b : Bs) (es : List Expr) (f : FA) (L : List Nat) : Prop := PA X es (tDA X.K b f L)
/-- what a body's rules lean on -/
structure Fx (X : Cx) (b : Bs) : Prop where
  calm : X.calm = true
  tk : Takes X (fun c d _ H => b.xw c d H)
  own : PassesOwn (model X.prog X.w) X.A X.env X.xe
  u : X.A.units + 100 < cLine
theorem Fx.un {X : Cx} {b : Bs} (F : Fx X b) : X.A.units + 64 < cLine := by have := F.u; omega
theorem Fx.un1 {X : Cx} {b : Bs} (F : Fx X b) : X.A.units + 65 < cLine := by have := F.u; omega

theorem PE.wk {X : Cx} {e : Expr} {t t' : TE} (h : PE X e t) (k : ∀ σ H Q, t' σ H Q → t σ H Q) : PE X e t' := ⟨fun pins s σ H Q I q => h.run pins s σ H Q I (k σ H Q q)⟩
theorem PT.wk {X : Cx} {e : Expr} {t t' : TT} (h : PT X e t) (k : ∀ σ H Q, t' σ H Q → t σ H Q) : PT X e t' := ⟨fun pins s σ H Q I q => h.run pins s σ H Q I (k σ H Q q)⟩
theorem PW.wk {X : Cx} {e : Expr} {t t' : TT} (h : PW X e t) (k : ∀ σ H Q, t' σ H Q → t σ H Q) : PW X e t' := ⟨fun wh pins s σ H Q I q => h.run wh pins s σ H Q I (k σ H Q q)⟩
theorem PA.wk {X : Cx} {e : List Expr} {t t' : TA} (h : PA X e t) (k : ∀ σ H Q, t' σ H Q → t σ H Q) : PA X e t' := ⟨fun pos pins s σ H Q I q => h.run pos pins s σ H Q I (k σ H Q q)⟩
theorem PS.wk {X : Cx} {e : Stmt} {t t' : TS} (h : PS X e t) (k : ∀ D σ H, t' D σ H → t D σ H) : PS X e t' := ⟨fun pins s σ H Q I q => h.run pins s σ H Q I (k Q σ H q)⟩
theorem PSs.wk {X : Cx} {e : List Stmt} {t t' : TS} (h : PSs X e t) (k : ∀ D σ H, t' D σ H → t D σ H) : PSs X e t' := ⟨fun pins s σ H Q I q => h.run pins s σ H Q I (k Q σ H q)⟩

section
variable {X : Cx} {b : Bs} {e e1 e2 : Expr} {es : List Expr} {f f1 f2 : FE} {fs : FA} {ft ft1 ft2 : FT} {L La Lb : List Nat} {pos : Pos}

theorem db_of (h : DE X b e f L) : DB X b e f L := PE.wk h fun σ H Q ⟨env, o, R, q⟩ => ⟨env, o, R, q.imp fun d _ q v H' s r => q v H' s (.inl r)⟩
theorem de_of (h : DO X b e fs L) : DE X b e (fun env => (fs env).bind fun ds => .ok (.list ds)) L := PE.wk h fun σ H Q ⟨env, o, R, q⟩ => by
  refine ⟨env, o, R, q.bind.imp fun ds _ q a vs H' s hn ha r => ?_⟩
  refine q _ _ s (.lst (.inl ha) (fun z => ?_) (r.less fun _ z => .inl z))
  obtain ⟨u, hu⟩ := (R.frees L).dom z
  rw [hn] at hu; cases hu

/-! ### constants and names -/
@[simp] def cC (d : PyData) (_ : En) : Rz PyData := .ok d
theorem de_int {i : Int} {j : Nat} : DE X b (.Constant (.int i) j pos) (cC (.int i)) [] := PE.wk pe_int fun _ H _ ⟨_, _, _, q⟩ => q _ _ (.refl H) (.int i)
theorem de_bl {i : Bool} {j : Nat} : DE X b (.Constant (.bool i) j pos) (cC (.bool i)) [] := PE.wk pe_bl fun _ H _ ⟨_, _, _, q⟩ => q _ _ (.refl H) (.bl i)
theorem de_non {j : Nat} : DE X b (.Constant .none j pos) (cC .none) [] := PE.wk pe_non fun _ H _ ⟨_, _, _, q⟩ => q _ _ (.refl H) .non
theorem de_str {x : Str} {j : Nat} : DE X b (.Constant (.str x) j pos) (cC (.str x)) [] := PE.wk pe_str fun _ H _ ⟨_, _, _, q⟩ => q _ _ (.refl H) (.str x)
/-- a module's constant: what it stands for whatever the heap -/
def RK (K : PySem.W.Frag) (v : V) (d : PyData) : Prop := ∀ H O, Rp K H O v d
theorem de_glob {x : Str} {v : V} {u : Value} {d : PyData} (hg : Gl X x) (hm : X.mg x = some u) (r : RelV v u) (k : RK X.K v d) (hd : (x == ("__debug__" : Str)) = false := by decide) : DE X b (.Name x pos) (cC d) [] :=
  PE.wk (pe_glob hg hm r hd) fun _ H _ ⟨_, _, _, q⟩ => q _ _ (.refl H) (k _ _)
/-- a name that owns nothing -/
@[simp] def cV (i : Nat) (env : En) : Rz PyData := match env[i]? with
  | some (.val d) => .ok d
  | some (.kv d) => .ok d
  | _ => .st
theorem de_v (i : Nat) {x : Str} (hN : X.N[i]? = some x := by rfl) (hv : Vis X.env.scope x := by first | exact Or.inl rfl | exact Or.inr (Or.inl rfl) | exact Or.inr (Or.inr rfl)) (hd : (x == ("__debug__" : Str)) = false := by decide)
    (hcd : (x == ("__classdict__" : Str)) = false := by decide) : DE X b (.Name x pos) (cV i) [] := PE.wk (pe_var hN hv hd hcd) fun σ H Q ⟨env, o, R, q⟩ => by
  unfold cV at q
  split at q
  · rename_i d e
    obtain ⟨v, h1, h2⟩ := R.val i d e
    exact ⟨v, h1, q _ _ (.refl H) h2⟩
  · rename_i d e
    obtain ⟨v, h1, h2⟩ := R.kv i d e
    exact ⟨v, h1, q _ _ (.refl H) (RW.rp _ _ h2)⟩
  · exact False.elim q
/-- a name that may own a list, a dict; it is its own no more -/
@[simp] def cL (i : Nat) (env : En) : Rz PyData := match env[i]? with
  | some (.val d) => .ok d
  | some (.own ds) => .ok (.list ds)
  | some (.ob (.di m kvs)) => .ok (dkM m kvs)
  | _ => .st
theorem cL_cases {K : PySem.W.Frag} {b : Bs} {i : Nat} {env : En} {P : PyData → Prop} (q : Pz K b (cL i env) P) : (∃ d, env[i]? = some (Sl.val d) ∧ P d) ∨ ∃ s d, env[i]? = some s ∧ froz s = some d ∧ P d := by
  unfold cL at q
  split at q
  · exact .inl ⟨_, ‹_›, q⟩
  · exact .inr ⟨_, _, ‹_›, rfl, q⟩
  · exact .inr ⟨_, _, ‹_›, rfl, q⟩
  · exact False.elim q
theorem de_l (i : Nat) {x : Str} (hN : X.N[i]? = some x := by rfl) (hv : Vis X.env.scope x := by first | exact Or.inl rfl | exact Or.inr (Or.inl rfl) | exact Or.inr (Or.inr rfl)) (hd : (x == ("__debug__" : Str)) = false := by decide)
    (hcd : (x == ("__classdict__" : Str)) = false := by decide) : DE X b (.Name x pos) (cL i) [i] := PE.wk (pe_var hN hv hd hcd) fun σ H Q ⟨env, o, R, q⟩ => by
  rcases cL_cases q with ⟨d, e, q⟩ | ⟨s, d, e, f, q⟩
  · obtain ⟨v, h1, h2⟩ := R.val i d e
    exact ⟨v, h1, q _ _ (.refl H) (h2.less fun a z => ex_freeze (i := i) z)⟩
  · have R' := R.freeze i
    have hl : i < env.length := (List.getElem?_eq_some_iff.mp e).1
    have e' : (DL.freeze i env)[i]? = some (Sl.val d) := by
      rw [freeze_some e f]
      exact List.getElem?_set_self hl
    obtain ⟨v, k1, k2⟩ := R'.val i _ e'
    exact ⟨v, k1, q _ _ (.refl H) k2⟩
/-- .. read for a moment -/
theorem db_v (i : Nat) {x : Str} (hN : X.N[i]? = some x := by rfl) (hv : Vis X.env.scope x := by first | exact Or.inl rfl | exact Or.inr (Or.inl rfl) | exact Or.inr (Or.inr rfl)) (hd : (x == ("__debug__" : Str)) = false := by decide)
    (hcd : (x == ("__classdict__" : Str)) = false := by decide) : DB X b (.Name x pos) (cL i) [] := PE.wk (pe_var hN hv hd hcd) fun σ H Q ⟨env, o, R, q⟩ => by
  rcases cL_cases q with ⟨d, e, q⟩ | ⟨s, d, e, f, q⟩
  · obtain ⟨v, h1, h2⟩ := R.val i d e
    exact ⟨v, h1, q _ _ (.refl H) (.inl h2)⟩
  · obtain ⟨h1, h2, _⟩ := R.cn e f
    exact ⟨_, h1, q _ _ (.refl H) (.inr ⟨_, rfl, h2⟩)⟩

/-! ### operands -/
@[simp] def c1 (g : PyData → Option PyData) (f : FE) (env : En) : Rz PyData := (f env).bind fun x => Rz.of (g x)
@[simp] def c2 (g : PyData → PyData → Option PyData) (f1 f2 : FE) (env : En) : Rz PyData := (f1 env).bind fun x => (f2 env).bind fun y => Rz.of (g x y)
/-- two operands, one behind the other: at the second one's heap -/
theorem two {K : PySem.W.Frag} {g : PyData → PyData → Option PyData} {σ : L2.St} {H : Hp} {Q : VK} {r : R2} (h : tD K b (c2 g f1 f2) (La ++ Lb) σ H Q)
    (k : ∀ (H : Hp) (O : Addr → Prop) (x y : V) (dx dy d : PyData) (Q : VK), (∀ a, O a → ∃ u, H a = some u) → Rp K H O x dx → Rp K H O y dy → g dx dy = some d → (∀ v H', Same H H' → Rp K H' O v d → Q v H') → r x y H Q) :
    tD K b f1 La σ H fun x H1 => tD K b f2 Lb σ H1 fun y H2 => r x y H2 Q := by
  obtain ⟨env, o, R, h⟩ := h
  refine ⟨env, o, R, h.bind.imp fun dx _ h x H1 s1 r1 => ?_⟩
  refine ⟨env, o, R.same s1, h.bind.imp fun dy _ h y H2 s2 r2 => ?_⟩
  obtain ⟨d, e, h⟩ := h.of
  have R2 := (R.same s1).same s2
  exact k H2 (Ex b (frees (La ++ Lb) env) o) x y dx dy d Q (fun a z => (R2.frees _).dom z) ((r1.same s2).less fun a z => (ex_frees_app z).1) (r2.less fun a z => (ex_frees_app z).2) e
    fun v H' s => h v H' ((s1.trans s2).trans s)
theorem twoB {K : PySem.W.Frag} {g : PyData → PyData → Option PyData} {σ : L2.St} {H : Hp} {Q : VK} {r : R2} (h : tD K b (c2 g f1 f2) (La ++ Lb) σ H Q)
    (k : ∀ (H : Hp) (O : Addr → Prop) (x y : V) (dx dy d : PyData) (Q : VK), (∀ a, O a → ∃ u, H a = some u) → RpB K H O x dx → RpB K H O y dy → g dx dy = some d → (∀ v H', Same H H' → Rp K H' O v d → Q v H') → r x y H Q) :
    tDB K b f1 La σ H fun x H1 => tDB K b f2 Lb σ H1 fun y H2 => r x y H2 Q := by
  obtain ⟨env, o, R, h⟩ := h
  refine ⟨env, o, R, h.bind.imp fun dx _ h x H1 s1 r1 => ?_⟩
  refine ⟨env, o, R.same s1, h.bind.imp fun dy _ h y H2 s2 r2 => ?_⟩
  obtain ⟨d, e, h⟩ := h.of
  have R2 := (R.same s1).same s2
  exact k H2 (Ex b (frees (La ++ Lb) env) o) x y dx dy d Q (fun a z => (R2.frees _).dom z) (r1.move s2 fun a z => (ex_frees_app z).1) (r2.move (.refl _) fun a z => (ex_frees_app z).2) e
    fun v H' s => h v H' ((s1.trans s2).trans s)
/-- an operation on data, by the rule r of the values -/
def OpD (K : PySem.W.Frag) (r : R2) (g : PyData → PyData → Option PyData) : Prop :=
  ∀ (H : Hp) (O : Addr → Prop) (x y : V) (dx dy d : PyData) (Q : VK), (∀ a, O a → ∃ u, H a = some u) → Rp K H O x dx → Rp K H O y dy → g dx dy = some d → (∀ v H', Same H H' → Rp K H' O v d → Q v H') → r x y H Q
def OpB (K : PySem.W.Frag) (r : R2) (g : PyData → PyData → Option PyData) : Prop :=
  ∀ (H : Hp) (O : Addr → Prop) (x y : V) (dx dy d : PyData) (Q : VK), (∀ a, O a → ∃ u, H a = some u) → RpB K H O x dx → RpB K H O y dy → g dx dy = some d → (∀ v H', Same H H' → Rp K H' O v d → Q v H') → r x y H Q
theorem de_op {op : Operator} {r : R2} {g : PyData → PyData → Option PyData} (ho : OpR X (binaryOp op) r) (hd : OpD X.K r g) (h1 : DE X b e1 f1 La) (h2 : DE X b e2 f2 Lb) : DE X b (.BinOp e1 op e2 pos) (c2 g f1 f2) (La ++ Lb) :=
  PE.wk (pe_op ho h1 h2) fun _ _ _ h => two h hd
theorem de_un {op : UnaryOp} {r : V → Hp → VK → Prop} {g : PyData → Option PyData} (ho : UnR X (unaryOp op) r)
    (hd : ∀ (H : Hp) (O : Addr → Prop) (x : V) (dx d : PyData) (Q : VK), Rp X.K H O x dx → g dx = some d → (∀ v H', Same H H' → Rp X.K H' O v d → Q v H') → r x H Q) (h1 : DE X b e1 f1 La) :
    DE X b (.UnaryOp op e1 pos) (c1 g f1) La :=
  PE.wk (pe_un ho h1) fun σ H Q ⟨env, o, R, h⟩ => ⟨env, o, R, h.bind.imp fun dx _ h x H1 s1 r1 => let ⟨d, e, h⟩ := h.of; hd H1 _ x dx d Q r1 e fun v H' s => h v H' (s1.trans s)⟩
/-- a comparison as a value -/
theorem de_cmp {op : CmpOp} {r : R2} {g : PyData → PyData → Option PyData} (ho : OpR X (compareOp op) r) (hd : OpB X.K r g) (hm : behindInMarks op e2 = false) (h1 : DB X b e1 f1 La) (h2 : DB X b e2 f2 Lb) : DE X b (.Compare e1 [op] [e2] pos) (c2 g f1 f2) (La ++ Lb) :=
  PE.wk (pe_cmpR ho h1 h2 hm) fun _ _ _ h => twoB h hd
/-- as a test -/
@[simp] def c2t (g : PyData → PyData → Option Bool) (f1 f2 : FE) (env : En) : Rz Bool := (f1 env).bind fun x => (f2 env).bind fun y => Rz.of (g x y)
@[simp] def bo (g : PyData → PyData → Option Bool) : PyData → PyData → Option PyData := fun x y => (g x y).map .bool
theorem dt_cmp {op : CmpOp} {r : R2} {g : PyData → PyData → Option Bool} (ho : OpR X (compareOp op) r) (hd : OpB X.K r (bo g)) (hm : behindInMarks op e2 = false) (h1 : DB X b e1 f1 La) (h2 : DB X b e2 f2 Lb) : DT X b (.Compare e1 [op] [e2] pos) (c2t g f1 f2) :=
  PT.wk (pt_cmpR ho h1 h2 hm) fun σ H Q ⟨env, o, R, h⟩ => by
    refine twoB (Q := fun x H' => ∃ k, x = .bl k ∧ Q k H') (g := bo g) ⟨env, o, R, ?_⟩ hd
    unfold c2t at h
    unfold c2
    cases q1 : f1 env with
    | st => rw [q1] at h; exact h
    | ex x => rw [q1] at h; exact h
    | ok dx =>
      rw [q1] at h
      cases q2 : f2 env with
      | st => rw [Rz.bind_ok, q2] at h; rw [Rz.bind_ok]; exact h
      | ex x => rw [Rz.bind_ok, q2] at h; rw [Rz.bind_ok]; exact h
      | ok dy =>
        rw [Rz.bind_ok, q2, Rz.bind_ok] at h
        rw [Rz.bind_ok, Rz.bind_ok]
        obtain ⟨c, e, h⟩ := h.of
        have : bo g dx dy = some (.bool c) := by unfold bo; rw [e]; rfl
        rw [this]
        intro v H' s r
        cases r.bl_of
        exact ⟨c, rfl, h H' s⟩
end
/-! ### what the operations do to data -/
/-- + - * // % ** on ints -/
@[simp] def gI (k : Int → Int → Option Int) : PyData → PyData → Option PyData
  | .int i, .int j => (k i j).map .int
  | _, _ => none
theorem opd_I {K : PySem.W.Frag} {C : Int → Int → Prop} {g : Int → Int → Int} {k : Int → Int → Option Int} (h : ∀ i j z, k i j = some z → C i j ∧ z = g i j) : OpD K (rI C fun i j => .int (g i j)) (gI k) := by
  intro H O x y dx dy d Q ho rx ry e q
  unfold gI at e
  split at e
  · rename_i i j
    cases q2 : k i j with
    | none => rw [q2] at e; cases e
    | some z =>
      rw [q2] at e
      cases e
      obtain ⟨c, rfl⟩ := h i j z q2
      exact ⟨i, j, rx.int_of, ry.int_of, c, q _ _ (.refl H) (.int _)⟩
  · cases e
theorem opd_I0 {K : PySem.W.Frag} {g : Int → Int → Int} {k : Int → Int → Option Int} (h : ∀ i j z, k i j = some z → z = g i j) : OpD K (rI0 fun i j => .int (g i j)) (gI k) := by
  intro H O x y dx dy d Q ho rx ry e q
  unfold gI at e
  split at e
  · rename_i i j
    cases q2 : k i j with
    | none => rw [q2] at e; cases e
    | some z =>
      rw [q2] at e
      cases e
      obtain rfl := h i j z q2
      exact ⟨i, j, rx.int_of, ry.int_of, q _ _ (.refl H) (.int _)⟩
  · cases e
theorem opd_or {K : PySem.W.Frag} {r r' : R2} {g g' : PyData → PyData → Option PyData} (h : OpD K r g) (h' : OpD K r' g') : OpD K (fun x y H Q => r x y H Q ∨ r' x y H Q) (fun x y => (g x y).or (g' x y)) := by
  intro H O x y dx dy d Q ho rx ry e q
  replace e : (g dx dy).or (g' dx dy) = some d := e
  cases q1 : g dx dy with
  | some z => rw [q1] at e; cases e; exact .inl (h H O x y dx dy _ Q ho rx ry q1 q)
  | none => rw [q1] at e; exact .inr (h' H O x y dx dy _ Q ho rx ry e q)
@[simp] def kAdd (i j : Int) : Option Int := some (i + j)
@[simp] def kSub (i j : Int) : Option Int := some (i - j)
@[simp] def kMul (i j : Int) : Option Int := if (-(2 ^ 64) < i ∧ i < 2 ^ 64) ∨ (-(2 ^ 64) < j ∧ j < 2 ^ 64) then some (i * j) else none
@[simp] def kDiv (i j : Int) : Option Int := if 0 < j ∧ j < 1073741824 then some (i / j) else none
@[simp] def kMod (i j : Int) : Option Int := if 0 < j then some (i % j) else none
@[simp] def kPow (i j : Int) : Option Int := if 0 ≤ j ∧ j ≤ 1000000 ∧ i.natAbs < 2 ^ 64 then some (i ^ j.toNat) else none
@[simp] def kShl (i j : Int) : Option Int := if 0 ≤ j ∧ j ≤ 1000000 ∧ i.natAbs < 2 ^ 64 then some (i * 2 ^ j.toNat) else none
section
variable {K : PySem.W.Frag}
theorem opd_sub : OpD K (rI0 fun i j => .int (i - j)) (gI kSub) := opd_I0 fun i j z e => by cases e; rfl
theorem opd_mul : OpD K (rI CMul fun i j => .int (i * j)) (gI kMul) := opd_I fun i j z e => by
  unfold kMul at e; split at e
  · rename_i h; cases e; exact ⟨h, rfl⟩
  · cases e
theorem opd_div : OpD K (rI CDiv fun i j => .int (i / j)) (gI kDiv) := opd_I fun i j z e => by
  unfold kDiv at e; split at e
  · rename_i h; cases e; exact ⟨h, rfl⟩
  · cases e
theorem opd_mod : OpD K (rI (fun _ j => 0 < j) fun i j => .int (i % j)) (gI kMod) := opd_I fun i j z e => by
  unfold kMod at e; split at e
  · rename_i h; cases e; exact ⟨h, rfl⟩
  · cases e
theorem opd_pow : OpD K (rI CPow fun i j => .int (i ^ j.toNat)) (gI kPow) := opd_I fun i j z e => by
  unfold kPow at e; split at e
  · rename_i h; cases e; exact ⟨h, rfl⟩
  · cases e
theorem opd_shl : OpD K (rI CPow fun i j => .int (i * 2 ^ j.toNat)) (gI kShl) := opd_I fun i j z e => by
  unfold kShl at e; split at e
  · rename_i h; cases e; exact ⟨h, rfl⟩
  · cases e
/-- + : ints, tuples, texts -/
@[simp] def gAdd : PyData → PyData → Option PyData
  | .int i, .int j => some (.int (i + j))
  | .tuple xs, .tuple ys => if xs ≠ [] ∧ xs.length + ys.length ≤ 1000000 then some (.tuple (xs ++ ys)) else none
  | .str x, .str y => if x.length + y.length ≤ 1000000 then some (.str (x ++ y)) else none
  | .list xs, .list ys => if xs.length + ys.length ≤ 1000000 then some (.list (xs ++ ys)) else none
  | _, _ => none
/-- a list as it stands in the heap -/
def LsAt (K : PySem.W.Frag) (H : Hp) (a : Addr) (xs : List V) : Prop := Rd H a (.lst xs) ∨ KL K a xs
theorem LsAt.obj {X : Cx} {pins : List (Addr × Obj)} {σ : L2.St} {H : Hp} {s : Shared} {a : Addr} {xs : List V} (I : Inv X pins σ H s) (h : LsAt X.K H a xs) :
    xs.length ≤ sizeLine ∧ ∃ (its : List Value) (n : Nat), Vals xs its ∧ xs.length = its.length ∧ s.heap.get? a = some { cls := .type "list", data := .seq its.toArray n } := by
  rcases h with h | ⟨its, n, h1, h2, h3⟩
  · obtain ⟨z, its, n, r, e⟩ := h.ok I.hok
    exact ⟨z, its, n, r, r.length, e⟩
  · have e := h3.length
    refine ⟨by rw [e]; simpa using h2, its.toList, n, h3, e, ?_⟩
    simpa using I.kIn a _ h1
def rCatL (K : PySem.W.Frag) : R2 := fun x y H Q => ∃ l c xs zs, x = .ref l ∧ y = .ref c ∧ LsAt K H l xs ∧ LsAt K H c zs ∧ xs.length + zs.length ≤ sizeLine ∧ ∀ p, H p = none → Q (.ref p) (upd H p (.lst (xs ++ zs)))
theorem op_catL {X : Cx} : OpR X (binaryOp .Add) (rCatL X.K) := by
  intro pins s σ H x y v u Q I rx ry h
  obtain ⟨l, c, xs, zs, rfl, rfl, hH, hB, hz, q⟩ := h
  cases rx
  cases ry
  obtain ⟨z, its, n, r, hl, e⟩ := hH.obj I
  obtain ⟨z2, its2, n2, r2, hl2, e2⟩ := hB.obj I
  refine PySem.P.add_list e e2 ?_ (by rw [List.size_toArray, List.size_toArray]; omega)
  have ea : its.toArray ++ its2.toArray = (its ++ its2).toArray := by simp
  rw [ea]
  exact ⟨.ref _, _, I.lnew (t' := s.toks) (r.append r2) (by rw [List.length_append]; omega), rfl, q _ I.fresh⟩
theorem Rp.ls {K : PySem.W.Frag} {H : Hp} {O : Addr → Prop} {v : V} {ds : List PyData} (h : Rp K H O v (.list ds)) : ∃ a xs, v = .ref a ∧ LsAt K H a xs ∧ RpA K H O xs ds := by
  cases h with
  | lst r _ s => exact ⟨_, _, rfl, .inl r, s⟩
  | lstK r s => exact ⟨_, _, rfl, .inr r, s⟩
abbrev rAddAny (K : PySem.W.Frag) : R2 := fun x y H Q => (fun x y H Q => rI0 (fun i j => .int (i + j)) x y H Q ∨ rCatT K x y H Q) x y H Q ∨ (fun x y H Q => ∃ i j, x = .str i ∧ y = .str j ∧ i.length + j.length ≤ sizeLine ∧ Q (.str (i ++ j)) H) x y H Q ∨ rCatL K x y H Q
theorem opr_add {X : Cx} : OpR X (binaryOp .Add) (rAddAny X.K) := (op_add.or op_catT).or (op_add_str.or op_catL)
theorem million : (1000000 : Nat) ≤ sizeLine := by rw [sizeLine_eq]; decide
theorem opd_add : OpD K (rAddAny K) gAdd := by
  intro H O x y dx dy d Q ho rx ry e q
  unfold gAdd at e
  split at e
  · rename_i i j
    cases e
    exact .inl (.inl ⟨i, j, rx.int_of, ry.int_of, q _ _ (.refl H) (.int _)⟩)
  · rename_i xs ys
    split at e
    · rename_i hc
      cases e
      obtain ⟨a, vs, rfl, ha, ra⟩ := rx.sqT
      obtain ⟨c, ws, rfl, hc', rc⟩ := ry.sqT
      have l1 := ra.length
      have l2 := rc.length
      have hm := million
      refine .inl (.inr ⟨a, c, vs, ws, rfl, rfl, ha, hc', fun z => ?_, by omega, fun z => ?_, fun z p hp => ?_⟩)
      · subst z; exact hc.1 (List.length_eq_zero_iff.mp l1.symm)
      · subst z
        have : ys = [] := List.length_eq_zero_iff.mp l2.symm
        subst this
        rw [List.append_nil] at q
        exact q _ _ (.refl H) rx
      · have s : Same H (upd H p (.tup (vs ++ ws))) := fun a u e => by rw [upd_ne (ne_of_none e hp)]; exact e
        exact q _ _ s (.tup (.inl upd_same) ((ra.append rc).same s))
    · cases e
  · rename_i i j
    split at e
    · rename_i hc
      cases e
      have hm := million
      exact .inr (.inl ⟨i, j, rx.str_of, ry.str_of, by omega, q _ _ (.refl H) (.str _)⟩)
    · cases e
  · rename_i xs ys
    split at e
    · rename_i hc
      cases e
      obtain ⟨a, vs, rfl, ha, ra⟩ := rx.ls
      obtain ⟨c, ws, rfl, hc', rc⟩ := ry.ls
      have l1 := ra.length
      have l2 := rc.length
      have hm := million
      refine .inr (.inr ⟨a, c, vs, ws, rfl, rfl, ha, hc', by omega, fun p hp => ?_⟩)
      have s : Same H (upd H p (.lst (vs ++ ws))) := fun a u e => by rw [upd_ne (ne_of_none e hp)]; exact e
      refine q _ _ s (.lst (.inl upd_same) (fun z => ?_) ((ra.append rc).same s))
      obtain ⟨u, hu⟩ := ho _ z
      rw [hp] at hu; cases hu
    · cases e
  · cases e
theorem same_upd {H : Hp} {p : Addr} {u : HO} (hp : H p = none) : Same H (upd H p u) := fun a u e => by rw [upd_ne (ne_of_none e hp)]; exact e
/-! comparisons -/
@[simp] def gCmp (k : Int → Int → Bool) : PyData → PyData → Option Bool
  | .int i, .int j => some (k i j)
  | _, _ => none
theorem opb_cmp {k : Int → Int → Bool} : OpB K (rI0 fun i j => .bl (k i j)) (bo (gCmp k)) := by
  intro H O x y dx dy d Q ho rx ry e q
  unfold bo gCmp at e
  split at e
  · rename_i i j
    cases e
    exact ⟨i, j, (rx.rp fun _ z => nomatch z).int_of, (ry.rp fun _ z => nomatch z).int_of, q _ _ (.refl H) (.bl _)⟩
  · cases e
@[simp] def gEq (x y : PyData) : Option Bool := if (SeqAt.shaped x && SeqAt.shaped y) = true then some (PyData.eqv x y) else none
@[simp] def gNe (x y : PyData) : Option Bool := if (SeqAt.shaped x && SeqAt.shaped y) = true then some (!PyData.eqv x y) else none
theorem opb_eq : OpB K (rEqD K) (bo gEq) := by
  intro H O x y dx dy d Q ho rx ry e q
  unfold bo gEq at e
  split at e
  · rename_i h
    cases e
    rw [Bool.and_eq_true] at h
    exact ⟨dx, dy, rx.dp h.1, ry.dp h.2, h.1, h.2, q _ _ (.refl H) (.bl _)⟩
  · cases e
theorem opb_ne : OpB K (rNeD K) (bo gNe) := by
  intro H O x y dx dy d Q ho rx ry e q
  unfold bo gNe at e
  split at e
  · rename_i h
    cases e
    rw [Bool.and_eq_true] at h
    exact ⟨dx, dy, rx.dp h.1, ry.dp h.2, h.1, h.2, q _ _ (.refl H) (.bl _)⟩
  · cases e
@[simp] def isNon : PyData → Bool
  | .none => true
  | _ => false
@[simp] def gIsN (x y : PyData) : Option Bool := if isNon y = true then some (isNon x) else none
@[simp] def gNotN (x y : PyData) : Option Bool := if isNon y = true then some (!isNon x) else none
theorem isNon_iff {H : Hp} {O : Addr → Prop} {x : V} {d : PyData} (r : RpB K H O x d) : decide (x = .non) = isNon d := by
  rcases r with r | ⟨a, rfl, c⟩
  · cases r <;> rfl
  · cases c <;> rfl
theorem isNon_of {H : Hp} {O : Addr → Prop} {x : V} {d : PyData} (r : RpB K H O x d) (h : isNon d = true) : x = .non := by
  rw [← isNon_iff r] at h
  exact of_decide_eq_true h
theorem opb_isN : OpB K (fun x y H Q => y = .non ∧ Q (.bl (decide (x = .non))) H) (bo gIsN) := by
  intro H O x y dx dy d Q ho rx ry e q
  unfold bo gIsN at e
  split at e
  · rename_i h
    cases e
    refine ⟨isNon_of ry h, ?_⟩
    rw [isNon_iff rx]
    exact q _ _ (.refl H) (.bl _)
  · cases e
theorem opb_notN : OpB K (fun x y H Q => y = .non ∧ Q (.bl (!decide (x = .non))) H) (bo gNotN) := by
  intro H O x y dx dy d Q ho rx ry e q
  unfold bo gNotN at e
  split at e
  · rename_i h
    cases e
    refine ⟨isNon_of ry h, ?_⟩
    rw [isNon_iff rx]
    exact q _ _ (.refl H) (.bl _)
  · cases e
/-- x is True, x is False -/
@[simp] def gIsB (x y : PyData) : Option Bool := match x, y with
  | .bool c, .bool k => some (c == k)
  | _, _ => none
@[simp] def gNotB (x y : PyData) : Option Bool := match x, y with
  | .bool c, .bool k => some (!(c == k))
  | _, _ => none
theorem op_isB {X : Cx} : OpR X (compareOp .Is) (fun x y H Q => ∃ c k, x = .bl c ∧ y = .bl k ∧ Q (.bl (c == k)) H) := by
  intro pins s σ H x y v u Q I rx ry h
  obtain ⟨c, k, rfl, rfl, q⟩ := h
  cases rx
  cases ry
  exact is_bool (fin_bl I q rfl)
theorem op_notB {X : Cx} : OpR X (compareOp .IsNot) (fun x y H Q => ∃ c k, x = .bl c ∧ y = .bl k ∧ Q (.bl (!(c == k))) H) := by
  intro pins s σ H x y v u Q I rx ry h
  obtain ⟨c, k, rfl, rfl, q⟩ := h
  cases rx
  cases ry
  exact isnot_bool (fin_bl I q rfl)
theorem opb_isB : OpB K (fun x y H Q => ∃ c k, x = .bl c ∧ y = .bl k ∧ Q (.bl (c == k)) H) (bo gIsB) := by
  intro H O x y dx dy d Q ho rx ry e q
  unfold bo gIsB at e
  split at e
  · rename_i c k
    cases e
    exact ⟨c, k, (rx.rp fun _ z => nomatch z).bl_of, (ry.rp fun _ z => nomatch z).bl_of, q _ _ (.refl H) (.bl _)⟩
  · cases e
theorem opb_notB : OpB K (fun x y H Q => ∃ c k, x = .bl c ∧ y = .bl k ∧ Q (.bl (!(c == k))) H) (bo gNotB) := by
  intro H O x y dx dy d Q ho rx ry e q
  unfold bo gNotB at e
  split at e
  · rename_i c k
    cases e
    exact ⟨c, k, (rx.rp fun _ z => nomatch z).bl_of, (ry.rp fun _ z => nomatch z).bl_of, q _ _ (.refl H) (.bl _)⟩
  · cases e
end
end DL
namespace DL
open PySem PySem.Spec PyProof.Rows L2
section
variable {X : Cx} {b : Bs} {e e1 e2 e3 : Expr} {es rest : List Expr} {f f1 f2 f3 : FE} {fs : FA} {ft ft1 ft2 : FT} {L La Lb Lc : List Nat} {pos : Pos}

/-! ### tests -/
@[simp] def tAndD (f1 f2 : FT) (env : En) : Rz Bool := (f1 env).bind fun c => match c with | true => f2 env | false => .ok false
@[simp] def tOrD (f1 f2 : FT) (env : En) : Rz Bool := (f1 env).bind fun c => match c with | true => .ok true | false => f2 env
@[simp] def tNotD (f1 : FT) (env : En) : Rz Bool := (f1 env).bind fun c => .ok (!c)
theorem dw_and1 (h : DT X b e ft) : DW X b (.BoolOp .And [e] pos) ft := pw_and1 h
theorem dw_or1 (h : DT X b e ft) : DW X b (.BoolOp .Or [e] pos) ft := pw_or1 h
theorem dw_and (h1 : DT X b e1 ft1) (h2 : DW X b (.BoolOp .And (e2 :: rest) pos) ft2) : DW X b (.BoolOp .And (e1 :: e2 :: rest) pos) (tAndD ft1 ft2) :=
  PW.wk (pw_and h1 h2) fun σ H Q ⟨env, o, R, h⟩ => ⟨env, o, R, h.bind.imp fun c _ h H1 s1 => by
    cases c with
    | true => rw [if_pos rfl]; exact ⟨env, o, R.same s1, h.imp fun c _ h H2 s2 => h H2 (s1.trans s2)⟩
    | false => rw [if_neg Bool.false_ne_true]; exact h H1 s1⟩
theorem dw_or (h1 : DT X b e1 ft1) (h2 : DW X b (.BoolOp .Or (e2 :: rest) pos) ft2) : DW X b (.BoolOp .Or (e1 :: e2 :: rest) pos) (tOrD ft1 ft2) :=
  PW.wk (pw_or h1 h2) fun σ H Q ⟨env, o, R, h⟩ => ⟨env, o, R, h.bind.imp fun c _ h H1 s1 => by
    cases c with
    | false => rw [if_neg Bool.false_ne_true]; exact ⟨env, o, R.same s1, h.imp fun c _ h H2 s2 => h H2 (s1.trans s2)⟩
    | true => rw [if_pos rfl]; exact h H1 s1⟩
theorem dt_w (h : DW X b e ft) : DT X b e ft := PW.pt h
theorem dt_not (h : DT X b e ft) : DT X b (.UnaryOp .Not e pos) (tNotD ft) :=
  PT.wk (pt_not h) fun σ H Q ⟨env, o, R, h⟩ => ⟨env, o, R, h.bind.imp fun c _ h H1 s1 => h H1 s1⟩
@[simp] def truth : PyData → Option Bool
  | .none => some false
  | .bool c => some c
  | .int i => some (i != 0)
  | .str x => if x.length ≤ 1000000 then some ((x.length : Int) != 0) else none
  | .list xs => some (!xs.isEmpty)
  | .tuple xs => some (!xs.isEmpty)
  | .dict _ => none
theorem isEmpty_rp {K : PySem.W.Frag} {H : Hp} {O : Addr → Prop} {vs : List V} {ds : List PyData} (r : RpA K H O vs ds) : vs.isEmpty = ds.isEmpty := by
  cases r <;> rfl
theorem tru_of {K : PySem.W.Frag} {H : Hp} {O : Addr → Prop} {x : V} {d : PyData} {c : Bool} (r : RpB K H O x d) (h : truth d = some c) : TruV K x H c := by
  cases d with
  | none => cases h; cases (r.rp fun _ z => nomatch z).non_of; rfl
  | bool k => cases h; cases (r.rp fun _ z => nomatch z).bl_of; rfl
  | int i => cases h; cases (r.rp fun _ z => nomatch z).int_of; rfl
  | str x =>
    cases (r.rp fun _ z => nomatch z).str_of
    replace h : (if x.length ≤ 1000000 then some ((x.length : Int) != 0) else none) = some c := h
    split at h
    · rename_i hz; cases h; exact ⟨Nat.le_trans hz million, rfl⟩
    · cases h
  | list ds =>
    cases h
    obtain ⟨a, xs, rfl, h1, h2⟩ := r.sqL
    exact .inl ⟨xs, h1, by rw [isEmpty_rp h2]⟩
  | tuple ds =>
    cases h
    obtain ⟨a, xs, rfl, h1, h2⟩ := r.sqT
    exact .inr (.inl ⟨xs, h1, by rw [isEmpty_rp h2]⟩)
  | dict _ => cases h
@[simp] def tTru (f : FE) (env : En) : Rz Bool := (f env).bind fun d => Rz.of (truth d)
theorem dt_tru (h : DB X b e f L) (he : ∀ whole, isTrue e X.env whole = (do let v ← whole; standAt e.pos; holding [v] (truthy v)) := by intro _; rfl) : DT X b e (tTru f) :=
  PT.wk (pt_truth h he) fun σ H Q ⟨env, o, R, h⟩ => ⟨env, o, R, h.bind.imp fun d _ h v H1 s1 r1 => let ⟨c, e, h⟩ := h.of; ⟨c, tru_of r1 e, h H1 s1⟩⟩
/-! chains -/
@[simp] def cCh (g g' : PyData → PyData → Option Bool) (f1 f2 f3 : FE) (env : En) : Rz PyData := (f1 env).bind fun x => (f2 env).bind fun y => (Rz.of (g x y)).bind fun c => match c with
  | false => .ok (.bool false)
  | true => (f3 env).bind fun z => Rz.of ((g' y z).map .bool)
@[simp] def tCh (g g' : PyData → PyData → Option Bool) (f1 f2 f3 : FE) (env : En) : Rz Bool := (f1 env).bind fun x => (f2 env).bind fun y => (Rz.of (g x y)).bind fun c => match c with
  | false => .ok false
  | true => (f3 env).bind fun z => Rz.of (g' y z)
theorem chain_rd {K : PySem.W.Frag} {σ : L2.St} {H : Hp} {Q : VK} {r r' : R2} {g g' : PyData → PyData → Option Bool} (hd : OpB K r (bo g)) (hd' : OpB K r' (bo g')) {env : En} {o : Nat → List Nat → Addr} (R : RS K b H env σ o)
    (h : Pz K b (tCh g g' f1 f2 f3 env) fun c => ∀ H', Same H H' → Q (.bl c) H') : tChain r r' (tDB K b f1 La) (tDB K b f2 Lb) (tDB K b f3 Lc) σ H Q := by
  refine ⟨env, o, R, h.bind.imp fun dx _ h x H1 s1 r1 => ?_⟩
  refine ⟨env, o, R.same s1, h.bind.imp fun dy _ h y H2 s2 r2 => ?_⟩
  have h := h.bind
  obtain ⟨c, e, h⟩ := h.of
  have R2 := (R.same s1).same s2
  have le1 : ∀ a, Ex b (frees (La ++ (Lb ++ Lc)) env) o a → Ex b (frees La env) o a := fun a z => (ex_frees_app z).1
  have le2 : ∀ a, Ex b (frees (La ++ (Lb ++ Lc)) env) o a → Ex b (frees Lb env) o a := fun a z => (ex_frees_app (ex_frees_app z).2).1
  have le3 : ∀ a, Ex b (frees (La ++ (Lb ++ Lc)) env) o a → Ex b (frees Lc env) o a := fun a z => (ex_frees_app (ex_frees_app z).2).2
  refine hd H2 (Ex b (frees (La ++ (Lb ++ Lc)) env) o) x y dx dy (.bool c) _ (fun a z => (R2.frees _).dom z) (r1.move s2 le1) (r2.move (.refl _) le2) (by unfold bo; rw [e]; rfl) fun v H3 s3 r3 => ?_
  cases r3.bl_of
  refine ⟨c, rfl, ?_⟩
  cases c with
  | false => rw [if_neg Bool.false_ne_true]; exact h H3 ((s1.trans s2).trans s3)
  | true =>
    rw [if_pos rfl]
    refine ⟨env, o, R2.same s3, h.bind.imp fun dz _ h z H4 s4 r4 => ?_⟩
    obtain ⟨k, e', h⟩ := h.of
    have R4 := (R2.same s3).same s4
    refine hd' H4 (Ex b (frees (La ++ (Lb ++ Lc)) env) o) y z dy dz (.bool k) _ (fun a z => (R4.frees _).dom z) (r2.move (s3.trans s4) le2) (r4.move (.refl _) le3) (by unfold bo; rw [e']; rfl) fun v H5 s5 r5 => ?_
    cases r5.bl_of
    exact h H5 ((((s1.trans s2).trans s3).trans s4).trans s5)
theorem dt_ch {op op' : CmpOp} {r r' : R2} {g g' : PyData → PyData → Option Bool} (ho : OpR X (compareOp op) r) (ho' : OpR X (compareOp op') r') (hd : OpB X.K r (bo g)) (hd' : OpB X.K r' (bo g'))
    (h1 : DB X b e1 f1 La) (h2 : DB X b e2 f2 Lb) (h3 : DB X b e3 f3 Lc) (hm : lastMarks [op, op'] [e2, e3] = false := by with_unfolding_all rfl) : DT X b (.Compare e1 [op, op'] [e2, e3] pos) (tCh g g' f1 f2 f3) :=
  PT.wk (pt_chain ho ho' h1 h2 h3 hm) fun σ H Q ⟨env, o, R, h⟩ => chain_rd hd hd' R (h.imp fun c _ h H' s => ⟨c, rfl, h H' s⟩)
theorem de_ch {op op' : CmpOp} {r r' : R2} {g g' : PyData → PyData → Option Bool} (ho : OpR X (compareOp op) r) (ho' : OpR X (compareOp op') r') (hd : OpB X.K r (bo g)) (hd' : OpB X.K r' (bo g'))
    (h1 : DB X b e1 f1 La) (h2 : DB X b e2 f2 Lb) (h3 : DB X b e3 f3 Lc) (hm : lastMarks [op, op'] [e2, e3] = false := by with_unfolding_all rfl) : DE X b (.Compare e1 [op, op'] [e2, e3] pos) (fun env => (tCh g g' f1 f2 f3 env).bind fun c => .ok (.bool c)) [] :=
  PE.wk (pe_chain ho ho' h1 h2 h3 hm) fun σ H Q ⟨env, o, R, h⟩ => chain_rd hd hd' R (h.bind.imp fun c _ h H' s => h _ _ s (.bl c))

/-! ### and, or, not as values -/
@[simp] def cAndD (f1 f2 : FE) (env : En) : Rz PyData := (f1 env).bind fun x => match x with
  | .bool true => f2 env
  | .bool false => .ok (.bool false)
  | _ => .st
@[simp] def cOrD (f1 f2 : FE) (env : En) : Rz PyData := (f1 env).bind fun x => match x with
  | .bool true => .ok (.bool true)
  | .bool false => f2 env
  | _ => .st
@[simp] def gNot : PyData → Option PyData
  | .bool c => some (.bool (!c))
  | _ => none
theorem de_one {op : BoolOp} (h : DE X b e f L) : DE X b (.BoolOp op [e] pos) f L := pe_one h
theorem de_and (h1 : DE X b e1 f1 La) (h2 : DE X b (.BoolOp .And (e2 :: rest) pos) f2 Lb) : DE X b (.BoolOp .And (e1 :: e2 :: rest) pos) (cAndD f1 f2) Lb :=
  PE.wk (pe_and h1 h2) fun σ H Q ⟨env, o, R, h⟩ => ⟨env, o, R, h.bind.imp fun x _ h v H1 s1 r1 => by
    split at h
    · cases r1.bl_of
      refine ⟨true, rfl, ?_⟩
      rw [if_pos rfl]
      exact ⟨env, o, R.same s1, h.imp fun d _ h w H2 s2 r2 => h w H2 (s1.trans s2) r2⟩
    · cases r1.bl_of
      refine ⟨false, rfl, ?_⟩
      rw [if_neg Bool.false_ne_true]
      exact h _ H1 s1 (.bl false)
    · exact False.elim h⟩
theorem de_or (h1 : DE X b e1 f1 La) (h2 : DE X b (.BoolOp .Or (e2 :: rest) pos) f2 Lb) : DE X b (.BoolOp .Or (e1 :: e2 :: rest) pos) (cOrD f1 f2) Lb :=
  PE.wk (pe_or h1 h2) fun σ H Q ⟨env, o, R, h⟩ => ⟨env, o, R, h.bind.imp fun x _ h v H1 s1 r1 => by
    split at h
    · cases r1.bl_of
      refine ⟨true, rfl, ?_⟩
      rw [if_pos rfl]
      exact h _ H1 s1 (.bl true)
    · cases r1.bl_of
      refine ⟨false, rfl, ?_⟩
      rw [if_neg Bool.false_ne_true]
      exact ⟨env, o, R.same s1, h.imp fun d _ h w H2 s2 r2 => h w H2 (s1.trans s2) r2⟩
    · exact False.elim h⟩
theorem de_not (h : DE X b e f L) : DE X b (.UnaryOp .Not e pos) (c1 gNot f) [] :=
  PE.wk (pe_not h) fun σ H Q ⟨env, o, R, h⟩ => ⟨env, o, R, h.bind.imp fun x _ h v H1 s1 r1 => by
    obtain ⟨d, e, h⟩ := h.of
    unfold gNot at e
    split at e
    · cases e
      cases r1.bl_of
      exact ⟨_, rfl, h _ H1 s1 (.bl _)⟩
    · cases e⟩
/-! ### a if t else b -/
@[simp] def cIf (t : FT) (f1 f2 : FE) (env : En) : Rz PyData := (t env).bind fun c => match c with | true => f1 env | false => f2 env
theorem de_if (ht : DT X b e ft) (h1 : DE X b e1 f1 La) (h2 : DE X b e2 f2 Lb) : DE X b (.IfExp e e1 e2 pos) (cIf ft f1 f2) (La ++ Lb) :=
  PE.wk (pe_ifExp ht h1 h2) fun σ H Q ⟨env, o, R, h⟩ => ⟨env, o, R, h.bind.imp fun c _ h H1 s1 => by
    cases c with
    | true => rw [if_pos rfl]; exact ⟨env, o, R.same s1, h.imp fun d _ h w H2 s2 r2 => h w H2 (s1.trans s2) (r2.less fun a z => (ex_frees_app z).1)⟩
    | false => rw [if_neg Bool.false_ne_true]; exact ⟨env, o, R.same s1, h.imp fun d _ h w H2 s2 r2 => h w H2 (s1.trans s2) (r2.less fun a z => (ex_frees_app z).2)⟩⟩

/-! ### argument lists and displays -/
@[simp] def aNil (_ : En) : Rz (List PyData) := .ok []
@[simp] def aCons (f : FE) (fs : FA) (env : En) : Rz (List PyData) := (f env).bind fun x => (fs env).bind fun xs => .ok (x :: xs)
theorem da_nil : DA X b [] aNil [] := PA.wk pa_nil fun σ H Q ⟨_, _, _, h⟩ => h [] H (.refl H) .nil
theorem da_cons (h1 : DE X b e f La) (h2 : DA X b es fs Lb) (hs : starEach (e :: es) X.env = (false, eval e X.env) :: starEach es X.env := by rfl) : DA X b (e :: es) (aCons f fs) (La ++ Lb) :=
  PA.wk (pa_cons h1 h2 hs) fun σ H Q ⟨env, o, R, h⟩ => ⟨env, o, R, h.bind.imp fun x _ h v H1 s1 r1 => ⟨env, o, R.same s1, h.bind.imp fun xs _ h vs H2 s2 r2 =>
    h (v :: vs) H2 (s1.trans s2) (.cons ((r1.same s2).less fun a z => (ex_frees_app z).1) (r2.less fun a z => (ex_frees_app z).2))⟩⟩
@[simp] def cTup (fs : FA) (env : En) : Rz PyData := (fs env).bind fun xs => if xs.length ≤ 1000000 then .ok (.tuple xs) else .st
theorem de_tup {k : Nat} (h : DA X b es fs L) : DE X b (.Tuple es k pos) (cTup fs) L :=
  PE.wk (pe_tup h) fun σ H Q ⟨env, o, R, h⟩ => ⟨env, o, R, h.bind.imp fun xs _ h vs H1 s1 r1 => by
    split at h
    · rename_i hz
      refine ⟨by rw [r1.length]; exact Nat.le_trans hz million, fun p hp => h _ _ (s1.trans (same_upd hp)) (.tup (.inl upd_same) (r1.same (same_upd hp)))⟩
    · exact False.elim h⟩
theorem rpa_new {K : PySem.W.Frag} {H : Hp} {O : Addr → Prop} {p : Addr} {u : HO} {vs : List V} {ds : List PyData} (hp : H p = none) (r : RpA K H O vs ds) : RpA K (upd H p u) (fun c => O c ∨ c = p) vs ds :=
  Rp.moveA (.of_same (same_upd hp)) (fun a z => z.elim .inl fun z => .inr (by rw [z]; exact hp)) ds vs r
@[simp] def cLst (fs : FA) (env : En) : Rz (List PyData) := (fs env).bind fun xs => if xs.length ≤ 1000000 then .ok xs else .st
theorem do_lst (h : DA X b es fs L) : DO X b (.List es pos) (cLst fs) L :=
  PE.wk (pe_lst h) fun σ H Q ⟨env, o, R, h⟩ => ⟨env, o, R, h.bind.imp fun xs _ h vs H1 s1 r1 => by
    split at h
    · rename_i hz
      refine ⟨by rw [r1.length]; exact Nat.le_trans hz million, fun p hp => h p vs _ (s1.trans (same_upd hp)) ?_ upd_same (rpa_new hp r1)⟩
      cases q : H p with
      | none => rfl
      | some u => rw [s1 _ _ q] at hp; cases hp
    · exact False.elim h⟩

/-! ### x[i], x[a:b] -/
@[simp] def gIx : PyData → PyData → Option PyData
  | .list xs, .int i => atI xs i
  | .tuple xs, .int i => atI xs i
  | .str z, .int i => if z.length ≤ 1000000 then (atI z.cps.toList i).map fun c => .str ⟨#[c]⟩ else none
  | _, _ => none
theorem rpa_at {K : PySem.W.Frag} {H : Hp} {O : Addr → Prop} {vs : List V} {ds : List PyData} {i : Int} {d : PyData} (r : RpA K H O vs ds) (h : atI ds i = some d) : ∃ v, atI vs i = some v ∧ Rp K H O v d := by
  unfold atI at h ⊢
  rw [r.length]
  cases q : ixN ds.length i with
  | none => rw [q] at h; cases h
  | some j =>
    rw [q] at h
    obtain ⟨v, h1, h2⟩ := r.get (i := j) h
    exact ⟨v, h1, h2⟩
theorem opb_ix {K : PySem.W.Frag} : OpB K (rIx K) gIx := by
  intro H O x y dx dy d Q ho rx ry e q
  unfold gIx at e
  split at e
  · rename_i xs i
    obtain ⟨a, vs, rfl, h1, h2⟩ := rx.sqL
    obtain ⟨v, h3, h4⟩ := rpa_at h2 e
    exact .inl ⟨a, vs, i, v, rfl, (ry.rp fun _ z => nomatch z).int_of, h1, h3, q _ _ (.refl H) h4⟩
  · rename_i xs i
    obtain ⟨a, vs, rfl, h1, h2⟩ := rx.sqT
    obtain ⟨v, h3, h4⟩ := rpa_at h2 e
    exact .inr (.inl ⟨a, vs, i, v, rfl, (ry.rp fun _ z => nomatch z).int_of, h1, h3, q _ _ (.refl H) h4⟩)
  · rename_i z i
    split at e
    · rename_i hz
      cases q2 : atI z.cps.toList i with
      | none => rw [q2] at e; cases e
      | some c =>
        rw [q2] at e
        cases e
        exact .inr (.inr ⟨z, i, c, (rx.rp fun _ z => nomatch z).str_of, (ry.rp fun _ z => nomatch z).int_of, Nat.le_trans hz million, q2, q _ _ (.refl H) (.str _)⟩)
    · cases e
  · cases e
theorem de_ix (h1 : DB X b e1 f1 La) (h2 : DB X b e2 f2 Lb) (hs : PlainIx e2 := by exact fun _ _ => rfl) : DE X b (.Subscript e1 e2 pos) (c2 gIx f1 f2) (La ++ Lb) :=
  PE.wk (pe_ix ix_seq h1 h2 hs) fun _ _ _ h => twoB h opb_ix
/-- a part of a slice -/
abbrev FP := En → Rz (Option Int)
def tDP (K : PySem.W.Frag) (b : Bs) (f : FP) : TO := fun σ H Q => ∃ env o, RS K b H env σ o ∧ Pz K b (f env) fun l => ∀ H', Same H H' → Q l H'
def DP (X : Cx) (b : Bs) (e : Option Expr) (f : FP) : Prop := PO X e (tDP X.K b f)
theorem PO.wk {e : Option Expr} {t t' : TO} (h : PO X e t) (k : ∀ σ H Q, t' σ H Q → t σ H Q) : PO X e t' := ⟨fun pins s σ H Q I q => h.run pins s σ H Q I (k σ H Q q)⟩
@[simp] def pNo (_ : En) : Rz (Option Int) := .ok none
@[simp] def pSo (f : FE) (env : En) : Rz (Option Int) := (f env).bind fun d => match d with | .int i => .ok (some i) | _ => .st
theorem dp_no : DP X b none pNo := PO.wk po_none fun σ H Q ⟨_, _, _, h⟩ => h H (.refl H)
theorem dp_so (h : DE X b e f L) : DP X b (some e) (pSo f) := PO.wk (po_some h) fun σ H Q ⟨env, o, R, h⟩ => ⟨env, o, R, h.bind.imp fun d _ h v H1 s1 r1 => by
  split at h
  · exact ⟨_, r1.int_of, h H1 s1⟩
  · exact False.elim h⟩
def cutA {α : Type} (xs : List α) (lo hi : Option Int) : List α := (xs.drop (HT.sIx xs.length 0 lo)).take (HT.sIx xs.length xs.length hi - HT.sIx xs.length 0 lo)
theorem cutA_whole {α : Type} {xs : List α} {lo hi : Option Int} (w1 : HT.sIx xs.length 0 lo = 0) (w2 : HT.sIx xs.length xs.length hi = xs.length) : cutA xs lo hi = xs := by
  unfold cutA
  rw [w1, w2, List.drop_zero, Nat.sub_zero, List.take_length]
@[simp] def gSl : PyData → Option Int → Option Int → Option PyData
  | .tuple xs, lo, hi => some (.tuple (cutA xs lo hi))
  | .str z, lo, hi => if z.length ≤ 1000000 then some (.str (cutS z lo hi)) else none
  | _, _, _ => none
theorem rpa_cut {K : PySem.W.Frag} {H : Hp} {O : Addr → Prop} {vs : List V} {ds : List PyData} (lo hi : Option Int) (r : RpA K H O vs ds) : RpA K H O (cutV vs lo hi) (cutA ds lo hi) := by
  unfold cutV cutA
  rw [r.length]
  exact (r.drop _).take _
@[simp] def cSl (f : FE) (lo hi : FP) (env : En) : Rz PyData := (f env).bind fun x => (lo env).bind fun l => (hi env).bind fun h => Rz.of (gSl x l h)
theorem de_sl {lo hi : Option Expr} {fl fh : FP} {p2 : Pos} (h1 : DE X b e f L) (hl : DP X b lo fl) (hh : DP X b hi fh) : DE X b (.Subscript e (.Slice lo hi none p2) pos) (cSl f fl fh) L :=
  PE.wk (pe_slice (sl_tupA.or sl_str) h1 hl hh) fun σ H Q ⟨env, o, R, h⟩ => ⟨env, o, R, h.bind.imp fun x _ h v H1 s1 r1 => ⟨env, o, R.same s1, h.bind.imp fun l _ h H2 s2 =>
    ⟨env, o, (R.same s1).same s2, h.bind.imp fun u _ h H3 s3 => by
      obtain ⟨d, eq, h⟩ := h.of
      have s := (s1.trans s2).trans s3
      have r3 := r1.same (s2.trans s3)
      cases x with
      | tuple xs =>
        cases eq
        obtain ⟨a, vs, rfl, q1, q2⟩ := r3.sqT
        refine .inl ⟨a, vs, rfl, q1, fun w => ?_, fun w p hp => ?_⟩
        · rw [q2.length] at w
          rw [cutA_whole w.1 w.2] at h
          exact h _ H3 s r3
        · exact h _ _ (s.trans (same_upd hp)) (.tup (.inl upd_same) ((rpa_cut l u q2).same (same_upd hp)))
      | str z =>
        replace eq : (if z.length ≤ 1000000 then some (PyData.str (cutS z l u)) else none) = some d := eq
        split at eq
        · rename_i hz
          cases eq
          exact .inr ⟨z, r3.str_of, Nat.le_trans hz million, h _ H3 s (.str _)⟩
        · cases eq
      | _ => cases eq⟩⟩⟩
/-- of a list: a new list -/
@[simp] def oSl (f : FE) (lo hi : FP) (env : En) : Rz (List PyData) := (f env).bind fun x => (lo env).bind fun l => (hi env).bind fun h => match x with | .list xs => .ok (cutA xs l h) | _ => .st
theorem do_sl {lo hi : Option Expr} {fl fh : FP} {p2 : Pos} (h1 : DB X b e f L) (hl : DP X b lo fl) (hh : DP X b hi fh) : DO X b (.Subscript e (.Slice lo hi none p2) pos) (oSl f fl fh) L :=
  PE.wk (pe_slice sl_list h1 hl hh) fun σ H Q ⟨env, o, R, h⟩ => ⟨env, o, R, h.bind.imp fun x _ h v H1 s1 r1 => ⟨env, o, R.same s1, h.bind.imp fun l _ h H2 s2 =>
    ⟨env, o, (R.same s1).same s2, h.bind.imp fun u _ h H3 s3 => by
      have s := (s1.trans s2).trans s3
      have r3 := r1.move (s2.trans s3) fun a z => z
      split at h
      · rename_i xs
        obtain ⟨a, vs, rfl, q1, q2⟩ := r3.sqL
        refine ⟨a, vs, rfl, q1, fun p hp => h p _ _ (s.trans (same_upd hp)) (s.free hp) upd_same (rpa_new hp (rpa_cut l u q2))⟩
      · exact False.elim h⟩⟩⟩

/-! ### in, not in -/
@[simp] def gIn : PyData → PyData → Option Bool
  | d, .list ds => if (SeqAt.shaped d && SeqAt.shaped (.list ds)) = true then some (ds.any fun z => PyData.eqv z d) else none
  | d, .tuple ds => if (SeqAt.shaped d && SeqAt.shaped (.tuple ds)) = true then some (ds.any fun z => PyData.eqv z d) else none
  | _, _ => none
@[simp] def gNin (x y : PyData) : Option Bool := (gIn x y).map not
def rInT (K : PySem.W.Frag) : R2 := fun x y H Q => ∃ d ds, Dp K H x d ∧ Dp K H y (.tuple ds) ∧ SeqAt.shaped d = true ∧ SeqAt.shaped (.tuple ds) = true ∧ Q (.bl (ds.any fun z => PyData.eqv z d)) H
def rNinT (K : PySem.W.Frag) : R2 := fun x y H Q => ∃ d ds, Dp K H x d ∧ Dp K H y (.tuple ds) ∧ SeqAt.shaped d = true ∧ SeqAt.shaped (.tuple ds) = true ∧ Q (.bl (!ds.any fun z => PyData.eqv z d)) H
theorem canLay_tuple {ds : List PyData} (h : SeqAt.shaped (.tuple ds) = true) : PyData.canLayAll0 ds = true := SeqAt.canLay_of_shaped h
theorem op_inT (hu : X.A.units + 65 < cLine) : OpR X (compareOp .In) (rInT X.K) := by
  intro pins s σ H x y v u Q I rx ry h
  obtain ⟨d, ds, hd, he, sd, se, q⟩ := h
  obtain ⟨as, r1⟩ := Dp.reads I d x v hd rx
  obtain ⟨bs, r2⟩ := Dp.reads I (.tuple ds) y u he ry
  exact SeqAt.in_tuple_reads r2 r1 (canLay_tuple se) (SeqAt.canLay_of_shaped sd) (room_in_shaped sd hu) ⟨.bl _, H, I, rfl, q⟩
theorem op_ninT (hu : X.A.units + 65 < cLine) : OpR X (compareOp .NotIn) (rNinT X.K) := by
  intro pins s σ H x y v u Q I rx ry h
  obtain ⟨d, ds, hd, he, sd, se, q⟩ := h
  obtain ⟨as, r1⟩ := Dp.reads I d x v hd rx
  obtain ⟨bs, r2⟩ := Dp.reads I (.tuple ds) y u he ry
  exact SeqAt.notIn_tuple_reads r2 r1 (canLay_tuple se) (SeqAt.canLay_of_shaped sd) (room_in_shaped sd hu) ⟨.bl _, H, I, rfl, q⟩
theorem opb_in {K : PySem.W.Frag} : OpB K (fun x y H Q => rInD K x y H Q ∨ rInT K x y H Q) (bo gIn) := by
  intro H O x y dx dy d Q ho rx ry e q
  unfold bo gIn at e
  split at e
  · split at e
    · rename_i h
      cases e
      rw [Bool.and_eq_true] at h
      exact .inl ⟨dx, _, rx.dp h.1, ry.dp h.2, h.1, h.2, q _ _ (.refl H) (.bl _)⟩
    · cases e
  · split at e
    · rename_i h
      cases e
      rw [Bool.and_eq_true] at h
      exact .inr ⟨dx, _, rx.dp h.1, ry.dp h.2, h.1, h.2, q _ _ (.refl H) (.bl _)⟩
    · cases e
  · cases e
theorem opb_nin {K : PySem.W.Frag} : OpB K (fun x y H Q => rNotInD K x y H Q ∨ rNinT K x y H Q) (bo gNin) := by
  intro H O x y dx dy d Q ho rx ry e q
  unfold bo gNin gIn at e
  split at e
  · split at e
    · rename_i h
      cases e
      rw [Bool.and_eq_true] at h
      exact .inl ⟨dx, _, rx.dp h.1, ry.dp h.2, h.1, h.2, q _ _ (.refl H) (.bl _)⟩
    · cases e
  · split at e
    · rename_i h
      cases e
      rw [Bool.and_eq_true] at h
      exact .inr ⟨dx, _, rx.dp h.1, ry.dp h.2, h.1, h.2, q _ _ (.refl H) (.bl _)⟩
    · cases e
  · cases e

/-! ### built-ins by their names -/
/-- of one value -/
def CaD (K : PySem.W.Frag) (r : List V → Hp → VK → Prop) (g : PyData → Option PyData) : Prop :=
  ∀ (H : Hp) (O : Addr → Prop) (x : V) (dx d : PyData) (Q : VK), RpB K H O x dx → g dx = some d → (∀ v H', Same H H' → Rp K H' O v d → Q v H') → r [x] H Q
def CaD2 (K : PySem.W.Frag) (r : List V → Hp → VK → Prop) (g : PyData → PyData → Option PyData) : Prop :=
  ∀ (H : Hp) (O : Addr → Prop) (x y : V) (dx dy d : PyData) (Q : VK), RpB K H O x dx → RpB K H O y dy → g dx dy = some d → (∀ v H', Same H H' → Rp K H' O v d → Q v H') → r [x, y] H Q
variable {x : Str} {p : Pos} {id T : String} {r : List V → Hp → VK → Prop} {g : PyData → Option PyData} {g2 : PyData → PyData → Option PyData}
theorem ca1 {K : PySem.W.Frag} {σ : L2.St} {H : Hp} {Q : VK} (hd : CaD K r g) (h : tD K b (c1 g f) L σ H Q) : tCB r (tCons (tDB K b f L) tNil) σ H Q := by
  obtain ⟨env, o, R, h⟩ := h
  refine ⟨env, o, R, h.bind.imp fun dx _ h v H1 s1 r1 => ?_⟩
  obtain ⟨d, e, h⟩ := h.of
  exact hd H1 _ v dx d Q r1 e fun w H' s r => h w H' (s1.trans s) r
theorem ca2 {K : PySem.W.Frag} {σ : L2.St} {H : Hp} {Q : VK} (hd : CaD2 K r g2) (h : tD K b (c2 g2 f1 f2) (La ++ Lb) σ H Q) : tCB r (tCons (tDB K b f1 La) (tCons (tDB K b f2 Lb) tNil)) σ H Q := by
  obtain ⟨env, o, R, h⟩ := h
  refine ⟨env, o, R, h.bind.imp fun dx _ h v H1 s1 r1 => ⟨env, o, R.same s1, h.bind.imp fun dy _ h w H2 s2 r2 => ?_⟩⟩
  obtain ⟨d, e, h⟩ := h.of
  exact hd H2 (Ex b (frees (La ++ Lb) env) o) v w dx dy d Q (r1.move s2 fun a z => (ex_frees_app z).1) (r2.move (.refl _) fun a z => (ex_frees_app z).2) e fun w H' s r => h w H' ((s1.trans s2).trans s) r
theorem de_b1 (hd : CaD X.K r g) (hc : CallR X (.builtin id) r) (hg : Gl X x) (hm : X.mg x = none) (hv : bootBuiltins x = some (.builtin id)) (h : DB X b e f L) (hn : x ≠ "__name__" := by decide) (hdb : (x == ("__debug__" : Str)) = false := by decide)
    (he : starEach [e] X.env = (false, eval e X.env) :: starEach [] X.env := by rfl) (hpl : (backTo pos (starEach [] X.env)).any (·.1) = false := by rfl) : DE X b (.Call (.Name x p) [e] [] pos) (c1 g f) L :=
  PE.wk (pe_callB hc hg hm hv (pa_cons h pa_nil he) hn hdb he hpl) fun _ _ _ h => ca1 hd h
theorem de_t1 (hd : CaD X.K r g) (hc : CallR X (.type T) r) (hg : Gl X x) (hm : X.mg x = none) (hv : bootBuiltins x = some (.type T)) (h : DB X b e f L) (hn : x ≠ "__name__" := by decide) (hdb : (x == ("__debug__" : Str)) = false := by decide)
    (he : starEach [e] X.env = (false, eval e X.env) :: starEach [] X.env := by rfl) (hpl : (backTo pos (starEach [] X.env)).any (·.1) = false := by rfl) : DE X b (.Call (.Name x p) [e] [] pos) (c1 g f) L :=
  PE.wk (pe_callTy hc hg hm hv (pa_cons h pa_nil he) hn hdb he hpl) fun _ _ _ h => ca1 hd h
theorem de_b2 (hd : CaD2 X.K r g2) (hc : CallR X (.builtin id) r) (hg : Gl X x) (hm : X.mg x = none) (hv : bootBuiltins x = some (.builtin id)) (h1 : DB X b e1 f1 La) (h2 : DB X b e2 f2 Lb) (hn : x ≠ "__name__" := by decide) (hdb : (x == ("__debug__" : Str)) = false := by decide)
    (he : starEach [e1, e2] X.env = (false, eval e1 X.env) :: starEach [e2] X.env := by rfl) (he2 : starEach [e2] X.env = (false, eval e2 X.env) :: starEach [] X.env := by rfl) (hpl : (backTo pos (starEach [e2] X.env)).any (·.1) = false := by rfl) :
    DE X b (.Call (.Name x p) [e1, e2] [] pos) (c2 g2 f1 f2) (La ++ Lb) :=
  PE.wk (pe_callB hc hg hm hv (pa_cons h1 (pa_cons h2 pa_nil he2) he) hn hdb he hpl) fun _ _ _ h => ca2 hd h
@[simp] def gLen : PyData → Option PyData
  | .list xs => some (.int xs.length)
  | .tuple xs => some (.int xs.length)
  | .str z => if z.length ≤ 1000000 then some (.int z.length) else none
  | _ => none
theorem cad_len {K : PySem.W.Frag} : CaD K (fun xs H Q => ∃ x n, xs = [x] ∧ LenV K x H n ∧ Q (.int n) H) gLen := by
  intro H O x dx d Q rx e q
  unfold gLen at e
  split at e
  · cases e
    obtain ⟨a, vs, rfl, h1, h2⟩ := rx.sqL
    exact ⟨_, _, rfl, .inl ⟨vs, h1, h2.length.symm⟩, q _ _ (.refl H) (.int _)⟩
  · cases e
    obtain ⟨a, vs, rfl, h1, h2⟩ := rx.sqT
    exact ⟨_, _, rfl, .inr ⟨vs, h1, h2.length.symm⟩, q _ _ (.refl H) (.int _)⟩
  · split at e
    · rename_i hz
      cases e
      cases (rx.rp fun _ z => nomatch z).str_of
      exact ⟨_, _, rfl, ⟨Nat.le_trans hz million, rfl⟩, q _ _ (.refl H) (.int _)⟩
    · cases e
  · cases e
@[simp] def gInt : PyData → Option PyData
  | .int i => some (.int i)
  | .bool k => some (.int (if k then 1 else 0))
  | _ => none
theorem cad_int {K : PySem.W.Frag} : CaD K (fun xs H Q => (∃ i, xs = [.int i] ∧ Q (.int i) H) ∨ ∃ k, xs = [.bl k] ∧ Q (.int (if k then 1 else 0)) H) gInt := by
  intro H O x dx d Q rx e q
  unfold gInt at e
  split at e
  · cases e
    cases (rx.rp fun _ z => nomatch z).int_of
    exact .inl ⟨_, rfl, q _ _ (.refl H) (.int _)⟩
  · cases e
    cases (rx.rp fun _ z => nomatch z).bl_of
    exact .inr ⟨_, rfl, q _ _ (.refl H) (.int _)⟩
  · cases e
@[simp] def gAbs : PyData → Option PyData
  | .int i => some (.int (if i < 0 then -i else i))
  | _ => none
theorem cad_abs {K : PySem.W.Frag} : CaD K (fun xs H Q => ∃ i, xs = [.int i] ∧ Q (.int (if i < 0 then -i else i)) H) gAbs := by
  intro H O x dx d Q rx e q
  unfold gAbs at e
  split at e
  · cases e
    cases (rx.rp fun _ z => nomatch z).int_of
    exact ⟨_, rfl, q _ _ (.refl H) (.int _)⟩
  · cases e
@[simp] def gMax : PyData → PyData → Option PyData
  | .int i, .int j => some (.int (if j > i then j else i))
  | _, _ => none
@[simp] def gMin : PyData → PyData → Option PyData
  | .int i, .int j => some (.int (if j < i then j else i))
  | _, _ => none
theorem cad_max {K : PySem.W.Frag} : CaD2 K (fun xs H Q => ∃ i j, xs = [.int i, .int j] ∧ Q (.int (if j > i then j else i)) H) gMax := by
  intro H O x y dx dy d Q rx ry e q
  unfold gMax at e
  split at e
  · cases e
    cases (rx.rp fun _ z => nomatch z).int_of
    cases (ry.rp fun _ z => nomatch z).int_of
    exact ⟨_, _, rfl, q _ _ (.refl H) (.int _)⟩
  · cases e
theorem cad_min {K : PySem.W.Frag} : CaD2 K (fun xs H Q => ∃ i j, xs = [.int i, .int j] ∧ Q (.int (if j < i then j else i)) H) gMin := by
  intro H O x y dx dy d Q rx ry e q
  unfold gMin at e
  split at e
  · cases e
    cases (rx.rp fun _ z => nomatch z).int_of
    cases (ry.rp fun _ z => nomatch z).int_of
    exact ⟨_, _, rfl, q _ _ (.refl H) (.int _)⟩
  · cases e
/-- list(xs), list(t): a new list -/
@[simp] def oList (f : FE) (env : En) : Rz (List PyData) := (f env).bind fun x => match x with
  | .list xs => .ok xs
  | .tuple xs => .ok xs
  | _ => .st
theorem do_list (hg : Gl X "list") (hm : X.mg "list" = none) (hv : bootBuiltins "list" = some (.type "list")) (h : DB X b e f L)
    (he : starEach [e] X.env = (false, eval e X.env) :: starEach [] X.env := by rfl) (hpl : (backTo pos (starEach [] X.env)).any (·.1) = false := by rfl) : DO X b (.Call (.Name "list" p) [e] [] pos) (oList f) L :=
  PE.wk (pe_callTy call_list_of hg hm hv (pa_cons h pa_nil he) (by decide) (by decide) he hpl) fun σ H Q ⟨env, o, R, h⟩ => ⟨env, o, R, h.bind.imp fun x _ h v H1 s1 r1 => by
    split at h
    · obtain ⟨a, vs, rfl, q1, q2⟩ := r1.sqL
      exact ⟨a, vs, rfl, .inl q1, fun p hp => h p vs _ (s1.trans (same_upd hp)) (s1.free hp) upd_same (rpa_new hp q2)⟩
    · obtain ⟨a, vs, rfl, q1, q2⟩ := r1.sqT
      exact ⟨a, vs, rfl, .inr q1, fun p hp => h p vs _ (s1.trans (same_upd hp)) (s1.free hp) upd_same (rpa_new hp q2)⟩
    · exact False.elim h⟩
/-! ### isinstance of a built-in class -/
@[simp] def tyD : PyData → Option String
  | .none => some "NoneType"
  | .bool _ => some "bool"
  | .int _ => some "int"
  | .str _ => some "str"
  | .list _ => some "list"
  | .tuple _ => some "tuple"
  | .dict _ => none
@[simp] def isiB (t c : String) : Bool := t == c || (t == "bool" && c == "int")
theorem ty_of {K : PySem.W.Frag} {H : Hp} {O : Addr → Prop} {x : V} {d : PyData} {t : String} (r : RpB K H O x d) (h : tyD d = some t) : TyX K H x (.type t) := by
  rcases r with r | ⟨a, rfl, c⟩
  · cases r with
    | non => cases h; exact .base .non
    | bl c => cases h; exact .base (.bl c)
    | int i => cases h; exact .base (.int i)
    | str z => cases h; exact .base (.str z)
    | lst q _ _ =>
      cases h
      rcases q with q | ⟨ob, q⟩
      · exact .base (.lst q)
      · exact .base (.frz q)
    | lstK q _ => cases h; obtain ⟨its, n, q1, _⟩ := q; exact .kList q1 rfl
    | tup q _ =>
      cases h
      rcases q with q | ⟨ob, q⟩
      · exact .base (.tup q)
      · exact .fTuple q
    | tupK q _ => cases h; obtain ⟨ob, its, n, q1, q2, _⟩ := q; exact .kTuple q1 q2
    | ins _ _ _ _ => cases h
    | dct _ _ _ _ _ => cases h
    | dck _ _ _ => cases h
  · cases c with
    | lst h1 _ => cases h; exact .base (.lst h1)
    | dct _ _ _ _ => cases h
    | dck _ _ => cases h
/-- what is asked of the class -/
structure Isi (K : PySem.W.Frag) (c : String) : Prop where
  ok : ∀ t ∈ ["NoneType", "bool", "int", "str", "list", "tuple"], PySem.W.kitOne K (.type t) (.type c) = some (isiB t c)
@[simp] def gIsi (c : String) (d : PyData) : Option Bool := (tyD d).map fun t => isiB t c
theorem tyD_mem {d : PyData} {t : String} (h : tyD d = some t) : t ∈ ["NoneType", "bool", "int", "str", "list", "tuple"] := by
  cases d <;> cases h <;> simp
@[simp] def cIsi (c : String) (f : FE) (env : En) : Rz PyData := (f env).bind fun d => Rz.of ((gIsi c d).map .bool)
theorem isi_rd {K : PySem.W.Frag} {c : String} (i : Isi K c) {σ : L2.St} {H : Hp} {Q : VK} {env : En} {o : Nat → List Nat → Addr} (R : RS K b H env σ o) (h : Pz K b (f env) fun d => ∃ k, gIsi c d = some k ∧ ∀ H', Same H H' → Q (.bl k) H') :
    tCB (rIsi K) (tCons (tDB K b f L) (tCons (tC (.ty c)) tNil)) σ H Q := by
  refine ⟨env, o, R, h.imp fun dx _ h v H1 s1 r1 => ?_⟩
  obtain ⟨k, e, h⟩ := h
  unfold gIsi at e
  cases q : tyD dx with
  | none => rw [q] at e; cases e
  | some t =>
    rw [q] at e
    cases e
    exact ⟨v, .ty c, .type t, .type c, _, rfl, .ty c, ty_of r1 q, i.ok t (tyD_mem q), h H1 s1⟩
variable {c : String} {y : Str} {p2 : Pos}
theorem de_isi (i : Isi X.K c) (hg : Gl X "isinstance") (hm : X.mg "isinstance" = none) (hv : bootBuiltins "isinstance" = some (.builtin "isinstance")) (gy : Gl X y) (my : X.mg y = none) (hy : bootBuiltins y = some (.type c)) (h : DB X b e f L)
    (hn : y ≠ "__name__" := by decide) (hdb : (y == ("__debug__" : Str)) = false := by decide)
    (he : starEach [e, .Name y p2] X.env = (false, eval e X.env) :: starEach [.Name y p2] X.env := by rfl) (he2 : starEach [.Name y p2] X.env = (false, eval (.Name y p2) X.env) :: starEach [] X.env := by rfl) (hpl : (backTo pos (starEach [.Name y p2] X.env)).any (·.1) = false := by rfl) :
    DE X b (.Call (.Name "isinstance" p) [e, .Name y p2] [] pos) (cIsi c f) [] :=
  PE.wk (pe_callB call_isi hg hm hv (pa_cons h (pa_cons (pe_bltn gy my hy (v := .ty c) rfl hn hdb) pa_nil he2) he) (by decide) (by decide) he hpl) fun σ H Q ⟨env, o, R, h⟩ => isi_rd i R (h.bind.imp fun d _ h => by
    obtain ⟨k, e, h⟩ := h.of
    cases q : gIsi c d with
    | none => rw [q] at e; cases e
    | some k' =>
      rw [q] at e
      cases e
      exact ⟨k', rfl, fun H' s => h _ H' s (.bl k')⟩)
theorem isi_int {K : PySem.W.Frag} : Isi K "int" := ⟨fun t h => by
  simp only [List.mem_cons, List.not_mem_nil, or_false] at h
  rcases h with rfl | rfl | rfl | rfl | rfl | rfl <;> exact kit_ty (by decide +kernel)⟩
theorem isi_bool {K : PySem.W.Frag} : Isi K "bool" := ⟨fun t h => by
  simp only [List.mem_cons, List.not_mem_nil, or_false] at h
  rcases h with rfl | rfl | rfl | rfl | rfl | rfl <;> exact kit_ty (by decide +kernel)⟩
theorem isi_str {K : PySem.W.Frag} : Isi K "str" := ⟨fun t h => by
  simp only [List.mem_cons, List.not_mem_nil, or_false] at h
  rcases h with rfl | rfl | rfl | rfl | rfl | rfl <;> exact kit_ty (by decide +kernel)⟩
theorem isi_list {K : PySem.W.Frag} : Isi K "list" := ⟨fun t h => by
  simp only [List.mem_cons, List.not_mem_nil, or_false] at h
  rcases h with rfl | rfl | rfl | rfl | rfl | rfl <;> exact kit_ty (by decide +kernel)⟩
theorem isi_tuple {K : PySem.W.Frag} : Isi K "tuple" := ⟨fun t h => by
  simp only [List.mem_cons, List.not_mem_nil, or_false] at h
  rcases h with rfl | rfl | rfl | rfl | rfl | rfl <;> exact kit_ty (by decide +kernel)⟩
end
end DL
namespace DL
open PySem PySem.Spec PyProof.Rows L2

/-! ### statements -/
inductive Rs where
  | nx (e : En) | rt (d : PyData) | rto (ds : List PyData) | bk (e : En) | ct (e : En) | rtx (d : PyData) (e : En) | rtn (d : PyData)
abbrev FS := En → Rz Rs
structure Per (K : PySem.W.Frag) (H : Hp) (O : Addr → Prop) (H' : Hp) (O' : Addr → Prop) : Prop where
  rp : ∀ v d, Rp K H O v d → Rp K H' O' v d
  /-- what is not excluded stands as it was -/
  dc : ∀ a u, H a = some u → ¬ O a → H' a = some u ∧ ¬ O' a
instance {K : PySem.W.Frag} {H H' : Hp} {O O' : Addr → Prop} : CoeFun (Per K H O H' O') fun _ => ∀ v d, Rp K H O v d → Rp K H' O' v d := ⟨Per.rp⟩
theorem Per.trans {K : PySem.W.Frag} {H H1 H2 : Hp} {O O1 O2 : Addr → Prop} (a : Per K H O H1 O1) (c : Per K H1 O1 H2 O2) : Per K H O H2 O2 := ⟨fun v d r => c v d (a v d r), fun x u e n => let ⟨e1, n1⟩ := a.dc x u e n; c.dc x u e1 n1⟩
theorem Per.refl {K : PySem.W.Frag} {H : Hp} {O : Addr → Prop} : Per K H O H O := ⟨fun _ _ r => r, fun _ _ e n => ⟨e, n⟩⟩
theorem Per.all {K : PySem.W.Frag} {H H1 : Hp} {O O1 : Addr → Prop} (p : Per K H O H1 O1) : ∀ {vs : List V} {ds : List PyData}, RpA K H O vs ds → RpA K H1 O1 vs ds
  | _, _, .nil => .nil
  | _, _, .cons r t => .cons (p _ _ r) (Per.all p t)
theorem Per.same {K : PySem.W.Frag} {H H1 : Hp} {O O1 : Addr → Prop} (s : Same H H1) (m : ∀ a, O1 a → O a ∨ H a = none) : Per K H O H1 O1 := ⟨fun v d r => Rp.move (.of_same s) m d v r, fun a u e n => ⟨s a u e, fun z => (m a z).elim n fun z => by rw [e] at z; cases z⟩⟩
theorem Per.keep {K : PySem.W.Frag} {H H1 : Hp} {O O1 : Addr → Prop} (kp : Keep O H H1) (le : ∀ a, O1 a → O a) : Per K H O H1 O1 := ⟨fun v d r => Rp.move kp (fun a z => .inl (le a z)) d v r, fun a u e n => ⟨kp a u e (.inr n), fun z => n (le a z)⟩⟩
/-- what is wanted where a state goes on -/
def Cont (K : PySem.W.Frag) (b : Bs) (H : Hp) (O : Addr → Prop) (N : L2.St → Hp → Prop) (e' : En) : Prop :=
  ∀ σ' H' o', RS K b H' e' σ' o' → Per K H O H' (Ex b e' o') → N σ' H'
def Post (K : PySem.W.Frag) (b : Bs) (H : Hp) (O : Addr → Prop) (D : Ends) (r : Rs) : Prop :=
  match r with
  | .nx e' => Cont K b H O D.nx e'
  | .bk e' => Cont K b H O D.bk e'
  | .ct e' => Cont K b H O D.ct e'
  | .rt d => ∀ v H', Same b.H0 H' → Rp K H' b.O0 v d → D.rt v H'
  | .rto ds => ∀ a vs H', Same b.H0 H' → b.H0 a = none → H' a = some (.lst vs) → RpA K H' (fun c => b.O0 c ∨ c = a) vs ds → D.rt (.ref a) H'
  | .rtn d => ∀ a H', Same b.H0 H' → b.H0 a = none → Cn K H' (fun c => b.O0 c ∨ c = a) a d → D.rt (.ref a) H'
  | .rtx d e => ∀ v σ' H' o', RS K b H' e σ' o' → Per K H O H' (Ex b e o') → Rp K H' (Ex b e o') v d → D.rt v H'
theorem Cont.chain {K : PySem.W.Frag} {b : Bs} {H H1 : Hp} {O O1 : Addr → Prop} {N : L2.St → Hp → Prop} {e' : En} (p : Per K H O H1 O1) (h : Cont K b H O N e') : Cont K b H1 O1 N e' :=
  fun σ' H' o' R q => h σ' H' o' R (p.trans q)
theorem Post.chain {K : PySem.W.Frag} {b : Bs} {H H1 : Hp} {O O1 : Addr → Prop} {D : Ends} {r : Rs} (p : Per K H O H1 O1) (h : Post K b H O D r) : Post K b H1 O1 D r := by
  cases r with
  | nx e => exact Cont.chain p h
  | bk e => exact Cont.chain p h
  | ct e => exact Cont.chain p h
  | rt d => exact h
  | rto ds => exact h
  | rtn d => exact h
  | rtx d e => exact fun v σ' H' o' R q r => h v σ' H' o' R (p.trans q) r
def tDS (K : PySem.W.Frag) (b : Bs) (f : FS) : TS := fun D σ H => ∃ env o, RS K b H env σ o ∧ Pz K b (f env) (Post K b H (Ex b env o) D)
def DS (X : Cx) (b : Bs) (st : Stmt) (f : FS) : Prop := PS X st (tDS X.K b f)
def DSs (X : Cx) (b : Bs) (sts : List Stmt) (f : FS) : Prop := PSs X sts (tDS X.K b f)
section
variable {X : Cx} {b : Bs} {e e1 e2 : Expr} {st : Stmt} {rest sa sb : List Stmt} {f f1 f2 : FE} {fo : FO} {fs : FA} {ft : FT} {g g1 g2 : FS} {L La Lb : List Nat} {pos p' : Pos}
@[simp] def sNil (env : En) : Rz Rs := .ok (.nx env)
@[simp] def sSeq (f g : FS) (env : En) : Rz Rs := (f env).bind fun r => match r with
  | .nx e => g e
  | .rt d => .ok (.rt d)
  | .rto ds => .ok (.rto ds)
  | .rtn d => .ok (.rtn d)
  | .rtx d e => .ok (.rtx d e)
  | .bk e => .ok (.bk e)
  | .ct e => .ok (.ct e)
theorem dss_nil : DSs X b [] sNil := PSs.wk pss_nil fun D σ H ⟨env, o, R, h⟩ => h σ H o R .refl
theorem dss_cons (h1 : DS X b st g1) (h2 : DSs X b rest g2) : DSs X b (st :: rest) (sSeq g1 g2) :=
  PSs.wk (pss_cons h1 h2) fun D σ H ⟨env, o, R, h⟩ => ⟨env, o, R, h.bind.imp fun r _ h => by
    cases r with
    | nx e => exact fun σ' H' o' R' p => ⟨e, o', R', h.imp fun r _ h => Post.chain p h⟩
    | rt d => exact h
    | rto ds => exact h
    | rtn d => exact h
    | rtx d e => exact h
    | bk e => exact h
    | ct e => exact h⟩
theorem dss_one (h1 : DS X b st g1) : DSs X b [st] g1 := pss_one h1
theorem ds_pass : DS X b (.Pass pos) sNil := PS.wk ps_pass fun D σ H ⟨env, o, R, h⟩ => h σ H o R .refl
@[simp] def sBk (env : En) : Rz Rs := .ok (.bk env)
@[simp] def sCt (env : En) : Rz Rs := .ok (.ct env)
theorem ds_bk : DS X b (.Break pos) sBk := PS.wk ps_break fun D σ H ⟨env, o, R, h⟩ => h σ H o R .refl
theorem ds_ct : DS X b (.Continue pos) sCt := PS.wk ps_continue fun D σ H ⟨env, o, R, h⟩ => h σ H o R .refl
theorem ds_doc {x : Str} {j : Nat} : DS X b (.Expr (.Constant (.str x) j p') pos) sNil := PS.wk ps_doc fun D σ H ⟨env, o, R, h⟩ => h σ H o R .refl
/-- what stays true when the leaked lists are let go and only new things were made -/
theorem per_frees {K : PySem.W.Frag} {H H1 : Hp} {env : En} {o : Nat → List Nat → Addr} {O1 : Addr → Prop} (s : Same H H1) (m : ∀ a, O1 a → Ex b (frees L env) o a) : Per K H (Ex b env o) H1 O1 :=
  .same s fun a z => .inl (ex_frees (m a z))
/-! name = e -/
@[simp] def sSet (i : Nat) (f : FE) (L : List Nat) (env : En) : Rz Rs := (f env).bind fun d => .ok (.nx ((frees L env).set i (Sl.val d)))
theorem ex_set {env : En} {o : Nat → List Nat → Addr} {i : Nat} {d : PyData} {a : Addr} (z : Ex b (env.set i (Sl.val d)) o a) : Ex b env o a := ex_put val_node z
theorem ds_set {i : Nat} {x : Str} (hN : X.N.Nodup) (he : DE X b e f L) (hi : X.N[i]? = some x := by rfl) (hx : Loc X.env.scope x := by first | exact Or.inl rfl | exact Or.inr rfl) (hs : swapsWith e (some (.Name x p')) pos.line X.env = pure false := by rfl) (hf : X.fn x = true ∨ X.env.scope.names.lookup x = some .local := by first | exact .inl rfl | exact .inr rfl | assumption) :
    DS X b (.Assign [.Name x p'] e pos) (sSet i f L) := PS.wk (ps_set hN hi hx he hs hf) fun D σ H ⟨env, o, R, h⟩ => ⟨env, o, R, h.bind.imp fun d _ h v H1 s1 r1 => by
  have R1 := ((R.frees L).same s1)
  exact h _ H1 o (R1.set r1) (per_frees s1 fun a z => ex_set z)⟩
/-- name = a new list -/
@[simp] def sSetO (i : Nat) (f : FO) (L : List Nat) (env : En) : Rz Rs := (f env).bind fun ds => .ok (.nx ((frees L env).set i (Sl.own ds)))
theorem ds_setO {i : Nat} {x : Str} (hN : X.N.Nodup) (he : DO X b e fo L) (hpin : b.pin = none ∨ i ≠ 1 := by first | exact .inl rfl | exact .inr (by decide)) (hi : X.N[i]? = some x := by rfl) (hx : Loc X.env.scope x := by first | exact Or.inl rfl | exact Or.inr rfl) (hs : swapsWith e (some (.Name x p')) pos.line X.env = pure false := by rfl) (hf : X.fn x = true ∨ X.env.scope.names.lookup x = some .local := by first | exact .inl rfl | exact .inr rfl | assumption) :
    DS X b (.Assign [.Name x p'] e pos) (sSetO i fo L) := PS.wk (ps_set hN hi hx he hs hf) fun D σ H ⟨env, o, R, h⟩ => ⟨env, o, R, h.bind.imp fun ds _ h a vs H1 s1 hn ha r1 => by
  exact h _ H1 _ ((R.frees L).setOwn s1 hn ha r1 hpin) (.same s1 fun c z => by
    rcases ex_setOwn z with z | z
    · exact .inl (ex_frees z)
    · subst z; exact .inr hn)⟩
/-! a, b = e1, e2 and a, b, c = e1, e2, e3 by names -/
@[simp] def sPar (i j : Nat) (fs : FA) (L : List Nat) (env : En) : Rz Rs := (fs env).bind fun ds => match ds with
  | [d1, d2] => .ok (.nx (((frees L env).set i (Sl.val d1)).set j (Sl.val d2)))
  | _ => .st
theorem ds_par {i j : Nat} {x y : Str} {px py pt : Pos} {kt k2 : Nat} {pt2 : Pos} (F : Fx X b) (hN : X.N.Nodup) (ha : DA X b [e1, e2] fs L) (hi : X.N[i]? = some x := by rfl) (hj : X.N[j]? = some y := by rfl) (hij : i ≠ j := by decide)
    (hx : X.env.scope.names.lookup x = some .local := by rfl) (hy : X.env.scope.names.lookup y = some .local := by rfl)
    (hw : swappedStores [.Tuple [.Name x px, .Name y py] kt pt] (.Tuple [e1, e2] k2 pt2) X.env = pure (some [x, y]) := by rfl)
    (hs : swapsWithSole [.Tuple [.Name x px, .Name y py] kt pt] (.Tuple [e1, e2] k2 pt2) pos.line X.env = pure false := by rfl) :
    DS X b (.Assign [.Tuple [.Name x px, .Name y py] kt pt] (.Tuple [e1, e2] k2 pt2) pos) (sPar i j fs L) := PS.wk (ps_par F.calm hN hi hj hij hx hy ha hw hs) fun D σ H ⟨env, o, R, h⟩ => ⟨env, o, R, h.bind.imp fun ds _ h vs H1 s1 r1 => by
  split at h
  · cases r1 with
    | cons q1 r1 =>
      cases r1 with
      | cons q2 r1 =>
        cases r1
        have R1 := (R.frees L).same s1
        have R2 := R1.set (i := i) q1
        exact ⟨_, _, rfl, h _ H1 o (R2.set (q2.less fun a z => ex_set z)) (per_frees s1 fun a z => ex_set (ex_set z))⟩
  · exact False.elim h⟩
@[simp] def sPar3 (i j k : Nat) (fs : FA) (L : List Nat) (env : En) : Rz Rs := (fs env).bind fun ds => match ds with
  | [d1, d2, d3] => .ok (.nx ((((frees L env).set i (Sl.val d1)).set j (Sl.val d2)).set k (Sl.val d3)))
  | _ => .st
theorem ds_par3 {e3 : Expr} {i j k : Nat} {x y z : Str} {px py pz pt : Pos} {kt k2 : Nat} {pt2 : Pos} (F : Fx X b) (hN : X.N.Nodup) (ha : DA X b [e1, e2, e3] fs L) (hi : X.N[i]? = some x := by rfl) (hj : X.N[j]? = some y := by rfl) (hk : X.N[k]? = some z := by rfl) (hij : i ≠ j := by decide) (hik : i ≠ k := by decide) (hjk : j ≠ k := by decide)
    (hx : X.env.scope.names.lookup x = some .local := by rfl) (hy : X.env.scope.names.lookup y = some .local := by rfl) (hz : X.env.scope.names.lookup z = some .local := by rfl)
    (hw : swappedStores [.Tuple [.Name x px, .Name y py, .Name z pz] kt pt] (.Tuple [e1, e2, e3] k2 pt2) X.env = pure (some [x, y, z]) := by rfl)
    (hs : swapsWithSole [.Tuple [.Name x px, .Name y py, .Name z pz] kt pt] (.Tuple [e1, e2, e3] k2 pt2) pos.line X.env = pure false := by rfl) :
    DS X b (.Assign [.Tuple [.Name x px, .Name y py, .Name z pz] kt pt] (.Tuple [e1, e2, e3] k2 pt2) pos) (sPar3 i j k fs L) := PS.wk (ps_par3 F.calm hN hi hj hk hij hik hjk hx hy hz ha hw hs) fun D σ H ⟨env, o, R, h⟩ => ⟨env, o, R, h.bind.imp fun ds _ h vs H1 s1 r1 => by
  split at h
  · cases r1 with
    | cons q1 r1 =>
      cases r1 with
      | cons q2 r1 =>
        cases r1 with
        | cons q3 r1 =>
          cases r1
          have R1 := (R.frees L).same s1
          have R2 := (R1.set (i := i) q1).set (i := j) (q2.less fun a z => ex_set z)
          exact ⟨_, _, _, rfl, h _ H1 o (R2.set (q3.less fun a z => ex_set (ex_set z))) (per_frees s1 fun a z => ex_set (ex_set (ex_set z)))⟩
  · exact False.elim h⟩
/-! targets in general -/
def tDG (K : PySem.W.Frag) (b : Bs) (ft : En → PyData → Rz En) : TG := fun v σ H Q => ∃ env o d, RS K b H env σ o ∧ Rp K H (Ex b env o) v d ∧ Pz K b (ft env d) (Cont K b H (Ex b env o) Q)
def tDGs (K : PySem.W.Frag) (b : Bs) (ft : En → List PyData → Rz En) : TGs := fun vs σ H Q => ∃ env o ds, RS K b H env σ o ∧ RpA K H (Ex b env o) vs ds ∧ Pz K b (ft env ds) (Cont K b H (Ex b env o) Q)
def DG (X : Cx) (b : Bs) (tg : Expr) (ft : En → PyData → Rz En) : Prop := PG X tg (tDG X.K b ft)
def DGs (X : Cx) (b : Bs) (tg : List Expr) (ft : En → List PyData → Rz En) : Prop := PGs X tg (tDGs X.K b ft)
theorem PG.wk {t t' : TG} (h : PG X e t) (k : ∀ v σ H Q, t' v σ H Q → t v σ H Q) : PG X e t' := ⟨fun pins s σ H v u Q I r q => h.run pins s σ H v u Q I r (k v σ H Q q)⟩
theorem PGs.wk {es : List Expr} {t t' : TGs} (h : PGs X es t) (k : ∀ v σ H Q, t' v σ H Q → t v σ H Q) : PGs X es t' := ⟨fun pins s σ H v u Q I r q => h.run pins s σ H v u Q I r (k v σ H Q q)⟩
@[simp] def gNm (i : Nat) (env : En) (d : PyData) : Rz En := .ok (env.set i (Sl.val d))
theorem dg_nm {i : Nat} {x : Str} (hN : X.N.Nodup) (hi : X.N[i]? = some x := by rfl) (hx : Loc X.env.scope x := by first | exact Or.inl rfl | exact Or.inr rfl) (hf : X.fn x = true ∨ X.env.scope.names.lookup x = some .local := by first | exact .inl rfl | exact .inr rfl | assumption) : DG X b (.Name x pos) (gNm i) :=
  PG.wk (pg_name hN hi hx hf) fun v σ H Q ⟨env, o, d, R, r, h⟩ => h _ H o (R.set r) (.same (.refl H) fun a z => .inl (ex_set z))
@[simp] def gsNil (env : En) (ds : List PyData) : Rz En := match ds with | [] => .ok env | _ => .st
@[simp] def gsCons (t : En → PyData → Rz En) (u : En → List PyData → Rz En) (env : En) (ds : List PyData) : Rz En := match ds with | d :: ds => (t env d).bind fun env => u env ds | [] => .st
theorem dgs_nil : DGs X b [] gsNil := PGs.wk pgs_nil fun v σ H Q ⟨env, o, ds, R, r, h⟩ => by
  cases r with
  | nil => exact ⟨rfl, h σ H o R .refl⟩
  | cons _ _ => exact False.elim h
theorem dgs_cons {es : List Expr} {t : En → PyData → Rz En} {u : En → List PyData → Rz En} (h1 : DG X b e t) (h2 : DGs X b es u) (hs : (assignEach (e :: es) X.env).map (·.2) = assign e X.env :: (assignEach es X.env).map (·.2) := by rfl) : DGs X b (e :: es) (gsCons t u) :=
  PGs.wk (pgs_cons h1 h2 hs) fun v σ H Q ⟨env, o, ds, R, r, h⟩ => by
  cases r with
  | nil => exact False.elim h
  | cons r1 r2 =>
    exact ⟨_, _, rfl, env, o, _, R, r1, (Pz.bind h).imp fun env1 _ h σ1 H1 o1 R1 p1 => ⟨env1, o1, _, R1, p1.all r2, h.imp fun e _ h => Cont.chain p1 h⟩⟩
@[simp] def gTp (n : Nat) (u : En → List PyData → Rz En) (env : En) (d : PyData) : Rz En := match d with
  | .tuple ds => if ds.length = n then u env ds else .st
  | _ => .st
theorem dg_tp {es : List Expr} {k : Nat} {u : En → List PyData → Rz En} {n : Nat} (F : Fx X b) (h : DGs X b es u) (hn : (assignEach es X.env).length = n := by rfl) (hst : (assignEach es X.env).findIdx? (·.1) = none := by rfl) : DG X b (.Tuple es k pos) (gTp n u) :=
  PG.wk (pg_tup F.calm h hn hst) fun v σ H Q ⟨env, o, d, R, r, h⟩ => by
  unfold gTp at h
  split at h
  · split at h
    · rename_i ds hl
      obtain ⟨a, vs, rfl, q1, q2⟩ := r.sqT
      exact ⟨a, vs, rfl, q1, by rw [q2.length]; exact hl, env, o, _, R, q2, h⟩
    · exact False.elim h
  · exact False.elim h
/-- target = e, whatever the target -/
@[simp] def sAsg (t : En → PyData → Rz En) (f : FE) (L : List Nat) (env : En) : Rz Rs := (f env).bind fun d => (t (frees L env) d).bind fun e => .ok (.nx e)
theorem ds_asg {tg : Expr} {t : En → PyData → Rz En} (he : DE X b e f L) (hg : DG X b tg t) (hs : swapsWithSole [tg] e pos.line X.env = pure false := by rfl) (hw : swappedStores [tg] e X.env = pure none := by rfl)
    (h1 : (assignEach [tg] X.env).map (·.2) = [assign tg X.env] := by rfl) : DS X b (.Assign [tg] e pos) (sAsg t f L) :=
  PS.wk (ps_asg he hg hs hw h1) fun D σ H ⟨env, o, R, h⟩ => ⟨env, o, R, h.bind.imp fun d _ h v H1 s1 r1 => ⟨frees L env, o, d, (R.frees L).same s1, r1, h.bind.imp fun e' _ h => Cont.chain (per_frees s1 fun a z => z) h⟩⟩
/-! xs.append(e), xs[i] = e of a list that the name owns -/
@[simp] def sApp (i : Nat) (f : FE) (L : List Nat) (env : En) : Rz Rs := match (frees L env)[i]? with
  | some (.own ds) => (f env).bind fun d => if ds.length < 1000000 then .ok (.nx ((frees L env).set i (Sl.own (ds ++ [d])))) else .st
  | _ => .st
theorem ds_app {i : Nat} {x : Str} {pn apos cpos : Pos} (he : DE X b e f L) (hN : X.N[i]? = some x := by rfl) (hv : Vis X.env.scope x := by first | exact Or.inl rfl | exact Or.inr (Or.inl rfl) | exact Or.inr (Or.inr rfl)) (hd : (x == ("__debug__" : Str)) = false := by decide) (hcd : (x == ("__classdict__" : Str)) = false := by decide)
    (hbase : attributeBase (.Name x pn) "append" X.env (eval (.Name x pn) X.env) = eval (.Name x pn) X.env := by rfl)
    (hfew : ((backTo cpos (starEach [e] X.env)).all (fun x => !x.1) && (backToKw cpos (keywordEach [] X.env)).all (fun x => x.1.isSome)
      && decide (([e] : List Expr).length + ([] : List Keyword).length + (if ([] : List Keyword).isEmpty then 0 else 1) < 30)) = true := by rfl)
    (hline : (apos.endLine == cpos.line) = true := by rfl) (hs : starEach [e] X.env = (false, eval e X.env) :: starEach [] X.env := by rfl) (hplain : (backTo cpos (starEach [] X.env)).any (·.1) = false := by rfl)
    (hsw : swapsWith (.Call (.Attribute (.Name x pn) "append" apos) [e] [] cpos) none pos.line X.env = pure false := by rfl) :
    DS X b (.Expr (.Call (.Attribute (.Name x pn) "append" apos) [e] [] cpos) pos) (sApp i f L) :=
  PS.wk (ps_expr (pe_bm PySem.F.plainAttrs_list PySem.F.slot_list_append PySem.F.type_list_append mt_append (pe_var hN hv hd hcd) (pa_cons he pa_nil hs) hbase hfew hline hs hplain) hsw) fun D σ H ⟨env, o, R, h⟩ => by
  unfold sApp at h
  split at h
  · rename_i ds q
    obtain ⟨vs, h1, h2, h3, h4⟩ := (R.frees L).own i ds q
    refine ⟨.ref (o i []), h1, .inl ⟨rfl, vs, .of h2⟩, env, o, R, h.bind.imp fun d _ h v H1 s1 r1 => ?_⟩
    split at h
    · rename_i hz
      have R1 := (R.frees L).same s1
      obtain ⟨ws, k1, k2, k3, k4⟩ := R1.own i ds q
      have hm := million
      have hl := k3.length
      obtain ⟨R2, kp, le⟩ := R1.updOwn q (k3.append (.one r1))
      exact ⟨o i [], ws, v, rfl, rfl, k2, by omega, h _ _ o R2 ((Per.same s1 fun a z => .inl (ex_frees z)).trans (.keep kp le))⟩
    · exact False.elim h
  · exact False.elim h
@[simp] def sSetIx (i : Nat) (fi f : FE) (L : List Nat) (env : En) : Rz Rs := (f env).bind fun d => match (frees L env)[i]? with
  | some (.own ds) => (fi env).bind fun k => match k with
    | .int k => match ixN ds.length k with
      | some j => .ok (.nx ((frees L env).set i (Sl.own (ds.set j d))))
      | none => .st
    | _ => .st
  | _ => .st
theorem ds_setIx {i : Nat} {x : Str} {pn p2 : Pos} {fi : FE} {ei : Expr} (he : DE X b e f L) (hx : DE X b ei fi []) (hN : X.N[i]? = some x := by rfl) (hv : Vis X.env.scope x := by first | exact Or.inl rfl | exact Or.inr (Or.inl rfl) | exact Or.inr (Or.inr rfl)) (hd : (x == ("__debug__" : Str)) = false := by decide) (hcd : (x == ("__classdict__" : Str)) = false := by decide)
    (ha : ∀ v, assign (.Subscript (.Name x pn) ei p2) X.env v = (do
      let ov ← holding [v] (eval (.Name x pn) X.env)
      let iv ← holding [v, ov] (eval ei X.env)
      standAt p2
      holding [v, ov, iv] (setItem ov iv v)
      release [v, ov, iv] []) := by intro _; rfl)
    (hs : swapsWithSole [.Subscript (.Name x pn) ei p2] e pos.line X.env = pure false := by rfl) (hw : swappedStores [.Subscript (.Name x pn) ei p2] e X.env = pure none := by rfl)
    (h1 : (assignEach [.Subscript (.Name x pn) ei p2] X.env).map (·.2) = [assign (.Subscript (.Name x pn) ei p2) X.env] := by rfl) :
    DS X b (.Assign [.Subscript (.Name x pn) ei p2] e pos) (sSetIx i fi f L) :=
  PS.wk (ps_asg he (pg_sub (pe_var hN hv hd hcd) hx set_list ha) hs hw h1) fun D σ H ⟨env, o, R, h⟩ => ⟨env, o, R, h.bind.imp fun d _ h v H1 s1 r1 => by
  have R1 := (R.frees L).same s1
  split at h
  · rename_i ds q
    obtain ⟨ws, k1, k2, k3, k4⟩ := R1.own i ds q
    refine ⟨.ref (o i []), k1, env, o, R.same s1, h.bind.imp fun k _ h w H2 s2 r2 => ?_⟩
    cases k with
    | int kk =>
      replace h : Pz X.K b (match ixN ds.length kk with | some j => Rz.ok (Rs.nx ((frees L env).set i (Sl.own (ds.set j d)))) | none => Rz.st) (Post X.K b H (Ex b env o) D) := h
      split at h
      · rename_i j qj
        have R2 := R1.same s2
        obtain ⟨xs, m1, m2, m3, m4⟩ := R2.own i ds q
        obtain ⟨R3, kp, le⟩ := R2.updOwn q (m3.set (r1.same s2) j)
        refine ⟨o i [], xs, kk, j, rfl, r2.int_of, m2, by rw [m3.length]; exact qj, h _ _ o R3 ((Per.same (s1.trans s2) fun a z => .inl (ex_frees z)).trans (.keep kp le))⟩
      · exact False.elim h
    | _ => exact False.elim h
  · exact False.elim h⟩
/-! name op= e -/
@[simp] def sAug (i : Nat) (k : Int → Int → Int) (f : FE) (env : En) : Rz Rs := match env[i]? with
  | some (.val (.int a)) => (f env).bind fun d => match d with
    | .int c => .ok (.nx (env.set i (Sl.val (.int (k a c)))))
    | _ => .st
  | _ => .st
theorem ds_aug {i : Nat} {x : Str} {op : Operator} {k : Int → Int → Int} (ho : PIp X op (ipI k)) (hN : X.N.Nodup) (he : DE X b e f []) (hi : X.N[i]? = some x := by rfl) (hx : Loc X.env.scope x := by first | exact Or.inl rfl | exact Or.inr rfl) (hf : X.fn x = true ∨ X.env.scope.names.lookup x = some .local := by first | exact .inl rfl | exact .inr rfl | assumption) :
    DS X b (.AugAssign (.Name x p') op e pos) (sAug i k f) := PS.wk (ps_aug hN hi hx he ho hf) fun D σ H ⟨env, o, R, h⟩ => by
  unfold sAug at h
  split at h
  · rename_i a q
    obtain ⟨v, h1, h2⟩ := R.val i _ q
    cases h2.int_of
    refine ⟨_, h1, env, o, R, h.bind.imp fun d _ h w H1 s1 r1 => ?_⟩
    cases d with
    | int c => exact ⟨a, c, rfl, r1.int_of, h _ H1 o ((R.same s1).set (.int _)) (.same s1 fun a z => .inl (ex_set z))⟩
    | _ => exact False.elim h
  · exact False.elim h
/-! return, if -/
@[simp] def sRet (f : FE) (env : En) : Rz Rs := (f env).bind fun d => .ok (.rt d)
theorem ds_ret (he : DE X b e f L) : DS X b (.Return (some e) pos) (sRet f) := PS.wk (ps_ret he) fun D σ H ⟨env, o, R, h⟩ => ⟨env, o, R, h.bind.imp fun d _ h v H1 s1 r1 =>
  h v H1 (R.ext.trans s1) (r1.less fun a z => .inl z)⟩
@[simp] def sRetO (f : FO) (env : En) : Rz Rs := (f env).bind fun d => .ok (.rto d)
theorem ds_retO (he : DO X b e fo L) : DS X b (.Return (some e) pos) (sRetO fo) := PS.wk (ps_ret he) fun D σ H ⟨env, o, R, h⟩ => ⟨env, o, R, h.bind.imp fun d _ h a vs H1 s1 hn ha r1 =>
  h a vs H1 (R.ext.trans s1) (R.ext.free hn) ha (r1.less fun a z => z.elim (fun z => .inl (.inl z)) .inr)⟩
@[simp] def sRetL (i : Nat) (env : En) : Rz Rs := match env[i]? with
  | some (.own ds) => .ok (.rto ds)
  | some (.val d) => .ok (.rt d)
  | some (.ob (.di m kvs)) => .ok (.rtn (dkM m kvs))
  | _ => .st
theorem ds_retL (i : Nat) {x : Str} (hN : X.N[i]? = some x := by rfl) (hv : Vis X.env.scope x := by first | exact Or.inl rfl | exact Or.inr (Or.inl rfl) | exact Or.inr (Or.inr rfl)) (hd : (x == ("__debug__" : Str)) = false := by decide) (hcd : (x == ("__classdict__" : Str)) = false := by decide) :
    DS X b (.Return (some (.Name x p')) pos) (sRetL i) := PS.wk (ps_ret (pe_var hN hv hd hcd)) fun D σ H ⟨env, o, R, h⟩ => by
  unfold sRetL at h
  split at h
  · rename_i ds q
    obtain ⟨vs, h1, h2, h3, h4⟩ := R.own i ds q
    exact ⟨_, h1, h (o i []) vs H R.ext h4 h2 (h3.less fun a z => z.elim .inl fun z => z ▸ .ow q)⟩
  · rename_i d q
    obtain ⟨v, h1, h2⟩ := R.val i d q
    exact ⟨v, h1, h v H R.ext (h2.less fun a z => .inl z)⟩
  · rename_i m kvs q
    obtain ⟨h1, h2, h3⟩ := R.cn (d := dkM m kvs) q rfl
    exact ⟨_, h1, h (o i []) H R.ext (R.new q h3) (h2.less fun a z => z.elim .inl fun z => z ▸ .inr ⟨i, _, [], q, h3, rfl⟩)⟩
  · exact False.elim h
@[simp] def sRetN (_ : En) : Rz Rs := .ok (.rt .none)
theorem ds_retN : DS X b (.Return none pos) sRetN := PS.wk ps_retN fun D σ H ⟨env, o, R, h⟩ => h _ H R.ext .non
@[simp] def sIf (t : FT) (g1 g2 : FS) (env : En) : Rz Rs := (t env).bind fun c => match c with | true => g1 env | false => g2 env
theorem ds_if (ht : DT X b e ft) (h1 : DSs X b sa g1) (h2 : DSs X b sb g2) : DS X b (.If e sa sb pos) (sIf ft g1 g2) := PS.wk (ps_if ht h1 h2) fun D σ H ⟨env, o, R, h⟩ => ⟨env, o, R, h.bind.imp fun c _ h H1 s1 => by
  have p : Per X.K H (Ex b env o) H1 (Ex b env o) := .same s1 fun a z => .inl z
  cases c with
  | true => exact iteT ⟨env, o, R.same s1, h.imp fun r _ h => Post.chain p h⟩
  | false => exact iteF ⟨env, o, R.same s1, h.imp fun r _ h => Post.chain p h⟩⟩
/-- an expression for its effects alone -/
@[simp] def sDrop (f : FE) (L : List Nat) (env : En) : Rz Rs := (f env).bind fun _ => .ok (.nx (frees L env))
theorem ds_drop (he : DE X b e f L) (hs : swapsWith e none pos.line X.env = pure false := by rfl) : DS X b (.Expr e pos) (sDrop f L) := PS.wk (ps_expr he hs) fun D σ H ⟨env, o, R, h⟩ => ⟨env, o, R, h.bind.imp fun d _ h v H1 s1 r1 =>
  h _ H1 o ((R.frees L).same s1) (per_frees s1 fun a z => z)⟩

/-! ### for -/
/-- what a loop over ds leans on: the heap and the exclusions by turn -/
structure Wk (K : PySem.W.Frag) (J : It) (ds : List PyData) (G : Hp → (Addr → Prop) → Prop) : Prop where
  wk : Walk J ds.length (fun H => ∃ O, G H O) (fun i H x H' => Same H H' ∧ ∀ O, G H O → ∃ d, ds[i]? = some d ∧ Rp K H' O x d)
  per : ∀ H O H' O', Per K H O H' O' → G H O → G H' O'
def tDI (K : PySem.W.Frag) (b : Bs) (f : FA) (L : List Nat) : TI := fun σ H R => ∃ env o, RS K b H env σ o ∧ Pz K b (f env) fun ds => ∀ J G H', Same H H' → Wk K J ds G → G H' (Ex b (frees L env) o) → R J H'
def DI (X : Cx) (b : Bs) (tg it : Expr) (f : FA) (L : List Nat) : Prop := PI X tg it (tDI X.K b f L)
theorem PI.wk {tg it : Expr} {t t' : TI} (h : PI X tg it t) (k : ∀ σ H Q, t' σ H Q → t σ H Q) : PI X tg it t' := ⟨fun pins s σ H R I q => h.run pins s σ H R I (k σ H R q)⟩
@[simp] def forD (t : En → PyData → Rz En) (body : FS) : List PyData → FS
  | [], env => .ok (.nx env)
  | d :: ds, env => (t env d).bind fun e1 => (body e1).bind fun r => match r with
    | .nx e => forD t body ds e
    | .ct e => forD t body ds e
    | .bk e => .ok (.nx e)
    | .rt d => .ok (.rt d)
    | .rto es => .ok (.rto es)
    | .rtn d => .ok (.rtn d)
    | .rtx d e => .ok (.rtx d e)
@[simp] def sFor (t : En → PyData → Rz En) (f : FA) (L : List Nat) (body : FS) (env : En) : Rz Rs := (f env).bind fun ds => forD t body ds (frees L env)
theorem ds_for {tg it : Expr} {body : List Stmt} {t : En → PyData → Rz En} (F : Fx X b) (hi : DI X b tg it fs L) (hg : DG X b tg t) (hb : DSs X b body g)
    (hs : ∀ x, foldedSetIterable it X.env x = pure x := by intro _; rfl) : DS X b (.For tg it body [] pos) (sFor t fs L g) :=
  PS.wk (ps_for F.own F.calm hi hg hb hs) fun D σ H ⟨env, o, R, h⟩ => ⟨env, o, R, h.bind.imp fun ds _ h J G H1 s1 w g0 => by
  have R1 := (R.frees L).same s1
  have p1 : Per X.K H (Ex b env o) H1 (Ex b (frees L env) o) := per_frees s1 fun a z => z
  have h1 : Pz X.K b (forD t g ds (frees L env)) (Post X.K b H1 (Ex b (frees L env) o) D) := h.imp fun r _ h => Post.chain p1 h
  refine for_it w.wk (fun i σ H => ∃ env o, RS X.K b H env σ o ∧ G H (Ex b env o) ∧ Pz X.K b (forD t g (ds.drop i) env) (Post X.K b H (Ex b env o) D))
    ⟨frees L env, o, R1, g0, h1⟩ (fun i σ H _ ⟨env, o, _, g, _⟩ => ⟨_, g⟩) ?_ ?_
  · rintro i x σ H H' hlt ⟨env, o, R, g0, h⟩ ⟨s2, y⟩
    obtain ⟨d, hd, r⟩ := y _ g0
    have e : ds.drop i = d :: ds.drop (i + 1) := by
      obtain ⟨hl, e⟩ := List.getElem?_eq_some_iff.mp hd
      rw [List.drop_eq_getElem_cons hl, e]
    rw [e] at h
    have p2 : Per X.K H (Ex b env o) H' (Ex b env o) := .same s2 fun a z => .inl z
    refine ⟨env, o, d, R.same s2, r, (Pz.bind h).imp fun env1 _ h σ1 H3 o1 R3 p3 => ⟨env1, o1, R3, h.bind.imp fun r _ h => ?_⟩⟩
    have go : ∀ {e2 : En}, Pz X.K b (forD t g (ds.drop (i + 1)) e2) (Post X.K b H (Ex b env o) D) →
        Cont X.K b H3 (Ex b env1 o1) (fun σ H => ∃ env o, RS X.K b H env σ o ∧ G H (Ex b env o) ∧ Pz X.K b (forD t g (ds.drop (i + 1)) env) (Post X.K b H (Ex b env o) D)) e2 :=
      fun {e2} h σ' H' o' R' p' => ⟨e2, o', R', w.per _ _ _ _ ((p2.trans p3).trans p') g0, h.imp fun r _ h => Post.chain ((p2.trans p3).trans p') h⟩
    cases r with
    | nx e2 => exact go h
    | ct e2 => exact go h
    | bk e2 => exact Cont.chain (p2.trans p3) h
    | rt d => exact h
    | rto es => exact h
    | rtn d => exact h
    | rtx d e => exact Post.chain (r := .rtx d e) (p2.trans p3) h
  · rintro σ H ⟨env, o, R, g0, h⟩
    rw [List.drop_length] at h
    exact h σ H o R .refl⟩
/-! what is walked -/
@[simp] def iSq (f : FE) (env : En) : Rz (List PyData) := (f env).bind fun d => match d with
  | .list ds => .ok ds
  | .tuple ds => .ok ds
  | _ => .st
theorem wk_list {K : PySem.W.Frag} {a : Addr} {ds : List PyData} : Wk K (Itl K a) ds (fun H O => Rp K H O (.ref a) (.list ds)) := by
  have at_ : ∀ {H : Hp} {O : Addr → Prop}, Rp K H O (.ref a) (.list ds) → ∃ xs, SqL K H a xs ∧ RpA K H O xs ds := fun {H O} r => by
    obtain ⟨a', xs, e, h1, h2⟩ := r.sqL
    cases e
    exact ⟨xs, h1, h2⟩
  refine ⟨⟨fun i H hi ⟨O, r⟩ => ?_, fun H ⟨O, r⟩ => ?_, fun i H x H' hi ⟨O, r⟩ y => ?_⟩, fun H O H' O' p r => p _ _ r⟩
  · obtain ⟨xs, h1, h2⟩ := at_ r
    have hl := h2.length
    exact ⟨xs, xs[i], h1, by simp [show i < xs.length by omega]⟩
  · obtain ⟨xs, h1, h2⟩ := at_ r
    exact ⟨xs, h1, Nat.le_of_eq h2.length⟩
  · obtain ⟨e, y⟩ := y
    subst e
    refine ⟨.refl _, fun O r => ?_⟩
    obtain ⟨xs, h1, h2⟩ := at_ r
    exact h2.get' (y xs h1)
theorem wk_tup {K : PySem.W.Frag} {a : Addr} {ds : List PyData} : Wk K (Itt K a) ds (fun H O => Rp K H O (.ref a) (.tuple ds)) := by
  have at_ : ∀ {H : Hp} {O : Addr → Prop}, Rp K H O (.ref a) (.tuple ds) → ∃ xs, SqT K H a xs ∧ RpA K H O xs ds := fun {H O} r => by
    obtain ⟨a', xs, e, h1, h2⟩ := r.sqT
    cases e
    exact ⟨xs, h1, h2⟩
  refine ⟨⟨fun i H hi ⟨O, r⟩ => ?_, fun H ⟨O, r⟩ => ?_, fun i H x H' hi ⟨O, r⟩ y => ?_⟩, fun H O H' O' p r => p _ _ r⟩
  · obtain ⟨xs, h1, h2⟩ := at_ r
    have hl := h2.length
    exact ⟨xs, xs[i], h1, by simp [show i < xs.length by omega]⟩
  · obtain ⟨xs, h1, h2⟩ := at_ r
    exact ⟨xs, h1, Nat.le_of_eq h2.length⟩
  · obtain ⟨e, y⟩ := y
    subst e
    refine ⟨.refl _, fun O r => ?_⟩
    obtain ⟨xs, h1, h2⟩ := at_ r
    exact h2.get' (y xs h1)
theorem PI.or {tg it : Expr} {t t' : TI} (h : PI X tg it t) (h' : PI X tg it t') : PI X tg it (fun σ H R => t σ H R ∨ t' σ H R) := ⟨fun pins s σ H R I q => q.elim (h.run pins s σ H R I) (h'.run pins s σ H R I)⟩
/-- over an expression: the values are known when it is walked -/
theorem di_sq {tg : Expr} (h : DE X b e f L) : DI X b tg e (iSq f) L := by
  -- the same reading serves a list and a tuple: the rule is taken once more, with both iterators
  refine ⟨fun pins s σ H R I q => ?_⟩
  obtain ⟨env, o, RS0, q⟩ := q
  cases e1 : f env with
  | st =>
    unfold iSq at q
    rw [e1] at q
    exact False.elim q
  | ex x =>
    unfold iSq at q
    rw [e1] at q
    exact (pi_list (tg := tg) h).run pins s σ H R I ⟨env, o, RS0, by rw [e1]; exact q⟩
  | ok d =>
    unfold iSq at q
    rw [e1, Rz.bind_ok] at q
    cases d with
    | list ds =>
      refine (pi_list (tg := tg) h).run pins s σ H R I ⟨env, o, RS0, by
        rw [e1]
        intro v H1 s1 r1
        obtain ⟨a, xs, ea, h1, h2⟩ := r1.sqL
        subst ea
        exact ⟨a, rfl, ⟨xs, h1⟩, q _ _ H1 s1 wk_list r1⟩⟩
    | tuple ds =>
      refine (pi_tup (tg := tg) h).run pins s σ H R I ⟨env, o, RS0, by
        rw [e1]
        intro v H1 s1 r1
        obtain ⟨a, xs, ea, h1, h2⟩ := r1.sqT
        subst ea
        exact ⟨a, rfl, ⟨xs, h1⟩, q _ _ H1 s1 wk_tup r1⟩⟩
    | _ => exact False.elim q
/-- range -/
def intsD (lo : Int) (n : Nat) : List PyData := (List.range n).map fun i => .int (lo + (i : Nat))
theorem wk_range {K : PySem.W.Frag} {lo : Int} {n : Nat} : Wk K (Itr lo n) (intsD lo n) (fun _ _ => True) := by
  have hl : (intsD lo n).length = n := by simp [intsD]
  refine ⟨⟨fun i H hi _ => by rw [hl] at hi; exact hi, fun H _ => by rw [hl]; exact Nat.le_refl _, fun i H x H' hi _ y => ?_⟩, fun _ _ _ _ _ _ => True.intro⟩
  obtain ⟨e, rfl⟩ := y
  subst e
  refine ⟨.refl _, fun O _ => ⟨.int (lo + (i : Nat)), ?_, .int _⟩⟩
  rw [hl] at hi
  simp [intsD, hi]
@[simp] def iR1 (f : FE) (env : En) : Rz (List PyData) := (f env).bind fun d => match d with
  | .int j => if -(2 ^ 62) ≤ j ∧ j < 2 ^ 62 then .ok (intsD 0 j.toNat) else .st
  | _ => .st
@[simp] def iR2 (f1 f2 : FE) (env : En) : Rz (List PyData) := (f1 env).bind fun x => (f2 env).bind fun y => match x, y with
  | .int i, .int j => if -(2 ^ 62) ≤ i ∧ i < 2 ^ 62 ∧ -(2 ^ 62) ≤ j ∧ j < 2 ^ 62 then .ok (intsD i (j - i).toNat) else .st
  | _, _ => .st
theorem di_r1 {tg : Expr} {p : Pos} (hg : Gl X "range") (hm : X.mg "range" = none) (h : DE X b e f L) (hs : starEach [e] X.env = [(false, eval e X.env)] := by rfl) : DI X b tg (.Call (.Name "range" p) [e] [] pos) (iR1 f) [] :=
  PI.wk (pi_range1 hg hm (pa_cons h pa_nil hs) hs) fun σ H Q ⟨env, o, R, h⟩ => ⟨env, o, R, h.bind.imp fun d _ h v H1 s1 r1 => by
    split at h
    · split at h
      · rename_i j hz
        cases r1.int_of
        exact ⟨_, rfl, hz.1, hz.2, h _ _ H1 s1 wk_range True.intro⟩
      · exact False.elim h
    · exact False.elim h⟩
theorem di_r2 {tg : Expr} {p : Pos} (hg : Gl X "range") (hm : X.mg "range" = none) (h1 : DE X b e1 f1 La) (h2 : DE X b e2 f2 Lb) (hs : starEach [e1, e2] X.env = [(false, eval e1 X.env), (false, eval e2 X.env)] := by rfl) (hs2 : starEach [e2] X.env = [(false, eval e2 X.env)] := by rfl) : DI X b tg (.Call (.Name "range" p) [e1, e2] [] pos) (iR2 f1 f2) [] :=
  PI.wk (pi_range2 hg hm (pa_cons h1 (pa_cons h2 pa_nil hs2) (by rw [hs, hs2])) hs hs2) fun σ H Q ⟨env, o, R, h⟩ => ⟨env, o, R, h.bind.imp fun d _ h v H1 s1 r1 => ⟨env, o, R.same s1, h.bind.imp fun d2 _ h w H2 s2 r2 => by
    split at h
    · split at h
      · rename_i i j hz
        cases r1.int_of
        cases r2.int_of
        exact ⟨_, _, rfl, hz, h _ _ H2 (s1.trans s2) wk_range True.intro⟩
      · exact False.elim h
    · exact False.elim h⟩⟩
end
end DL
namespace DL
open PySem PySem.Spec PyProof.Rows L2

/-! ### what a def hands back -/
inductive Rv where
  | val (d : PyData) | own (ds : List PyData) | new (d : PyData)
abbrev FF := List PyData → Rz Rv
def RPost (K : PySem.W.Frag) (b : Bs) (Q : VK) (r : Rv) : Prop :=
  match r with
  | .val d => ∀ v H', Same b.H0 H' → Rp K H' b.O0 v d → Q v H'
  | .own ds => ∀ a vs H', Same b.H0 H' → b.H0 a = none → H' a = some (.lst vs) → RpA K H' (fun c => b.O0 c ∨ c = a) vs ds → Q (.ref a) H'
  | .new d => ∀ a H', Same b.H0 H' → b.H0 a = none → Cn K H' (fun c => b.O0 c ∨ c = a) a d → Q (.ref a) H'
/-- a def's promise: g of the arguments' data -/
def spD (K : PySem.W.Frag) (cls : Str → Value) (n : Nat) (g : FF) : Sp := fun vs H Q E => ∃ O ds, (∀ a, O a → ∃ u, H a = some u) ∧ ds.length = n ∧ RpA K H O vs ds ∧ Pz K ⟨H, O, E, cls, none, noBq⟩ (g ds) (RPost K ⟨H, O, E, cls, none, noBq⟩ Q)
def initE (N : Nat) (ds : List PyData) : En := ds.map Sl.val ++ List.replicate (N - ds.length) Sl.no
@[simp] def runF (N : Nat) (body : FS) (ds : List PyData) : Rz Rv := (body (initE N ds)).bind fun r => match r with
  | .rt d => .ok (.val d)
  | .rto es => .ok (.own es)
  | .rtn d => .ok (.new d)
  | .rtx _ _ => .st
  | .nx _ => .ok (.val .none)
  | .bk _ => .st
  | .ct _ => .st
theorem init_sl {N : Nat} {ds : List PyData} {i : Nat} {s : Sl} (h : (initE N ds)[i]? = some s) : (∃ d, s = .val d ∧ ds[i]? = some d) ∨ s = .no := by
  unfold initE at h
  by_cases hi : i < ds.length
  · rw [List.getElem?_append_left (by simpa using hi), List.getElem?_map] at h
    cases q : ds[i]? with
    | none => rw [q] at h; cases h
    | some d => rw [q] at h; cases h; exact .inl ⟨d, rfl, rfl⟩
  · rw [List.getElem?_append_right (by simpa using hi), List.getElem?_replicate] at h
    split at h
    · cases h; exact .inr rfl
    · cases h
theorem init_node {N : Nat} {ds : List PyData} {i : Nat} {s : Sl} {p : List Nat} (h : (initE N ds)[i]? = some s) (n : s.node p) : False := by
  rcases init_sl h with ⟨d, rfl, _⟩ | rfl <;> exact n
theorem init_own {N : Nat} {ds : List PyData} {i : Nat} {es : List PyData} (h : (initE N ds)[i]? = some (Sl.own es)) : False := by
  rcases init_sl h with ⟨d, z, _⟩ | z <;> cases z
theorem init_exn {N : Nat} {ds : List PyData} {i : Nat} (h : (initE N ds)[i]? = some Sl.exn) : False := by
  rcases init_sl h with ⟨d, z, _⟩ | z <;> cases z
theorem init_kv {N : Nat} {ds : List PyData} {i : Nat} {d : PyData} (h : (initE N ds)[i]? = some (Sl.kv d)) : False := by
  rcases init_sl h with ⟨d, z, _⟩ | z <;> cases z
theorem init_bor {N : Nat} {ds : List PyData} {i : Nat} {es : List PyData} (h : (initE N ds)[i]? = some (Sl.bor es)) : False := by
  rcases init_sl h with ⟨d, z, _⟩ | z <;> cases z
theorem init_ob {N : Nat} {ds : List PyData} {i : Nat} {t : Tr} (h : (initE N ds)[i]? = some (Sl.ob t)) : False := by
  rcases init_sl h with ⟨d, z, _⟩ | z <;> cases z
theorem init_al {N : Nat} {ds : List PyData} {i j : Nat} {p : List Nat} (h : (initE N ds)[i]? = some (Sl.al j p)) : False := by
  rcases init_sl h with ⟨d, z, _⟩ | z <;> cases z
def o00 : Nat → List Nat → Addr := fun _ _ => 0
/-- a frame that owns nothing yet -/
theorem RS.base {K : PySem.W.Frag} {b : Bs} {env : En} {σ : L2.St} (hl : env.length = σ.length) (ho : ∀ a, b.O0 a → ∃ u, b.H0 a = some u) (hq : ∀ v ds, b.bq v ds → RpB K b.H0 b.O0 v (.list ds))
    (h : ∀ (i : Nat) (s : Sl), env[i]? = some s → s = .no ∨ ∃ (d : PyData) (v : V), s = .val d ∧ σ[i]? = some (some v) ∧ Rp K b.H0 b.O0 v d) : RS K b b.H0 env σ o00 := by
  have nn : ∀ {i : Nat} {s : Sl} {p : List Nat}, env[i]? = some s → ¬ s.node p := fun {i s p} e n => by
    rcases h i s e with rfl | ⟨d, v, rfl, _⟩ <;> exact n
  have le : ∀ a, Ex b env o00 a → b.O0 a := by
    rintro a (z | ⟨i, s, p, z, n, _⟩)
    · exact z
    · exact (nn z n).elim
  have no : ∀ {i : Nat} {s : Sl} {P : Prop}, env[i]? = some s → (∀ d, s ≠ .val d) → s ≠ .no → P := fun {i s P} e h1 h2 => by
    rcases h i s e with rfl | ⟨d, v, rfl, _⟩
    · exact absurd rfl h2
    · exact absurd rfl (h1 d)
  refine ⟨hl, fun i d e => ?_, fun i es e => no e (fun _ z => nomatch z) (fun z => nomatch z), fun i j s s' p p' e _ n _ _ => (nn e n).elim, .refl _, ho, fun i e => no e (fun _ z => nomatch z) (fun z => nomatch z), fun i d e => no e (fun _ z => nomatch z) (fun z => nomatch z), fun a ha es e => no e (fun _ z => nomatch z) (fun z => nomatch z), fun i ds e => no e (fun _ z => nomatch z) (fun z => nomatch z), hq, fun i t e => no e (fun _ z => nomatch z) (fun z => nomatch z), fun j i p t e _ _ => no e (fun _ z => nomatch z) (fun z => nomatch z), fun a ha t e => no e (fun _ z => nomatch z) (fun z => nomatch z)⟩
  rcases h i _ e with z | ⟨d', v, z, h1, h2⟩
  · cases z
  · cases z
    exact ⟨v, h1, h2.less le⟩
theorem init_rs {K : PySem.W.Frag} {b : Bs} {N : List Str} {vs : List V} {ds : List PyData} (hn : ds.length ≤ N.length) (r : RpA K b.H0 b.O0 vs ds) (ho : ∀ a, b.O0 a → ∃ u, b.H0 a = some u) (hq : ∀ v ds, b.bq v ds → RpB K b.H0 b.O0 v (.list ds)) : RS K b b.H0 (initE N.length ds) (start N vs) o00 := by
  have hl := r.length
  refine RS.base (by simp [initE, L2.start, hl]) ho hq fun i s h => ?_
  rcases init_sl h with ⟨d', z, q⟩ | z
  · obtain ⟨v, h1, h2⟩ := r.get q
    refine .inr ⟨d', v, z, ?_, h2⟩
    obtain ⟨hi, _⟩ := List.getElem?_eq_some_iff.mp q
    unfold L2.start
    rw [List.getElem?_append_left (by rw [List.length_map]; omega), List.getElem?_map, h1]
    rfl
  · exact .inl z

section
variable {P : Program} {w : World} {K : PySem.W.Frag} {mg : Str → Option Value} {base : Heap}
/-- THE RULE of a def, by its body's function -/
theorem fn_D {cls : Str → Value} {x qual : Str} {st : Stmt} {f : Addr} {fd : FuncData} {N ps : List Str} {k : Nat} {body : FS} (F : Fun K x qual st f fd) (S : FnScope N ps (defScope st)) (hn : ps.length ≤ N.length)
    (hbody : ∀ (cdv : Value) (A : Around) (outer : List Env) (s : Shared) (H : Hp) (E : XK) (O : Addr → Prop), Room k (A.deeper (envOfC qual (defScope st) s.heap.objs.size f cdv)) →
      Fx (cxOf (L2.CX P w) P w K mg base N qual (defScope st) f cdv A outer s H E) ⟨H, O, E, cls, none, noBq⟩ →
      DSs (cxOf (L2.CX P w) P w K mg base N qual (defScope st) f cdv A outer s H E) ⟨H, O, E, cls, none, noBq⟩ (defBody st) body) {nN nP : Nat} (eN : N.length = nN := by rfl) (eP : ps.length = nP := by rfl) :
    FnOk P w K mg base (L2.CX P w) (k + 1) f fd ps (spD K cls nP (runF nN body)) := by
  subst eN eP
  refine F.okX S (fun vs H Q E h => ?_) (fun cdv A outer s H vs Q E hr h => ?_)
  · obtain ⟨O, ds, _, hl, r, _⟩ := h
    rw [r.length, hl]
  · obtain ⟨O, ds, ho, hl, r, h⟩ := h
    refine ⟨_, hbody cdv A outer s H E O hr ⟨rfl, takes_of rfl rfl rfl rfl, passes_of rfl, by have := hr.un; show (A.deeper (envOfC qual (defScope st) s.heap.objs.size f cdv)).units + 100 < cLine; omega⟩, ?_⟩
    have R : RS K ⟨H, O, E, cls, none, noBq⟩ H (initE N.length ds) (start N vs) o00 := init_rs (b := ⟨H, O, E, cls, none, noBq⟩) (by omega) r ho (fun _ _ z => z.elim)
    refine ⟨_, _, R, (Pz.bind h).imp fun r _ h => ?_⟩
    cases r with
    | nx e => exact fun σ' H' o' R' p => h .non H' R'.ext .non
    | rt d => exact h
    | rto es => exact h
    | rtn d => exact h
    | rtx d e => exact False.elim h
    | bk e => exact False.elim h
    | ct e => exact False.elim h
end

/-! ### calls -/
section
variable {X : Cx} {b : Bs} {e : Expr} {es : List Expr} {fs : FA} {L : List Nat} {pos p : Pos} {k n : Nat} {f : Addr} {fd : FuncData} {ps : List Str} {g : FF} {x : Str}
@[simp] def cCall (g : FF) (fs : FA) (env : En) : Rz PyData := (fs env).bind fun ds => (g ds).bind fun r => match r with
  | .val d => .ok d
  | .own es => .ok (.list es)
  | .new d => .ok d
@[simp] def oCall (g : FF) (fs : FA) (env : En) : Rz (List PyData) := (fs env).bind fun ds => (g ds).bind fun r => match r with
  | .val _ => .st
  | .new _ => .st
  | .own es => .ok es
theorem xp_call {K : PySem.W.Frag} {H1 : Hp} {O : Addr → Prop} {σ : L2.St} {W : WX} {y : Xn} (s : Same b.H0 H1) (hW : ∀ c d H, b.xw c d H → W c d σ H) (h : XP K b y) : XP K ⟨H1, O, WE W σ, b.cls, none, noBq⟩ y := by
  obtain ⟨nm, pl⟩ := y
  cases pl with
  | none => exact fun H' s' => hW _ _ _ (h H' (s.trans s'))
  | some fd => exact fun H' a v s' hn ha r => hW _ _ _ (h H' a v (s.trans s') (s.free hn) ha r)
theorem pz_call {α : Type} {K : PySem.W.Frag} {H1 : Hp} {O : Addr → Prop} {σ : L2.St} {W : WX} {r : Rz α} {P P' : α → Prop} (s : Same b.H0 H1) (hW : ∀ c d H, b.xw c d H → W c d σ H) (h : Pz K b r P) (k : ∀ a, P a → P' a) : Pz K ⟨H1, O, WE W σ, b.cls, none, noBq⟩ r P' := by
  cases r with
  | ok a => exact k a h
  | ex y => exact xp_call s hW h
  | st => exact h
theorem de_call (F : Fx X b) (G : FnOk X.prog X.w X.K X.mg X.base (L2.CX X.prog X.w) k f fd ps (spD X.K b.cls n g)) (hr : Room k X.A) (hg : Gl X x) (hm : X.mg x = some (.ref f)) (hk : PySem.W.keepIn X.K (.ref f) = true) (hb : Binds X.K fd ps [])
    (ha : DA X b (e :: es) fs L) (hn : ∀ env ds, fs env = .ok ds → ds.length = n) (hdb : (x == ("__debug__" : Str)) = false := by decide) (he : starEach (e :: es) X.env = (false, eval e X.env) :: starEach es X.env := by rfl) (hpl : (backTo pos (starEach es X.env)).any (·.1) = false := by rfl) :
    DE X b (.Call (.Name x p) (e :: es) [] pos) (cCall g fs) L :=
  PE.wk (pe_callS G hr hg hm hk hb (fun σ => passAt (W := fun c d _ H => b.xw c d H) F.tk σ) ha hdb he hpl) fun σ H Q ⟨env, o, R, h⟩ => ⟨env, o, R, h.bind.imp fun ds q h vs H1 s1 r1 => by
    have R1 := (R.frees L).same s1
    refine ⟨Ex b (frees L env) o, ds, fun a z => R1.dom z, hn _ _ q, r1, pz_call R1.ext (fun _ _ _ z => z) h.bind fun r h => ?_⟩
    cases r with
    | val d => exact fun v H' s r => h v H' (s1.trans s) r
    | new d => exact fun a H' s hn c => h _ H' (s1.trans s) ((c.less fun _ z => .inl z).rp fun z => by obtain ⟨u, hu⟩ := R1.dom z; have hn' : H1 a = none := hn; rw [hn'] at hu; cases hu)
    | own es => exact fun a vs H' s hn ha r => h _ H' (s1.trans s) (.lst (.inl ha) (fun z => by obtain ⟨u, hu⟩ := R1.dom z; have hn' : H1 a = none := hn; rw [hn'] at hu; cases hu) (r.less fun _ z => .inl z))⟩
theorem do_call (F : Fx X b) (G : FnOk X.prog X.w X.K X.mg X.base (L2.CX X.prog X.w) k f fd ps (spD X.K b.cls n g)) (hr : Room k X.A) (hg : Gl X x) (hm : X.mg x = some (.ref f)) (hk : PySem.W.keepIn X.K (.ref f) = true) (hb : Binds X.K fd ps [])
    (ha : DA X b (e :: es) fs L) (hn : ∀ env ds, fs env = .ok ds → ds.length = n) (hdb : (x == ("__debug__" : Str)) = false := by decide) (he : starEach (e :: es) X.env = (false, eval e X.env) :: starEach es X.env := by rfl) (hpl : (backTo pos (starEach es X.env)).any (·.1) = false := by rfl) :
    DO X b (.Call (.Name x p) (e :: es) [] pos) (oCall g fs) L :=
  PE.wk (pe_callS G hr hg hm hk hb (fun σ => passAt (W := fun c d _ H => b.xw c d H) F.tk σ) ha hdb he hpl) fun σ H Q ⟨env, o, R, h⟩ => ⟨env, o, R, h.bind.imp fun ds q h vs H1 s1 r1 => by
    have R1 := (R.frees L).same s1
    refine ⟨Ex b (frees L env) o, ds, fun a z => R1.dom z, hn _ _ q, r1, pz_call R1.ext (fun _ _ _ z => z) h.bind fun r h => ?_⟩
    cases r with
    | val d => exact False.elim h
    | new d => exact False.elim h
    | own es => exact fun a vs H' s hn ha r => h a vs H' (s1.trans s) (s1.free hn) ha r⟩
end
/-- the arguments' number -/
theorem len_nil : ∀ env ds, aNil env = .ok ds → ds.length = 0 := fun env ds h => by cases h; rfl
theorem len_cons {f : FE} {fs : FA} {n : Nat} (h : ∀ env ds, fs env = .ok ds → ds.length = n) : ∀ env ds, aCons f fs env = .ok ds → ds.length = n + 1 := fun env ds q => by
  unfold aCons at q
  cases q1 : f env with
  | ok d =>
    rw [q1, Rz.bind_ok] at q
    cases q2 : fs env with
    | ok xs =>
      rw [q2, Rz.bind_ok] at q
      cases q
      rw [List.length_cons, h env xs q2]
    | ex x => rw [q2] at q; cases q
    | st => rw [q2] at q; cases q
  | ex x => rw [q1] at q; cases q
  | st => rw [q1] at q; cases q

/-! ### zip of two tuples, of two lists -/
section
variable {X : Cx} {b : Bs} {e1 e2 : Expr} {f1 f2 : FE} {La Lb : List Nat} {pos p tpos : Pos} {elts : List Expr} {kk : Nat}
@[simp] def zipD (xs ys : List PyData) : List PyData := (xs.zip ys).map fun q => .tuple [q.1, q.2]
@[simp] def iZp (f1 f2 : FE) (env : En) : Rz (List PyData) := (f1 env).bind fun x => (f2 env).bind fun y => match x, y with
  | .tuple xs, .tuple ys => .ok (zipD xs ys)
  | .list xs, .list ys => .ok (zipD xs ys)
  | _, _ => .st
theorem zipD_get {xs ys : List PyData} {i : Nat} {x y : PyData} (hx : xs[i]? = some x) (hy : ys[i]? = some y) : (zipD xs ys)[i]? = some (.tuple [x, y]) := by
  unfold zipD
  have e : (xs.zip ys)[i]? = some (x, y) := List.getElem?_zip_eq_some.mpr ⟨hx, hy⟩
  rw [List.getElem?_map, e]
  rfl
theorem zipD_len (xs ys : List PyData) : (zipD xs ys).length = min xs.length ys.length := by simp [zipD]
theorem wk_zipT {K : PySem.W.Frag} {a c : Addr} {xs ys : List PyData} : Wk K (RZ.ItzT K a c) (zipD xs ys) (fun H O => Rp K H O (.ref a) (.tuple xs) ∧ Rp K H O (.ref c) (.tuple ys)) := by
  have at_ : ∀ {a : Addr} {ds : List PyData} {H : Hp} {O : Addr → Prop}, Rp K H O (.ref a) (.tuple ds) → ∃ xs, SqT K H a xs ∧ RpA K H O xs ds := fun {a ds H O} r => by
    obtain ⟨a', xs, e, h1, h2⟩ := r.sqT
    cases e
    exact ⟨xs, h1, h2⟩
  refine ⟨⟨fun i H hi ⟨O, r1, r2⟩ => ?_, fun H ⟨O, r1, r2⟩ => ?_, fun i H x H' hi ⟨O, r1, r2⟩ y => ?_⟩, fun H O H' O' p r => ⟨p _ _ r.1, p _ _ r.2⟩⟩
  · obtain ⟨us, h1, h2⟩ := at_ r1
    obtain ⟨vs, h3, h4⟩ := at_ r2
    have l1 := h2.length
    have l2 := h4.length
    rw [zipD_len] at hi
    exact ⟨us, vs, us[i]'(by omega), vs[i]'(by omega), h1, h3, by simp [show i < us.length by omega], by simp [show i < vs.length by omega]⟩
  · obtain ⟨us, h1, h2⟩ := at_ r1
    obtain ⟨vs, h3, h4⟩ := at_ r2
    have l1 := h2.length
    have l2 := h4.length
    exact ⟨us, vs, h1, h3, by rw [zipD_len]; omega⟩
  · obtain ⟨T, u, v, rfl, hT, rfl, y1, y2⟩ := y
    refine ⟨same_upd hT, fun O ⟨r1, r2⟩ => ?_⟩
    obtain ⟨us, h1, h2⟩ := at_ r1
    obtain ⟨vs, h3, h4⟩ := at_ r2
    obtain ⟨d1, e1, q1⟩ := h2.get' (y1 us h1)
    obtain ⟨d2, e2, q2⟩ := h4.get' (y2 vs h3)
    exact ⟨_, zipD_get e1 e2, .tup (.inl upd_same) (.cons (q1.same (same_upd hT)) (.cons (q2.same (same_upd hT)) .nil))⟩
theorem wk_zipL {K : PySem.W.Frag} {a c : Addr} {xs ys : List PyData} : Wk K (Itz K a c) (zipD xs ys) (fun H O => Rp K H O (.ref a) (.list xs) ∧ Rp K H O (.ref c) (.list ys)) := by
  have at_ : ∀ {a : Addr} {ds : List PyData} {H : Hp} {O : Addr → Prop}, Rp K H O (.ref a) (.list ds) → ∃ xs, SqL K H a xs ∧ RpA K H O xs ds := fun {a ds H O} r => by
    obtain ⟨a', xs, e, h1, h2⟩ := r.sqL
    cases e
    exact ⟨xs, h1, h2⟩
  refine ⟨⟨fun i H hi ⟨O, r1, r2⟩ => ?_, fun H ⟨O, r1, r2⟩ => ?_, fun i H x H' hi ⟨O, r1, r2⟩ y => ?_⟩, fun H O H' O' p r => ⟨p _ _ r.1, p _ _ r.2⟩⟩
  · obtain ⟨us, h1, h2⟩ := at_ r1
    obtain ⟨vs, h3, h4⟩ := at_ r2
    have l1 := h2.length
    have l2 := h4.length
    rw [zipD_len] at hi
    exact ⟨us, vs, us[i]'(by omega), vs[i]'(by omega), h1, h3, by simp [show i < us.length by omega], by simp [show i < vs.length by omega]⟩
  · obtain ⟨us, h1, h2⟩ := at_ r1
    obtain ⟨vs, h3, h4⟩ := at_ r2
    have l1 := h2.length
    have l2 := h4.length
    exact ⟨us, vs, h1, h3, by rw [zipD_len]; omega⟩
  · obtain ⟨T, u, v, rfl, hT, rfl, y1, y2⟩ := y
    refine ⟨same_upd hT, fun O ⟨r1, r2⟩ => ?_⟩
    obtain ⟨us, h1, h2⟩ := at_ r1
    obtain ⟨vs, h3, h4⟩ := at_ r2
    obtain ⟨d1, e1, q1⟩ := h2.get' (y1 us h1)
    obtain ⟨d2, e2, q2⟩ := h4.get' (y2 vs h3)
    exact ⟨_, zipD_get e1 e2, .tup (.inl upd_same) (.cons (q1.same (same_upd hT)) (.cons (q2.same (same_upd hT)) .nil))⟩
theorem di_zip (hg : Gl X "zip") (hm : X.mg "zip" = none) (h1 : DE X b e1 f1 La) (h2 : DE X b e2 f2 Lb)
    (hs : starEach [e1, e2] X.env = (false, eval e1 X.env) :: starEach [e2] X.env := by rfl) (hs2 : starEach [e2] X.env = (false, eval e2 X.env) :: starEach [] X.env := by rfl) (hpl : (backTo pos (starEach [e2] X.env)).any (·.1) = false := by rfl) :
    DI X b (.Tuple elts kk tpos) (.Call (.Name "zip" p) [e1, e2] [] pos) (iZp f1 f2) (La ++ Lb) :=
  PI.wk (RZ.pi_zipA hg hm (pa_cons h1 (pa_cons h2 pa_nil hs2) hs) hs hpl) fun σ H Q ⟨env, o, R, h⟩ => ⟨env, o, R, h.bind.imp fun x _ h v H1 s1 r1 => ⟨env, o, R.same s1, h.bind.imp fun y _ h w H2 s2 r2 => by
    have q1 := (r1.same s2).less (O' := Ex b (frees (La ++ Lb) env) o) fun a z => (ex_frees_app z).1
    have q2 := r2.less (O' := Ex b (frees (La ++ Lb) env) o) fun a z => (ex_frees_app z).2
    have s := s1.trans s2
    split at h
    · obtain ⟨a, us, rfl, h1, h2⟩ := q1.sqT
      obtain ⟨c, vs, rfl, h3, h4⟩ := q2.sqT
      exact ⟨a, c, us, vs, rfl, .inr ⟨h1, h3, h _ _ H2 s wk_zipT ⟨q1, q2⟩⟩⟩
    · obtain ⟨a, us, rfl, h1, h2⟩ := q1.sqL
      obtain ⟨c, vs, rfl, h3, h4⟩ := q2.sqL
      exact ⟨a, c, us, vs, rfl, .inl ⟨h1, h3, h _ _ H2 s wk_zipL ⟨q1, q2⟩⟩⟩
    · exact False.elim h⟩⟩
end

/-! ### d.get(k) of a written dict, its keys texts -/
section
variable {X : Cx} {b : Bs} {e : Expr} {f : FE} {L : List Nat} {pos p apos cpos : Pos} {x : Str} {a : Addr}
/-- a dict of the written part: what stands under a text -/
structure KD (K : PySem.W.Frag) (w : World) (a : Addr) (g : Str → Option PyData) : Prop where
  at_ : ∃ es n, K.lookup a = some ⟨.type "dict", none, .dict es n, #[]⟩ ∧ PySem.W.KeysLit w.params es.toList
  low : (a == sysModules) = false
  get : ∀ y : Str, (∃ d v u, g y = some d ∧ PySem.W.nsIn K a y = some (some u) ∧ RelV v u ∧ RK K v d) ∨ (g y = none ∧ PySem.W.nsIn K a y = some none)
@[simp] def cGet (g : Str → Option PyData) (f : FE) (env : En) : Rz PyData := (f env).bind fun d => match d with
  | .str y => .ok ((g y).getD .none)
  | _ => .st
def tGetK (t : TE) (g : Str → Option PyData) (K : PySem.W.Frag) : TE := fun σ H Q => t σ H fun x H1 => ∃ y, x = .str y ∧ ∀ v, RK K v ((g y).getD .none) → Q v H1
theorem pe_getK {t : TE} {g : Str → Option PyData} {u : Value} (D : KD X.K X.w a g) (hg : Gl X x) (hm : X.mg x = some (.ref a)) (he : PE X e t) (m : M1 X (.Name x p) "get" apos e cpos) (hdb : (x == ("__debug__" : Str)) = false := by decide) : PE X (.Call (.Attribute (.Name x p) "get" apos) [e] [] cpos) (tGetK t g X.K) := by
  refine ⟨fun pins s σ H Q I h => ?_⟩
  obtain ⟨es, n, hl, hk⟩ := D.at_
  have hmp := PySem.W.mapOf_K (prog := X.prog) (w := X.w) I.kIn hl hk
  refine wpAny_Call_method m.base m.few m.line PySem.F.plainAttrs_dict PySem.F.slot_dict_get PySem.F.type_dict_get (ld_glob I hg hm ?_ hdb)
  refine ⟨hmp.typeIs, fun c q => by cases q; exact ⟨_, I.kIn _ _ hl, rfl⟩, ?_⟩
  rw [m.trees]
  refine Calls.callWith_builtin rfl (Calls.evalArgs_plain (Calls.spliced_cons (thn (he.run pins s σ H _ I h) fun iv s2 ⟨y, H2, I2, ry, z, ez, q2⟩ => Calls.spliced_nil ?_)))
  subst ez
  obtain ⟨t0, rfl⟩ := (show ∃ t, iv = Value.str z t from ry)
  have hmp2 := PySem.W.mapOf_K (prog := X.prog) (w := X.w) I2.kIn hl hk
  rcases D.get z with ⟨d, v, u, e1, e2, e3, e4⟩ | ⟨e1, e2⟩
  · refine call_meetsIn PySem.F.slot_dict_get hmp2.typeIs PySem.F.entry_dict_get (PySem.F.args_dict_get_2 _ _) (meets_dict_get (strKind X.prog X.w) a (strKind_is X.prog X.w z t0) D.low) ⟨_, hmp2, ?_⟩
    rw [PySem.W.find_K hl e2]
    exact ⟨v, H2, I2.tok _, e3, q2 v (by rw [e1]; exact e4)⟩
  · refine call_meetsIn PySem.F.slot_dict_get hmp2.typeIs PySem.F.entry_dict_get (PySem.F.args_dict_get_2 _ _) (meets_dict_get (strKind X.prog X.w) a (strKind_is X.prog X.w z t0) D.low) ⟨_, hmp2, ?_⟩
    rw [PySem.W.find_K hl e2]
    exact ⟨.non, H2, I2.tok _, rfl, q2 .non (by rw [e1]; exact fun _ _ => .non)⟩
theorem de_getK {g : Str → Option PyData} (D : KD X.K X.w a g) (hg : Gl X x) (hm : X.mg x = some (.ref a)) (h : DE X b e f L) (m : M1 X (.Name x p) "get" apos e cpos) (hdb : (x == ("__debug__" : Str)) = false := by decide) :
    DE X b (.Call (.Attribute (.Name x p) "get" apos) [e] [] cpos) (cGet g f) [] :=
  PE.wk (pe_getK (u := .none) D hg hm h m hdb) fun σ H Q ⟨env, o, R, h⟩ => ⟨env, o, R, h.bind.imp fun d _ h v H1 s1 r1 => by
    split at h
    · exact ⟨_, r1.str_of, fun v k => h v H1 s1 (k _ _)⟩
    · exact False.elim h⟩
end
end DL
namespace DL
open PySem PySem.Spec PyProof.Rows L2

/-! ### defs by their names -/
def FnAt (K : PySem.W.Frag) (mg : Str → Option Value) (x : Str) (st : Stmt) : Prop := ∃ f fd, mg x = some (.ref f) ∧ Fun K x x st f fd
def Fn (P : Program) (w : World) (K : PySem.W.Frag) (mg : Str → Option Value) (base : Heap) (cls : Str → Value) (x : Str) (k : Nat) (ps : List Str) (g : FF) : Prop :=
  ∃ f fd, mg x = some (.ref f) ∧ FnOk P w K mg base (L2.CX P w) k f fd ps (spD K cls ps.length g) ∧ PySem.W.keepIn K (.ref f) = true ∧ ∀ us : List Value, us.length = ps.length → bindArgs fd ⟨us, []⟩ = pure (ps.zip us)
section
variable {P : Program} {w : World} {K : PySem.W.Frag} {mg : Str → Option Value} {base : Heap} {cls : Str → Value}
theorem Fn.mk {x : Str} {st : Stmt} {N ps : List Str} {k : Nat} {body : FS} (S : FnScope N ps (defScope st)) (At : FnAt K mg x st)
    (hbody : ∀ (cdv : Value) (A : Around) (outer : List Env) (s : Shared) (H : Hp) (E : XK) (O : Addr → Prop) (f : Addr), Room k (A.deeper (envOfC x (defScope st) s.heap.objs.size f cdv)) →
      Fx (cxOf (L2.CX P w) P w K mg base N x (defScope st) f cdv A outer s H E) ⟨H, O, E, cls, none, noBq⟩ →
      DSs (cxOf (L2.CX P w) P w K mg base N x (defScope st) f cdv A outer s H E) ⟨H, O, E, cls, none, noBq⟩ (defBody st) body)
    (hb : ∀ (kV doc pm : Value) (an : Option Addr) (cdv ct : Value) (us : List Value), us.length = ps.length → bindArgs (PySem.W.fnOf x x (defArgs st) (defBody st) (defScope st) .none kV doc pm an cdv ct) ⟨us, []⟩ = pure (ps.zip us))
    {nN : Nat} (eN : N.length = nN := by rfl) (hn : ps.length ≤ N.length := by decide) : Fn P w K mg base cls x (k + 1) ps (runF nN body) := by
  subst eN
  obtain ⟨f, fd, hm, F⟩ := At
  refine ⟨f, fd, hm, fn_D F S hn fun cdv A outer s H E O hr hF => hbody cdv A outer s H E O f hr hF, F.kp, ?_⟩
  obtain ⟨oc, od, kV, doc, pm, an, cdv, ct, osl, rfl, lk, hcd⟩ := F.ex
  exact hb kV doc pm an cdv ct
end
section
variable {X : Cx} {b : Bs} {e : Expr} {es : List Expr} {f : FE} {fs : FA} {L : List Nat} {pos p : Pos} {j k n : Nat} {ps : List Str} {g : FF} {x : Str}
theorem de_fn (F : Fx X b) (G : Fn X.prog X.w X.K X.mg X.base b.cls x j ps g) (hr : Room j X.A) (hg : Gl X x) (ha : DA X b (e :: es) fs L) (hn : ∀ env ds, fs env = .ok ds → ds.length = n) (hl : n = ps.length := by rfl)
    (hdb : (x == ("__debug__" : Str)) = false := by decide) (he : starEach (e :: es) X.env = (false, eval e X.env) :: starEach es X.env := by rfl) (hpl : (backTo pos (starEach es X.env)).any (·.1) = false := by rfl) :
    DE X b (.Call (.Name x p) (e :: es) [] pos) (cCall g fs) L := by
  obtain ⟨f, fd, hm, G, hk, hb⟩ := G
  exact de_call F G hr hg hm hk (.all hb) ha (fun env ds h => (hn env ds h).trans hl) hdb he hpl
theorem do_fn (F : Fx X b) (G : Fn X.prog X.w X.K X.mg X.base b.cls x j ps g) (hr : Room j X.A) (hg : Gl X x) (ha : DA X b (e :: es) fs L) (hn : ∀ env ds, fs env = .ok ds → ds.length = n) (hl : n = ps.length := by rfl)
    (hdb : (x == ("__debug__" : Str)) = false := by decide) (he : starEach (e :: es) X.env = (false, eval e X.env) :: starEach es X.env := by rfl) (hpl : (backTo pos (starEach es X.env)).any (·.1) = false := by rfl) :
    DO X b (.Call (.Name x p) (e :: es) [] pos) (oCall g fs) L := by
  obtain ⟨f, fd, hm, G, hk, hb⟩ := G
  exact do_call F G hr hg hm hk (.all hb) ha (fun env ds h => (hn env ds h).trans hl) hdb he hpl
/-! -x -/
@[simp] def gNeg : PyData → Option PyData
  | .int i => some (.int (-i))
  | _ => none
theorem de_neg (h : DE X b e f L) : DE X b (.UnaryOp .USub e pos) (c1 gNeg f) L := de_un un_neg (fun H O x dx d Q r e q => by
  unfold gNeg at e
  split at e
  · cases e; exact ⟨_, r.int_of, q _ _ (.refl H) (.int _)⟩
  · cases e) h
/-- a statement that the proof never comes to -/
@[simp] def sNever (_ : En) : Rz Rs := .st
theorem ds_never {st : Stmt} : DS X b st sNever := PS.wk ps_never fun _ _ _ ⟨_, _, _, h⟩ => h
end
/-! ### the law's end -/
theorem law_end {l : PySem.W.OpenLaw} {q : Program} {loose : List Str} {XP : (Str → Option Value) → Heap → Prop} {YP : World → Heap → Prop} {d : DefRec} {K : Params → PySem.W.Frag} {g : FF} {k : Nat} {cls : World → Str → Value} {sx : Str}
    (hn : l.most = some 63) (hdf : d.params.defaults = []) (hd : d.name = "law") (hk : Room k callerA)
    (hY : ∀ (w : World) (h : Heap), YP w h → (K w.params).In h)
    (F : ∀ (w : World) (mg : Str → Option Value) (h : Heap), (K w.params).In h → h.Ns mainGlobals mg →
      ∃ f fd, mg "law" = some (.ref f) ∧ (∀ (s : Shared) (u : Value), BindsTo s fd ⟨[u], []⟩ [(sx, u)]) ∧ ∀ base : Heap, (K w.params).In base → base.Ns mainGlobals mg → FnOk l.prog w (K w.params) mg base (L2.CX l.prog w) k f fd [sx] (spD (K w.params) (cls w) 1 g))
    (hg : ∀ ns : List Int, ns.length ≤ 63 → g [.list (ns.map .int)] = .ok (.val (.bool true))) :
    PySem.W.WalkO q loose XP YP l.row.toRowW d [] (fun f vs => PySem.call f vs) := by
  refine Att.attach_call hn hdf fun w s₀ s₁ mg mb fa o pm cd doc a vs ns G Y ho hdd hcd hmg hobj hints hlen hgn => ?_
  have KX := hY w _ Y
  obtain ⟨f, fd, hm, hb, hF⟩ := F w mg _ KX G.T.g
  rw [hd] at hmg
  have e := hmg.symm.trans hm
  cases e
  refine law_call KX G.T.g G.T.b G.T.builtins G.T.nolimit hgn hobj hints (Nat.le_trans hlen (by decide)) hk hF hb (fun H hO hS => ?_) fun H e s' z => ?_
  · have ri : ∀ (ns : List Int), RpA (K w.params) H (fun _ => False) (ns.map V.int) (ns.map PyData.int) := fun ns => by
      induction ns with
      | nil => exact .nil
      | cons n ns ih => exact .cons (.int n) ih
    refine ⟨fun _ => False, [.list (ns.map .int)], fun _ z => z.elim, rfl, .cons ?_ .nil, ?_⟩
    · rcases hS with r | ⟨ob, its, n, h1, h2, h3, h4, h5, h6⟩
      · exact .lst r id (ri ns)
      · have e := KX a ob h1
        rw [hobj] at e
        cases e
        injection h4 with h4 h7
        subst h4
        exact .lstK ⟨vs.toArray, 0, h1, h5, h6⟩ (ri ns)
    · rw [hg ns hlen]
      exact fun v H' s r => r.bl_of
  · obtain ⟨_, _, _, _, _, _, _, _, _, _, _, _, z⟩ := z
    exact z
end DL
namespace DL
open PySem PySem.Spec PyProof.Rows L2

/-! ### what the top has written -/
/-- a value of the top -/
def RKV (K : PySem.W.Frag) (u : Value) (d : PyData) : Prop := ∃ v, RelV v u ∧ RK K v d
inductive RKL (K : PySem.W.Frag) : List Value → List PyData → Prop where
  | nil : RKL K [] []
  | cons {u : Value} {us : List Value} {d : PyData} {ds : List PyData} : RKV K u d → RKL K us ds → RKL K (u :: us) (d :: ds)
section
variable {K : PySem.W.Frag} {a : Addr} {n : Nat}
theorem rkv_int {i : Int} {t : Tok} : RKV K (.int i t) (.int i) := ⟨.int i, ⟨t, rfl⟩, fun _ _ => .int i⟩
theorem rkv_str {x : Str} {t : Tok} : RKV K (.str x t) (.str x) := ⟨.str x, ⟨t, rfl⟩, fun _ _ => .str x⟩
theorem rkv_non : RKV K .none .none := ⟨.non, rfl, fun _ _ => .non⟩
theorem rkv_bl {b : Bool} : RKV K (.bool b) (.bool b) := ⟨.bl b, rfl, fun _ _ => .bl b⟩
theorem RKL.all : ∀ {us : List Value} {ds : List PyData}, RKL K us ds → ∃ vs, Vals vs us ∧ ∀ H O, RpA K H O vs ds
  | _, _, .nil => ⟨[], .nil, fun _ _ => .nil⟩
  | _, _, .cons ⟨v, r, k⟩ t =>
    let ⟨vs, h1, h2⟩ := RKL.all t
    ⟨v :: vs, .cons r h1, fun H O => .cons (k H O) (h2 H O)⟩
theorem RKL.length : ∀ {us : List Value} {ds : List PyData}, RKL K us ds → us.length = ds.length
  | _, _, .nil => rfl
  | _, _, .cons _ t => by rw [List.length_cons, List.length_cons, RKL.length t]
theorem rk_tup {us : List Value} {ds : List PyData} {dd : Option Addr} {sl : Array (Option Value)} (h : K.lookup a = some ⟨.type "tuple", dd, .seq us.toArray n, sl⟩) (r : RKL K us ds) (hz : ds.length ≤ 1000000 := by decide) : RK K (.ref a) (.tuple ds) := by
  obtain ⟨vs, h1, h2⟩ := r.all
  intro H O
  have := r.length
  have hm := million
  exact .tupK ⟨_, us.toArray, n, h, rfl, rfl, by simp; omega, by simpa using h1⟩ (h2 H O)
theorem rkv_tup {us : List Value} {ds : List PyData} {dd : Option Addr} {sl : Array (Option Value)} (h : K.lookup a = some ⟨.type "tuple", dd, .seq us.toArray n, sl⟩) (r : RKL K us ds) (hz : ds.length ≤ 1000000 := by decide) : RKV K (.ref a) (.tuple ds) := ⟨.ref a, rfl, rk_tup h r hz⟩
/-- the entries of a written dict -/
inductive KEs (K : PySem.W.Frag) (w : World) : List DictEntry → List (Str × PyData) → Prop where
  | nil : KEs K w [] []
  | cons {y : Str} {t : Tok} {u : Value} {d : PyData} {es : List DictEntry} {qs : List (Str × PyData)} : RKV K u d → KEs K w es qs → KEs K w (⟨PyData.keyHash w.params y, .str y t, u⟩ :: es) ((y, d) :: qs)
theorem KEs.lit {w : World} : ∀ {es : List DictEntry} {qs : List (Str × PyData)}, KEs K w es qs → PySem.W.KeysLit w.params es
  | _, _, .nil => trivial
  | _, _, .cons _ t => ⟨⟨_, _, rfl, rfl⟩, KEs.lit t⟩
theorem KEs.find {w : World} (y : Str) : ∀ {es : List DictEntry} {qs : List (Str × PyData)}, KEs K w es qs →
    (∃ d e, qs.lookup y = some d ∧ es.find? (fun d => d.key.isStr y) = some e ∧ RKV K e.val d) ∨ (qs.lookup y = none ∧ es.find? (fun d => d.key.isStr y) = none ∧ es.any (·.refKey) = false)
  | _, _, .nil => .inr ⟨rfl, rfl, rfl⟩
  | _, _, .cons (y := z) (t := t) (u := u) (d := d) (es := es) (qs := qs) r h => by
    by_cases e : y = z
    · subst e
      refine .inl ⟨d, ⟨PyData.keyHash w.params y, .str y t, u⟩, by simp [List.lookup], ?_, r⟩
      rw [List.find?_cons_of_pos]
      show (Value.str y t).isStr y = true
      simp [Value.isStr]
    · have e1 : (Value.str z t).isStr y = false := by
        simp [Value.isStr]
        exact fun q => e q.symm
      have e2 : (y == z) = false := beq_eq_false_iff_ne.mpr e
      have e3 : List.lookup y ((z, d) :: qs) = qs.lookup y := by simp [List.lookup, e2]
      have e4 : List.find? (fun d : DictEntry => d.key.isStr y) (⟨PyData.keyHash w.params z, .str z t, u⟩ :: es) = es.find? (fun d => d.key.isStr y) := by
        rw [List.find?_cons_of_neg]
        show ¬ (Value.str z t).isStr y = true
        rw [e1]; exact Bool.false_ne_true
      rcases KEs.find y h with ⟨d', e', h1, h2, h3⟩ | ⟨h1, h2, h3⟩
      · exact .inl ⟨d', e', e3.trans h1, e4.trans h2, h3⟩
      · exact .inr ⟨e3.trans h1, e4.trans h2, by rw [List.any_cons, h3]; rfl⟩
theorem kd_of {w : World} {es : List DictEntry} {qs : List (Str × PyData)} (h : K.lookup a = some ⟨.type "dict", none, .dict es.toArray n, #[]⟩) (low : (a == sysModules) = false) (r : KEs K w es qs) : KD K w a (fun y => qs.lookup y) := by
  refine ⟨⟨es.toArray, n, h, by simpa using r.lit⟩, low, fun y => ?_⟩
  have e : PySem.W.nsIn K a y = match es.find? (fun d => d.key.isStr y) with
      | some d => some (some d.val)
      | none => if es.any (·.refKey) then none else some none := by
    unfold PySem.W.nsIn
    rw [h]
    show (match es.toArray.toList.find? (fun x => x.key.isStr y) with
      | some e => some (some e.val)
      | none => if es.toArray.toList.any (·.refKey) then none else some none) = _
    rw [List.toList_toArray]
  rcases r.find y with ⟨d, ee, h1, h2, v, h3, h4⟩ | ⟨h1, h2, h3⟩
  · exact .inl ⟨d, v, ee.val, h1, by rw [e, h2], h3, h4⟩
  · exact .inr ⟨h1, by rw [e, h2, h3]; rfl⟩
end
section
variable {X : Cx} {b : Bs} {e : Expr} {f : FE} {L : List Nat} {pos p apos cpos : Pos} {x : Str} {d : PyData}
theorem de_getK' {g : Str → Option PyData} (D : ∃ a, X.mg x = some (.ref a) ∧ KD X.K X.w a g) (hg : Gl X x) (h : DE X b e f L) (m : M1 X (.Name x p) "get" apos e cpos) (hdb : (x == ("__debug__" : Str)) = false := by decide) :
    DE X b (.Call (.Attribute (.Name x p) "get" apos) [e] [] cpos) (cGet g f) [] := by
  obtain ⟨a, hm, D⟩ := D
  exact de_getK D hg hm h m hdb
theorem de_gI {i : Int} (D : ∃ t, X.mg x = some (.int i t)) (hg : Gl X x) (hd : (x == ("__debug__" : Str)) = false := by decide) : DE X b (.Name x pos) (cC (.int i)) [] := by
  obtain ⟨t, hm⟩ := D
  exact de_glob (v := .int i) hg hm ⟨t, rfl⟩ (fun _ _ => .int i) hd
theorem de_gK (D : ∃ a, X.mg x = some (.ref a) ∧ RK X.K (.ref a) d) (hg : Gl X x) (hd : (x == ("__debug__" : Str)) = false := by decide) : DE X b (.Name x pos) (cC d) [] := by
  obtain ⟨a, hm, k⟩ := D
  exact de_glob (v := .ref a) hg hm rfl k hd
end

/-! ### built-ins -/
theorem bb_len : bootBuiltins "len" = some (.builtin "len") := by decide +kernel
theorem bb_isinstance : bootBuiltins "isinstance" = some (.builtin "isinstance") := by decide +kernel
theorem bb_abs : bootBuiltins "abs" = some (.builtin "abs") := by decide +kernel
theorem bb_max : bootBuiltins "max" = some (.builtin "max") := by decide +kernel
theorem bb_min : bootBuiltins "min" = some (.builtin "min") := by decide +kernel
theorem bb_sorted : bootBuiltins "sorted" = some (.builtin "sorted") := by decide +kernel
theorem bb_sum : bootBuiltins "sum" = some (.builtin "sum") := by decide +kernel
theorem bb_any : bootBuiltins "any" = some (.builtin "any") := by decide +kernel
theorem bb_all : bootBuiltins "all" = some (.builtin "all") := by decide +kernel
theorem bb_ord : bootBuiltins "ord" = some (.builtin "ord") := by decide +kernel
theorem bb_chr : bootBuiltins "chr" = some (.builtin "chr") := by decide +kernel
theorem bb_repr : bootBuiltins "repr" = some (.builtin "repr") := by decide +kernel
theorem bb_int : bootBuiltins "int" = some (.type "int") := by decide +kernel
theorem bb_bool : bootBuiltins "bool" = some (.type "bool") := by decide +kernel
theorem bb_str : bootBuiltins "str" = some (.type "str") := by decide +kernel
theorem bb_list : bootBuiltins "list" = some (.type "list") := by decide +kernel
theorem bb_tuple : bootBuiltins "tuple" = some (.type "tuple") := by decide +kernel
theorem bb_dict : bootBuiltins "dict" = some (.type "dict") := by decide +kernel
theorem bb_range : bootBuiltins "range" = some (.type "range") := by decide +kernel
theorem bb_zip : bootBuiltins "zip" = some (.type "zip") := by decide +kernel
theorem bb_enumerate : bootBuiltins "enumerate" = some (.type "enumerate") := by decide +kernel
theorem bb_reversed : bootBuiltins "reversed" = some (.type "reversed") := by decide +kernel
theorem bb_set : bootBuiltins "set" = some (.type "set") := by decide +kernel
end DL
namespace DL
open PySem PySem.Spec PyProof.Rows L2

/-! ### reckoning with the functions -/
theorem ofString_inj {a c : String} : Str.ofString a = Str.ofString c ↔ a = c := by
  constructor
  · intro h
    rw [Str.ofString_eq_toList, Str.ofString_eq_toList] at h
    have h1 : (a.toList.map Char.toNat).toArray = (c.toList.map Char.toNat).toArray := congrArg Str.cps h
    have h2 : a.toList.map Char.toNat = c.toList.map Char.toNat := by simpa using congrArg Array.toList h1
    have inj : Function.Injective Char.toNat := fun x y e => Char.toNat_inj.mp e
    exact String.toList_inj.mp ((List.map_inj_right inj).mp h2)
  · rintro rfl; rfl
@[simp] theorem str_beq (a c : String) : (Str.ofString a == Str.ofString c) = (a == c) := by
  rw [Bool.eq_iff_iff, beq_iff_eq, beq_iff_eq, ofString_inj]
theorem strOk_of (a : String) : PyData.strOk (Str.ofString a) = true := by
  rw [Str.ofString_eq_toList]
  unfold PyData.strOk
  simp only [List.all_toArray, List.all_map, List.all_eq_true]
  intro c _
  have := c.valid
  simp only [Function.comp, decide_eq_true_eq]
  show c.val.toNat < 0x110000
  simp only [UInt32.isValidChar, Nat.isValidChar] at this
  omega
@[simp] theorem sh_int (i : Int) : SeqAt.shaped (.int i) = true := by simp [SeqAt.shaped, PyData.canLay0, PyData.depth]
@[simp] theorem sh_bool (i : Bool) : SeqAt.shaped (.bool i) = true := by simp [SeqAt.shaped, PyData.canLay0, PyData.depth]
@[simp] theorem sh_none : SeqAt.shaped .none = true := by simp [SeqAt.shaped, PyData.canLay0, PyData.depth]
@[simp] theorem sh_str (a : String) : SeqAt.shaped (.str (Str.ofString a)) = true := by simp [SeqAt.shaped, PyData.canLay0, PyData.depth, strOk_of]
/-- data of depth n at most -/
def dep (n : Nat) (d : PyData) : Bool := d.canLay0 && decide (d.depth ≤ n)
def deps (n : Nat) (ds : List PyData) : Bool := PyData.canLayAll0 ds && decide (PyData.depthAll ds ≤ n)
theorem sh_dep (d : PyData) : SeqAt.shaped d = dep 64 d := rfl
@[simp] theorem dep_int (n : Nat) (i : Int) : dep n (.int i) = true := by simp [dep, PyData.canLay0, PyData.depth]
@[simp] theorem dep_bool (n : Nat) (i : Bool) : dep n (.bool i) = true := by simp [dep, PyData.canLay0, PyData.depth]
@[simp] theorem dep_none (n : Nat) : dep n .none = true := by simp [dep, PyData.canLay0, PyData.depth]
@[simp] theorem dep_str (n : Nat) (a : String) : dep n (.str (Str.ofString a)) = true := by simp [dep, PyData.canLay0, PyData.depth, strOk_of]
@[simp] theorem dep_tup (n : Nat) (ds : List PyData) : dep (n + 1) (.tuple ds) = deps n ds := by simp [dep, deps, PyData.canLay0, PyData.depth]
@[simp] theorem dep_lst (n : Nat) (ds : List PyData) : dep (n + 1) (.list ds) = deps n ds := by simp [dep, deps, PyData.canLay0, PyData.depth]
@[simp] theorem deps_nil (n : Nat) : deps n [] = true := by simp [deps, PyData.canLayAll0, PyData.depthAll]
@[simp] theorem deps_cons (n : Nat) (d : PyData) (ds : List PyData) : deps n (d :: ds) = (dep n d && deps n ds) := by
  unfold deps dep
  simp only [PyData.canLayAll0, PyData.depthAll, Nat.max_le]
  cases d.canLay0 <;> cases PyData.canLayAll0 ds <;> simp
@[simp] theorem sh_tup (ds : List PyData) : SeqAt.shaped (.tuple ds) = deps 63 ds := dep_tup 63 ds
@[simp] theorem sh_lst (ds : List PyData) : SeqAt.shaped (.list ds) = deps 63 ds := dep_lst 63 ds
theorem deps_all (n : Nat) : ∀ ds : List PyData, deps n ds = ds.all (dep n)
  | [] => by simp
  | d :: ds => by rw [deps_cons, List.all_cons, deps_all n ds]
/-! one equation a case -/
section
variable (i j : Int) (x y : Str) (c k : Bool) (xs ys : List PyData) (d : PyData)
@[simp] theorem eqv_ii : PyData.eqv (.int i) (.int j) = (i == j) := by simp [PyData.eqv]
@[simp] theorem eqv_ss : PyData.eqv (.str x) (.str y) = (x == y) := by simp [PyData.eqv]
@[simp] theorem eqv_bb : PyData.eqv (.bool c) (.bool k) = (c == k) := by simp [PyData.eqv]
@[simp] theorem eqv_nn : PyData.eqv .none .none = true := by simp [PyData.eqv]
@[simp] theorem eqv_bi : PyData.eqv (.bool c) (.int i) = ((if c then 1 else 0) == i) := by simp [PyData.eqv]
@[simp] theorem eqv_ib : PyData.eqv (.int i) (.bool c) = (i == (if c then 1 else 0)) := by simp [PyData.eqv]
@[simp] theorem eqv_tt : PyData.eqv (.tuple xs) (.tuple ys) = PyData.eqvAll xs ys := by simp [PyData.eqv]
@[simp] theorem eqv_ll : PyData.eqv (.list xs) (.list ys) = PyData.eqvAll xs ys := by simp [PyData.eqv]
@[simp] theorem eqv_ni : PyData.eqv .none (.int i) = false := by simp [PyData.eqv]
@[simp] theorem eqv_in : PyData.eqv (.int i) .none = false := by simp [PyData.eqv]
@[simp] theorem eqv_nb : PyData.eqv .none (.bool c) = false := by simp [PyData.eqv]
@[simp] theorem eqv_bn : PyData.eqv (.bool c) .none = false := by simp [PyData.eqv]
@[simp] theorem eqv_ns : PyData.eqv .none (.str x) = false := by simp [PyData.eqv]
@[simp] theorem eqv_sn : PyData.eqv (.str x) .none = false := by simp [PyData.eqv]
@[simp] theorem eqv_nt : PyData.eqv .none (.tuple xs) = false := by simp [PyData.eqv]
@[simp] theorem eqv_tn : PyData.eqv (.tuple xs) .none = false := by simp [PyData.eqv]
@[simp] theorem eqv_nl : PyData.eqv .none (.list xs) = false := by simp [PyData.eqv]
@[simp] theorem eqv_ln : PyData.eqv (.list xs) .none = false := by simp [PyData.eqv]
@[simp] theorem eqv_is : PyData.eqv (.int i) (.str x) = false := by simp [PyData.eqv]
@[simp] theorem eqv_si : PyData.eqv (.str x) (.int i) = false := by simp [PyData.eqv]
@[simp] theorem eqv_it : PyData.eqv (.int i) (.tuple xs) = false := by simp [PyData.eqv]
@[simp] theorem eqv_ti : PyData.eqv (.tuple xs) (.int i) = false := by simp [PyData.eqv]
@[simp] theorem eqv_st : PyData.eqv (.str x) (.tuple xs) = false := by simp [PyData.eqv]
@[simp] theorem eqv_ts : PyData.eqv (.tuple xs) (.str x) = false := by simp [PyData.eqv]
@[simp] theorem eqv_bs : PyData.eqv (.bool c) (.str x) = false := by simp [PyData.eqv]
@[simp] theorem eqv_sb : PyData.eqv (.str x) (.bool c) = false := by simp [PyData.eqv]
@[simp] theorem eqv_bt : PyData.eqv (.bool c) (.tuple xs) = false := by simp [PyData.eqv]
@[simp] theorem eqv_tb : PyData.eqv (.tuple xs) (.bool c) = false := by simp [PyData.eqv]
@[simp] theorem eqv_tl : PyData.eqv (.tuple xs) (.list ys) = false := by simp [PyData.eqv]
@[simp] theorem eqv_lt : PyData.eqv (.list xs) (.tuple ys) = false := by simp [PyData.eqv]
@[simp] theorem eqvA_nn : PyData.eqvAll [] [] = true := by simp [PyData.eqvAll]
@[simp] theorem eqvA_nc : PyData.eqvAll [] (d :: ys) = false := by simp [PyData.eqvAll]
@[simp] theorem eqvA_cn : PyData.eqvAll (d :: xs) [] = false := by simp [PyData.eqvAll]
@[simp] theorem eqvA_cc (e : PyData) : PyData.eqvAll (d :: xs) (e :: ys) = (PyData.eqv d e && PyData.eqvAll xs ys) := by simp [PyData.eqvAll]
end
/-! places and parts -/
@[simp] theorem frees_nil (env : En) : frees [] env = env := rfl
@[simp] theorem frees_cons (i : Nat) (L : List Nat) (env : En) : frees (i :: L) env = frees L (freeze i env) := rfl
@[simp] theorem atI_nn {α : Type} (xs : List α) (i : Int) (h : 0 ≤ i) : atI xs i = xs[i.toNat]? := by
  unfold atI ixN
  rw [if_pos h]
  by_cases h2 : i < xs.length
  · rw [if_pos h2]; rfl
  · rw [if_neg h2]
    rw [List.getElem?_eq_none (by omega)]
    rfl
theorem atI_neg {α : Type} (xs : List α) (i : Int) (h : i < 0) (h2 : -(xs.length : Int) ≤ i) : atI xs i = xs[(i + xs.length).toNat]? := by
  unfold atI ixN
  rw [if_neg (by omega), if_pos h2]
  rfl
@[simp] theorem atI_last1 {α : Type} (xs : List α) (x : α) : atI (x :: xs) (-1) = (x :: xs)[xs.length]? := by
  rw [atI_neg _ _ (by decide) (by simp only [List.length_cons]; omega)]
  congr 1
  simp only [List.length_cons]
  omega
theorem sIx_nn (n d : Nat) (i : Int) (h : 0 ≤ i) : HT.sIx n d (some i) = min i.toNat n := by
  obtain ⟨k, rfl⟩ := Int.eq_ofNat_of_zero_le h
  rw [HT.sIx_nat]
  rfl
@[simp] theorem cut_from {α : Type} (xs : List α) (i : Int) (h : 0 ≤ i) : cutA xs (some i) none = xs.drop i.toNat := by
  unfold cutA
  rw [sIx_nn _ _ _ h, HT.sIx_none]
  rw [List.take_of_length_le (by rw [List.length_drop]; omega)]
  by_cases hl : i.toNat ≤ xs.length
  · rw [Nat.min_eq_left hl]
  · rw [Nat.min_eq_right (by omega), List.drop_length, List.drop_of_length_le (by omega)]
@[simp] theorem cut_to {α : Type} (xs : List α) (i : Int) (h : 0 ≤ i) : cutA xs none (some i) = xs.take i.toNat := by
  unfold cutA
  rw [sIx_nn _ _ _ h, HT.sIx_none, List.drop_zero, Nat.sub_zero]
  by_cases hl : i.toNat ≤ xs.length
  · rw [Nat.min_eq_left hl]
  · rw [Nat.min_eq_right (by omega), List.take_length, List.take_of_length_le (by omega)]
@[simp] theorem cut_both {α : Type} (xs : List α) (i j : Int) (h : 0 ≤ i) (h2 : 0 ≤ j) : cutA xs (some i) (some j) = (xs.take j.toNat).drop i.toNat := by
  unfold cutA
  rw [sIx_nn _ _ _ h, sIx_nn _ _ _ h2, List.drop_take]
  by_cases hl : i.toNat ≤ xs.length
  · rw [Nat.min_eq_left hl]
    by_cases hj : j.toNat ≤ xs.length
    · rw [Nat.min_eq_left hj]
    · rw [Nat.min_eq_right (by omega), List.take_of_length_le (by rw [List.length_drop]; omega), List.take_of_length_le (by rw [List.length_drop]; omega)]
  · rw [Nat.min_eq_right (a := i.toNat) (by omega), List.drop_length, List.drop_of_length_le (by omega)]
    simp
@[simp] theorem cut_all {α : Type} (xs : List α) : cutA xs none none = xs := by
  unfold cutA
  rw [HT.sIx_none, HT.sIx_none, List.drop_zero, Nat.sub_zero, List.take_length]
@[simp] theorem cut_but {α : Type} (xs : List α) : cutA xs none (some (-1)) = xs.dropLast := by
  unfold cutA
  rw [HT.sIx_none, List.drop_zero, Nat.sub_zero, List.dropLast_eq_take]
  congr 1
  have e := HT.clip_eq (-1) xs.length xs.length
  rw [if_pos (by decide)] at e
  omega
@[simp] theorem lookup_s {β : Type} (a c : String) (v : β) (l : List (Str × β)) : List.lookup (Str.ofString a) ((Str.ofString c, v) :: l) = if a = c then some v else List.lookup (Str.ofString a) l := by
  by_cases h : a = c
  · subst h; simp [List.lookup]
  · have : (Str.ofString a == Str.ofString c) = false := by rw [str_beq]; exact beq_eq_false_iff_ne.mpr h
    simp [List.lookup, this, h]
@[simp] theorem lookup_e {β : Type} (a : Str) : List.lookup a ([] : List (Str × β)) = none := rfl
end DL
/-! List comprehensions: one clause, its target a name; tests. -/
namespace DL
open PySem PySem.Spec PyProof.Rows L2
/-- within a comprehension's block: D the list that grows -/
def blkB (b : Bs) (D : Addr) (acc : List V) : Bs := ⟨upd b.H0 D (.lst acc), fun a => b.O0 a ∨ a = D, fun _ _ _ => False, b.cls, b.pin, b.bq⟩
section
variable {K : PySem.W.Frag} {b : Bs} {H H' : Hp} {env : En} {σ : L2.St} {o : Nat → List Nat → Addr}
/-- a slot forgotten -/
theorem no_node : ∀ p, ¬ Sl.no.node p := fun _ h => h
theorem set_no {env : En} {i j : Nat} {s : Sl} (h : (env.set i Sl.no)[j]? = some s) (hs : s ≠ Sl.no) : j ≠ i ∧ env[j]? = some s := by
  rcases set_get h with ⟨_, z, _⟩ | q
  · exact absurd z hs
  · exact q
theorem RS.no {i : Nat} (r : RS K b H env σ o) : RS K b H (env.set i Sl.no) (σ.set i none) o := by
  have le : ∀ a, Ex b (env.set i Sl.no) o a → Ex b env o a := fun a => ex_put no_node
  have sg : ∀ {j : Nat}, j ≠ i → (σ.set i none)[j]? = σ[j]? := fun hj => List.getElem?_set_ne (Ne.symm hj)
  have nn : ∀ {s : Sl} {p : List Nat}, s.node p → s ≠ Sl.no := fun n z => by subst z; exact n
  refine ⟨by rw [List.length_set, List.length_set]; exact r.len, fun j d e => ?_, fun j es e => ?_, fun j k s s' p p' e1 e2 n1 n2 => ?_, r.ext, r.o0, fun j e => ?_, fun j d e => ?_, fun a ha es e => ?_, fun j d e => ?_, r.bqk, fun j t e => ?_, fun j k p t e1 e2 n => ?_, fun a ha t e => ?_⟩
  · obtain ⟨hj, e⟩ := set_no e (fun z => nomatch z)
    obtain ⟨w, h1, h2⟩ := r.val j d e
    exact ⟨w, by rw [sg hj]; exact h1, h2.less le⟩
  · obtain ⟨hj, e⟩ := set_no e (fun z => nomatch z)
    obtain ⟨vs, h1, h2, h3, h4⟩ := r.own j es e
    exact ⟨vs, by rw [sg hj]; exact h1, h2, h3.less le, h4⟩
  · exact r.injN j k s s' p p' (set_no e1 (nn n1)).2 (set_no e2 (nn n2)).2 n1 n2
  · obtain ⟨hj, e⟩ := set_no e (fun z => nomatch z)
    obtain ⟨a, h1, h2⟩ := r.exn j e
    exact ⟨a, h1, by rw [sg hj]; exact h2⟩
  · obtain ⟨hj, e⟩ := set_no e (fun z => nomatch z)
    obtain ⟨a, h1, h2⟩ := r.kv j d e
    exact ⟨a, by rw [sg hj]; exact h1, h2⟩
  · exact r.pin a ha es (set_no e (fun z => nomatch z)).2
  · obtain ⟨hj, e⟩ := set_no e (fun z => nomatch z)
    obtain ⟨a, h1, h2⟩ := r.bor j d e
    exact ⟨a, by rw [sg hj]; exact h1, h2⟩
  · obtain ⟨hj, e⟩ := set_no e (fun z => nomatch z)
    obtain ⟨w, h1, h2, h3⟩ := r.ob j t e
    exact ⟨w, by rw [sg hj]; exact h1, h2.move (.of_same (.refl H)) (fun a z => .inl (le a z)) fun _ _ => ⟨rfl, fun _ z => z⟩, h3⟩
  · obtain ⟨hj, e1⟩ := set_no e1 (fun z => nomatch z)
    rw [sg hj]
    exact r.al j k p t e1 (set_no e2 (fun z => nomatch z)).2 n
  · exact r.pin0 a ha t (set_no e (fun z => nomatch z)).2
/-- the slots as the block sees them: the growing list is kept out -/
theorem RS.into {D : Addr} {acc : List V} {Hm : Hp} (r : RS K b Hm env σ o) (hm : Hm D = none) (s : Same Hm H) (hD : H D = some (.lst acc)) : RS K (blkB b D acc) H env σ o := by
  have ex : ∀ a, Ex (blkB b D acc) env o a → Ex b env o a ∨ Hm a = none := by
    rintro a ((z | z) | z)
    · exact .inl (.inl z)
    · exact .inr (by rw [z]; exact hm)
    · exact .inl (.inr z)
  have b0 : b.H0 D = none := by
    cases q : b.H0 D with
    | none => rfl
    | some u => rw [r.ext _ _ q] at hm; cases hm
  have nD : ∀ {j : Nat} {s : Sl} {p : List Nat}, env[j]? = some s → s.node p → o j p ≠ D := fun {j s p} e n z => by
    obtain ⟨u, hu⟩ := r.dom (.inr ⟨j, s, p, e, n, rfl⟩)
    rw [z, hm] at hu; cases hu
  refine ⟨r.len, fun j d q => ?_, fun j es q => ?_, r.injN, fun a u e => ?_, fun a z => ?_, r.exn, r.kv, r.pin, r.bor, fun v ds q => ?_, fun j t e => ?_, r.al, r.pin0⟩
  · obtain ⟨v, h1, h2⟩ := r.val j d q
    exact ⟨v, h1, Rp.move (.of_same s) ex _ _ h2⟩
  · obtain ⟨vs, h1, h2, h3, h4⟩ := r.own j es q
    refine ⟨vs, h1, s _ _ h2, Rp.moveA (.of_same s) ex _ _ h3, ?_⟩
    show upd b.H0 D _ (o j []) = none
    rw [upd_ne (nD q rfl)]; exact h4
  · change upd b.H0 D (.lst acc) a = some u at e
    by_cases q : a = D
    · rw [q, upd_same] at e; rw [q, hD]; exact e
    · rw [upd_ne q] at e; exact s _ _ (r.ext _ _ e)
  · rcases z with z | z
    · obtain ⟨u, hu⟩ := r.o0 a z
      refine ⟨u, ?_⟩
      show upd b.H0 D _ a = some u
      rw [upd_ne (fun h => by rw [h, b0] at hu; cases hu)]; exact hu
    · exact ⟨.lst acc, by rw [z]; exact upd_same⟩
  · refine (r.bqk v ds q).mv (fun a u e => ?_) fun a z => ?_
    · show upd b.H0 D _ a = some u
      rw [upd_ne (fun h => by rw [h, b0] at e; cases e)]; exact e
    · rcases z with z | z
      · exact .inl z
      · exact .inr (by rw [z]; exact b0)
  · obtain ⟨v, h1, h2, h3⟩ := r.ob j t e
    refine ⟨v, h1, h2.move (.of_same s) ex fun q _ => ⟨rfl, fun u z => s _ _ z⟩, fun p n => ?_⟩
    show upd b.H0 D _ (o j p) = none
    rw [upd_ne (nD e n)]; exact h3 p n
end
/-- the heap without an address -/
def lessA (H : Hp) (D : Addr) : Hp := fun a => if a = D then none else H a
theorem lessA_same {H : Hp} {D : Addr} : Same (lessA H D) H := fun a u e => by
  unfold lessA at e
  by_cases q : a = D
  · rw [if_pos q] at e; cases e
  · rw [if_neg q] at e; exact e
theorem lessA_of {H H' : Hp} {D : Addr} (h : H D = none) (s : Same H H') : Same H (lessA H' D) := fun a u e => by
  unfold lessA
  by_cases q : a = D
  · rw [q, h] at e; cases e
  · rw [if_neg q]; exact s _ _ e
theorem lessA_at {H : Hp} {D : Addr} : lessA H D D = none := by unfold lessA; rw [if_pos rfl]
theorem keep_cut {H : Hp} {D : Addr} {O : Addr → Prop} {acc : List V} (hD : H D = some (.lst acc)) (ho : O D) : Keep O H (lessA H D) := fun a u e n => by
  unfold lessA
  by_cases q : a = D
  · subst q
    rw [hD] at e; cases e
    rcases n with n | n
    · exact absurd True.intro n
    · exact absurd ho n
  · rw [if_neg q]; exact e
/-- an outcome that raises nothing -/
def Rz.calm {α : Type} : Rz α → Rz α
  | .ok a => .ok a
  | _ => .st
@[simp] theorem Rz.calm_ok {α : Type} (a : α) : (Rz.ok a).calm = .ok a := rfl
theorem Pz.calm {α : Type} {K : PySem.W.Frag} {b b' : Bs} {r : Rz α} {P : α → Prop} (h : Pz K b r.calm P) : Pz K b' r P := by
  cases r with
  | ok a => exact h
  | ex x => exact False.elim h
  | st => exact False.elim h
/-- what a comprehension makes of the walked -/
@[simp] def lcD (i : Nat) (fc : FT) (fe : FE) (env : En) : List PyData → Rz (List PyData)
  | [] => .ok []
  | d :: ds => (fc (env.set i (Sl.val d))).calm.bind fun c => match c with
    | true => (fe (env.set i (Sl.val d))).calm.bind fun y => (lcD i fc fe env ds).calm.bind fun ys => .ok (y :: ys)
    | false => lcD i fc fe env ds
@[simp] def notOwn (i : Nat) (env : En) : Bool := match env[i]? with
  | some (Sl.own _) => false
  | some (Sl.ob _) => false
  | _ => true
@[simp] def oLc (i : Nat) (fi : FA) (L : List Nat) (fc : FT) (fe : FE) (env : En) : Rz (List PyData) := (fi env).bind fun ds => if notOwn i (frees L env) = true then (lcD i fc fe ((frees L env).set i Sl.no) ds).bind fun ys => if ys.length ≤ 1000000 then .ok ys else .st else .st
@[simp] def tYesD (_ : En) : Rz Bool := .ok true
theorem lcD_ex {i : Nat} {fc : FT} {fe : FE} {env : En} : ∀ (ds : List PyData) (x : Xn), lcD i fc fe env ds ≠ .ex x
  | [], x, h => nomatch h
  | d :: ds, x, h => by
    unfold lcD at h
    cases q : fc (env.set i (Sl.val d)) with
    | ok c =>
      rw [q, Rz.calm_ok, Rz.bind_ok] at h
      cases c with
      | true =>
        simp only at h
        cases q2 : fe (env.set i (Sl.val d)) with
        | ok y =>
          rw [q2, Rz.calm_ok, Rz.bind_ok] at h
          cases q3 : lcD i fc fe env ds with
          | ok ys => rw [q3] at h; cases h
          | ex x' => exact lcD_ex ds x' q3
          | st => rw [q3] at h; cases h
        | ex x' => rw [q2] at h; cases h
        | st => rw [q2] at h; cases h
      | false => exact lcD_ex ds x h
    | ex x' => rw [q] at h; cases h
    | st => rw [q] at h; cases h
section
variable {X : Cx} {b : Bs}
theorem fx_blk (F : Fx X b) {s : Shared} {H : Hp} {scope : Scope} {cenv : Env} {fp : List Addr} {D : Addr} {acc : List V} : Fx (X.blk s H scope cenv fp) (blkB b D acc) :=
  ⟨F.calm, fun u s' h => by rcases h with ⟨_, _, _, _, _, _, _, _, _, _, _, _, _, _, _, _, w⟩; exact w.elim, PassesOwn.never, F.u⟩
def tLt (K : PySem.W.Frag) (b : Bs) (f : FT) : TT := fun σ H Q => ∃ D acc, tDT K (blkB b D acc) f σ H Q
def tLe (K : PySem.W.Frag) (b : Bs) (f : FE) : TE := fun σ H Q => ∃ D acc, tD K (blkB b D acc) f [] σ H Q
theorem lc_read {i : Nat} {fi : FA} {L : List Nat} {fc : FT} {fe : FE} {σ : L2.St} {H : Hp} {Q : VK} (h : tDO X.K b (oLc i fi L fc fe) L σ H Q) : tLc (tDI X.K b fi L) (gName i) (tLt X.K b fc) (tLe X.K b fe) [i] σ H Q := by
  obtain ⟨env, o, R, h⟩ := h
  refine ⟨env, o, R, h.bind.imp fun ds _ h J G H1 s1 w g0 D hD => ?_⟩
  by_cases hno : notOwn i (frees L env) = true
  case neg => rw [if_neg hno] at h; exact False.elim h
  rw [if_pos hno] at h
  have R1 := ((R.frees L).same s1).no (i := i)
  have hDH : H D = none := s1.free hD
  generalize hW : (frees L env).set i Sl.no = envW at *
  have le : ∀ a, Ex b envW o a → Ex b (frees L env) o a := by
    rw [← hW]
    exact fun a => ex_put no_node
  have ge : ∀ a, Ex b (frees L env) o a → Ex b envW o a := by
    rintro a (z | ⟨j, s, p, z1, n, z2⟩)
    · exact .inl z
    · refine .inr ⟨j, s, p, ?_, n, z2⟩
      rw [← hW]
      by_cases hj : j = i
      · subst hj
        unfold notOwn at hno
        rw [z1] at hno
        cases s <;> first | exact n.elim | exact absurd hno Bool.false_ne_true
      · rw [List.getElem?_set_ne (Ne.symm hj)]; exact z1
  have lessU : ∀ (H' : Hp) (u : HO), lessA (upd H' D u) D = lessA H' D := fun H' u => by
    funext a
    unfold lessA
    by_cases q : a = D
    · rw [if_pos q, if_pos q]
    · rw [if_neg q, if_neg q, upd_ne q]
  have less1 : lessA H1 D = H1 := by
    funext a
    unfold lessA
    by_cases q : a = D
    · rw [if_pos q, q, hD]
    · rw [if_neg q]
  let W : Nat → Nat → Hp → Prop := fun i' m H' => m = ds.length - i' ∧ i' ≤ ds.length ∧ ∃ (acc : List V) (accs : List PyData), H' D = some (.lst acc) ∧ Same H1 (lessA H' D) ∧ RS X.K b (lessA H' D) envW (wipe σ [i]) o ∧
    RpA X.K (lessA H' D) (Ex b envW o) acc accs ∧ G (lessA H' D) (Ex b envW o) ∧
    Pz X.K b (lcD i fc fe envW (ds.drop i')) fun ys => (accs ++ ys).length ≤ 1000000 ∧ ∀ a vs H'', Same H H'' → H a = none → H'' a = some (.lst vs) → RpA X.K H'' (fun c => Ex b (frees L env) o c ∨ c = a) vs (accs ++ ys) → Q (.ref a) H''
  refine ⟨W, ⟨ds.length, by simp, Nat.zero_le _, [], [], upd_same, by rw [lessU, less1]; exact .refl H1, by rw [lessU, less1]; exact R1, .nil, by rw [lessU, less1]; exact w.per _ _ _ _ (.same (.refl H1) fun a z => .inl (le a z)) g0, ?_⟩, ?_⟩
  · refine h.bind.imp fun ys _ h => ?_
    split at h
    · exact ⟨‹_›, h⟩
    · exact False.elim h
  · rintro i' m H2 ⟨hm, hle, acc, accs, hD2, s2, R2, ra, g2, h⟩
    have ex2 : ∀ a, Ex (blkB b D acc) envW o a → Ex b envW o a ∨ lessA H2 D a = none := by
      rintro a ((z | z) | z)
      · exact .inl (.inl z)
      · exact .inr (by rw [z]; exact lessA_at)
      · exact .inl (.inr z)
    have exD : Ex (blkB b D acc) envW o D := .inl (.inr rfl)
    have exB : ∀ a, Ex b envW o a → Ex (blkB b D acc) envW o a := by
      rintro a (z | z)
      · exact .inl (.inl z)
      · exact .inr z
    have g2' : G H2 (Ex (blkB b D acc) envW o) := w.per _ _ _ _ (.same lessA_same ex2) g2
    by_cases hlt : i' < ds.length
    · refine .inr ⟨w.wk.goes i' H2 hlt ⟨_, g2'⟩, fun H' => W (i' + 1) (ds.length - (i' + 1)) H', fun H' hw => ⟨_, by omega, hw⟩, fun v H3 y => ?_⟩
      obtain ⟨s3, y⟩ := w.wk.yields i' H2 v H3 hlt ⟨_, g2'⟩ y
      obtain ⟨d, hd, rv⟩ := y _ g2'
      have e : ds.drop i' = d :: ds.drop (i' + 1) := by
        obtain ⟨hl, e⟩ := List.getElem?_eq_some_iff.mp hd
        rw [List.drop_eq_getElem_cons hl, e]
      rw [e] at h
      have R3 : RS X.K (blkB b D acc) H3 envW (wipe σ [i]) o := (R2.into lessA_at lessA_same hD2).same s3
      refine ⟨?_, D, acc, envW.set i (Sl.val d), o, R3.set rv, (Pz.bind h).calm.imp fun c _ h H4 s4 => ?_⟩
      · show ((σ.set i none).set i (some v)).set i none = σ.set i none
        rw [List.set_set, List.set_set]
      have s24 : Same H2 H4 := s3.trans s4
      have nx : ∀ {H5 : Hp} {vs : List V} {es : List PyData}, Same H2 H5 → RpA X.K (lessA H5 D) (Ex b envW o) vs es →
          Pz X.K b (lcD i fc fe envW (ds.drop (i' + 1))) (fun ys => (accs ++ es ++ ys).length ≤ 1000000 ∧ ∀ a vs H'', Same H H'' → H a = none → H'' a = some (.lst vs) → RpA X.K H'' (fun c => Ex b (frees L env) o c ∨ c = a) vs (accs ++ es ++ ys) → Q (.ref a) H'') →
          ∀ H6 : Hp, H6 D = some (.lst (acc ++ vs)) → lessA H6 D = lessA H5 D → W (i' + 1) (ds.length - (i' + 1)) H6 := by
        intro H5 vs es s5 r5 h5 H6 e6 l6
        have k : Same (lessA H2 D) (lessA H5 D) := lessA_of lessA_at (lessA_same.trans s5)
        refine ⟨rfl, by omega, acc ++ vs, accs ++ es, e6, ?_, ?_, ?_, ?_, h5⟩
        · rw [l6]; exact s2.trans k
        · rw [l6]; exact R2.same k
        · rw [l6]; exact RpA.append (ra.same k) r5
        · rw [l6]; exact w.per _ _ _ _ (.same k fun a z => .inl z) g2
      cases c with
      | true =>
        refine ⟨D, acc, envW.set i (Sl.val d), o, (R3.set rv).same s4, (Pz.bind h).calm.imp fun yd _ h v5 H5 s5 r5 => ?_⟩
        have hD5 : H5 D = some (.lst acc) := s5 _ _ (s24 _ _ hD2)
        have h := (Pz.bind h).calm (b' := b)
        have lsz : accs.length < sizeLine := by
          cases q : lcD i fc fe envW (ds.drop (i' + 1)) with
          | ok ys =>
            rw [q] at h
            have h1 : (accs ++ yd :: ys).length ≤ 1000000 := h.1
            rw [List.length_append, List.length_cons] at h1
            have := million
            omega
          | ex x => exact absurd q (lcD_ex _ _)
          | st => rw [q] at h; exact False.elim h
        refine ⟨acc, hD5, by rw [ra.length]; exact lsz, nx (es := [yd]) (vs := [v5]) (s24.trans s5) (.cons ?_ .nil) (h.imp fun ys _ h => ?_) _ upd_same (lessU _ _)⟩
        · refine Rp.move (keep_cut hD5 ?_) (fun a z => .inl ?_) _ _ r5
          · exact .inl (.inr rfl)
          · rcases z with z | ⟨j, s, p, z1, n, z2⟩
            · exact .inl (.inl z)
            · refine .inr ⟨j, s, p, ?_, n, z2⟩
              show (envW.set i (Sl.val d))[j]? = _
              by_cases hj : j = i
              · subst hj
                rw [← hW] at z1
                rcases set_get z1 with ⟨_, rfl, _⟩ | ⟨q, _⟩
                · exact n.elim
                · exact absurd rfl q
              · rw [List.getElem?_set_ne (Ne.symm hj)]; exact z1
        · simp only [List.append_assoc, List.cons_append, List.nil_append]; exact h
      | false => exact nx (es := []) (vs := []) s24 .nil (h.imp fun ys _ h => by simpa using h) _ (by simpa using s24 _ _ hD2) rfl
    · have e : i' = ds.length := by omega
      subst e
      rw [List.drop_length] at h
      refine .inl ⟨w.wk.stops H2 ⟨_, g2'⟩, ?_⟩
      obtain ⟨_, h⟩ := h
      refine h D acc H2 ((s1.trans s2).trans lessA_same) hDH hD2 ?_
      rw [List.append_nil]
      refine Rp.moveA (.of_same lessA_same) (fun a z => ?_) _ _ ra
      rcases z with z | z
      · exact .inl (ge _ z)
      · exact .inr (by rw [z]; exact lessA_at)
/-- the block's tests -/
theorem lt_nil {scope : Scope} : ∀ (s : Shared) (H : Hp) (C : Addr) (cl : List (Str × Addr)) (fp : List Addr), PTs (X.blk s H scope (compEnvC scope cl C X.env) fp) [] (tLt X.K b tYesD) :=
  fun s H C cl fp => ⟨fun pins s' σ H' Q I ⟨D, acc, env, o, R, h⟩ => pts_nil.run pins s' σ H' Q I (h H' (.refl H'))⟩
theorem lt_one {scope : Scope} {c : Expr} {fc : FT} (F : Fx X b) (h : ∀ (s : Shared) (H : Hp) (C : Addr) (cl : List (Str × Addr)) (fp : List Addr) (D : Addr) (acc : List V), Fx (X.blk s H scope (compEnvC scope cl C X.env) fp) (blkB b D acc) → DT (X.blk s H scope (compEnvC scope cl C X.env) fp) (blkB b D acc) c fc) :
    ∀ (s : Shared) (H : Hp) (C : Addr) (cl : List (Str × Addr)) (fp : List Addr), PTs (X.blk s H scope (compEnvC scope cl C X.env) fp) [c] (tLt X.K b fc) :=
  fun s H C cl fp => ⟨fun pins s' σ H' Q I ⟨D, acc, q⟩ => (pts_one (h s H C cl fp D acc (fx_blk F))).run pins s' σ H' Q I q⟩
section
variable {elt iter : Expr} {ifs : List Expr} {scope : Scope} {i : Nat} {x : Str} {px pos : Pos} {fi : FA} {L : List Nat} {fc : FT} {fe : FE} (F : Fx X b) (hN : X.N.Nodup) (hi : DI X b (.Name x px) iter fi L)
    (ht : ∀ (s : Shared) (H : Hp) (C : Addr) (cl : List (Str × Addr)) (fp : List Addr), PTs (X.blk s H scope (compEnvC scope cl C X.env) fp) ifs (tLt X.K b fc))
    (he : ∀ (s : Shared) (H : Hp) (C : Addr) (cl : List (Str × Addr)) (fp : List Addr) (D : Addr) (acc : List V), Fx (X.blk s H scope (compEnvC scope cl C X.env) fp) (blkB b D acc) → DE (X.blk s H scope (compEnvC scope cl C X.env) fp) (blkB b D acc) elt fe [])
    (ok : blkC X.N X.env.scope scope [(x, i)] = true)
    (hg : ∀ (s : Shared) (H : Hp) (C : Addr) (cl : List (Str × Addr)) (fp : List Addr), PG (X.blk s H scope (compEnvC scope cl C X.env) fp) (.Name x px) (gName i))
    (hs : ∀ x, foldedSetIterable iter X.env x = pure x)
include F hN hi ht he ok hg hs
theorem do_lc : DO X b (.ListComp elt [⟨.Name x px, iter, ifs, 0⟩] scope pos) (oLc i fi L fc fe) L :=
  PE.wk (pe_lc (te := tLe X.K b fe) F.calm hN hi (blkOk_by ok) hg ht (fun s H C cl fp => ⟨fun pins s' σ H' Q I ⟨D, acc, q⟩ => (he s H C cl fp D acc (fx_blk F)).run pins s' σ H' Q I q⟩) hs) fun σ H Q h => lc_read h
variable {j : Nat} {y : Str} {py spos : Pos} (hy : X.N[j]? = some y) (hyl : X.env.scope.names.lookup y = some .local) (hsw : swapsWith (.ListComp elt [⟨.Name x px, iter, ifs, 0⟩] scope pos) (some (.Name y py)) spos.line X.env = pure true)
include hy hyl hsw
/-- name = [..], the list a value -/
theorem ds_setLc : DS X b (.Assign [.Name y py] (.ListComp elt [⟨.Name x px, iter, ifs, 0⟩] scope pos) spos) (sSet j (fun env => (oLc i fi L fc fe env).bind fun ds => .ok (.list ds)) L) :=
  PS.wk (ps_setLc (te := tLe X.K b fe) F.calm hN hy hyl hsw hi (blkOk_by ok) hg ht (fun s H C cl fp => ⟨fun pins s' σ H' Q I ⟨D, acc, q⟩ => (he s H C cl fp D acc (fx_blk F)).run pins s' σ H' Q I q⟩) hs) fun D σ H ⟨env, o, R, h⟩ =>
    lc_read ⟨env, o, R, h.bind.bind.imp fun ds _ h a vs H1 s1 hn ha r1 => by
      have R1 := (R.frees L).same s1
      refine h _ H1 o (R1.set (.lst (.inl ha) (fun z => ?_) (r1.less fun _ z => .inl z))) (per_frees s1 fun a z => ex_set z)
      obtain ⟨u, hu⟩ := (R.frees L).dom z
      rw [hn] at hu; cases hu⟩
/-- name = [..], the list the name's own -/
theorem ds_setLcO (hpin : b.pin = none ∨ j ≠ 1 := by first | exact .inl rfl | exact .inr (by decide)) : DS X b (.Assign [.Name y py] (.ListComp elt [⟨.Name x px, iter, ifs, 0⟩] scope pos) spos) (sSetO j (oLc i fi L fc fe) L) :=
  PS.wk (ps_setLc (te := tLe X.K b fe) F.calm hN hy hyl hsw hi (blkOk_by ok) hg ht (fun s H C cl fp => ⟨fun pins s' σ H' Q I ⟨D, acc, q⟩ => (he s H C cl fp D acc (fx_blk F)).run pins s' σ H' Q I q⟩) hs) fun D σ H ⟨env, o, R, h⟩ =>
    lc_read ⟨env, o, R, h.bind.imp fun ds _ h a vs H1 s1 hn ha r1 => h _ H1 _ ((R.frees L).setOwn s1 hn ha r1 hpin) (.same s1 fun c z => by
      rcases ex_setOwn z with z | z
      · exact .inl (ex_frees z)
      · subst z; exact .inr hn)⟩
end
end
end DL
namespace DL
open PySem PySem.Spec PyProof.Rows L2
/-! reversed(x), x a list or a tuple -/
@[simp] def iRv (f : FE) (env : En) : Rz (List PyData) := (f env).bind fun d => match d with
  | .list ds => .ok ds.reverse
  | .tuple ds => .ok ds.reverse
  | _ => .st
section
variable {X : Cx} {b : Bs} {tg e : Expr} {f : FE} {L : List Nat} {pos p : Pos}
theorem wk_revL {K : PySem.W.Frag} {a : Addr} {n : Nat} {ds : List PyData} (hn : n = ds.length) : Wk K (Itv K a n) ds.reverse (fun H O => Rp K H O (.ref a) (.list ds)) := by
  have at_ : ∀ {H : Hp} {O : Addr → Prop}, Rp K H O (.ref a) (.list ds) → ∃ xs, SqL K H a xs ∧ RpA K H O xs ds := fun {H O} r => by
    obtain ⟨a', xs, e, h1, h2⟩ := r.sqL
    cases e
    exact ⟨xs, h1, h2⟩
  subst hn
  have hr : ds.reverse.length = ds.length := List.length_reverse
  refine ⟨⟨fun i H hi ⟨O, r⟩ => ?_, fun H ⟨O, r⟩ => ?_, fun i H x H' hi ⟨O, r⟩ y => ?_⟩, fun H O H' O' p r => p _ _ r⟩
  · obtain ⟨xs, h1, h2⟩ := at_ r
    have hl := h2.length
    rw [hr] at hi
    exact ⟨hi, xs, xs[ds.length - 1 - i]'(by omega), h1, List.getElem?_eq_getElem _⟩
  · exact Nat.le_of_eq hr.symm
  · obtain ⟨e, y⟩ := y
    subst e
    refine ⟨.refl _, fun O r => ?_⟩
    obtain ⟨xs, h1, h2⟩ := at_ r
    rw [hr] at hi
    rw [List.getElem?_reverse hi]
    exact h2.get' (y xs h1)
theorem wk_revT {K : PySem.W.Frag} {a : Addr} {n : Nat} {ds : List PyData} (hn : n = ds.length) : Wk K (RT.ItvT K a n) ds.reverse (fun H O => Rp K H O (.ref a) (.tuple ds)) := by
  have at_ : ∀ {H : Hp} {O : Addr → Prop}, Rp K H O (.ref a) (.tuple ds) → ∃ xs, SqT K H a xs ∧ RpA K H O xs ds := fun {H O} r => by
    obtain ⟨a', xs, e, h1, h2⟩ := r.sqT
    cases e
    exact ⟨xs, h1, h2⟩
  subst hn
  have hr : ds.reverse.length = ds.length := List.length_reverse
  refine ⟨⟨fun i H hi ⟨O, r⟩ => ?_, fun H ⟨O, r⟩ => ?_, fun i H x H' hi ⟨O, r⟩ y => ?_⟩, fun H O H' O' p r => p _ _ r⟩
  · obtain ⟨xs, h1, h2⟩ := at_ r
    have hl := h2.length
    rw [hr] at hi
    exact ⟨hi, xs, xs[ds.length - 1 - i]'(by omega), h1, List.getElem?_eq_getElem _⟩
  · exact Nat.le_of_eq hr.symm
  · obtain ⟨e, y⟩ := y
    subst e
    refine ⟨.refl _, fun O r => ?_⟩
    obtain ⟨xs, h1, h2⟩ := at_ r
    rw [hr] at hi
    rw [List.getElem?_reverse hi]
    exact h2.get' (y xs h1)
theorem di_rev (hg : Gl X "reversed") (hm : X.mg "reversed" = none) (h : DE X b e f L) (hs : starEach [e] X.env = (false, eval e X.env) :: starEach [] X.env := by rfl) : DI X b tg (.Call (.Name "reversed" p) [e] [] pos) (iRv f) L :=
  PI.wk (RT.pi_revA hg hm h hs) fun σ H Q ⟨env, o, R, h⟩ => ⟨env, o, R, h.bind.imp fun d _ h v H1 s1 r1 => by
    split at h
    · obtain ⟨a, xs, rfl, h1, h2⟩ := r1.sqL
      exact ⟨a, xs, rfl, .inl ⟨h1, h _ _ H1 s1 (wk_revL h2.length) r1⟩⟩
    · obtain ⟨a, xs, rfl, h1, h2⟩ := r1.sqT
      exact ⟨a, xs, rfl, .inr ⟨h1, h _ _ H1 s1 (wk_revT h2.length) r1⟩⟩
    · exact False.elim h⟩
end
end DL
namespace DL
open PySem PySem.Spec PyProof.Rows L2
/-! a def whose first argument is a list that is handed over: it may change it -/
def spD1 (K : PySem.W.Frag) (cls : Str → Value) (n : Nat) (g : FF) : Sp := fun vs H Q E => ∃ (O : Addr → Prop) (a : Addr) (vs0 vs' : List V) (es ds : List PyData), vs = .ref a :: vs' ∧ H a = some (.lst vs0) ∧ (∀ c, O c → ∃ u, lessA H a c = some u) ∧ ds.length + 1 = n ∧
  RpA K (lessA H a) O vs0 es ∧ RpA K (lessA H a) O vs' ds ∧ Pz K ⟨lessA H a, O, E, cls, none, noBq⟩ (g (.list es :: ds)) (RPost K ⟨lessA H a, O, E, cls, none, noBq⟩ Q)
@[simp] def initE1 (N : Nat) (es ds : List PyData) : En := Sl.own es :: (ds.map Sl.val ++ List.replicate (N - ds.length - 1) Sl.no)
@[simp] def runF1 (N : Nat) (body : FS) (ds : List PyData) : Rz Rv := match ds with
  | .list es :: ds => (body (initE1 N es ds)).bind fun r => match r with
    | .rt d => .ok (.val d)
    | .rto es => .ok (.own es)
    | .rtn d => .ok (.new d)
    | .rtx _ _ => .st
    | .nx _ => .ok (.val .none)
    | .bk _ => .st
    | .ct _ => .st
  | _ => .st
theorem init_rs1 {K : PySem.W.Frag} {b : Bs} {H : Hp} {N : List Str} {a : Addr} {vs0 vs : List V} {es ds : List PyData} (hn : ds.length + 1 ≤ N.length) (ha : H a = some (.lst vs0)) (hb : b.H0 = lessA H a) (r0 : RpA K b.H0 b.O0 vs0 es) (r : RpA K b.H0 b.O0 vs ds) (ho : ∀ c, b.O0 c → ∃ u, b.H0 c = some u) (hq : ∀ v ds, b.bq v ds → RpB K b.H0 b.O0 v (.list ds)) (hp : b.pin = none := by rfl) :
    RS K b H (initE1 N.length es ds) (start N (.ref a :: vs)) (fun j => if j = 0 then fun _ => a else o00 j) := by
  have hl := r.length
  have s : Same b.H0 H := by rw [hb]; exact lessA_same
  have R0 : RS K b b.H0 (Sl.no :: (ds.map Sl.val ++ List.replicate (N.length - ds.length - 1) Sl.no)) (start N (.ref a :: vs)) o00 := by
    refine RS.base (by simp [L2.start, hl]; omega) ho hq fun i s h => ?_
    cases i with
    | zero => cases h; exact .inl rfl
    | succ i =>
      rw [List.getElem?_cons_succ] at h
      by_cases hi : i < ds.length
      · rw [List.getElem?_append_left (by simpa using hi), List.getElem?_map] at h
        cases q : ds[i]? with
        | none => rw [q] at h; cases h
        | some d =>
          rw [q] at h
          cases h
          obtain ⟨v, h1, h2⟩ := r.get q
          refine .inr ⟨d, v, rfl, ?_, h2⟩
          unfold L2.start
          rw [List.getElem?_append_left (by rw [List.length_map, List.length_cons]; omega), List.getElem?_map, List.getElem?_cons_succ, h1]
          rfl
      · rw [List.getElem?_append_right (by simpa using hi), List.getElem?_replicate] at h
        split at h
        · cases h; exact .inl rfl
        · cases h
  have hn0 : b.H0 a = none := by rw [hb]; exact lessA_at
  have R1 := R0.setOwn (i := 0) (p := a) (vs := vs0) (ds := es) s hn0 ha (Rp.moveA (.of_same s) (fun c z => by
    rcases z with z | z
    · rcases z with z | ⟨i, s', p, e, n, _⟩
      · exact .inl z
      · exfalso
        cases i with
        | zero => cases e; exact n
        | succ i =>
          rw [List.getElem?_cons_succ] at e
          by_cases hi : i < ds.length
          · rw [List.getElem?_append_left (by simpa using hi), List.getElem?_map] at e
            cases q : ds[i]? with
            | none => rw [q] at e; cases e
            | some d => rw [q] at e; cases e; exact n
          · rw [List.getElem?_append_right (by simpa using hi), List.getElem?_replicate] at e
            split at e
            · cases e; exact n
            · cases e
    · exact .inr (by rw [z]; exact hn0)) _ _ r0) (.inl hp)
  have e1 : (start N (.ref a :: vs)).set 0 (some (.ref a)) = start N (.ref a :: vs) := set_same rfl
  rw [e1] at R1
  exact R1
section
variable {P : Program} {w : World} {K : PySem.W.Frag} {mg : Str → Option Value} {base : Heap}
theorem fn_D1 {cls : Str → Value} {x qual : Str} {st : Stmt} {f : Addr} {fd : FuncData} {N ps : List Str} {k : Nat} {body : FS} (F : Fun K x qual st f fd) (S : FnScope N ps (defScope st)) (hn : ps.length ≤ N.length)
    (hbody : ∀ (cdv : Value) (A : Around) (outer : List Env) (s : Shared) (H H0 : Hp) (E : XK) (O : Addr → Prop), Room k (A.deeper (envOfC qual (defScope st) s.heap.objs.size f cdv)) →
      Fx (cxOf (L2.CX P w) P w K mg base N qual (defScope st) f cdv A outer s H E) ⟨H0, O, E, cls, none, noBq⟩ →
      DSs (cxOf (L2.CX P w) P w K mg base N qual (defScope st) f cdv A outer s H E) ⟨H0, O, E, cls, none, noBq⟩ (defBody st) body) {nN nP : Nat} (eN : N.length = nN := by rfl) (eP : ps.length = nP := by rfl) :
    FnOk P w K mg base (L2.CX P w) (k + 1) f fd ps (spD1 K cls nP (runF1 nN body)) := by
  subst eN eP
  refine F.okX S (fun vs H Q E h => ?_) (fun cdv A outer s H vs Q E hr h => ?_)
  · obtain ⟨O, a, vs0, vs', es, ds, e, _, _, hl, _, r, _⟩ := h
    rw [e, List.length_cons, r.length, hl]
  · obtain ⟨O, a, vs0, vs', es, ds, e, ha, ho, hl, r0, r, h⟩ := h
    subst e
    refine ⟨_, hbody cdv A outer s H (lessA H a) E O hr ⟨rfl, takes_of rfl rfl rfl rfl, passes_of rfl, by have := hr.un; show (A.deeper (envOfC qual (defScope st) s.heap.objs.size f cdv)).units + 100 < cLine; omega⟩, ?_⟩
    have R : RS K ⟨lessA H a, O, E, cls, none, noBq⟩ H (initE1 N.length es ds) (start N (.ref a :: vs')) (fun j => if j = 0 then fun _ => a else o00 j) := init_rs1 (b := ⟨lessA H a, O, E, cls, none, noBq⟩) (by omega) ha rfl r0 r ho (fun _ _ z => z.elim)
    refine ⟨_, _, R, (Pz.bind h).imp fun r _ h => ?_⟩
    cases r with
    | nx e => exact fun σ' H' o' R' p => h .non H' R'.ext .non
    | rt d => exact h
    | rto es => exact h
    | rtn d => exact h
    | rtx d e => exact False.elim h
    | bk e => exact False.elim h
    | ct e => exact False.elim h
def Fn1 (P : Program) (w : World) (K : PySem.W.Frag) (mg : Str → Option Value) (base : Heap) (cls : Str → Value) (x : Str) (k : Nat) (ps : List Str) (g : FF) : Prop :=
  ∃ f fd, mg x = some (.ref f) ∧ FnOk P w K mg base (L2.CX P w) k f fd ps (spD1 K cls ps.length g) ∧ PySem.W.keepIn K (.ref f) = true ∧ ∀ us : List Value, us.length = ps.length → bindArgs fd ⟨us, []⟩ = pure (ps.zip us)
theorem Fn1.mk {cls : Str → Value} {x : Str} {st : Stmt} {N ps : List Str} {k : Nat} {body : FS} (S : FnScope N ps (defScope st)) (At : FnAt K mg x st)
    (hbody : ∀ (cdv : Value) (A : Around) (outer : List Env) (s : Shared) (H H0 : Hp) (E : XK) (O : Addr → Prop) (f : Addr), Room k (A.deeper (envOfC x (defScope st) s.heap.objs.size f cdv)) →
      Fx (cxOf (L2.CX P w) P w K mg base N x (defScope st) f cdv A outer s H E) ⟨H0, O, E, cls, none, noBq⟩ →
      DSs (cxOf (L2.CX P w) P w K mg base N x (defScope st) f cdv A outer s H E) ⟨H0, O, E, cls, none, noBq⟩ (defBody st) body)
    (hb : ∀ (kV doc pm : Value) (an : Option Addr) (cdv ct : Value) (us : List Value), us.length = ps.length → bindArgs (PySem.W.fnOf x x (defArgs st) (defBody st) (defScope st) .none kV doc pm an cdv ct) ⟨us, []⟩ = pure (ps.zip us))
    {nN : Nat} (eN : N.length = nN := by rfl) (hn : ps.length ≤ N.length := by decide) : Fn1 P w K mg base cls x (k + 1) ps (runF1 nN body) := by
  subst eN
  obtain ⟨f, fd, hm, F⟩ := At
  refine ⟨f, fd, hm, fn_D1 F S hn fun cdv A outer s H H0 E O hr hF => hbody cdv A outer s H H0 E O f hr hF, F.kp, ?_⟩
  obtain ⟨oc, od, kV, doc, pm, an, cdv, ct, osl, rfl, lk, hcd⟩ := F.ex
  exact hb kV doc pm an cdv ct
end
def ownB (b : Bs) (a : Addr) (vs : List V) : Bs := ⟨upd b.H0 a (.lst vs), fun c => b.O0 c ∨ c = a, b.xw, b.cls, b.pin, b.bq⟩
theorem pz_own {α : Type} {K : PySem.W.Frag} {b : Bs} {a : Addr} {vs : List V} {r : Rz α} {P : α → Prop} (hn : b.H0 a = none) (h : Pz K b r P) : Pz K (ownB b a vs) r P := by
  have s : Same b.H0 (upd b.H0 a (.lst vs)) := same_upd hn
  cases r with
  | ok _ => exact h
  | st => exact h
  | ex y =>
    obtain ⟨nm, pl⟩ := y
    cases pl with
    | none => exact fun H' s' => h H' (s.trans s')
    | some fd => exact fun H' c v s' hc hx r => h H' c v (s.trans s') (s.free hc) hx r
section
variable {X : Cx} {b : Bs} {e : Expr} {es : List Expr} {f0 : FO} {fs : FA} {L L0 : List Nat} {pos p : Pos} {j k n : Nat} {ps : List Str} {g : FF} {x : Str}
theorem Fx.ownB (F : Fx X b) {a : Addr} {vs : List V} : Fx X (ownB b a vs) := ⟨F.calm, F.tk, F.own, F.u⟩
@[simp] def cCall1 (g : FF) (f0 : FO) (fs : FA) (env : En) : Rz PyData := (f0 env).bind fun es => (fs env).bind fun ds => (g (.list es :: ds)).bind fun r => match r with
  | .val d => .ok d
  | .own es => .ok (.list es)
  | .new d => .ok d
theorem de_fn1 (F : Fx X b) (G : Fn1 X.prog X.w X.K X.mg X.base b.cls x j ps g) (hr : Room j X.A) (hg : Gl X x) (h0 : DO X b e f0 L0) (ha : ∀ (a : Addr) (vs : List V), Fx X (ownB b a vs) → DA X (ownB b a vs) es fs L) (hn : ∀ env ds, fs env = .ok ds → ds.length = n) (hl : n + 1 = ps.length := by rfl)
    (hdb : (x == ("__debug__" : Str)) = false := by decide) (he : starEach (e :: es) X.env = (false, eval e X.env) :: starEach es X.env := by rfl) (hpl : (backTo pos (starEach es X.env)).any (·.1) = false := by rfl) :
    DE X b (.Call (.Name x p) (e :: es) [] pos) (cCall1 g f0 fs) (L0 ++ L) := by
  obtain ⟨f, fd, hm, G, hk, hb⟩ := G
  refine PE.wk (pe_callS G hr hg hm hk (.all hb) (fun σ => passAt (W := fun c d _ H => b.xw c d H) F.tk σ) (pa_cons h0 (t := fun σ H Q => ∃ a vs, tDA X.K (ownB b a vs) fs L σ H Q) ⟨fun pos pins s σ H Q I ⟨a, vs, q⟩ => (ha a vs F.ownB).run pos pins s σ H Q I q⟩ he) hdb he hpl) fun σ H Q ⟨env, o, R, h⟩ => ?_
  refine ⟨env, o, R, h.bind.imp fun es0 _ h a vs0 H1 s1 hna ha1 r0 => ?_⟩
  have R1 := RS.into (D := a) (acc := vs0) R hna s1 ha1
  have b0 : b.H0 a = none := R.ext.free hna
  refine ⟨a, vs0, env, o, ⟨R1.len, R1.val, R1.own, R1.injN, R1.ext, R1.o0, R1.exn, R1.kv, R1.pin, R1.bor, R1.bqk, R1.ob, R1.al, R1.pin0⟩, (pz_own b0 h.bind).imp fun ds q h vs H2 s2 r2 => ?_⟩
  have ha2 : H2 a = some (.lst vs0) := s2 _ _ ha1
  have sH : Same H (lessA H2 a) := lessA_of hna (s1.trans s2)
  have Rf := (R.frees (L0 ++ L)).same sH
  refine ⟨Ex b (frees (L0 ++ L) env) o, a, vs0, vs, es0, ds, rfl, ha2, fun c z => Rf.dom z, by rw [hn _ _ q]; exact hl, ?_, ?_, pz_call (R.ext.trans sH) (fun _ _ _ z => z) h.bind fun r h => ?_⟩
  · refine Rp.moveA (keep_cut (O := fun c => Ex b (frees L0 env) o c ∨ c = a) ha2 (.inr rfl)) (fun c z => .inl (.inl (ex_frees_app z).1)) _ _ (r0.same s2)
  · refine Rp.moveA (keep_cut ha2 (.inl (.inr rfl))) (fun c z => .inl ?_) _ _ r2
    rcases (ex_frees_app z).2 with z | z
    · exact .inl (.inl z)
    · exact .inr z
  · cases r with
    | val d => exact fun v H' s r => h v H' (sH.trans s) r
    | new d => exact fun c H' s hc q => h _ H' (sH.trans s) ((q.less fun _ z => .inl z).rp fun z => by
        obtain ⟨u, hu⟩ := Rf.dom z
        have hc' : lessA H2 a c = none := hc
        rw [hc'] at hu; cases hu)
    | own es => exact fun c vs H' s hc hx r => h _ H' (sH.trans s) (.lst (.inl hx) (fun z => by
        obtain ⟨u, hu⟩ := Rf.dom z
        have hc' : lessA H2 a c = none := hc
        rw [hc'] at hu; cases hu) (r.less fun _ z => .inl z))
end
end DL
namespace DL
open PySem PySem.Spec PyProof.Rows L2
/-! ### while -/
def whD (t : FT) (g : FS) : Nat → FS
  | 0, _ => .st
  | n + 1, env => (t env).bind fun c => match c with
    | false => .ok (.nx env)
    | true => (g env).bind fun r => match r with
      | .nx e => whD t g n e
      | .ct e => whD t g n e
      | .bk e => .ok (.nx e)
      | .rt d => .ok (.rt d)
      | .rto es => .ok (.rto es)
      | .rtn d => .ok (.rtn d)
      | .rtx d e => .ok (.rtx d e)
theorem whD_mono (t : FT) (g : FS) : ∀ (n : Nat) (env : En), whD t g n env ≠ .st → whD t g (n + 1) env = whD t g n env
  | 0, _, h => absurd rfl h
  | n + 1, env, h => by
    have ih := whD_mono t g n
    show (t env).bind _ = (t env).bind _
    rw [whD] at h
    cases q : t env with
    | ex x => rfl
    | st => rfl
    | ok c =>
      rw [q] at h
      cases c with
      | false => rfl
      | true =>
        rw [Rz.bind_ok] at h
        rw [Rz.bind_ok, Rz.bind_ok]
        show (g env).bind _ = (g env).bind _
        replace h : ((g env).bind fun r => match r with
          | .nx e => whD t g n e
          | .ct e => whD t g n e
          | .bk e => .ok (.nx e)
          | .rt d => .ok (.rt d)
          | .rto es => .ok (.rto es)
          | .rtn d => .ok (.rtn d)
          | .rtx d e => .ok (.rtx d e)) ≠ .st := h
        cases q2 : g env with
        | ex x => rfl
        | st => rfl
        | ok r =>
          rw [q2, Rz.bind_ok] at h
          rw [Rz.bind_ok, Rz.bind_ok]
          cases r with
          | nx e => exact ih e h
          | ct e => exact ih e h
          | bk e => rfl
          | rt d => rfl
          | rto es => rfl
          | rtn d => rfl
          | rtx d e => rfl
theorem whD_le (t : FT) (g : FS) (n k : Nat) (env : En) (h : whD t g n env ≠ .st) : whD t g (n + k) env = whD t g n env := by
  induction k with
  | zero => rfl
  | succ k ih =>
    have := whD_mono t g (n + k) env (by rw [ih]; exact h)
    rw [Nat.add_succ]
    exact this.trans ih
open Classical in
noncomputable def sWhile (t : FT) (g : FS) : FS := fun env => if h : ∃ n, whD t g n env ≠ .st then whD t g (Classical.choose h) env else .st
theorem sWhile_of {t : FT} {g : FS} {env : En} {n : Nat} (h : whD t g n env ≠ .st) : sWhile t g env = whD t g n env := by
  have e : ∃ n, whD t g n env ≠ .st := ⟨n, h⟩
  unfold sWhile
  rw [dif_pos e]
  have hc := Classical.choose_spec e
  rcases Nat.le_total n (Classical.choose e) with q | q
  · obtain ⟨k, hk⟩ := Nat.exists_eq_add_of_le q
    rw [hk]; exact whD_le t g n k env h
  · obtain ⟨k, hk⟩ := Nat.exists_eq_add_of_le q
    rw [← whD_le t g _ k env hc, ← hk]
theorem sWhile_step (t : FT) (g : FS) (env : En) : sWhile t g env = (t env).bind fun c => match c with
    | false => .ok (.nx env)
    | true => (g env).bind fun r => match r with
      | .nx e => sWhile t g e
      | .ct e => sWhile t g e
      | .bk e => .ok (.nx e)
      | .rt d => .ok (.rt d)
      | .rto es => .ok (.rto es)
      | .rtn d => .ok (.rtn d)
      | .rtx d e => .ok (.rtx d e) := by
  have one : whD t g 1 env ≠ .st → sWhile t g env = whD t g 1 env := sWhile_of
  have st0 : (∀ n, whD t g n env = .st) → sWhile t g env = .st := fun h => by
    unfold sWhile; rw [dif_neg]; rintro ⟨n, hn⟩; exact hn (h n)
  cases q : t env with
  | ex x =>
    have e : ∀ n, whD t g (n + 1) env = .ex x := fun n => by rw [whD, q]; rfl
    rw [sWhile_of (n := 1) (by rw [e]; intro z; cases z), e]; rfl
  | st =>
    rw [st0]
    · rfl
    · intro n; cases n with
      | zero => rfl
      | succ n => rw [whD, q]; rfl
  | ok c =>
    cases c with
    | false =>
      have e : ∀ n, whD t g (n + 1) env = .ok (.nx env) := fun n => by rw [whD, q]; rfl
      rw [sWhile_of (n := 1) (by rw [e]; intro z; cases z), e]; rfl
    | true =>
      cases q2 : g env with
      | ex x =>
        have e : ∀ n, whD t g (n + 1) env = .ex x := fun n => by rw [whD, q, Rz.bind_ok, q2]; rfl
        rw [sWhile_of (n := 1) (by rw [e]; intro z; cases z), e]; rfl
      | st =>
        rw [st0]
        · rfl
        · intro n; cases n with
          | zero => rfl
          | succ n => rw [whD, q, Rz.bind_ok, q2]; rfl
      | ok r =>
        have go : ∀ e2, (∀ n, whD t g (n + 1) env = whD t g n e2) → sWhile t g env = sWhile t g e2 := by
          intro e2 h
          by_cases hh : ∃ n, whD t g n e2 ≠ .st
          · obtain ⟨n, hn⟩ := hh
            rw [sWhile_of hn, ← h n, sWhile_of]
            rw [h n]; exact hn
          · have z : ∀ n, whD t g n e2 = .st := fun n => by
              cases q : whD t g n e2 with
              | st => rfl
              | ok a => exact absurd ⟨n, by rw [q]; intro z; cases z⟩ hh
              | ex a => exact absurd ⟨n, by rw [q]; intro z; cases z⟩ hh
            have : sWhile t g e2 = .st := by unfold sWhile; rw [dif_neg hh]
            rw [this]
            refine st0 fun n => ?_
            cases n with
            | zero => rfl
            | succ n => rw [h n, z n]
        have fin : ∀ r', (∀ n, whD t g (n + 1) env = .ok r') → sWhile t g env = .ok r' := fun r' e => by
          rw [sWhile_of (n := 1) (by rw [e]; intro z; cases z), e]
        cases r with
        | nx e => exact go e fun n => by rw [whD, q, Rz.bind_ok, q2]; rfl
        | ct e => exact go e fun n => by rw [whD, q, Rz.bind_ok, q2]; rfl
        | bk e => exact fin _ fun n => by rw [whD, q, Rz.bind_ok, q2]; rfl
        | rt d => exact fin _ fun n => by rw [whD, q, Rz.bind_ok, q2]; rfl
        | rto es => exact fin _ fun n => by rw [whD, q, Rz.bind_ok, q2]; rfl
        | rtn d => exact fin _ fun n => by rw [whD, q, Rz.bind_ok, q2]; rfl
        | rtx d e => exact fin _ fun n => by rw [whD, q, Rz.bind_ok, q2]; rfl
section
variable {X : Cx} {b : Bs} {e e1 e2 : Expr} {f f1 f2 : FE} {fo : FO} {fs : FA} {ft : FT} {g : FS} {L La Lb : List Nat} {pos p : Pos}
theorem ds_wh {body : List Stmt} (F : Fx X b) (ht : DT X b e ft) (hb : DSs X b body g) : DS X b (.While e body [] pos) (sWhile ft g) :=
  PS.wk (ps_while F.own ht hb) fun D σ H ⟨env, o, R, h⟩ => by
    have hne : ∃ n, whD ft g n env ≠ .st := by
      by_cases q : ∃ n, whD ft g n env ≠ .st
      · exact q
      · unfold sWhile at h; rw [dif_neg q] at h; exact False.elim h
    obtain ⟨n, hn⟩ := hne
    rw [sWhile_of hn] at h
    refine ⟨fun m σ H => ∃ env o, RS X.K b H env σ o ∧ Pz X.K b (whD ft g m env) (Post X.K b H (Ex b env o) D), ⟨n, env, o, R, h⟩, ?_⟩
    rintro m σ H ⟨env, o, R, h⟩
    cases m with
    | zero => exact False.elim h
    | succ m =>
      rw [whD] at h
      refine ⟨env, o, R, h.bind.imp fun c _ h H1 s1 => ?_⟩
      have p1 : Per X.K H (Ex b env o) H1 (Ex b env o) := .same s1 fun a z => .inl z
      cases c with
      | false => exact h σ H1 o (R.same s1) p1
      | true =>
        show (if (true = true) then _ else _)
        rw [if_pos rfl]
        refine ⟨fun σ H => ∃ env o, RS X.K b H env σ o ∧ Pz X.K b (whD ft g m env) (Post X.K b H (Ex b env o) D), fun σ' H' z => ⟨m, Nat.lt_succ_self m, z⟩, env, o, R.same s1, (Pz.bind h).imp fun r _ h => ?_⟩
        cases r with
        | nx e => exact fun σ' H' o' R' p => ⟨e, o', R', h.imp fun r _ h => Post.chain (p1.trans p) h⟩
        | ct e => exact fun σ' H' o' R' p => ⟨e, o', R', h.imp fun r _ h => Post.chain (p1.trans p) h⟩
        | bk e => exact Cont.chain p1 h
        | rt d => exact h
        | rto es => exact h
        | rtn d => exact h
        | rtx d e => exact Post.chain (r := .rtx d e) p1 h
/-! ### all, any of a list of truth values; tuple(..); list * int -/
@[simp] def blsOf : List PyData → Option (List Bool)
  | [] => some []
  | .bool c :: ds => (blsOf ds).map (c :: ·)
  | _ :: _ => none
theorem bls_of {K : PySem.W.Frag} {H : Hp} {O : Addr → Prop} : ∀ {vs : List V} {ds : List PyData} {bs : List Bool}, RpA K H O vs ds → blsOf ds = some bs → vs = bs.map V.bl
  | _, [], bs, r, h => by cases r; simp at h; subst h; rfl
  | _, d :: ds, bs, r, h => by
    cases r with
    | cons a t =>
      cases d with
      | bool c =>
        unfold blsOf at h
        cases q : blsOf ds with
        | none => rw [q] at h; simp at h
        | some cs =>
          rw [q] at h; simp at h; subst h
          rw [bls_of t q, a.bl_of]; rfl
      | _ => simp [blsOf] at h
@[simp] def gAll : PyData → Option PyData
  | .list ds => (blsOf ds).map fun bs => .bool (bs.all id)
  | _ => none
@[simp] def gAny : PyData → Option PyData
  | .list ds => (blsOf ds).map fun bs => .bool (bs.any id)
  | _ => none
theorem cad_all {K : PySem.W.Frag} : CaD K (rAll K) gAll := by
  intro H O x dx d Q r e q
  unfold gAll at e
  split at e
  · rename_i ds
    cases q1 : blsOf ds with
    | none => rw [q1] at e; cases e
    | some bs =>
      rw [q1] at e; cases e
      obtain ⟨a, vs, rfl, h1, h2⟩ := r.sqL
      rw [bls_of h2 q1] at h1
      exact ⟨a, bs, rfl, h1, q _ _ (.refl H) (.bl _)⟩
  · cases e
theorem cad_any {K : PySem.W.Frag} : CaD K (rAny K) gAny := by
  intro H O x dx d Q r e q
  unfold gAny at e
  split at e
  · rename_i ds
    cases q1 : blsOf ds with
    | none => rw [q1] at e; cases e
    | some bs =>
      rw [q1] at e; cases e
      obtain ⟨a, vs, rfl, h1, h2⟩ := r.sqL
      rw [bls_of h2 q1] at h1
      exact ⟨a, bs, rfl, h1, q _ _ (.refl H) (.bl _)⟩
  · cases e
@[simp] def gTuple : PyData → Option PyData
  | .list ds => some (.tuple ds)
  | .tuple ds => some (.tuple ds)
  | _ => none
theorem cad_tuple {K : PySem.W.Frag} : CaD K (fun xs H Q => ∃ p ys, xs = [.ref p] ∧ ((SqL K H p ys ∧ ∀ l, H l = none → Q (.ref l) (upd H l (.tup ys))) ∨ (SqT K H p ys ∧ Q (.ref p) H))) gTuple := by
  intro H O x dx d Q r e q
  unfold gTuple at e
  split at e
  · cases e
    obtain ⟨a, vs, rfl, h1, h2⟩ := r.sqL
    exact ⟨a, vs, rfl, .inl ⟨h1, fun l hl => q _ _ (same_upd hl) (.tup (.inl upd_same) (h2.same (same_upd hl)))⟩⟩
  · rename_i ds
    cases e
    have r' := r.rp fun _ z => nomatch z
    obtain ⟨a, vs, rfl, h1, h2⟩ := r'.sqT
    exact ⟨a, vs, rfl, .inr ⟨h1, q _ _ (.refl H) r'⟩⟩
  · cases e
def repA {α : Type} (n : Nat) (xs : List α) : List α := (List.replicate n xs).flatten
@[simp] def oRep (fo : FO) (f : FE) (env : En) : Rz (List PyData) := (fo env).bind fun ds => (f env).bind fun d => match d with
  | .int k => if -(2 ^ 63) ≤ k ∧ k < 2 ^ 63 ∧ ds.length * k.toNat ≤ 1000000 then .ok (repA k.toNat ds) else .st
  | _ => .st
theorem rpa_rep {K : PySem.W.Frag} {H : Hp} {O : Addr → Prop} {vs : List V} {ds : List PyData} (r : RpA K H O vs ds) : ∀ n, RpA K H O (repA n vs) (repA n ds)
  | 0 => by unfold repA; simp; exact .nil
  | n + 1 => by
    have := RpA.append r (rpa_rep r n)
    unfold repA at this ⊢
    rw [List.replicate_succ, List.replicate_succ, List.flatten_cons, List.flatten_cons]
    exact this
theorem do_rep (h1 : DO X b e1 fo La) (h2 : DE X b e2 f Lb) : DO X b (.BinOp e1 .Mult e2 pos) (oRep fo f) (La ++ Lb) :=
  PE.wk (pe_op op_rep h1 h2) fun σ H Q ⟨env, o, R, h⟩ => ⟨env, o, R, h.bind.imp fun ds _ h a vs H1 s1 hn ha r1 => ⟨env, o, R.same s1, h.bind.imp fun d _ h v H2 s2 r2 => by
    cases d with
    | int k =>
      replace h : Pz X.K b (if -(2 ^ 63) ≤ k ∧ k < 2 ^ 63 ∧ ds.length * k.toNat ≤ 1000000 then Rz.ok (repA k.toNat ds) else .st) _ := h
      split at h
      · rename_i hc
        have e := r1.length
        refine ⟨a, k, vs, rfl, r2.int_of, s2 _ _ ha, hc.1, hc.2.1, by rw [e]; exact Nat.le_trans hc.2.2 million, fun p hp => ?_⟩
        have s3 := same_upd (u := .lst (List.replicate k.toNat vs).flatten) hp
        refine h p _ _ ((s1.trans s2).trans s3) (s1.free (s2.free hp)) upd_same ?_
        exact Rp.moveA (.of_same s3) (fun c z => z.elim (fun z => .inl (.inl (ex_frees_app z).1)) (fun z => .inr (by rw [z]; exact hp))) _ _ ((rpa_rep r1 k.toNat).same s2)
      · exact False.elim h
    | _ => exact False.elim h⟩⟩
/-! + also where the left tuple is empty -/
@[simp] def gAddE : PyData → PyData → Option PyData
  | .int i, .int j => some (.int (i + j))
  | .tuple xs, .tuple ys => if xs.length + ys.length ≤ 1000000 then some (.tuple (xs ++ ys)) else none
  | .str x, .str y => if x.length + y.length ≤ 1000000 then some (.str (x ++ y)) else none
  | .list xs, .list ys => if xs.length + ys.length ≤ 1000000 then some (.list (xs ++ ys)) else none
  | _, _ => none
abbrev rAddAnyE (K : PySem.W.Frag) : R2 := fun x y H Q => (fun x y H Q => rI0 (fun i j => .int (i + j)) x y H Q ∨ rCatA K x y H Q) x y H Q ∨ (fun x y H Q => ∃ i j, x = .str i ∧ y = .str j ∧ i.length + j.length ≤ sizeLine ∧ Q (.str (i ++ j)) H) x y H Q ∨ rCatL K x y H Q
theorem opr_addE {X : Cx} : OpR X (binaryOp .Add) (rAddAnyE X.K) := (op_add.or op_catA).or (op_add_str.or op_catL)
theorem opd_addE {K : PySem.W.Frag} : OpD K (rAddAnyE K) gAddE := by
  intro H O x y dx dy d Q ho rx ry e q
  unfold gAddE at e
  split at e
  · rename_i i j
    cases e
    exact .inl (.inl ⟨i, j, rx.int_of, ry.int_of, q _ _ (.refl H) (.int _)⟩)
  · rename_i xs ys
    split at e
    · rename_i hc
      cases e
      obtain ⟨a, vs, rfl, ha, ra⟩ := rx.sqT
      obtain ⟨c, ws, rfl, hc', rc⟩ := ry.sqT
      have l1 := ra.length
      have l2 := rc.length
      have hm := million
      refine .inl (.inr ⟨a, c, vs, ws, rfl, rfl, ha, hc', by omega, fun z => ?_, fun z0 z => ?_, fun z0 z p hp => ?_⟩)
      · subst z
        have : xs = [] := List.length_eq_zero_iff.mp l1.symm
        subst this
        rw [List.nil_append] at q
        exact q _ _ (.refl H) ry
      · subst z
        have : ys = [] := List.length_eq_zero_iff.mp l2.symm
        subst this
        rw [List.append_nil] at q
        exact q _ _ (.refl H) rx
      · have s : Same H (upd H p (.tup (vs ++ ws))) := fun a u e => by rw [upd_ne (ne_of_none e hp)]; exact e
        exact q _ _ s (.tup (.inl upd_same) ((ra.append rc).same s))
    · cases e
  · rename_i i j
    split at e
    · rename_i hc
      cases e
      have hm := million
      exact .inr (.inl ⟨i, j, rx.str_of, ry.str_of, by omega, q _ _ (.refl H) (.str _)⟩)
    · cases e
  · rename_i xs ys
    split at e
    · rename_i hc
      cases e
      obtain ⟨a, vs, rfl, ha, ra⟩ := rx.ls
      obtain ⟨c, ws, rfl, hc', rc⟩ := ry.ls
      have l1 := ra.length
      have l2 := rc.length
      have hm := million
      refine .inr (.inr ⟨a, c, vs, ws, rfl, rfl, ha, hc', by omega, fun p hp => ?_⟩)
      have s : Same H (upd H p (.lst (vs ++ ws))) := fun a u e => by rw [upd_ne (ne_of_none e hp)]; exact e
      refine q _ _ s (.lst (.inl upd_same) (fun z => ?_) ((ra.append rc).same s))
      obtain ⟨u, hu⟩ := ho _ z
      rw [hp] at hu; cases hu
    · cases e
  · cases e
end
end DL
namespace DL
open PySem PySem.Spec PyProof.Rows L2
/-! ### exceptions -/
/-- what a class of the program stands for -/
def clsK (K : PySem.W.Frag) (x : Str) : Value := match PySem.W.nsIn K mainGlobals x with
  | some (some v) => v
  | _ => .none
theorem clsK_of {K : PySem.W.Frag} {x : Str} {v : Value} (h : PySem.W.nsIn K mainGlobals x = some (some v)) : clsK K x = v := by unfold clsK; rw [h]
/-- an own class that may be raised -/
def ErrAt (K : PySem.W.Frag) (mg : Str → Option Value) (cls : Str → Value) (x : Str) : Prop := ∃ C : Addr, mg x = some (.ref C) ∧ cls x = .ref C ∧
  PySem.W.excIn K C [.type "ValueError", .type "Exception", .type "BaseException", .type "object"] "ValueError.__new__" = true ∧ PySem.W.keepIn K (.ref C) = true ∧
  PySem.W.subIn K (.ref C) (.type "BaseException") = some true ∧ PySem.W.typeIn K (.ref C) = some (.type "type")
abbrev FU := En → Rz Unit
def tDU (K : PySem.W.Frag) (b : Bs) (f : FU) : TE := fun σ H Q => ∃ env o, RS K b H env σ o ∧ Pz K b (f env) fun _ => ∀ v H', Same H H' → Q v H'
/-- an expression whose value does not matter -/
def DU (X : Cx) (b : Bs) (e : Expr) (f : FU) : Prop := PE X e (tDU X.K b f)
section
variable {X : Cx} {b : Bs} {e : Expr} {es : List Expr} {f : FE} {fu : FU} {L : List Nat} {pos p p2 : Pos}
@[simp] def uOf (f : FE) (env : En) : Rz Unit := (f env).bind fun _ => .ok ()
theorem du_of (h : DE X b e f L) : DU X b e (uOf f) := PE.wk h fun σ H Q ⟨env, o, R, q⟩ => ⟨env, o, R, q.bind.imp fun d _ q v H' s r => q v H' s⟩
@[simp] def sRaise (x : Str) (f : FU) (env : En) : Rz Rs := (f env).bind fun _ => .ex (x, none)
theorem ds_raise {x : Str} (F : Fx X b) (E : ErrAt X.K X.mg b.cls x) (hg : Gl X x) (h : DU X b e fu) (hs : starEach [e] X.env = (false, eval e X.env) :: starEach [] X.env := by rfl) (hdb : (x == ("__debug__" : Str)) = false := by decide) :
    DS X b (.Raise (some (.Call (.Name x p) [e] [] p2)) none pos) (sRaise x fu) := by
  obtain ⟨C, g, ec, xc, kp, sb, ty⟩ := E
  exact PS.wk (ps_raise F.calm F.tk (SkE.pmk_own1 PySem.F.excBase_ValueError xc g kp (raises_own sb ty) hg h hs hdb)) fun D σ H ⟨env, o, R, h⟩ => ⟨env, o, R, h.bind.imp fun _ _ h v H1 s1 => by
    have := h H1 (R.ext.trans s1)
    rw [ec] at this
    exact this⟩
/-! f-strings -/
def tDF (K : PySem.W.Frag) (b : Bs) (f : FU) : TE := fun σ H Q => ∃ env o, RS K b H env σ o ∧ Pz K b (f env) fun _ => ∀ (y : Str) H', y.length ≤ 100000 → Same H H' → Q (.str y) H'
/-- a part of an f-string: some text -/
def DF (X : Cx) (b : Bs) (e : Expr) (f : FU) : Prop := PE X e (tDF X.K b f)
@[simp] def fStr (x : Str) (_ : En) : Rz Unit := if x.length ≤ 100000 then .ok () else .st
theorem df_str {x : Str} {j : Nat} : DF X b (.Constant (.str x) j pos) (fStr x) := PE.wk pe_str fun σ H Q ⟨env, o, R, h⟩ => by
  unfold fStr at h
  split at h
  · exact h x H ‹_› (.refl H)
  · exact False.elim h
def flat1 : PyData → Bool
  | .int i => decide (i.natAbs < 10 ^ 60)
  | .str y => decide (y.length ≤ 100) && y.cps.toList.all fun c => decide (c < 16 ^ 8)
  | .bool _ => true
  | .none => true
  | _ => false
def flatOk : PyData → Bool
  | .tuple ds => decide (ds.length ≤ 20) && ds.all flat1
  | d => flat1 d
theorem log_of {i : Int} (h : i.natAbs < 10 ^ 60) : i.natAbs.log2 < 1920 := by
  have h2 : i.natAbs < 2 ^ 1920 := Nat.lt_trans h (by decide +kernel)
  by_cases h0 : i.natAbs = 0
  · rw [h0]; decide
  · exact (Nat.log2_lt h0).mpr h2
theorem len_of {i : Int} (h : i.natAbs < 10 ^ 60) : (toString i).length ≤ 61 := int_text_length_le10 (by decide) h
theorem ofS_len (a : String) : (Str.ofString a).length = a.length := by
  rw [Str.ofString_eq_toList]
  show (a.toList.map Char.toNat).toArray.size = a.length
  rw [List.size_toArray, List.length_map]
  exact String.length_toList
/-- the texts of a flat tuple's items -/
theorem flat_all {prog : Program} {w : World} {K : PySem.W.Frag} {H : Hp} {O : Addr → Prop} : ∀ {ds : List PyData} {vs : List V} {its : List Value}, RpA K H O vs ds → Vals vs its → ds.all flat1 = true → ∃ ts, ReprAll prog w its ts ∧ piled ts ≤ 1004 * ds.length
  | [], _, _, r, rv, _ => by cases r; cases rv; exact ⟨[], .nil, Nat.zero_le _⟩
  | d :: ds, _, _, .cons r1 r2, rv, h => by
    cases rv with
    | cons q1 q2 =>
      rw [List.all_cons, Bool.and_eq_true] at h
      obtain ⟨ts, h1, h2⟩ := flat_all r2 q2 h.2
      have go : ∀ {u : Value} {t : Str}, ReprIs prog w u t → t.length ≤ 1002 → ∃ ts, ReprAll prog w (u :: _) ts ∧ piled ts ≤ 1004 * (d :: ds).length := fun {u t} a b => ⟨t :: ts, .cons a h1, by rw [piled_cons, List.length_cons]; omega⟩
      have hd := h.1
      cases d with
      | int i =>
        obtain rfl := r1.int_of
        obtain ⟨tk, rfl⟩ := q1
        have hi : i.natAbs < 10 ^ 60 := of_decide_eq_true hd
        refine go (ReprIs.int tk (log_of hi)) ?_
        have := len_of hi
        rw [ofS_len]
        omega
      | str y =>
        obtain rfl := r1.str_of
        obtain ⟨tk, rfl⟩ := q1
        unfold flat1 at hd
        rw [Bool.and_eq_true, decide_eq_true_eq, List.all_eq_true] at hd
        have := StrLaws.reprText_len y fun c hc => of_decide_eq_true (hd.2 c hc)
        exact go (ReprIs.str y tk (by have := million; omega)) (by omega)
      | bool c =>
        obtain rfl := r1.bl_of
        cases q1
        exact go (ReprIs.bool c) (by cases c <;> decide +kernel)
      | none =>
        obtain rfl := r1.non_of
        cases q1
        exact go ReprIs.none (by decide +kernel)
      | list _ => cases hd
      | tuple _ => cases hd
      | dict _ => cases hd
def tFmtU (K : PySem.W.Frag) (O : Addr → Prop) (te : TE) : TE := fun σ H Q => te σ H fun x H1 => ∃ (a : Addr) (vs : List V) (ds : List PyData), x = .ref a ∧ SqT K H1 a vs ∧ RpA K H1 O vs ds ∧ ds.length ≤ 20 ∧ ds.all flat1 = true ∧ ∀ m : Str, m.length ≤ 100000 → Q (.str m) H1
theorem pe_fmtU {O : Addr → Prop} {te : TE} (hu : X.A.units + 2 < cLine) (he : PE X e te) : PE X (.FormattedValue e (-1) none pos) (tFmtU X.K O te) := by
  refine ⟨fun pins s σ H Q I h => ?_⟩
  refine wpAny_FormattedValue_plain (thn (he.run pins s σ H _ I h) fun v s1 hv => ?_)
  obtain ⟨x, H1, I1, r1, a, vs, ds, rfl, ht, hr, hn, hf, q⟩ := hv
  cases r1
  obtain ⟨its, rv, ⟨o, ho, hcl, n, hd⟩, _⟩ := I1.tuple ht
  obtain ⟨ts, h1, h2⟩ := flat_all (prog := X.prog) (w := X.w) hr rv hf
  have htx := fmt_text ts
  have hm := million
  exact fmt_tuple hu ho hcl hd (by simpa using h1) (by omega) fun m u tk hm => ⟨.str m, H1, I1.tok _, ⟨u, rfl⟩, q m (by omega)⟩
theorem PE.or {t t' : TE} (h : PE X e t) (h' : PE X e t') : PE X e (fun σ H Q => t σ H Q ∨ t' σ H Q) := ⟨fun pins s σ H Q I q => q.elim (h.run pins s σ H Q I) (h'.run pins s σ H Q I)⟩
@[simp] def fFmt (f : FE) (env : En) : Rz Unit := (f env).bind fun d => match d with
  | .int i => if flatOk (.int i) = true then .ok () else .st
  | .str y => if flatOk (.str y) = true then .ok () else .st
  | .tuple ds => if flatOk (.tuple ds) = true then .ok () else .st
  | _ => .st
theorem df_fmt (F : Fx X b) (h : DE X b e f []) : DF X b (.FormattedValue e (-1) none pos) (fFmt f) := by
  have hU : PE X (.FormattedValue e (-1) none pos) (fun σ H Q => ∃ O, tFmtU X.K O (tD X.K b f []) σ H Q) := ⟨fun pins s σ H Q I ⟨O, q⟩ => (pe_fmtU (by have := F.u; omega) h).run pins s σ H Q I q⟩
  refine PE.wk (PE.or (pe_fmt h) hU) fun σ H Q ⟨env, o, R, q⟩ => ?_
  unfold fFmt at q
  have hm := million
  cases q1 : f env with
  | st => rw [q1] at q; exact False.elim q
  | ex x => rw [q1] at q; exact .inl ⟨env, o, R, by rw [q1]; exact q⟩
  | ok d =>
    rw [q1, Rz.bind_ok] at q
    cases d with
    | int i =>
      replace q : Pz X.K b (if flatOk (.int i) = true then Rz.ok () else .st) _ := q
      split at q
      · rename_i hc
        have hi : i.natAbs < 10 ^ 60 := of_decide_eq_true hc
        exact .inl ⟨env, o, R, by rw [q1]; exact fun v H' s r => .inr ⟨i, r.int_of, log_of hi, q _ H' (by rw [ofS_len]; have := len_of hi; omega) s⟩⟩
      · exact False.elim q
    | str y =>
      replace q : Pz X.K b (if flatOk (.str y) = true then Rz.ok () else .st) _ := q
      split at q
      · rename_i hc
        have hc : flat1 (.str y) = true := hc
        unfold flat1 at hc
        rw [Bool.and_eq_true, decide_eq_true_eq] at hc
        have hc1 := hc.1
        exact .inl ⟨env, o, R, by rw [q1]; exact fun v H' s r => .inl ⟨y, r.str_of, by omega, q _ H' (by omega) s⟩⟩
      · exact False.elim q
    | tuple ds =>
      replace q : Pz X.K b (if flatOk (.tuple ds) = true then Rz.ok () else .st) _ := q
      split at q
      · rename_i hc
        unfold flatOk at hc
        rw [Bool.and_eq_true, decide_eq_true_eq] at hc
        refine .inr ⟨Ex b env o, env, o, R, ?_⟩
        rw [q1]
        intro v H' s r
        obtain ⟨a, vs, e1, h1, h2⟩ := r.sqT
        exact ⟨a, vs, ds, e1, h1, h2, hc.1, hc.2, fun m hm => q m H' hm s⟩
      · exact False.elim q
    | none => exact False.elim q
    | bool _ => exact False.elim q
    | list _ => exact False.elim q
    | dict _ => exact False.elim q
/-- the parts -/
def DJ (X : Cx) (b : Bs) (es : List Expr) (g : FU) : Prop := ∃ ts, PJ X es ts ∧ ∀ (acc : Str) (σ : L2.St) (H : Hp) (env : En) (o : Nat → List Nat → Addr) (Q : Str → Hp → Prop), acc.length + es.length * 100000 ≤ 1000000 → RS X.K b H env σ o → Pz X.K b (g env) (fun _ => ∀ out H', Same H H' → Q out H') → tJs ts acc σ H Q
@[simp] def jNil (_ : En) : Rz Unit := .ok ()
@[simp] def jCons (f g : FU) (env : En) : Rz Unit := (f env).bind fun _ => g env
theorem dj_nil : DJ X b [] jNil := ⟨[], .nil, fun acc σ H env o Q _ R h => h acc H (.refl H)⟩
theorem dj_cons {g : FU} (h1 : DF X b e fu) (h2 : DJ X b es g) : DJ X b (e :: es) (jCons fu g) := by
  obtain ⟨ts, hp, h2⟩ := h2
  refine ⟨_, .cons h1 hp, fun acc σ H env o Q hz R h => ⟨env, o, R, h.bind.imp fun _ _ h y H1 hy s1 => ?_⟩⟩
  rw [List.length_cons] at hz
  have e1 : (acc ++ y).length = acc.length + y.length := strLen_append ..
  have hm := million
  refine ⟨y, rfl, by rw [e1]; omega, h2 _ σ H1 env o Q (by rw [e1]; omega) (R.same s1) (h.imp fun _ _ h out H2 s2 => h out H2 (s1.trans s2))⟩
theorem du_fs {v1 v2 : Expr} {rest : List Expr} {g : FU} (h : DJ X b (v1 :: v2 :: rest) g) (hn : (v1 :: v2 :: rest).length ≤ 10 := by decide) : DU X b (.JoinedStr (v1 :: v2 :: rest) pos) g := by
  obtain ⟨ts, hp, h⟩ := h
  exact PE.wk (pe_joined hp) fun σ H Q ⟨env, o, R, q⟩ => h _ σ H env o _ (by show 0 + _ ≤ _; omega) R (q.imp fun _ _ q out H' s => q _ H' s)
end
/-! ### try .. except X as n -/
@[simp] def noOwns (env : En) : Bool := env.all fun s => match s with | .own _ => false | .ob _ => false | _ => true
/-- body, the class's own or not, the suite by the exception -/
def sTry (i N : Nat) (g : FS) (cat : Str → Option Bool) (sx : Xn → FS) (env : En) : Rz Rs :=
  if noOwns env = true then match g env with
    | .ok r => .ok r
    | .st => .st
    | .ex x => match x.2, cat x.1 with
      | none, some true => match sx x ((List.replicate N Sl.no).set i Sl.exn) with
        | .ok (.rt d) => .ok (.rt d)
        | _ => .st
      | none, some false => .ex x
      | _, _ => .st
  else .st
theorem Takes.len {X : Cx} {W W' : WX} (t : Takes X W) (h : ∀ c d σ H, σ.length = X.N.length → W' c d σ H → W c d σ H) : Takes X W' := fun u s' ⟨a, B, sI, pins, σ, H, cls, d, e, I, nb, up, sky, na, os, ag, w⟩ =>
  t u s' ⟨a, B, sI, pins, σ, H, cls, d, e, I, nb, up, sky, na, os, ag, h _ _ _ _ I.len w⟩
section
variable {X : Cx} {b : Bs}
theorem no_own {env : En} (h : noOwns env = true) {i : Nat} {ds : List PyData} (q : env[i]? = some (Sl.own ds)) : False := by
  unfold noOwns at h
  rw [List.all_eq_true] at h
  have := h _ (List.mem_of_getElem? q)
  exact Bool.false_ne_true this
theorem no_nodes {env : En} (h : noOwns env = true) {i : Nat} {s : Sl} {p : List Nat} (q : env[i]? = some s) (n : s.node p) : False := by
  unfold noOwns at h
  rw [List.all_eq_true] at h
  have := h _ (List.mem_of_getElem? q)
  cases s <;> first | exact n | exact Bool.false_ne_true this
/-- a try's ground: the heap where it begins -/
def tryB (b : Bs) (H : Hp) (W : Value → Option Addr → Hp → Prop) : Bs := ⟨H, b.O0, W, b.cls, b.pin, b.bq⟩
theorem RS.tryIn {K : PySem.W.Frag} {H : Hp} {env : En} {σ : L2.St} {o : Nat → List Nat → Addr} {W : Value → Option Addr → Hp → Prop} (r : RS K b H env σ o) (h : noOwns env = true) : RS K (tryB b H W) H env σ o :=
  ⟨r.len, r.val, fun i ds q => (no_own h q).elim, r.injN, .refl H, fun a z => r.dom (.inl z), r.exn, r.kv, r.pin, r.bor, fun v ds q => (r.bqk v ds q).mv r.ext fun a z => .inl z, fun i t q => by
    obtain ⟨v, h1, h2, h3⟩ := r.ob i t q
    exact ⟨v, h1, h2, fun p n => (no_nodes h q n).elim⟩, r.al, r.pin0⟩
theorem RS.tryOut {K : PySem.W.Frag} {H H' : Hp} {env env0 : En} {σ σ0 : L2.St} {o o0 : Nat → List Nat → Addr} {W : Value → Option Addr → Hp → Prop} (r0 : RS K b H env0 σ0 o0) (r : RS K (tryB b H W) H' env σ o) : RS K b H' env σ o :=
  ⟨r.len, r.val, fun i ds q => let ⟨vs, h1, h2, h3, h4⟩ := r.own i ds q; ⟨vs, h1, h2, h3, r0.ext.free h4⟩, r.injN, r0.ext.trans r.ext, r0.o0, r.exn, r.kv, r.pin, r.bor, r0.bqk, fun i t q => let ⟨v, h1, h2, h3⟩ := r.ob i t q; ⟨v, h1, h2, fun p n => r0.ext.free (h3 p n)⟩, r.al, r.pin0⟩
theorem ds_tryAs {i : Nat} {xc n : Str} {c : Value} {cat : Str → Option Bool} {body suite : List Stmt} {b₀ : Stmt} {g : FS} {sx : Xn → FS} {np pos pos' : Pos} (F : Fx X b) (hs : X.stack = X.env :: X.outer) (hf : X.env.frame = some X.env.locals) (hN : X.N.Nodup)
    (hi : X.N[i]? = some n) (hln : X.env.kindOf n = some .local) (hc : Names X xc c) (hcat : ∀ y v, cat y = some v → PySem.W.exmOne X.K (b.cls y) c = some v)
    (hb : ∀ (pn : List (Addr × Obj)) (xe : Value → Shared → Prop) (b' : Bs), b'.cls = b.cls → Fx (X.tr pn xe) b' → DSs (X.tr pn xe) b' body g)
    (hsu : ∀ (x : Xn) (a : Addr) (oe : Obj) (pn : List (Addr × Obj)) (b2 : Bs), b2.pin = some a → Zc (b.cls x.1) none oe → (∃ vs, oe.data = .fields vs) → DSs (X.suite a ((a, oe) :: pn)) b2 (b₀ :: suite) (sx x))
    {N : Nat} (eN : X.N.length = N := by rfl) :
    DS X b (.Try body [.ExceptHandler (some (.Name xc np)) (some n) (b₀ :: suite) pos'] [] [] pos) (sTry i N g cat sx) := by
  subst eN
  refine PS.wk (ps_try_as (tb := fun W D σ H => ∃ b' : Bs, b'.cls = b.cls ∧ (∀ c d σ H, σ.length = X.N.length → b'.xw c d H → W c d σ H) ∧ tDS X.K b' g D σ H)
    (ts := fun a cls d D σ H => ∃ (x : Xn) (b2 : Bs), b2.pin = some a ∧ b.cls x.1 = cls ∧ d = none ∧ tDS X.K b2 (sx x) D σ H)
    (Wout := fun c d _ H => b.xw c d H) hs hf hN hi hln hc F.tk
    (fun W pn xe tk hp => ⟨fun pins s σ H Q I ⟨b', e, hW, q⟩ => (hb pn xe b' e ⟨F.calm, Takes.len tk hW, hp, F.u⟩).run pins s σ H Q I q⟩)
    (fun a oe cls d pn hz hd => ⟨fun pins s σ H Q I ⟨x, b2, e2, ex, ed, q⟩ => (hsu x a oe pn b2 e2 (by rw [ex, ← ed]; exact hz) hd).run pins s σ H Q I q⟩)) fun D σ H ⟨env, o, R, h⟩ => ?_
  unfold sTry at h
  split at h
  case isFalse => exact False.elim h
  rename_i hno
  refine ⟨tryB b H fun c' d H' => ∀ σ', σ'.length = X.N.length → wAs X.K c i (fun a cls d D σ H => ∃ (x : Xn) (b2 : Bs), b2.pin = some a ∧ b.cls x.1 = cls ∧ d = none ∧ tDS X.K b2 (sx x) D σ H) (fun c d _ H => b.xw c d H) D c' d σ' H', rfl, fun c d σ H hl q => q σ hl, env, o, R.tryIn hno, ?_⟩
  cases q : g env with
  | st => rw [q] at h; exact False.elim h
  | ok r =>
    rw [q] at h
    replace h : Post X.K b H (Ex b env o) D r := h
    show Post X.K (tryB b H _) H (Ex b env o) D r
    have co : ∀ {Nn : L2.St → Hp → Prop} {e' : En}, Cont X.K b H (Ex b env o) Nn e' → Cont X.K (tryB b H fun c' d H' => ∀ σ', σ'.length = X.N.length → wAs X.K c i (fun a cls d D σ H => ∃ (x : Xn) (b2 : Bs), b2.pin = some a ∧ b.cls x.1 = cls ∧ d = none ∧ tDS X.K b2 (sx x) D σ H) (fun c d _ H => b.xw c d H) D c' d σ' H') H (Ex b env o) Nn e' :=
      fun k σ' H' o' R' p => k σ' H' o' (R.tryOut R') p
    cases r with
    | nx e => exact co h
    | bk e => exact co h
    | ct e => exact co h
    | rt d => exact fun v H' s r => h v H' (R.ext.trans s) r
    | rto ds => exact fun a vs H' s hn ha r => h a vs H' (R.ext.trans s) (R.ext.free hn) ha r
    | rtn d => exact fun a H' s hn c => h a H' (R.ext.trans s) (R.ext.free hn) c
    | rtx d e => exact fun v σ' H' o' R' p r => h v σ' H' o' (R.tryOut R') p r
  | ex x =>
    rw [q] at h
    obtain ⟨y, pl⟩ := x
    cases pl with
    | some fd => exact False.elim (by cases qc : cat y with | none => simpa [qc, Pz] using h | some v => cases v <;> simpa [qc, Pz] using h)
    | none =>
      show ∀ H', Same H H' → _
      intro H' s' σ' hl
      cases qc : cat y with
      | none => exact False.elim (by simpa [qc, Pz] using h)
      | some v =>
        refine ⟨v, hcat y v qc, fun hv a ha => ?_, fun hv => ?_⟩
        · subst hv
          have R0 : RS X.K (⟨H', b.O0, fun _ _ _ => False, b.cls, some a, noBq⟩ : Bs) H' (List.replicate X.N.length Sl.no) σ' o00 := RS.base (b := ⟨H', b.O0, fun _ _ _ => False, b.cls, some a, noBq⟩) (by rw [List.length_replicate]; exact hl.symm) (fun c z => by
              obtain ⟨u, hu⟩ := R.dom (.inl z)
              exact ⟨u, s' _ _ hu⟩) (fun _ _ z => z.elim) (fun j z e => by
              rw [List.getElem?_replicate] at e
              split at e
              · cases e; exact .inl rfl
              · cases e)
          refine ⟨(y, none), ⟨H', b.O0, fun _ _ _ => False, b.cls, some a, noBq⟩, rfl, rfl, rfl, (List.replicate X.N.length Sl.no).set i Sl.exn, o00, R0.put (s := Sl.exn) (v := .ref a) ⟨a, rfl, rfl⟩, ?_⟩
          · have h' : Pz X.K b (match sx (y, none) ((List.replicate X.N.length Sl.no).set i Sl.exn) with | .ok (.rt d) => .ok (.rt d) | _ => .st) (Post X.K b H (Ex b env o) D) := by simpa [qc] using h
            cases q3 : sx (y, none) ((List.replicate X.N.length Sl.no).set i Sl.exn) with
            | st => rw [q3] at h'; exact False.elim h'
            | ex z => rw [q3] at h'; exact False.elim h'
            | ok r =>
              rw [q3] at h'
              cases r with
              | rt d => exact fun v H'' s'' r => h' v H'' ((R.ext.trans s').trans s'') r
              | nx e => exact False.elim h'
              | bk e => exact False.elim h'
              | ct e => exact False.elim h'
              | rto ds => exact False.elim h'
              | rtn d => exact False.elim h'
              | rtx d e => exact False.elim h'
        · subst hv
          have h' : Pz X.K b (.ex (y, none)) (Post X.K b H (Ex b env o) D) := by simpa [qc] using h
          exact h' H' (R.ext.trans s')
/-! isinstance of the caught one -/
def IsEx (K : PySem.W.Frag) (mg : Str → Option Value) (cls : Str → Value) (x : Str) (tbl : Str → Option Bool) : Prop := ∀ y v, tbl y = some v → ∃ D : Addr, cls y = .ref D ∧ ExcC K D ∧
  ((∃ C : Addr, mg x = some (.ref C) ∧ PySem.W.kitOne K (.ref D) (.ref C) = some v) ∨ (∃ T : String, mg x = none ∧ bootBuiltins x = some (.type T) ∧ x ≠ "__name__" ∧ PySem.W.kitOne K (.ref D) (.type T) = some v))
@[simp] def cIsE (i : Nat) (v : Option Bool) (env : En) : Rz PyData := match env[i]? with
  | some Sl.exn => Rz.of (v.map .bool)
  | _ => .st
theorem isE_rd {K : PySem.W.Frag} {i : Nat} {v : Bool} {a D : Addr} {b2 : Bs} (e2 : b2.pin = some a) {c : V} {cv : Value} {σ : L2.St} {H : Hp} {Q : VK} (hc : ∀ u, RelV c u → u = cv) (hk : PySem.W.kitOne K (.ref D) cv = some v)
    (h : tD K b2 (cIsE i (some v)) [] σ H Q) : tCB (rIsE K D a) (tCons (tVar i) (tCons (tC c) tNil)) σ H Q := by
  obtain ⟨env, o, R, h⟩ := h
  unfold cIsE at h
  split at h
  · rename_i q
    obtain ⟨a', h1, h2⟩ := R.exn i q
    rw [e2] at h1
    cases h1
    exact ⟨.ref a, h2, c, cv, v, rfl, hc, hk, h _ H (.refl H) (.bl v)⟩
  · exact False.elim h
theorem de_isE {i : Nat} {n y : Str} {tbl : Str → Option Bool} {a : Addr} {oe : Obj} {pn : List (Addr × Obj)} {x : Xn} {b2 : Bs} {p p1 p2 pos : Pos} {cls : Str → Value} (E : IsEx X.K X.mg cls y tbl) (e2 : b2.pin = some a) (hz : Zc (cls x.1) none oe) (hf : ∃ vs, oe.data = .fields vs)
    (hg : Gl X "isinstance") (hm0 : X.mg "isinstance" = none) (hv0 : bootBuiltins "isinstance" = some (.builtin "isinstance")) (gy : Gl X y)
    (hN : X.N[i]? = some n := by rfl) (hv : Vis X.env.scope n := by first | exact Or.inl rfl | exact Or.inr (Or.inl rfl) | exact Or.inr (Or.inr rfl)) (hd : (n == ("__debug__" : Str)) = false := by decide) (hcd : (n == ("__classdict__" : Str)) = false := by decide)
    (hdb : (y == ("__debug__" : Str)) = false := by decide)
    (he : starEach [.Name n p1, .Name y p2] X.env = (false, eval (.Name n p1) X.env) :: starEach [.Name y p2] X.env := by rfl) (he2 : starEach [.Name y p2] X.env = (false, eval (.Name y p2) X.env) :: starEach [] X.env := by rfl) (hpl : (backTo pos (starEach [.Name y p2] X.env)).any (·.1) = false := by rfl) :
    DE (X.suite a ((a, oe) :: pn)) b2 (.Call (.Name "isinstance" p) [.Name n p1, .Name y p2] [] pos) (cIsE i (tbl x.1)) [] := by
  cases q : tbl x.1 with
  | none => exact ⟨fun pins s σ H Q I ⟨env, o, R, h⟩ => False.elim (by unfold cIsE at h; split at h <;> exact h)⟩
  | some v =>
    obtain ⟨D, ec, C, hk⟩ := E x.1 v q
    have hz' : Zc (.ref D) none oe := by rw [← ec]; exact hz
    rcases hk with ⟨C', hm, k⟩ | ⟨T, hm, hb, hn, k⟩
    · exact PE.wk (pe_callB (X := X.suite a ((a, oe) :: pn)) (call_isE (X := X) C hz' hf) hg hm0 hv0 (pa_cons (pe_var hN hv hd hcd) (pa_cons (pe_glob (v := .ref C') gy hm rfl hdb) pa_nil he2) he) (by decide) (by decide) he hpl) fun σ H Q h => isE_rd e2 (fun u r => r) k h
    · exact PE.wk (pe_callB (X := X.suite a ((a, oe) :: pn)) (call_isE (X := X) C hz' hf) hg hm0 hv0 (pa_cons (pe_var hN hv hd hcd) (pa_cons (pe_bltn (v := .ty T) gy hm hb rfl hn hdb) pa_nil he2) he) (by decide) (by decide) he hpl) fun σ H Q h => isE_rd e2 (fun u r => r) k h
end
/-! the facts of a class, as the end finds them -/
theorem kit_own {K : PySem.W.Frag} {D B : Addr} {v : Bool} (h2 : PySem.W.isClsIn K B = true) (h3 : PySem.W.typeIn K (.ref B) = some (.type "type")) (h4 : PySem.W.subIn K (.ref D) (.ref B) = some v) (hne : D = B → v = true) : PySem.W.kitOne K (.ref D) (.ref B) = some v := by
  by_cases e : D = B
  · subst e
    rw [hne rfl]
    show (if (Value.ref D == Value.ref D) = true then some true else _) = _
    rw [if_pos (beq_self_eq_true _)]
  · have e1 : (Value.ref D == Value.ref B) = false := beq_eq_false_iff_ne.mpr fun q => e (Value.ref.inj q)
    have e2 : ((PySem.W.clsIn K B).isSome && PySem.W.typeIn K (.ref B) == some (.type "type")) = true := by
      have h2' : (PySem.W.clsIn K B).isSome = true := h2
      rw [h2', h3] <;> rfl
    show (if (Value.ref D == Value.ref B) = true then some true else (if ((PySem.W.clsIn K B).isSome && PySem.W.typeIn K (.ref B) == some (.type "type")) = true then PySem.W.subIn K (.ref D) (.ref B) else none)) = _
    rw [if_neg (by rw [e1]; exact Bool.false_ne_true), if_pos e2]
    exact h4
theorem kit_bty {K : PySem.W.Frag} {D : Addr} {T : String} {v : Bool} (h4 : PySem.W.subIn K (.ref D) (.type T) = some v) (hm : PySem.W.kitMeta T = true := by decide +kernel) : PySem.W.kitOne K (.ref D) (.type T) = some v := by
  show (if (Value.ref D == Value.type T) = true then some true else (if PySem.W.kitMeta T = true then PySem.W.subIn K (.ref D) (.type T) else none)) = _
  have e1 : (Value.ref D == Value.type T) = false := beq_eq_false_iff_ne.mpr fun q => nomatch q
  rw [if_neg (by rw [e1]; exact Bool.false_ne_true), if_pos hm]
  exact h4
end DL
namespace DL
open PySem PySem.Spec PyProof.Rows L2
/-! ### t.index(x), xs.index(x): items are data -/
def rTIndexD (K : PySem.W.Frag) : V → List V → Hp → VK → Prop := fun x xs H Q => ∃ (a : Addr) (y : V) (d : PyData) (ws : List V) (ds : List PyData) (j : Nat) (z : PyData), x = V.ref a ∧ xs = [y] ∧ SqT K H a ws ∧ DpAll K H ws ds ∧ Dp K H y d ∧
  SeqAt.shaped (.tuple ds) = true ∧ SeqAt.shaped d = true ∧ ds[j]? = some z ∧ PyData.eqv z d = true ∧ (∀ (m : Nat) (z' : PyData), m < j → ds[m]? = some z' → PyData.eqv z' d = false) ∧ Q (.int (j : Nat)) H
section
variable {X : Cx} {b : Bs}
theorem mt_tindexD (hu : X.A.units + 65 < cLine) : MtR X "tuple.index" (rTIndexD X.K) := by
  intro pins s σ H x xs v us Q I rx rxs h
  obtain ⟨a, y, d, ws, ds, j, z, rfl, rfl, hs, ha, hy, sl, sd, hz, hzj, hno, q⟩ := h
  cases rx
  cases rxs with
  | cons ry rt =>
    rename_i uy ut
    cases rt
    obtain ⟨bs, r1⟩ := Dp.reads I d y uy hy ry
    have hxs : PyData.canLayAll0 ds = true := SeqAt.canLay_of_shaped sl
    have hroom : X.A.units + 1 + min (PyData.depthAll ds) d.depth < cLine := room_in_shaped sd hu
    obtain ⟨its, rv, ⟨⟨cls, dd, data, sls⟩, ho, hc, n, hdt⟩, hlen⟩ := I.tuple hs
    simp only at hc hdt
    subst hc hdt
    obtain ⟨as, h4⟩ := Dp.readsAll I ds _ its ha rv
    have hn : its.length = ds.length := SeqAt.ReadsAll.length ds its as h4
    have hmap : its.map (SeqAt.readOf s.heap) = ds := SeqAt.readsAll_map ds its as hxs h4
    obtain ⟨hjd, _⟩ := List.getElem?_eq_some_iff.mp hz
    have hjl : j < its.length := by omega
    have hj : j < its.toArray.size := by simpa using hjl
    have at_ : ∀ (m : Nat) (hm : m < its.toArray.size) (z' : PyData), ds[m]? = some z' → SeqAt.readOf s.heap its.toArray[m] = z' := by
      intro m hm z' hz'
      have hml : m < its.length := by simpa using hm
      rw [← hmap, List.getElem?_map, List.getElem?_eq_getElem hml] at hz'
      have e1 : SeqAt.readOf s.heap its[m] = z' := Option.some.inj (show some (SeqAt.readOf s.heap its[m]) = some z' from hz')
      simpa using e1
    refine call_meets PySem.F.slot_tuple_index ⟨_, ho, rfl⟩ PySem.F.entry_tuple_index (PySem.F.args_tuple_index_2 _ _)
      (TI.tuple_indexAt a its.toArray n dd sls uy (fun u => PyData.eqv (SeqAt.readOf s.heap u) d) j hj ?_ ?_) ⟨ho, SeqAt.items_eqAt (vs := its.toArray) (show ReadsAll s.heap its.toArray.toList ds as from h4) r1 hxs (SeqAt.canLay_of_shaped sd) hroom, ?_⟩
    · show PyData.eqv (SeqAt.readOf s.heap its.toArray[j]) d = true
      rw [at_ j hj z hz]
      exact hzj
    · intro m hm hmj
      have hmd : m < ds.length := by omega
      have hz' : ds[m]? = some ds[m] := List.getElem?_eq_getElem hmd
      show PyData.eqv (SeqAt.readOf s.heap its.toArray[m]) d = false
      rw [at_ m hm _ hz']
      exact hno m _ hmj hz'
    · exact ⟨.int (j : Nat), H, I.tok _, ⟨_, rfl⟩, q⟩
@[simp] def idxA (d : PyData) : List PyData → Nat → Option Nat
  | [], _ => none
  | z :: zs, k => if PyData.eqv z d = true then some k else idxA d zs (k + 1)
theorem idxA_of {d : PyData} : ∀ {ds : List PyData} {k j : Nat}, idxA d ds k = some j → ∃ i z, j = k + i ∧ ds[i]? = some z ∧ PyData.eqv z d = true ∧ ∀ (m : Nat) (z' : PyData), m < i → ds[m]? = some z' → PyData.eqv z' d = false
  | [], _, _, h => by cases h
  | z :: zs, k, j, h => by
    unfold idxA at h
    by_cases q : PyData.eqv z d = true
    · rw [if_pos q] at h
      cases h
      exact ⟨0, z, rfl, rfl, q, fun m z' hm => absurd hm (Nat.not_lt_zero m)⟩
    · rw [if_neg q] at h
      obtain ⟨i, y, e, h1, h2, h3⟩ := idxA_of h
      refine ⟨i + 1, y, by omega, by simpa using h1, h2, fun m z' hm hz => ?_⟩
      cases m with
      | zero =>
        rw [List.getElem?_cons_zero] at hz
        cases hz
        exact Bool.eq_false_iff.mpr q
      | succ m => exact h3 m z' (by omega) (by simpa using hz)
variable {e : Expr} {f : FE} {L : List Nat}
/-- x.index(e), x a slot with a tuple of the written part -/
@[simp] def cIdxK (i : Nat) (f : FE) (env : En) : Rz PyData := match env[i]? with
  | some (.kv (.tuple ds)) => (f env).bind fun d => if (SeqAt.shaped (.tuple ds) && SeqAt.shaped d) = true then Rz.of ((idxA d ds 0).map fun j => .int (j : Nat)) else .st
  | _ => .st
theorem de_idxK {i : Nat} {x : Str} {pn apos cpos : Pos} (F : Fx X b) (he : DE X b e f L) (hN : X.N[i]? = some x := by rfl) (hv : Vis X.env.scope x := by first | exact Or.inl rfl | exact Or.inr (Or.inl rfl) | exact Or.inr (Or.inr rfl)) (hd : (x == ("__debug__" : Str)) = false := by decide) (hcd : (x == ("__classdict__" : Str)) = false := by decide)
    (hbase : attributeBase (.Name x pn) "index" X.env (eval (.Name x pn) X.env) = eval (.Name x pn) X.env := by rfl)
    (hfew : ((backTo cpos (starEach [e] X.env)).all (fun x => !x.1) && (backToKw cpos (keywordEach [] X.env)).all (fun x => x.1.isSome)
      && decide (([e] : List Expr).length + ([] : List Keyword).length + (if ([] : List Keyword).isEmpty then 0 else 1) < 30)) = true := by rfl)
    (hline : (apos.endLine == cpos.line) = true := by rfl) (hs : starEach [e] X.env = (false, eval e X.env) :: starEach [] X.env := by rfl) (hplain : (backTo cpos (starEach [] X.env)).any (·.1) = false := by rfl) :
    DE X b (.Call (.Attribute (.Name x pn) "index" apos) [e] [] cpos) (cIdxK i f) L :=
  PE.wk (pe_bm PySem.F.plainAttrs_tuple PySem.F.slot_tuple_index PySem.F.type_tuple_index (mt_tindexD F.un1) (pe_var hN hv hd hcd) (pa_cons he pa_nil hs) hbase hfew hline hs hplain) fun σ H Q ⟨env, o, R, h⟩ => by
  unfold cIdxK at h
  split at h
  · rename_i ds q
    obtain ⟨v, h1, h2⟩ := R.kv i _ q
    cases h2 with
    | @tup a xs _ ob its n l1 l2 l3 l4 l5 l6 l7 =>
      refine ⟨.ref a, h1, .inr (.inl ⟨rfl, ob, l1, l2, l3⟩), env, o, R, h.bind.imp fun d _ h w H1 s1 r1 => ?_⟩
      split at h
      · rename_i hsh
        obtain ⟨r, e1, h⟩ := h.of
        cases q2 : idxA d ds 0 with
        | none => rw [q2] at e1; cases e1
        | some j =>
          rw [q2] at e1
          cases e1
          obtain ⟨k, z, ej, h5, h6, h7⟩ := idxA_of q2
          rw [Nat.zero_add] at ej
          subst ej
          rw [Bool.and_eq_true] at hsh
          have ht : Rp X.K H1 (fun _ => False) (.ref a) (.tuple ds) := RW.rp _ _ (RW.tup l1 l2 l3 l4 l5 l6 l7)
          exact ⟨a, w, d, xs, ds, j, z, rfl, rfl, .inr ⟨ob, its, n, l1, l2, l4, l5, l6⟩, Rp.dpA _ _ (lay_of hsh.1) (RW.rpA (O := fun _ => False) _ _ l7), r1.dp _ _ (lay_of hsh.2), hsh.1, hsh.2, h5, h6, h7, h _ H1 s1 (.int _)⟩
      · exact False.elim h
  · exact False.elim h
/-- x.index(e), x a list that is a value -/
@[simp] def cIdxL (i : Nat) (f : FE) (env : En) : Rz PyData := match env[i]? with
  | some (.val (.list ds)) => (f env).bind fun d => if (SeqAt.shaped (.list ds) && SeqAt.shaped d) = true then Rz.of ((idxA d ds 0).map fun j => .int (j : Nat)) else .st
  | _ => .st
theorem de_idxL {i : Nat} {x : Str} {pn apos cpos : Pos} (F : Fx X b) (he : DE X b e f L) (hN : X.N[i]? = some x := by rfl) (hv : Vis X.env.scope x := by first | exact Or.inl rfl | exact Or.inr (Or.inl rfl) | exact Or.inr (Or.inr rfl)) (hd : (x == ("__debug__" : Str)) = false := by decide) (hcd : (x == ("__classdict__" : Str)) = false := by decide)
    (hbase : attributeBase (.Name x pn) "index" X.env (eval (.Name x pn) X.env) = eval (.Name x pn) X.env := by rfl)
    (hfew : ((backTo cpos (starEach [e] X.env)).all (fun x => !x.1) && (backToKw cpos (keywordEach [] X.env)).all (fun x => x.1.isSome)
      && decide (([e] : List Expr).length + ([] : List Keyword).length + (if ([] : List Keyword).isEmpty then 0 else 1) < 30)) = true := by rfl)
    (hline : (apos.endLine == cpos.line) = true := by rfl) (hs : starEach [e] X.env = (false, eval e X.env) :: starEach [] X.env := by rfl) (hplain : (backTo cpos (starEach [] X.env)).any (·.1) = false := by rfl) :
    DE X b (.Call (.Attribute (.Name x pn) "index" apos) [e] [] cpos) (cIdxL i f) L :=
  PE.wk (pe_bm PySem.F.plainAttrs_list PySem.F.slot_list_index PySem.F.type_list_index (mt_indexD F.un1) (pe_var hN hv hd hcd) (pa_cons he pa_nil hs) hbase hfew hline hs hplain) fun σ H Q ⟨env, o, R, h⟩ => by
  unfold cIdxL at h
  split at h
  · rename_i ds q
    obtain ⟨v, h1, h2⟩ := R.val i _ q
    obtain ⟨a, xs, e0, q1, q2⟩ := h2.sqL
    subst e0
    refine ⟨.ref a, h1, .inl ⟨rfl, xs, q1⟩, env, o, R, h.bind.imp fun d _ h w H1 s1 r1 => ?_⟩
    split at h
    · rename_i hsh
      obtain ⟨r, e1, h⟩ := h.of
      cases q3 : idxA d ds 0 with
      | none => rw [q3] at e1; cases e1
      | some j =>
        rw [q3] at e1
        cases e1
        obtain ⟨k, z, ej, h5, h6, h7⟩ := idxA_of q3
        rw [Nat.zero_add] at ej
        subst ej
        rw [Bool.and_eq_true] at hsh
        exact ⟨a, w, d, ds, j, z, rfl, rfl, (h2.same s1).dp _ _ (lay_of hsh.1), r1.dp _ _ (lay_of hsh.2), hsh.1, hsh.2, h5, h6, h7, h _ H1 s1 (.int _)⟩
    · exact False.elim h
  · exact False.elim h
/-! ### for x, y, z in CONST: the names hold what is written -/
@[simp] def forK (i j k : Nat) (body : FS) : List PyData → FS
  | [], env => .ok (.nx env)
  | d :: ds, env => match d with
    | .tuple [a, c, e] => (body (((env.set i (Sl.kv a)).set j (Sl.kv c)).set k (Sl.kv e))).bind fun r => match r with
      | .nx e => forK i j k body ds e
      | .ct e => forK i j k body ds e
      | .bk e => .ok (.nx e)
      | .rt d => .ok (.rt d)
      | .rto es => .ok (.rto es)
      | .rtn d => .ok (.rtn d)
      | .rtx d e => .ok (.rtx d e)
    | _ => .st
theorem ex_setK {env : En} {o : Nat → List Nat → Addr} {i : Nat} {d : PyData} {a : Addr} (z : Ex b (env.set i (Sl.kv d)) o a) : Ex b env o a := ex_put kv_node z
theorem ds_forK {i j k : Nat} {x y z c : Str} {px py pz pt pc pos : Pos} {kt : Nat} {body : List Stmt} {g : FS} {ds : List PyData} (F : Fx X b) (hN : X.N.Nodup) (hc : ∃ a, X.mg c = some (.ref a) ∧ RW X.K (.ref a) (.tuple ds)) (hgc : Gl X c) (hb : DSs X b body g)
    (hi : X.N[i]? = some x := by rfl) (hj : X.N[j]? = some y := by rfl) (hk : X.N[k]? = some z := by rfl)
    (hx : Loc X.env.scope x := by first | exact Or.inl rfl | exact Or.inr rfl) (hy : Loc X.env.scope y := by first | exact Or.inl rfl | exact Or.inr rfl) (hz : Loc X.env.scope z := by first | exact Or.inl rfl | exact Or.inr rfl)
    (hfx : X.fn x = true ∨ X.env.scope.names.lookup x = some .local := by first | exact .inl rfl | exact .inr rfl) (hfy : X.fn y = true ∨ X.env.scope.names.lookup y = some .local := by first | exact .inl rfl | exact .inr rfl) (hfz : X.fn z = true ∨ X.env.scope.names.lookup z = some .local := by first | exact .inl rfl | exact .inr rfl)
    (hdc : (c == ("__debug__" : Str)) = false := by decide)
    (hs1 : (assignEach [.Name x px, .Name y py, .Name z pz] X.env).map (·.2) = assign (.Name x px) X.env :: (assignEach [.Name y py, .Name z pz] X.env).map (·.2) := by rfl)
    (hs2 : (assignEach [.Name y py, .Name z pz] X.env).map (·.2) = assign (.Name y py) X.env :: (assignEach [.Name z pz] X.env).map (·.2) := by rfl)
    (hs3 : (assignEach [.Name z pz] X.env).map (·.2) = assign (.Name z pz) X.env :: (assignEach [] X.env).map (·.2) := by rfl)
    (hn : (assignEach [.Name x px, .Name y py, .Name z pz] X.env).length = 3 := by rfl) (hst : (assignEach [.Name x px, .Name y py, .Name z pz] X.env).findIdx? (·.1) = none := by rfl)
    (hs : ∀ v, foldedSetIterable (.Name c pc) X.env v = pure v := by intro _; rfl) :
    DS X b (.For (.Tuple [.Name x px, .Name y py, .Name z pz] kt pt) (.Name c pc) body [] pos) (forK i j k g ds) := by
  obtain ⟨a, hm, rw⟩ := hc
  cases rw with
  | @tup _ xs _ ob its n l1 l2 l3 l4 l5 l6 l7 =>
  have sq : ∀ H, SqT X.K H a xs := fun H => .inr ⟨ob, its, n, l1, l2, l4, l5, l6⟩
  have hl := l7.length
  have W : Walk (Itt X.K a) ds.length (fun _ => True) (fun i H x H' => H' = H ∧ ∃ d, ds[i]? = some d ∧ RW X.K x d) := by
    refine ⟨fun i H hi _ => ?_, fun H _ => ?_, fun i H x H' hi _ y => ?_⟩
    · exact ⟨xs, xs[i]'(by omega), sq H, by simp [show i < xs.length by omega]⟩
    · exact ⟨xs, sq H, Nat.le_of_eq hl⟩
    · obtain ⟨e, y⟩ := y
      exact ⟨e, l7.get (y xs (sq H))⟩
  refine PS.wk (ps_for F.own F.calm (pi_tup (pe_glob (v := .ref a) hgc hm rfl hdc)) (pg_tup F.calm (pgs_cons (pg_name hN hi hx hfx) (pgs_cons (pg_name hN hj hy hfy) (pgs_cons (pg_name hN hk hz hfz) pgs_nil hs3) hs2) hs1) hn hst) hb hs) fun D σ H ⟨env, o, R, h⟩ => ?_
  refine ⟨a, rfl, ⟨xs, sq H⟩, for_it W (fun m σ H => ∃ env o, RS X.K b H env σ o ∧ Pz X.K b (forK i j k g (ds.drop m) env) (Post X.K b H (Ex b env o) D)) ⟨env, o, R, h⟩ (fun _ _ _ _ _ => trivial) ?_ ?_⟩
  · rintro m v σ H H' hlt ⟨env, o, R, h⟩ ⟨rfl, d, hd, rv⟩
    have e : ds.drop m = d :: ds.drop (m + 1) := by
      obtain ⟨hl, e⟩ := List.getElem?_eq_some_iff.mp hd
      rw [List.drop_eq_getElem_cons hl, e]
    rw [e] at h
    unfold forK at h
    split at h
    · rename_i d1 d2 d3
      cases rv with
      | @tup t ys _ ob' its' n' m1 m2 m3 m4 m5 m6 m7 =>
        cases m7 with
        | cons r1 m7 =>
          cases m7 with
          | cons r2 m7 =>
            cases m7 with
            | cons r3 m7 =>
              cases m7
              have R3 := ((R.setK (i := i) r1).setK (i := j) r2).setK (i := k) r3
              have p2 : Per X.K H' (Ex b env o) H' (Ex b (((env.set i (Sl.kv d1)).set j (Sl.kv d2)).set k (Sl.kv d3)) o) := .same (.refl _) fun a z => .inl (ex_setK (ex_setK (ex_setK z)))
              refine ⟨t, _, rfl, .inr ⟨ob', its', n', m1, m2, m4, m5, m6⟩, rfl, _, _, rfl, _, _, rfl, _, _, rfl, rfl, _, o, R3, h.bind.imp fun r _ h => ?_⟩
              have go : ∀ {e2 : En}, Pz X.K b (forK i j k g (ds.drop (m + 1)) e2) (Post X.K b H' (Ex b env o) D) → Cont X.K b H' (Ex b (((env.set i (Sl.kv d1)).set j (Sl.kv d2)).set k (Sl.kv d3)) o) (fun σ H => ∃ env o, RS X.K b H env σ o ∧ Pz X.K b (forK i j k g (ds.drop (m + 1)) env) (Post X.K b H (Ex b env o) D)) e2 :=
                fun {e2} h σ' H'' o' R' p' => ⟨e2, o', R', h.imp fun r _ h => Post.chain (p2.trans p') h⟩
              cases r with
              | nx e2 => exact go h
              | ct e2 => exact go h
              | bk e2 => exact Cont.chain p2 h
              | rt d => exact h
              | rto es => exact h
              | rtn d => exact h
              | rtx d e => exact Post.chain (r := .rtx d e) p2 h
    · exact False.elim h
  · rintro σ H ⟨env, o, R, h⟩
    rw [List.drop_length] at h
    exact h σ H o R .refl
/-! ### f() -/
theorem pe_call0S {x : Str} {fa : Addr} {fd : FuncData} {CXX : List Env → Hp → Shared → XK → Value → Shared → Prop} {ps : List Str} {k : Nat} {sp : Sp} {EE : L2.St → XK} {p pos : Pos} (F : FnOk X.prog X.w X.K X.mg X.base CXX k fa fd ps sp) (hr : Room k X.A) (hg : Gl X x) (hm : X.mg x = some (.ref fa)) (hk : PySem.W.keepIn X.K (.ref fa) = true) (hb : Binds X.K fd ps []) (hx : ∀ σ, PassesAt CXX X σ (EE σ))
    (hdb : (x == ("__debug__" : Str)) = false := by decide) : PE X (.Call (.Name x p) [] [] pos) (tCallS sp EE tNil) := by
  refine ⟨fun pins s σ H Q I h => ?_⟩
  refine wpAny_Call_Name_kw (ld_glob I hg hm ?_ hdb)
  exact PySem.W.callWith_K0 I.kIn hk (run_fnS F hr hb (hx σ) I .nil h)
end
section
variable {X : Cx} {b : Bs} {j : Nat} {g : FF} {x : Str} {p pos : Pos}
theorem de_fn0 (F : Fx X b) (G : Fn X.prog X.w X.K X.mg X.base b.cls x j [] g) (hr : Room j X.A) (hg : Gl X x) (hdb : (x == ("__debug__" : Str)) = false := by decide) : DE X b (.Call (.Name x p) [] [] pos) (cCall g aNil) [] := by
  obtain ⟨f, fd, hm, G, hk, hb⟩ := G
  exact PE.wk (pe_call0S G hr hg hm hk (.all hb) (fun σ => passAt (W := fun c d _ H => b.xw c d H) F.tk σ) hdb) fun σ H Q ⟨env, o, R, h⟩ => by
    have h : Pz X.K b ((g []).bind fun r => match r with | .val d => .ok d | .own es => .ok (.list es) | .new d => .ok d) (fun d => ∀ v H', Same H H' → Rp X.K H' (Ex b (frees [] env) o) v d → Q v H') := h
    refine ⟨Ex b env o, [], fun a z => R.dom z, rfl, .nil, pz_call R.ext (fun _ _ _ z => z) h.bind fun r h => ?_⟩
    cases r with
    | val d => exact fun v H' s r => h v H' s r
    | new d => exact fun a H' s hn c => h _ H' s ((c.less fun _ z => .inl z).rp fun z => by obtain ⟨u, hu⟩ := R.dom z; have hn' : H a = none := hn; rw [hn'] at hu; cases hu)
    | own es => exact fun a vs H' s hn ha r => h _ H' s (.lst (.inl ha) (fun z => by obtain ⟨u, hu⟩ := R.dom z; have hn' : H a = none := hn; rw [hn'] at hu; cases hu) (r.less fun _ z => .inl z))
end
/-! the written constants -/
section
variable {K : PySem.W.Frag} {a : Addr} {n : Nat}
inductive RWL (K : PySem.W.Frag) : List Value → List PyData → Prop where
  | nil : RWL K [] []
  | cons {u : Value} {us : List Value} {d : PyData} {ds : List PyData} : (∃ v, RelV v u ∧ RW K v d) → RWL K us ds → RWL K (u :: us) (d :: ds)
theorem RWL.all : ∀ {us : List Value} {ds : List PyData}, RWL K us ds → ∃ vs, Vals vs us ∧ RWA K vs ds
  | _, _, .nil => ⟨[], .nil, .nil⟩
  | _, _, .cons ⟨v, r, k⟩ t => let ⟨vs, h1, h2⟩ := t.all; ⟨v :: vs, .cons r h1, .cons k h2⟩
theorem rwv_int {i : Int} {t : Tok} : ∃ v, RelV v (.int i t) ∧ RW K v (.int i) := ⟨.int i, ⟨t, rfl⟩, .int i⟩
theorem rwv_str {x : Str} {t : Tok} : ∃ v, RelV v (.str x t) ∧ RW K v (.str x) := ⟨.str x, ⟨t, rfl⟩, .str x⟩
theorem rw_tup {us : List Value} {ds : List PyData} {sl : Array (Option Value)} (h : K.lookup a = some ⟨.type "tuple", none, .seq us.toArray n, sl⟩) (r : RWL K us ds) (hz : ds.length ≤ 1000000 := by decide) : RW K (.ref a) (.tuple ds) := by
  obtain ⟨vs, h1, h2⟩ := r.all
  have e1 := h1.length
  have e2 := h2.length
  have hm := million
  exact .tup h rfl rfl rfl (by rw [List.size_toArray]; omega) (by simpa using h1) h2
theorem rwv_tup {us : List Value} {ds : List PyData} {sl : Array (Option Value)} (h : K.lookup a = some ⟨.type "tuple", none, .seq us.toArray n, sl⟩) (r : RWL K us ds) (hz : ds.length ≤ 1000000 := by decide) : ∃ v, RelV v (.ref a) ∧ RW K v (.tuple ds) := ⟨.ref a, rfl, rw_tup h r hz⟩
end
theorem bb_ValueError : bootBuiltins "ValueError" = some (.type "ValueError") := by decide +kernel
theorem lk_nil {y : Str} {v : Bool} (h : List.lookup y ([] : List (Str × Bool)) = some v) : False := nomatch h
theorem lk_cons {y a : Str} {v w : Bool} {r : List (Str × Bool)} (h : List.lookup y ((a, w) :: r) = some v) : (y = a ∧ v = w) ∨ List.lookup y r = some v := by
  unfold List.lookup at h
  split at h
  · rename_i q
    cases h
    exact .inl ⟨beq_iff_eq.mp q, rfl⟩
  · exact .inr h
section
variable {X : Cx} {b : Bs}
theorem ds_tryN {i : Nat} {xc n : Str} {cat : Str → Option Bool} {body suite : List Stmt} {b₀ : Stmt} {g : FS} {sx : Xn → FS} {np pos pos' : Pos} (F : Fx X b) (hs : X.stack = X.env :: X.outer) (hf : X.env.frame = some X.env.locals) (hN : X.N.Nodup)
    (E : ∃ c, X.mg xc = some c ∧ ∀ y v, cat y = some v → PySem.W.exmOne X.K (b.cls y) c = some v) (hgx : Gl X xc)
    (hb : ∀ (pn : List (Addr × Obj)) (xe : Value → Shared → Prop) (b' : Bs), b'.cls = b.cls → Fx (X.tr pn xe) b' → DSs (X.tr pn xe) b' body g)
    (hsu : ∀ (x : Xn) (a : Addr) (oe : Obj) (pn : List (Addr × Obj)) (b2 : Bs), b2.pin = some a → Zc (b.cls x.1) none oe → (∃ vs, oe.data = .fields vs) → DSs (X.suite a ((a, oe) :: pn)) b2 (b₀ :: suite) (sx x))
    (hi : X.N[i]? = some n := by rfl) (hln : X.env.kindOf n = some .local := by rfl) (hdb : (xc == ("__debug__" : Str)) = false := by decide) {N : Nat} (eN : X.N.length = N := by rfl) :
    DS X b (.Try body [.ExceptHandler (some (.Name xc np)) (some n) (b₀ :: suite) pos'] [] [] pos) (sTry i N g cat sx) := by
  obtain ⟨c, hm, hcat⟩ := E
  exact ds_tryAs F hs hf hN hi hln ⟨hgx, hdb, .inl hm⟩ hcat hb hsu eN
end
end DL
/-! A list that a def changes and the caller keeps: the def's second argument. Expressions that change the slots on the way. -/
namespace DL
open PySem PySem.Spec PyProof.Rows L2

/-! ### expressions that change an own list on the way -/
abbrev FX := En → Rz (PyData × En)
abbrev FXA := En → Rz (List PyData × En)
abbrev FXT := En → Rz (Bool × En)
def tDX (K : PySem.W.Frag) (b : Bs) (f : FX) : TE := fun σ H Q => ∃ env o, RS K b H env σ o ∧
  Pz K b (f env) fun r => ∀ v H' o', RS K b H' r.2 σ o' → Per K H (Ex b env o) H' (Ex b r.2 o') → Rp K H' (Ex b r.2 o') v r.1 → Q v H'
def tDXA (K : PySem.W.Frag) (b : Bs) (f : FXA) : TA := fun σ H Q => ∃ env o, RS K b H env σ o ∧
  Pz K b (f env) fun r => ∀ vs H' o', RS K b H' r.2 σ o' → Per K H (Ex b env o) H' (Ex b r.2 o') → RpA K H' (Ex b r.2 o') vs r.1 → Q vs H'
def tDXT (K : PySem.W.Frag) (b : Bs) (f : FXT) : TT := fun σ H Q => ∃ env o, RS K b H env σ o ∧
  Pz K b (f env) fun r => ∀ H' o', RS K b H' r.2 σ o' → Per K H (Ex b env o) H' (Ex b r.2 o') → Q r.1 H'
def DX (X : Cx) (b : Bs) (e : Expr) (f : FX) : Prop := PE X e (tDX X.K b f)
def DXA (X : Cx) (b : Bs) (es : List Expr) (f : FXA) : Prop := PA X es (tDXA X.K b f)
def DXT (X : Cx) (b : Bs) (e : Expr) (f : FXT) : Prop := PT X e (tDXT X.K b f)
section
variable {X : Cx} {b : Bs} {e e1 e2 : Expr} {es : List Expr} {f : FE} {fs : FA} {ft : FT} {x1 x2 fx : FX} {xs : FXA} {L La Lb : List Nat} {pos p p' : Pos}
@[simp] def xOf (f : FE) (L : List Nat) (env : En) : Rz (PyData × En) := (f env).bind fun d => .ok (d, frees L env)
theorem dx_of (h : DE X b e f L) : DX X b e (xOf f L) := PE.wk h fun σ H Q ⟨env, o, R, h⟩ => ⟨env, o, R, h.bind.imp fun d _ h v H' s r => h v H' o ((R.frees L).same s) (per_frees s fun a z => z) r⟩
@[simp] def xTof (f : FT) (env : En) : Rz (Bool × En) := (f env).bind fun c => .ok (c, env)
theorem dxt_of (h : DT X b e ft) : DXT X b e (xTof ft) := PT.wk h fun σ H Q ⟨env, o, R, h⟩ => ⟨env, o, R, h.bind.imp fun d _ h H' s => h H' o (R.same s) (.same s fun a z => .inl z)⟩
@[simp] def x2D (g : PyData → PyData → Option PyData) (f1 f2 : FX) (env : En) : Rz (PyData × En) := (f1 env).bind fun a => (f2 a.2).bind fun c => (Rz.of (g a.1 c.1)).bind fun d => .ok (d, c.2)
theorem dx_op {op : Operator} {r : R2} {g : PyData → PyData → Option PyData} (ho : OpR X (binaryOp op) r) (hd : OpD X.K r g) (h1 : DX X b e1 x1) (h2 : DX X b e2 x2) : DX X b (.BinOp e1 op e2 pos) (x2D g x1 x2) :=
  PE.wk (pe_op ho h1 h2) fun σ H Q ⟨env, o, R, h⟩ => ⟨env, o, R, h.bind.imp fun r1 _ h v1 H1 o1 R1 p1 q1 => ⟨r1.2, o1, R1, h.bind.imp fun r2 _ h v2 H2 o2 R2 p2 q2 => by
    obtain ⟨d, e, h⟩ := h.bind.of
    exact hd H2 (Ex b r2.2 o2) v1 v2 _ _ d Q (fun a z => R2.dom z) (p2 _ _ q1) q2 e fun v H' s r => h v H' o2 (R2.same s) ((p1.trans p2).trans (.same s fun a z => .inl z)) r⟩⟩
/-- .. compared, as a test -/
@[simp] def x2T (g : PyData → PyData → Option Bool) (f1 f2 : FX) (env : En) : Rz (Bool × En) := (f1 env).bind fun a => (f2 a.2).bind fun c => (Rz.of (g a.1 c.1)).bind fun d => .ok (d, c.2)
theorem dxt_cmp {op : CmpOp} {r : R2} {g : PyData → PyData → Option Bool} (ho : OpR X (compareOp op) r) (hd : OpB X.K r (bo g)) (hm : behindInMarks op e2 = false) (h1 : DX X b e1 x1) (h2 : DX X b e2 x2) : DXT X b (.Compare e1 [op] [e2] pos) (x2T g x1 x2) :=
  PT.wk (pt_cmpR ho h1 h2 hm) fun σ H Q ⟨env, o, R, h⟩ => ⟨env, o, R, h.bind.imp fun r1 _ h v1 H1 o1 R1 p1 q1 => ⟨r1.2, o1, R1, h.bind.imp fun r2 _ h v2 H2 o2 R2 p2 q2 => by
    obtain ⟨c, e, h⟩ := h.bind.of
    exact hd H2 (Ex b r2.2 o2) v1 v2 _ _ (.bool c) _ (fun a z => R2.dom z) (.inl (p2 _ _ q1)) (.inl q2) (by unfold bo; rw [e]; rfl) fun v H' s r => by
      cases r.bl_of
      exact ⟨c, rfl, h H' o2 (R2.same s) ((p1.trans p2).trans (.same s fun a z => .inl z))⟩⟩⟩
/-! arguments -/
@[simp] def xaNil (env : En) : Rz (List PyData × En) := .ok ([], env)
@[simp] def xaCons (f : FX) (fs : FXA) (env : En) : Rz (List PyData × En) := (f env).bind fun a => (fs a.2).bind fun c => .ok (a.1 :: c.1, c.2)
theorem dxa_nil : DXA X b [] xaNil := PA.wk pa_nil fun σ H Q ⟨env, o, R, h⟩ => h [] H o R .refl .nil
theorem dxa_cons (h1 : DX X b e fx) (h2 : DXA X b es xs) (hs : starEach (e :: es) X.env = (false, eval e X.env) :: starEach es X.env := by rfl) : DXA X b (e :: es) (xaCons fx xs) :=
  PA.wk (pa_cons h1 h2 hs) fun σ H Q ⟨env, o, R, h⟩ => ⟨env, o, R, h.bind.imp fun r1 _ h v1 H1 o1 R1 p1 q1 => ⟨r1.2, o1, R1, h.bind.imp fun r2 _ h vs H2 o2 R2 p2 q2 => h (v1 :: vs) H2 o2 R2 (p1.trans p2) (.cons (p2 _ _ q1) q2)⟩⟩
@[simp] def xTup (fs : FXA) (env : En) : Rz (PyData × En) := (fs env).bind fun r => if r.1.length ≤ 1000000 then .ok (.tuple r.1, r.2) else .st
/-! a call -/
@[simp] def xCall (g : FF) (fs : FXA) (env : En) : Rz (PyData × En) := (fs env).bind fun a => (g a.1).bind fun r => match r with
  | .val d => .ok (d, a.2)
  | .own es => .ok (.list es, a.2)
  | .new d => .ok (d, a.2)
theorem xlen_nil : ∀ env ds, xaNil env = .ok ds → ds.1.length = 0 := fun env ds h => by cases h; rfl
theorem xlen_cons {n : Nat} (h : ∀ env ds, xs env = .ok ds → ds.1.length = n) : ∀ env ds, xaCons fx xs env = .ok ds → ds.1.length = n + 1 := fun env ds q => by
  unfold xaCons at q
  cases q1 : fx env with
  | ok d =>
    rw [q1, Rz.bind_ok] at q
    cases q2 : xs d.2 with
    | ok z =>
      rw [q2, Rz.bind_ok] at q
      cases q
      rw [List.length_cons, h _ z q2]
    | ex x => rw [q2] at q; cases q
    | st => rw [q2] at q; cases q
  | ex x => rw [q1] at q; cases q
  | st => rw [q1] at q; cases q
theorem dx_fn {j n : Nat} {ps : List Str} {g : FF} {x : Str} (F : Fx X b) (G : Fn X.prog X.w X.K X.mg X.base b.cls x j ps g) (hr : Room j X.A) (hg : Gl X x) (ha : DXA X b (e :: es) xs) (hn : ∀ env ds, xs env = .ok ds → ds.1.length = n) (hl : n = ps.length := by rfl)
    (hdb : (x == ("__debug__" : Str)) = false := by decide) (he : starEach (e :: es) X.env = (false, eval e X.env) :: starEach es X.env := by rfl) (hpl : (backTo pos (starEach es X.env)).any (·.1) = false := by rfl) :
    DX X b (.Call (.Name x p) (e :: es) [] pos) (xCall g xs) := by
  obtain ⟨f, fd, hm, G, hk, hb⟩ := G
  refine PE.wk (pe_callS G hr hg hm hk (.all hb) (fun σ => passAt (W := fun c d _ H => b.xw c d H) F.tk σ) ha hdb he hpl) fun σ H Q ⟨env, o, R, h⟩ => ⟨env, o, R, h.bind.imp fun ds q h vs H1 o1 R1 p1 r1 => ?_⟩
  refine ⟨Ex b ds.2 o1, ds.1, fun a z => R1.dom z, by rw [hn _ _ q, hl], r1, pz_call R1.ext (fun _ _ _ z => z) h.bind fun r h => ?_⟩
  cases r with
  | val d => exact fun v H' s r => h v H' o1 (R1.same s) (p1.trans (.same s fun a z => .inl z)) r
  | new d => exact fun a H' s hn c => h _ H' o1 (R1.same s) (p1.trans (.same s fun a z => .inl z)) ((c.less fun _ z => .inl z).rp fun z => by obtain ⟨u, hu⟩ := R1.dom z; have hn' : H1 a = none := hn; rw [hn'] at hu; cases hu)
  | own es => exact fun a vs H' s hn ha r => h _ H' o1 (R1.same s) (p1.trans (.same s fun a z => .inl z)) (.lst (.inl ha) (fun z => by obtain ⟨u, hu⟩ := R1.dom z; have hn' : H1 a = none := hn; rw [hn'] at hu; cases hu) (r.less fun _ z => .inl z))
/-! statements -/
@[simp] def sSetX (i : Nat) (f : FX) (env : En) : Rz Rs := (f env).bind fun r => .ok (.nx (r.2.set i (Sl.val r.1)))
theorem ds_setX {i : Nat} {x : Str} (hN : X.N.Nodup) (he : DX X b e fx) (hi : X.N[i]? = some x := by rfl) (hx : Loc X.env.scope x := by first | exact Or.inl rfl | exact Or.inr rfl) (hs : swapsWith e (some (.Name x p')) pos.line X.env = pure false := by rfl) (hf : X.fn x = true ∨ X.env.scope.names.lookup x = some .local := by first | exact .inl rfl | exact .inr rfl | assumption) :
    DS X b (.Assign [.Name x p'] e pos) (sSetX i fx) := PS.wk (ps_set hN hi hx he hs hf) fun D σ H ⟨env, o, R, h⟩ => ⟨env, o, R, h.bind.imp fun r _ h v H1 o1 R1 p1 r1 =>
  h _ H1 o1 (R1.set r1) (p1.trans (.same (.refl H1) fun a z => .inl (ex_set z)))⟩
@[simp] def sAsgX (t : En → PyData → Rz En) (f : FX) (env : En) : Rz Rs := (f env).bind fun r => (t r.2 r.1).bind fun e => .ok (.nx e)
theorem ds_asgX {tg : Expr} {t : En → PyData → Rz En} (he : DX X b e fx) (hg : DG X b tg t) (hs : swapsWithSole [tg] e pos.line X.env = pure false := by rfl) (hw : swappedStores [tg] e X.env = pure none := by rfl)
    (h1 : (assignEach [tg] X.env).map (·.2) = [assign tg X.env] := by rfl) : DS X b (.Assign [tg] e pos) (sAsgX t fx) :=
  PS.wk (ps_asg he hg hs hw h1) fun D σ H ⟨env, o, R, h⟩ => ⟨env, o, R, h.bind.imp fun r _ h v H1 o1 R1 p1 r1 => ⟨r.2, o1, r.1, R1, r1, h.bind.imp fun e' _ h => Cont.chain p1 h⟩⟩
@[simp] def sDropX (f : FX) (env : En) : Rz Rs := (f env).bind fun r => .ok (.nx r.2)
theorem ds_dropX (he : DX X b e fx) (hs : swapsWith e none pos.line X.env = pure false := by rfl) : DS X b (.Expr e pos) (sDropX fx) := PS.wk (ps_expr he hs) fun D σ H ⟨env, o, R, h⟩ => ⟨env, o, R, h.bind.imp fun d _ h v H1 o1 R1 p1 r1 =>
  h _ H1 o1 R1 p1⟩
@[simp] def sRetX (f : FX) (env : En) : Rz Rs := (f env).bind fun r => .ok (.rtx r.1 r.2)
theorem ds_retX (he : DX X b e fx) : DS X b (.Return (some e) pos) (sRetX fx) := PS.wk (ps_ret he) fun D σ H ⟨env, o, R, h⟩ => ⟨env, o, R, h.bind.imp fun d _ h v H1 o1 R1 p1 r1 =>
  h v σ H1 o1 R1 p1 r1⟩
@[simp] def sIfX (t : FXT) (g1 g2 : FS) (env : En) : Rz Rs := (t env).bind fun c => match c.1 with | true => g1 c.2 | false => g2 c.2
theorem ds_ifX {sa sb : List Stmt} {t : FXT} {g1 g2 : FS} (ht : DXT X b e t) (h1 : DSs X b sa g1) (h2 : DSs X b sb g2) : DS X b (.If e sa sb pos) (sIfX t g1 g2) := PS.wk (ps_if ht h1 h2) fun D σ H ⟨env, o, R, h⟩ => ⟨env, o, R, h.bind.imp fun c _ h H1 o1 R1 p1 => by
  obtain ⟨c, env1⟩ := c
  cases c with
  | true => exact iteT ⟨env1, o1, R1, h.imp fun r _ h => Post.chain p1 h⟩
  | false => exact iteF ⟨env1, o1, R1, h.imp fun r _ h => Post.chain p1 h⟩⟩
/-- xs.append(e) -/
@[simp] def sAppX (i : Nat) (f : FX) (env : En) : Rz Rs := match env[i]? with
  | some (.own _) => (f env).bind fun r => match r.2[i]? with
    | some (.own ds) => if ds.length < 1000000 then .ok (.nx (r.2.set i (Sl.own (ds ++ [r.1])))) else .st
    | _ => .st
  | _ => .st
theorem ds_appX {i : Nat} {x : Str} {pn apos cpos : Pos} (he : DX X b e fx) (hN : X.N[i]? = some x := by rfl) (hv : Vis X.env.scope x := by first | exact Or.inl rfl | exact Or.inr (Or.inl rfl) | exact Or.inr (Or.inr rfl)) (hd : (x == ("__debug__" : Str)) = false := by decide) (hcd : (x == ("__classdict__" : Str)) = false := by decide)
    (hbase : attributeBase (.Name x pn) "append" X.env (eval (.Name x pn) X.env) = eval (.Name x pn) X.env := by rfl)
    (hfew : ((backTo cpos (starEach [e] X.env)).all (fun x => !x.1) && (backToKw cpos (keywordEach [] X.env)).all (fun x => x.1.isSome)
      && decide (([e] : List Expr).length + ([] : List Keyword).length + (if ([] : List Keyword).isEmpty then 0 else 1) < 30)) = true := by rfl)
    (hline : (apos.endLine == cpos.line) = true := by rfl) (hs : starEach [e] X.env = (false, eval e X.env) :: starEach [] X.env := by rfl) (hplain : (backTo cpos (starEach [] X.env)).any (·.1) = false := by rfl)
    (hsw : swapsWith (.Call (.Attribute (.Name x pn) "append" apos) [e] [] cpos) none pos.line X.env = pure false := by rfl) :
    DS X b (.Expr (.Call (.Attribute (.Name x pn) "append" apos) [e] [] cpos) pos) (sAppX i fx) :=
  PS.wk (ps_expr (pe_bm PySem.F.plainAttrs_list PySem.F.slot_list_append PySem.F.type_list_append mt_append (pe_var hN hv hd hcd) (pa_cons he pa_nil hs) hbase hfew hline hs hplain) hsw) fun D σ H ⟨env, o, R, h⟩ => by
  unfold sAppX at h
  split at h
  · rename_i ds0 q
    obtain ⟨vs, h1, h2, h3, h4⟩ := R.own i ds0 q
    refine ⟨.ref (o i []), h1, .inl ⟨rfl, vs, .of h2⟩, env, o, R, h.bind.imp fun r _ h v H1 o1 R1 p1 r1 => ?_⟩
    split at h
    · rename_i ds q1
      split at h
      · rename_i hz
        obtain ⟨ws, k1, k2, k3, k4⟩ := R1.own i ds q1
        have ee : o1 i [] = o i [] := by rw [h1] at k1; injection k1 with k1; injection k1 with k1; injection k1 with k1; exact k1.symm
        have hm := million
        have hl := k3.length
        obtain ⟨R2, kp, le⟩ := R1.updOwn q1 (k3.append (.one r1))
        rw [ee] at k2 R2 kp
        exact ⟨o i [], ws, v, rfl, rfl, k2, by omega, h _ _ o1 R2 (p1.trans (.keep kp le))⟩
      · exact False.elim h
    · exact False.elim h
  · exact False.elim h
end
end DL
/-! A def whose second argument is a list that it may change and the caller keeps. -/
namespace DL
open PySem PySem.Spec PyProof.Rows L2
abbrev FG := PyData → List PyData → List PyData → Rz (PyData × List PyData)
def xB (H : Hp) (O : Addr → Prop) (E : XK) (cls : Str → Value) (a : Addr) : Bs := ⟨lessA H a, O, E, cls, some a, noBq⟩
def spX (K : PySem.W.Frag) (cls : Str → Value) (n : Nat) (g : FG) : Sp := fun vs H Q E => ∃ (O : Addr → Prop) (a : Addr) (v0 : V) (vs0 vs' : List V) (d0 : PyData) (es ds : List PyData),
  vs = v0 :: .ref a :: vs' ∧ H a = some (.lst vs0) ∧ (∀ c, O c → ∃ u, lessA H a c = some u) ∧ ds.length + 2 = n ∧
  RpA K (lessA H a) O vs0 es ∧ Rp K (lessA H a) O v0 d0 ∧ RpA K (lessA H a) O vs' ds ∧
  Pz K (xB H O E cls a) (g d0 es ds) fun r => ∀ v H' vs1, Same (lessA H a) H' → H' a = some (.lst vs1) → RpA K H' (fun c => O c ∨ c = a) vs1 r.2 → Rp K H' (fun c => O c ∨ c = a) v r.1 → Q v H'
@[simp] def initX (N : Nat) (d0 : PyData) (es ds : List PyData) : En := Sl.val d0 :: Sl.own es :: (ds.map Sl.val ++ List.replicate (N - ds.length - 2) Sl.no)
@[simp] def outX (d : PyData) (e : En) : Rz (PyData × List PyData) := match e[1]? with
  | some (Sl.own es) => .ok (d, es)
  | _ => .st
@[simp] def runX (N : Nat) (body : FS) (d0 : PyData) (es ds : List PyData) : Rz (PyData × List PyData) := (body (initX N d0 es ds)).bind fun r => match r with
  | .rtx d e => outX d e
  | .nx e => outX .none e
  | .rt _ => .st
  | .rto _ => .st
  | .rtn _ => .st
  | .bk _ => .st
  | .ct _ => .st
theorem init_rsX {K : PySem.W.Frag} {b : Bs} {H : Hp} {N : List Str} {a : Addr} {v0 : V} {vs0 vs : List V} {d0 : PyData} {es ds : List PyData} (hn : ds.length + 2 ≤ N.length) (ha : H a = some (.lst vs0)) (hb : b.H0 = lessA H a) (hp : b.pin = some a) (r0 : RpA K b.H0 b.O0 vs0 es) (r1 : Rp K b.H0 b.O0 v0 d0) (r : RpA K b.H0 b.O0 vs ds) (ho : ∀ c, b.O0 c → ∃ u, b.H0 c = some u) (hq : ∀ v ds, b.bq v ds → RpB K b.H0 b.O0 v (.list ds)) :
    RS K b H (initX N.length d0 es ds) (start N (v0 :: .ref a :: vs)) (fun j => if j = 1 then fun _ => a else o00 j) := by
  have hl := r.length
  have s : Same b.H0 H := by rw [hb]; exact lessA_same
  have hn0 : b.H0 a = none := by rw [hb]; exact lessA_at
  -- the frame without the pin
  let b1 : Bs := ⟨b.H0, b.O0, b.xw, b.cls, none, b.bq⟩
  have sl : ∀ (i : Nat) (s : Sl), (Sl.val d0 :: Sl.no :: (ds.map Sl.val ++ List.replicate (N.length - ds.length - 2) Sl.no))[i]? = some s → s = .no ∨ ∃ (d : PyData) (v : V), s = .val d ∧ (start N (v0 :: .ref a :: vs))[i]? = some (some v) ∧ Rp K b.H0 b.O0 v d := fun i s h => by
    match i with
    | 0 => cases h; exact .inr ⟨d0, v0, rfl, rfl, r1⟩
    | 1 => cases h; exact .inl rfl
    | i + 2 =>
      rw [List.getElem?_cons_succ, List.getElem?_cons_succ] at h
      by_cases hi : i < ds.length
      · rw [List.getElem?_append_left (by simpa using hi), List.getElem?_map] at h
        cases q : ds[i]? with
        | none => rw [q] at h; cases h
        | some d =>
          rw [q] at h
          cases h
          obtain ⟨v, h1, h2⟩ := r.get q
          refine .inr ⟨d, v, rfl, ?_, h2⟩
          unfold L2.start
          rw [List.getElem?_append_left (by rw [List.length_map, List.length_cons, List.length_cons]; omega), List.getElem?_map, List.getElem?_cons_succ, List.getElem?_cons_succ, h1]
          rfl
      · rw [List.getElem?_append_right (by simpa using hi), List.getElem?_replicate] at h
        split at h
        · cases h; exact .inl rfl
        · cases h
  have R0 : RS K b1 b.H0 (Sl.val d0 :: Sl.no :: (ds.map Sl.val ++ List.replicate (N.length - ds.length - 2) Sl.no)) (start N (v0 :: .ref a :: vs)) o00 := RS.base (b := b1) (by simp [L2.start, hl]; omega) ho hq sl
  have R1 := R0.setOwn (i := 1) (p := a) (vs := vs0) (ds := es) s hn0 ha (Rp.moveA (.of_same s) (fun c z => by
    rcases z with z | z
    · rcases z with z | ⟨i, s', p, e, n, _⟩
      · exact .inl z
      · rcases sl i s' e with rfl | ⟨d, v, rfl, _⟩ <;> exact n.elim
    · exact .inr (by rw [z]; exact hn0)) _ _ r0) (.inl rfl)
  have e1 : (start N (v0 :: .ref a :: vs)).set 1 (some (.ref a)) = start N (v0 :: .ref a :: vs) := set_same rfl
  rw [e1] at R1
  refine ⟨R1.len, R1.val, R1.own, R1.injN, R1.ext, R1.o0, fun i h => ?_, R1.kv, fun c hc fs h => ?_, R1.bor, R1.bqk, R1.ob, R1.al, fun c hc t h => ?_⟩
  · obtain ⟨c, hc, _⟩ := R1.exn i h
    cases hc
  · rw [hp] at hc; cases hc; rfl
  · cases h
section
variable {P : Program} {w : World} {K : PySem.W.Frag} {mg : Str → Option Value} {base : Heap}
theorem fn_X {cls : Str → Value} {x qual : Str} {st : Stmt} {f : Addr} {fd : FuncData} {N ps : List Str} {k : Nat} {body : FS} (F : Fun K x qual st f fd) (S : FnScope N ps (defScope st)) (hn : ps.length ≤ N.length)
    (hbody : ∀ (cdv : Value) (A : Around) (outer : List Env) (s : Shared) (H H0 : Hp) (E : XK) (O : Addr → Prop) (a : Addr), Room k (A.deeper (envOfC qual (defScope st) s.heap.objs.size f cdv)) →
      Fx (cxOf (L2.CX P w) P w K mg base N qual (defScope st) f cdv A outer s H E) (xB H0 O E cls a) →
      DSs (cxOf (L2.CX P w) P w K mg base N qual (defScope st) f cdv A outer s H E) (xB H0 O E cls a) (defBody st) body) {nN nP : Nat} (eN : N.length = nN := by rfl) (eP : ps.length = nP := by rfl) :
    FnOk P w K mg base (L2.CX P w) (k + 1) f fd ps (spX K cls nP (runX nN body)) := by
  subst eN eP
  refine F.okX S (fun vs H Q E h => ?_) (fun cdv A outer s H vs Q E hr h => ?_)
  · obtain ⟨O, a, v0, vs0, vs', d0, es, ds, e, _, _, hl, _, _, r, _⟩ := h
    rw [e, List.length_cons, List.length_cons, r.length, hl]
  · obtain ⟨O, a, v0, vs0, vs', d0, es, ds, e, ha, ho, hl, r0, r1, r, h⟩ := h
    subst e
    refine ⟨_, hbody cdv A outer s H H E O a hr ⟨rfl, takes_of rfl rfl rfl rfl, passes_of rfl, by have := hr.un; show (A.deeper (envOfC qual (defScope st) s.heap.objs.size f cdv)).units + 100 < cLine; omega⟩, ?_⟩
    have R : RS K (xB H O E cls a) H (initX N.length d0 es ds) (start N (v0 :: .ref a :: vs')) (fun j => if j = 1 then fun _ => a else o00 j) := init_rsX (b := xB H O E cls a) (by omega) ha rfl rfl r0 r1 r ho (fun _ _ z => z.elim)
    have fin : ∀ {d : PyData} {e : En}, Pz K (xB H O E cls a) (outX d e) (fun r => ∀ v H' vs1, Same (lessA H a) H' → H' a = some (.lst vs1) → RpA K H' (fun c => O c ∨ c = a) vs1 r.2 → Rp K H' (fun c => O c ∨ c = a) v r.1 → Q v H') →
        ∀ v σ' H' o', RS K (xB H O E cls a) H' e σ' o' → Rp K H' (Ex (xB H O E cls a) e o') v d → Q v H' := by
      intro d e h v σ' H' o' R' r'
      unfold outX at h
      split at h
      · rename_i es1 q
        obtain ⟨vs1, k1, k2, k3, k4⟩ := R'.own 1 _ q
        have ea := R'.pin a rfl _ q
        rw [ea] at k2
        have le : ∀ c, (O c ∨ c = a) → Ex (xB H O E cls a) e o' c := fun c z => by
          rcases z with z | z
          · exact .inl z
          · exact .inr ⟨1, _, [], q, rfl, by rw [ea, z]⟩
        exact h v H' vs1 R'.ext k2 (k3.less le) (r'.less le)
      · exact False.elim h
    refine ⟨_, _, R, (Pz.bind h).imp fun r _ h => ?_⟩
    cases r with
    | nx e => exact fun σ' H' o' R' p => fin h .non σ' H' o' R' .non
    | rtx d e => exact fun v σ' H' o' R' p r' => fin h v σ' H' o' R' r'
    | rt d => exact False.elim h
    | rto es => exact False.elim h
    | rtn d => exact False.elim h
    | bk e => exact False.elim h
    | ct e => exact False.elim h
def FnX (P : Program) (w : World) (K : PySem.W.Frag) (mg : Str → Option Value) (base : Heap) (cls : Str → Value) (x : Str) (k : Nat) (ps : List Str) (g : FG) : Prop :=
  ∃ f fd, mg x = some (.ref f) ∧ FnOk P w K mg base (L2.CX P w) k f fd ps (spX K cls ps.length g) ∧ PySem.W.keepIn K (.ref f) = true ∧ ∀ us : List Value, us.length = ps.length → bindArgs fd ⟨us, []⟩ = pure (ps.zip us)
theorem FnX.mk {cls : Str → Value} {x : Str} {st : Stmt} {N ps : List Str} {k : Nat} {body : FS} (S : FnScope N ps (defScope st)) (At : FnAt K mg x st)
    (hbody : ∀ (cdv : Value) (A : Around) (outer : List Env) (s : Shared) (H H0 : Hp) (E : XK) (O : Addr → Prop) (f a : Addr), Room k (A.deeper (envOfC x (defScope st) s.heap.objs.size f cdv)) →
      Fx (cxOf (L2.CX P w) P w K mg base N x (defScope st) f cdv A outer s H E) (xB H0 O E cls a) →
      DSs (cxOf (L2.CX P w) P w K mg base N x (defScope st) f cdv A outer s H E) (xB H0 O E cls a) (defBody st) body)
    (hb : ∀ (kV doc pm : Value) (an : Option Addr) (cdv ct : Value) (us : List Value), us.length = ps.length → bindArgs (PySem.W.fnOf x x (defArgs st) (defBody st) (defScope st) .none kV doc pm an cdv ct) ⟨us, []⟩ = pure (ps.zip us))
    {nN : Nat} (eN : N.length = nN := by rfl) (hn : ps.length ≤ N.length := by decide) : FnX P w K mg base cls x (k + 1) ps (runX nN body) := by
  subst eN
  obtain ⟨f, fd, hm, F⟩ := At
  refine ⟨f, fd, hm, fn_X F S hn fun cdv A outer s H H0 E O a hr hF => hbody cdv A outer s H H0 E O f a hr hF, F.kp, ?_⟩
  obtain ⟨oc, od, kV, doc, pm, an, cdv, ct, osl, rfl, lk, hcd⟩ := F.ex
  exact hb kV doc pm an cdv ct
end
theorem pz_pin {α : Type} {K : PySem.W.Frag} {H : Hp} {O : Addr → Prop} {E : XK} {c : Str → Value} {p : Option Addr} {r : Rz α} {P : α → Prop} (h : Pz K ⟨H, O, E, c, none, noBq⟩ r P) : Pz K ⟨H, O, E, c, p, noBq⟩ r P := by
  cases r with
  | ok a => exact h
  | ex x => exact h
  | st => exact h
section
variable {X : Cx} {b : Bs} {e0 : Expr} {es : List Expr} {f0 : FE} {fs : FA} {L L0 : List Nat} {pos p py : Pos}
@[simp] def xCallX (g : FG) (j : Nat) (f0 : FE) (L0 : List Nat) (fs : FA) (L : List Nat) (env : En) : Rz (PyData × En) := match (frees (L0 ++ L) env)[j]? with
  | some (Sl.own es) => (f0 env).bind fun d0 => (fs env).bind fun ds => (g d0 es ds).bind fun r => .ok (r.1, (frees (L0 ++ L) env).set j (Sl.own r.2))
  | _ => .st
theorem own_frees {b : Bs} {env : En} {o : Nat → List Nat → Addr} {M : List Nat} {j : Nat} {es : List PyData} (h : (frees M env)[j]? = some (Sl.own es)) : Ex b (frees M env) o (o j []) := .ow h
theorem dx_fnX {j k n : Nat} {ps : List Str} {g : FG} {x y : Str} (F : Fx X b) (G : FnX X.prog X.w X.K X.mg X.base b.cls x k ps g) (hr : Room k X.A) (hg : Gl X x) (h0 : DE X b e0 f0 L0) (ha : DA X b es fs L) (hn : ∀ env ds, fs env = .ok ds → ds.length = n) (hl : n + 2 = ps.length := by rfl)
    (hN : X.N[j]? = some y := by rfl) (hv : Vis X.env.scope y := by first | exact Or.inl rfl | exact Or.inr (Or.inl rfl) | exact Or.inr (Or.inr rfl)) (hdy : (y == ("__debug__" : Str)) = false := by decide) (hcd : (y == ("__classdict__" : Str)) = false := by decide)
    (hdb : (x == ("__debug__" : Str)) = false := by decide) (he : starEach (e0 :: .Name y py :: es) X.env = (false, eval e0 X.env) :: starEach (.Name y py :: es) X.env := by rfl) (he2 : starEach (.Name y py :: es) X.env = (false, eval (.Name y py) X.env) :: starEach es X.env := by rfl)
    (hpl : (backTo pos (starEach (.Name y py :: es) X.env)).any (·.1) = false := by rfl) :
    DX X b (.Call (.Name x p) (e0 :: .Name y py :: es) [] pos) (xCallX g j f0 L0 fs L) := by
  obtain ⟨f, fd, hm, G, hk, hb⟩ := G
  refine PE.wk (pe_callS G hr hg hm hk (.all hb) (fun σ => passAt (W := fun c d _ H => b.xw c d H) F.tk σ) (pa_cons h0 (pa_cons (pe_var hN hv hdy hcd) ha he2) he) hdb he hpl) fun σ H Q ⟨env, o, R, h⟩ => ?_
  unfold xCallX at h
  split at h
  case h_2 => exact False.elim h
  rename_i es0 q
  refine ⟨env, o, R, h.bind.imp fun d0 q0 h v0 H1 s1 r0 => ?_⟩
  have R1 := (R.frees (L0 ++ L)).same s1
  obtain ⟨vs0, k1, k2, k3, k4⟩ := R1.own j es0 q
  refine ⟨_, k1, env, o, R.same s1, h.bind.imp fun ds q2 h vs' H2 s2 r2 => ?_⟩
  have R2 := R1.same s2
  have hD : H2 (o j []) = some (.lst vs0) := s2 _ _ k2
  generalize hE : frees (L0 ++ L) env = env1 at *
  have exa : Ex b env1 o (o j []) := .ow q
  have exl : ∀ c, Ex b env1 o c → Ex b (frees L0 env) o c ∧ Ex b (frees L env) o c := fun c z => by rw [← hE] at z; exact ex_frees_app z
  have dom : ∀ c, (Ex b env1 o c ∧ c ≠ o j []) → ∃ u, lessA H2 (o j []) c = some u := fun c z => by
    obtain ⟨u, hu⟩ := R2.dom z.1
    refine ⟨u, ?_⟩
    unfold lessA
    rw [if_neg z.2]; exact hu
  have b0 : b.H0 (o j []) = none := k4
  have sB : Same b.H0 (lessA H2 (o j [])) := lessA_of b0 R2.ext
  refine ⟨fun c => Ex b env1 o c ∧ c ≠ o j [], o j [], v0, vs0, vs', d0, es0, ds, rfl, hD, dom, by rw [hn _ _ q2, hl], ?_, ?_, ?_, ?_⟩
  · exact Rp.moveA (keep_cut hD exa) (fun c z => .inl z.1) _ _ (k3.same s2)
  · exact Rp.move (keep_cut hD (exl _ exa).1) (fun c z => .inl (exl _ z.1).1) _ _ (r0.same s2)
  · exact Rp.moveA (keep_cut hD (exl _ exa).2) (fun c z => .inl (exl _ z.1).2) _ _ r2
  · refine pz_pin (pz_call sB (fun _ _ _ z => z) h.bind fun r h v H' vs1 s3 hD3 r3 rv => ?_)
    have s23 : Same H2 (upd H' (o j []) (.lst vs0)) := fun c u e => by
      by_cases hc : c = o j []
      · rw [hc] at e ⊢
        rw [upd_same]; rw [hD] at e; exact e
      · rw [upd_ne hc]
        refine s3 _ _ ?_
        unfold lessA
        rw [if_neg hc]; exact e
    have kp : Keep (fun c => (Ex b env1 o c ∧ c ≠ o j []) ∨ c = o j []) H' (upd H' (o j []) (.lst vs0)) := fun c u e z => by
      by_cases hc : c = o j []
      · subst hc
        rw [hD3] at e; cases e
        rcases z with z | z
        · exact absurd True.intro z
        · exact absurd (.inr rfl) z
      · rw [upd_ne hc]; exact e
    have le : ∀ c, Ex b env1 o c → ((Ex b env1 o c ∧ c ≠ o j []) ∨ c = o j []) := fun c z => by
      by_cases hc : c = o j []
      · exact .inr hc
      · exact .inl ⟨z, hc⟩
    have R3 := R2.same s23
    obtain ⟨R4, kp4, le4⟩ := R3.updOwn q (Rp.moveA kp (fun c z => .inl (le c z)) _ _ r3)
    have eH : upd (upd H' (o j []) (.lst vs0)) (o j []) (.lst vs1) = H' := by
      funext c
      by_cases hc : c = o j []
      · rw [hc, upd_same, hD3]
      · rw [upd_ne hc, upd_ne hc]
    rw [eH] at R4 kp4
    refine h v H' o R4 ?_ (rv.less fun c z => le c (le4 c z))
    have p1 : Per X.K H (Ex b env o) H2 (Ex b env1 o) := .same (s1.trans s2) fun c z => .inl (by rw [← hE] at z; exact ex_frees z)
    exact p1.trans ((Per.same s23 fun c z => .inl z).trans (.keep kp4 le4))
end
end DL
/-! Instances of own classes that do not change once they are made. -/
namespace DL
open PySem PySem.Spec PyProof.Rows L2
@[simp] def fldA (f : Str) : List PyData → List PyData → Option PyData
  | .str n :: ns, d :: ds => if n = f then some d else fldA f ns ds
  | _, _ => none
@[simp] def noFA (m : Str) : List PyData → Bool
  | [] => true
  | .str n :: ns => if n = m then false else noFA m ns
  | _ => false
@[simp] def gFld (C : Nat) (f : Str) : PyData → Option PyData
  | .dict [(.list (.int c :: ns), .tuple ds)] => if c = (C : Int) then fldA f ns ds else none
  | _ => none
/-- the class of an instance, no field of which is called m -/
@[simp] def isI (C : Nat) (m : Str) : PyData → Bool
  | .dict [(.list (.int c :: ns), .tuple ds)] => decide (c = (C : Int)) && noFA m ns
  | _ => false
theorem fld_rp {K : PySem.W.Frag} {H : Hp} {O : Addr → Prop} {f : Str} {d : PyData} : ∀ {ns : List Str} {vs : List V} {ds : List PyData}, RpA K H O vs ds → fldA f (ns.map .str) ds = some d → ∃ v, (ns.zip vs).lookup f = some v ∧ Rp K H O v d
  | [], _, _, _, e => by cases e
  | n :: ns, _, _, .nil, e => by cases e
  | n :: ns, v :: vs, d' :: ds, .cons r t, e => by
    rw [List.map_cons] at e
    unfold fldA at e
    by_cases q : n = f
    · rw [if_pos q] at e
      cases e
      refine ⟨v, ?_, r⟩
      rw [List.zip_cons_cons, List.lookup_cons, q]
      simp
    · rw [if_neg q] at e
      obtain ⟨w, h1, h2⟩ := fld_rp t e
      refine ⟨w, ?_, h2⟩
      rw [List.zip_cons_cons, List.lookup_cons, beq_eq_false_iff_ne.mpr (Ne.symm q)]
      exact h1
theorem noF_lookup {m : Str} : ∀ {ns : List Str} {vs : List V}, noFA m (ns.map .str) = true → (ns.zip vs).lookup m = none
  | [], _, _ => rfl
  | _ :: _, [], _ => rfl
  | n :: ns, v :: vs, e => by
    rw [List.map_cons] at e
    unfold noFA at e
    by_cases q : n = m
    · rw [if_pos q] at e; cases e
    · rw [if_neg q] at e
      rw [List.zip_cons_cons, List.lookup_cons, beq_eq_false_iff_ne.mpr (Ne.symm q)]
      exact noF_lookup e
theorem Rp.ins_of {K : PySem.W.Frag} {H : Hp} {O : Addr → Prop} {v : V} {c : Int} {ns ds : List PyData} (h : Rp K H O v (.dict [(.list (.int c :: ns), .tuple ds)])) :
    ∃ (a C dx : Addr) (ms : List Str) (vs : List V), v = .ref a ∧ c = ((C : Nat) : Int) ∧ ns = ms.map .str ∧ H a = some (.ins C dx (ms.zip vs)) ∧ ¬ O a ∧ ms.length = vs.length ∧ RpA K H O vs ds := by
  cases h with
  | ins h1 h2 h3 h4 => exact ⟨_, _, _, _, _, rfl, rfl, rfl, h1, h2, h3, h4⟩
theorem passes_all {X : Cx} {b : Bs} (F : Fx X b) : Passes (L2.CX X.prog X.w) X (fun c d H => b.xw c d H) := fun pins σ H s e s' I c => passAt (W := fun c d _ H => b.xw c d H) F.tk σ pins H s e s' I c
section
variable {X : Cx} {b : Bs} {e o : Expr} {es : List Expr} {f fo : FE} {fs : FA} {L L0 : List Nat} {pos apos p : Pos} {C : Addr}
/-- o.f -/
theorem de_fld {n : Str} (hc : Cls X.K C) (hn : NoAttr X.K C n) (h : DE X b e f L) (hb : attributeBase e n X.env (eval e X.env) = eval e X.env := by rfl) : DE X b (.Attribute e n pos) (c1 (gFld C n) f) L :=
  PE.wk (pe_fld h hb) fun σ H Q ⟨env, o, R, h⟩ => ⟨env, o, R, h.bind.imp fun d _ h v H1 s1 r1 => by
    obtain ⟨d', e, hq⟩ := h.of
    unfold gFld at e
    split at e
    · rename_i c ns ds
      split at e
      · rename_i hcC
        obtain ⟨a, C', dx, ms, vs, rfl, e1, rfl, k1, k2, k3, k4⟩ := r1.ins_of
        have eC : C' = C := by
          have : ((C' : Nat) : Int) = ((C : Nat) : Int) := by rw [← e1, hcC]
          exact Int.ofNat.inj this
        subst eC
        obtain ⟨w, h1, h2⟩ := fld_rp k4 e
        exact ⟨a, C', dx, _, w, rfl, k1, hc, hn, h1, hq w H1 s1 h2⟩
      · cases e
    · cases e⟩
/-! methods -/
def FnM (P : Program) (w : World) (K : PySem.W.Frag) (mg : Str → Option Value) (base : Heap) (cls : Str → Value) (C : Addr) (m : Str) (k : Nat) (ps : List Str) (g : FF) : Prop :=
  ∃ f fd, Meth K C m f ∧ FnOk P w K mg base (L2.CX P w) k f fd ps (spD K cls ps.length g) ∧ ∀ us : List Value, us.length = ps.length → bindArgs fd ⟨us, []⟩ = pure (ps.zip us)
@[simp] def cMeth (C : Nat) (m : Str) (g : FF) (fo : FE) (fs : FA) (env : En) : Rz PyData := (fo env).bind fun d => if isI C m d = true then (fs env).bind fun ds => (g (d :: ds)).bind fun r => match r with
  | .val d => .ok d
  | .own es => .ok (.list es)
  | .new d => .ok d else .st
@[simp] def oMeth (C : Nat) (m : Str) (g : FF) (fo : FE) (fs : FA) (env : En) : Rz (List PyData) := (fo env).bind fun d => if isI C m d = true then (fs env).bind fun ds => (g (d :: ds)).bind fun r => match r with
  | .val _ => .st
  | .new _ => .st
  | .own es => .ok es else .st
theorem isI_of {K : PySem.W.Frag} {H : Hp} {O : Addr → Prop} {v : V} {d : PyData} {m : Str} (r : Rp K H O v d) (h : isI C m d = true) : ∃ a dx fs, v = .ref a ∧ H a = some (.ins C dx fs) ∧ fs.lookup m = none := by
  unfold isI at h
  split at h
  · rename_i c ns ds
    rw [Bool.and_eq_true, decide_eq_true_iff] at h
    obtain ⟨a, C', dx, ms, vs, rfl, e1, rfl, k1, k2, k3, k4⟩ := r.ins_of
    have eC : C' = C := by
      have : ((C' : Nat) : Int) = ((C : Nat) : Int) := by rw [← e1, h.1]
      exact Int.ofNat.inj this
    subst eC
    exact ⟨a, dx, _, rfl, k1, noF_lookup h.2⟩
  · cases h
section
variable {j n : Nat} {ps : List Str} {g : FF} {m : Str} {pl : Sem Bool} (F : Fx X b) (G : FnM X.prog X.w X.K X.mg X.base b.cls C m j ps g) (hc : Cls X.K C) (hr : Room j X.A) (ho : DE X b o fo L0)
theorem meth_rd {K : PySem.W.Frag} {σ : L2.St} {H : Hp} {Q : VK} {env : En} {oo : Nat → List Nat → Addr} (R : RS K b H env σ oo) {t : TA} (ht : ∀ H2 Q2, tDA K b fs L σ H2 Q2 → t σ H2 Q2) (hn : ∀ env ds, fs env = .ok ds → ds.length = n) (hl : n + 1 = ps.length) {P : Rv → Prop}
    (h : Pz K b ((fo env).bind fun d => if isI C m d = true then (fs env).bind fun ds => g (d :: ds) else .st) P)
    (hq : ∀ H' r, Same H H' → P r → (∀ c, Ex b (frees (L0 ++ L) env) oo c → ∃ u, H' c = some u) → RPost K ⟨H', Ex b (frees (L0 ++ L) env) oo, fun c d H => b.xw c d H, b.cls, none, noBq⟩ Q r) :
    tMeth C m (spD K b.cls ps.length g) [] (fun c d H => b.xw c d H) (tD K b fo L0) t σ H Q := by
  refine ⟨env, oo, R, h.bind.imp fun d _ h v H1 s1 r1 => ?_⟩
  split at h
  · rename_i hi
    obtain ⟨a, dx, fl, rfl, k1, k2⟩ := isI_of r1 hi
    refine ⟨a, dx, fl, rfl, k1, k2, ht _ _ ⟨env, oo, R.same s1, h.bind.imp fun ds q h vs H2 s2 r2 => ?_⟩⟩
    have R2 := ((R.frees (L0 ++ L)).same s1).same s2
    refine ⟨Ex b (frees (L0 ++ L) env) oo, d :: ds, fun a z => R2.dom z, by rw [List.length_cons, hn _ _ q, hl], ?_, ?_⟩
    · rw [List.append_nil]
      exact .cons ((r1.same s2).less fun a z => (ex_frees_app z).1) (r2.less fun a z => (ex_frees_app z).2)
    · exact pz_call (σ := σ) (W := fun c d _ H => b.xw c d H) R2.ext (fun _ _ _ z => z) h fun r h => hq H2 r (s1.trans s2) h (fun c z => R2.dom z)
  · exact False.elim h
include F G hc hr ho
theorem de_meth (ha : DA X b (e :: es) fs L) (hn : ∀ env ds, fs env = .ok ds → ds.length = n) (hl : n + 1 = ps.length := by rfl) (he : starEach (e :: es) X.env = (false, eval e X.env) :: starEach es X.env := by rfl) (hpl : (backTo pos (starEach es X.env)).any (·.1) = false := by rfl)
    (hm : eval (.Call (.Attribute o m apos) (e :: es) [] pos) X.env = (do
      let ov ← eval o X.env
      standAt apos.atName
      let __x ← holding [ov] (getMethod ov m pl)
      match __x with
        | (f, first) => callWith pos f first (backTo pos (starEach (e :: es) X.env)) (backToKw pos (keywordEach [] X.env))) := by rfl) :
    DE X b (.Call (.Attribute o m apos) (e :: es) [] pos) (cMeth C m g fo fs) (L0 ++ L) := by
  obtain ⟨f, fd, M, G, hb⟩ := G
  refine PE.wk (pe_meth (E := fun c d H => b.xw c d H) ho hc M G hr (.all hb) .nil (passes_all F) ha he hpl hm) fun σ H Q ⟨env, oo, R, h⟩ => ?_
  refine meth_rd (n := n) (P := fun r => Pz X.K b (match r with | .val d => .ok d | .own es => .ok (.list es) | .new d => .ok d) (fun d => ∀ v H', Same H H' → Rp X.K H' (Ex b (frees (L0 ++ L) env) oo) v d → Q v H')) R (fun _ _ h => h) hn hl ?_ (fun H2 r s2 h dom => ?_)
  · have h := h.bind
    cases q : fo env with
    | st => rw [q] at h; exact h
    | ex x => rw [q] at h; exact h
    | ok d =>
      rw [q] at h
      replace h : Pz X.K b (if isI C m d = true then (fs env).bind fun ds => (g (d :: ds)).bind fun r => match r with | .val d => .ok d | .own es => .ok (.list es) | .new d => .ok d else .st) _ := h
      show Pz X.K b (if isI C m d = true then (fs env).bind fun ds => g (d :: ds) else .st) _
      by_cases hi : isI C m d = true
      · rw [if_pos hi] at h ⊢
        cases q2 : fs env with
        | st => rw [q2] at h; exact h
        | ex x => rw [q2] at h; exact h
        | ok ds => rw [q2] at h; exact Pz.bind h
      · rw [if_neg hi] at h; exact False.elim h
  · cases r with
    | val d => exact fun v H' s r => h v H' (s2.trans s) r
    | new d => exact fun a H' s hn c => h _ H' (s2.trans s) ((c.less fun _ z => .inl z).rp fun z => by obtain ⟨u, hu⟩ := dom _ z; have hn' : H2 a = none := hn; rw [hn'] at hu; cases hu)
    | own es => exact fun a vs H' s hn ha r => h _ H' (s2.trans s) (.lst (.inl ha) (fun z => by obtain ⟨u, hu⟩ := dom _ z; have hn' : H2 a = none := hn; rw [hn'] at hu; cases hu) (r.less fun _ z => .inl z))
theorem do_meth (ha : DA X b (e :: es) fs L) (hn : ∀ env ds, fs env = .ok ds → ds.length = n) (hl : n + 1 = ps.length := by rfl) (he : starEach (e :: es) X.env = (false, eval e X.env) :: starEach es X.env := by rfl) (hpl : (backTo pos (starEach es X.env)).any (·.1) = false := by rfl)
    (hm : eval (.Call (.Attribute o m apos) (e :: es) [] pos) X.env = (do
      let ov ← eval o X.env
      standAt apos.atName
      let __x ← holding [ov] (getMethod ov m pl)
      match __x with
        | (f, first) => callWith pos f first (backTo pos (starEach (e :: es) X.env)) (backToKw pos (keywordEach [] X.env))) := by rfl) :
    DO X b (.Call (.Attribute o m apos) (e :: es) [] pos) (oMeth C m g fo fs) (L0 ++ L) := by
  obtain ⟨f, fd, M, G, hb⟩ := G
  refine PE.wk (pe_meth (E := fun c d H => b.xw c d H) ho hc M G hr (.all hb) .nil (passes_all F) ha he hpl hm) fun σ H Q ⟨env, oo, R, h⟩ => ?_
  refine meth_rd (n := n) (P := fun r => Pz X.K b (match r with | .val _ => .st | .new _ => .st | .own es => .ok es) (fun ds => ∀ a vs H', Same H H' → H a = none → H' a = some (.lst vs) → RpA X.K H' (fun c => Ex b (frees (L0 ++ L) env) oo c ∨ c = a) vs ds → Q (.ref a) H')) R (fun _ _ h => h) hn hl ?_ (fun H2 r s2 h dom => ?_)
  · have h := h.bind
    cases q : fo env with
    | st => rw [q] at h; exact h
    | ex x => rw [q] at h; exact h
    | ok d =>
      rw [q] at h
      replace h : Pz X.K b (if isI C m d = true then (fs env).bind fun ds => (g (d :: ds)).bind fun r => match r with | .val _ => .st | .new _ => .st | .own es => .ok es else .st) _ := h
      show Pz X.K b (if isI C m d = true then (fs env).bind fun ds => g (d :: ds) else .st) _
      by_cases hi : isI C m d = true
      · rw [if_pos hi] at h ⊢
        cases q2 : fs env with
        | st => rw [q2] at h; exact h
        | ex x => rw [q2] at h; exact h
        | ok ds => rw [q2] at h; exact Pz.bind h
      · rw [if_neg hi] at h; exact False.elim h
  · cases r with
    | val d => exact False.elim h
    | new d => exact False.elim h
    | own es => exact fun a vs H' s hn ha r => h a vs H' (s2.trans s) (s2.free hn) ha r
theorem de_meth0 (hl : 1 = ps.length := by rfl)
    (hm : eval (.Call (.Attribute o m apos) [] [] pos) X.env = (do
      let ov ← eval o X.env
      standAt apos.atName
      let __x ← holding [ov] (getMethod ov m pl)
      match __x with
        | (f, first) => callWith pos f first (backTo pos (starEach [] X.env)) (backToKw pos (keywordEach [] X.env))) := by rfl) :
    DE X b (.Call (.Attribute o m apos) [] [] pos) (cMeth C m g fo aNil) (L0 ++ []) := by
  obtain ⟨f, fd, M, G, hb⟩ := G
  refine PE.wk (pe_meth0 (E := fun c d H => b.xw c d H) ho hc M G hr (.all hb) .nil (passes_all F) hm) fun σ H Q ⟨env, oo, R, h⟩ => ?_
  refine meth_rd (n := 0) (fs := aNil) (L := []) (P := fun r => Pz X.K b (match r with | .val d => .ok d | .own es => .ok (.list es) | .new d => .ok d) (fun d => ∀ v H', Same H H' → Rp X.K H' (Ex b (frees (L0 ++ []) env) oo) v d → Q v H')) R (fun H2 Q2 ⟨_, _, _, h⟩ => h [] H2 (.refl H2) .nil) len_nil (by rw [← hl]) ?_ (fun H2 r s2 h dom => ?_)
  · have h := h.bind
    cases q : fo env with
    | st => rw [q] at h; exact h
    | ex x => rw [q] at h; exact h
    | ok d =>
      rw [q] at h
      replace h : Pz X.K b (if isI C m d = true then (aNil env).bind fun ds => (g (d :: ds)).bind fun r => match r with | .val d => .ok d | .own es => .ok (.list es) | .new d => .ok d else .st) _ := h
      show Pz X.K b (if isI C m d = true then (aNil env).bind fun ds => g (d :: ds) else .st) _
      by_cases hi : isI C m d = true
      · rw [if_pos hi] at h ⊢
        cases q2 : aNil env with
        | st => rw [q2] at h; exact h
        | ex x => rw [q2] at h; exact h
        | ok ds => rw [q2] at h; exact Pz.bind h
      · rw [if_neg hi] at h; exact False.elim h
  · cases r with
    | val d => exact fun v H' s r => h v H' (s2.trans s) r
    | new d => exact fun a H' s hn c => h _ H' (s2.trans s) ((c.less fun _ z => .inl z).rp fun z => by obtain ⟨u, hu⟩ := dom _ z; have hn' : H2 a = none := hn; rw [hn'] at hu; cases hu)
    | own es => exact fun a vs H' s hn ha r => h _ H' (s2.trans s) (.lst (.inl ha) (fun z => by obtain ⟨u, hu⟩ := dom _ z; have hn' : H2 a = none := hn; rw [hn'] at hu; cases hu) (r.less fun _ z => .inl z))
theorem do_meth0 (hl : 1 = ps.length := by rfl)
    (hm : eval (.Call (.Attribute o m apos) [] [] pos) X.env = (do
      let ov ← eval o X.env
      standAt apos.atName
      let __x ← holding [ov] (getMethod ov m pl)
      match __x with
        | (f, first) => callWith pos f first (backTo pos (starEach [] X.env)) (backToKw pos (keywordEach [] X.env))) := by rfl) :
    DO X b (.Call (.Attribute o m apos) [] [] pos) (oMeth C m g fo aNil) (L0 ++ []) := by
  obtain ⟨f, fd, M, G, hb⟩ := G
  refine PE.wk (pe_meth0 (E := fun c d H => b.xw c d H) ho hc M G hr (.all hb) .nil (passes_all F) hm) fun σ H Q ⟨env, oo, R, h⟩ => ?_
  refine meth_rd (n := 0) (fs := aNil) (L := []) (P := fun r => Pz X.K b (match r with | .val _ => .st | .new _ => .st | .own es => .ok es) (fun ds => ∀ a vs H', Same H H' → H a = none → H' a = some (.lst vs) → RpA X.K H' (fun c => Ex b (frees (L0 ++ []) env) oo c ∨ c = a) vs ds → Q (.ref a) H')) R (fun H2 Q2 ⟨_, _, _, h⟩ => h [] H2 (.refl H2) .nil) len_nil (by rw [← hl]) ?_ (fun H2 r s2 h dom => ?_)
  · have h := h.bind
    cases q : fo env with
    | st => rw [q] at h; exact h
    | ex x => rw [q] at h; exact h
    | ok d =>
      rw [q] at h
      replace h : Pz X.K b (if isI C m d = true then (aNil env).bind fun ds => (g (d :: ds)).bind fun r => match r with | .val _ => .st | .new _ => .st | .own es => .ok es else .st) _ := h
      show Pz X.K b (if isI C m d = true then (aNil env).bind fun ds => g (d :: ds) else .st) _
      by_cases hi : isI C m d = true
      · rw [if_pos hi] at h ⊢
        cases q2 : aNil env with
        | st => rw [q2] at h; exact h
        | ex x => rw [q2] at h; exact h
        | ok ds => rw [q2] at h; exact Pz.bind h
      · rw [if_neg hi] at h; exact False.elim h
  · cases r with
    | val d => exact False.elim h
    | new d => exact False.elim h
    | own es => exact fun a vs H' s hn ha r => h a vs H' (s2.trans s) (s2.free hn) ha r
end
end
end DL
/-! Making an instance: __init__ by statements that end in stores of the fields, each once; the instance's methods as defs. -/
namespace DL
open PySem PySem.Spec PyProof.Rows L2
/-- while __init__ runs: the instance at x is u -/
def insB (q : Bs) (x : Addr) (u : HO) : Bs := ⟨upd q.H0 x u, fun c => q.O0 c ∨ c = x, q.xw, q.cls, some x, q.bq⟩
theorem pz_ins {α : Type} {K : PySem.W.Frag} {q : Bs} {x : Addr} {u : HO} {r : Rz α} {P : α → Prop} (hn : q.H0 x = none) (h : Pz K q r P) : Pz K (insB q x u) r P := by
  have s : Same q.H0 (upd q.H0 x u) := same_upd hn
  cases r with
  | ok _ => exact h
  | st => exact h
  | ex y =>
    obtain ⟨nm, pl⟩ := y
    cases pl with
    | none => exact fun H' s' => h H' (s.trans s')
    | some fd => exact fun H' c v s' hc hx r => h H' c v (s.trans s') (s.free hc) hx r
theorem zip_put {f : Str} {v : V} : ∀ {ns : List Str} {vs : List V}, ns.length = vs.length → noFA f (ns.map .str) = true → putF f v (ns.zip vs) = (ns ++ [f]).zip (vs ++ [v])
  | [], [], _, _ => rfl
  | n :: ns, w :: vs, hl, e => by
    rw [List.map_cons] at e
    unfold noFA at e
    by_cases q : n = f
    · rw [if_pos q] at e; cases e
    · rw [if_neg q] at e
      rw [List.zip_cons_cons, putF.eq_2, if_neg q, zip_put (by simpa using hl) e]
      rfl
theorem RS.store {K : PySem.W.Frag} {q : Bs} {x C dx C' dx' : Addr} {fs fs' : List (Str × V)} {H : Hp} {env : En} {σ : L2.St} {o : Nat → List Nat → Addr} (r : RS K (insB q x (.ins C dx fs)) H env σ o) :
    RS K (insB q x (.ins C' dx' fs')) (upd H x (.ins C' dx' fs')) env σ o ∧ Keep (Ex (insB q x (.ins C dx fs)) env o) H (upd H x (.ins C' dx' fs')) := by
  have hx : H x = some (.ins C dx fs) := r.ext _ _ upd_same
  have exx : Ex (insB q x (.ins C dx fs)) env o x := .inl (.inr rfl)
  have kp : Keep (Ex (insB q x (.ins C dx fs)) env o) H (upd H x (.ins C' dx' fs')) := fun a u e z => by
    by_cases ha : a = x
    · subst ha
      rw [hx] at e; cases e
      rcases z with z | z
      · exact absurd True.intro z
      · exact absurd exx z
    · rw [upd_ne ha]; exact e
  have ne : ∀ {i : Nat} {s : Sl} {p : List Nat}, env[i]? = some s → s.node p → o i p ≠ x := fun {i s p} e n z => by
    have h4 := r.new e n
    rw [z] at h4
    have h4' : upd q.H0 x (.ins C dx fs) x = none := h4
    rw [upd_same] at h4'; cases h4'
  refine ⟨⟨r.len, fun i d e => ?_, fun i ds e => ?_, r.injN, fun a u e => ?_, fun a z => ?_, r.exn, r.kv, r.pin, r.bor, fun v ds z => ?_, fun i t e => ?_, r.al, r.pin0⟩, kp⟩
  · obtain ⟨v, h1, h2⟩ := r.val i d e
    exact ⟨v, h1, Rp.move kp (fun a z => .inl z) _ _ h2⟩
  · obtain ⟨vs, h1, h2, h3, h4⟩ := r.own i ds e
    refine ⟨vs, h1, by rw [upd_ne (ne e rfl)]; exact h2, Rp.moveA kp (fun a z => .inl z) _ _ h3, ?_⟩
    have h4' : upd q.H0 x (.ins C dx fs) (o i []) = none := h4
    show upd q.H0 x _ (o i []) = none
    rw [upd_ne (ne e rfl)] at h4' ⊢
    exact h4'
  · have e' : upd q.H0 x (.ins C' dx' fs') a = some u := e
    by_cases ha : a = x
    · subst ha; rw [upd_same] at e' ⊢; exact e'
    · rw [upd_ne ha] at e' ⊢
      exact r.ext a u (by show upd q.H0 x _ a = _; rw [upd_ne ha]; exact e')
  · obtain ⟨u, hu⟩ := r.o0 a z
    have hu' : upd q.H0 x (.ins C dx fs) a = some u := hu
    by_cases ha : a = x
    · exact ⟨.ins C' dx' fs', by subst ha; exact upd_same⟩
    · refine ⟨u, ?_⟩
      show upd q.H0 x _ a = _
      rw [upd_ne ha] at hu' ⊢; exact hu'
  · have kp0 : Keep (insB q x (.ins C dx fs)).O0 (upd q.H0 x (.ins C dx fs)) (upd q.H0 x (.ins C' dx' fs')) := fun a u e z => by
      by_cases ha : a = x
      · subst ha
        rw [upd_same] at e; cases e
        rcases z with z | z
        · exact absurd True.intro z
        · exact absurd (.inr rfl) z
      · rw [upd_ne ha] at e ⊢; exact e
    rcases r.bqk v ds z with h | ⟨a, e, c⟩
    · exact .inl (Rp.move kp0 (fun a z => .inl z) _ _ h)
    · refine .inr ⟨a, e, c.move (fun u h1 => ?_) kp0 fun a z => .inl z⟩
      have h1' : upd q.H0 x (.ins C dx fs) a = some u := h1
      have ha : a ≠ x := fun e => by
        subst e
        rw [upd_same] at h1'
        obtain ⟨vs, h3, _⟩ := c.list
        have h3' : upd q.H0 a (.ins C dx fs) a = some (.lst vs) := h3
        rw [upd_same] at h3'; cases h3'
      show upd q.H0 x _ a = _
      rw [upd_ne ha] at h1' ⊢; exact h1'
  · obtain ⟨v, h1, h2, h3⟩ := r.ob i t e
    refine ⟨v, h1, h2.move kp (fun a z => .inl z) fun p n => ⟨rfl, fun u z => by rw [List.nil_append] at z ⊢; rw [upd_ne (ne e n)]; exact z⟩, fun p n => ?_⟩
    have h4' : upd q.H0 x (.ins C dx fs) (o i p) = none := h3 p n
    show upd q.H0 x _ (o i p) = none
    rw [upd_ne (ne e n)] at h4' ⊢
    exact h4'
abbrev FI := List Str → List PyData → En → Rz (List Str × List PyData)
def IPost (K : PySem.W.Frag) (q : Bs) (x C : Addr) (k : Hp → Prop) (r : List Str × List PyData) : Prop := ∀ H' dx vs2, Same (upd q.H0 x (.ins C dx (r.1.zip vs2))) H' → r.1.length = vs2.length → RpA K H' (fun c => q.O0 c ∨ c = x) vs2 r.2 → k H'
def tDIs (K : PySem.W.Frag) (q : Bs) (x C : Addr) (g : FI) : TS := fun D σ H => ∃ env o dx ns vs ds, RS K (insB q x (.ins C dx (ns.zip vs))) H env σ o ∧ ns.length = vs.length ∧
  RpA K H (Ex (insB q x (.ins C dx (ns.zip vs))) env o) vs ds ∧ Pz K q (g ns ds env) (IPost K q x C fun H' => ∀ σ', D.nx σ' H')
def DIs (X : Cx) (q : Bs) (x C : Addr) (sts : List Stmt) (g : FI) : Prop := PSs X sts (tDIs X.K q x C g)
section
variable {X : Cx} {q : Bs} {x C : Addr} {e : Expr} {st : Stmt} {rest : List Stmt} {f : FE} {g1 : FS} {g : FI} {L : List Nat} {pos p p' : Pos}
@[simp] def gI0 (ns : List Str) (ds : List PyData) (_ : En) : Rz (List Str × List PyData) := .ok (ns, ds)
theorem dis_nil : DIs X q x C [] gI0 := PSs.wk pss_nil fun D σ H ⟨env, o, dx, ns, vs, ds, R, hl, ra, h⟩ => h H dx vs R.ext hl (ra.less fun a z => .inl z) σ
@[simp] def gSeqI (g1 : FS) (g : FI) (ns : List Str) (ds : List PyData) (env : En) : Rz (List Str × List PyData) := (g1 env).bind fun r => match r with
  | .nx e => g ns ds e
  | _ => .st
theorem dis_cons (hx : q.H0 x = none) (h1 : ∀ u, DS X (insB q x u) st g1) (h2 : DIs X q x C rest g) : DIs X q x C (st :: rest) (gSeqI g1 g) :=
  PSs.wk (pss_cons (t := fun D σ H => ∃ u, tDS X.K (insB q x u) g1 D σ H) ⟨fun pins s σ H Q I ⟨u, y⟩ => (h1 u).run pins s σ H Q I y⟩ h2) fun D σ H ⟨env, o, dx, ns, vs, ds, R, hl, ra, h⟩ => by
    refine ⟨_, env, o, R, (pz_ins hx h.bind).imp fun r _ h => ?_⟩
    cases r with
    | nx e => exact fun σ' H' o' R' p => ⟨e, o', dx, ns, vs, ds, R', hl, p.all ra, h⟩
    | rt d => exact False.elim h
    | rto es => exact False.elim h
    | rtn d => exact False.elim h
    | rtx d e => exact False.elim h
    | bk e => exact False.elim h
    | ct e => exact False.elim h
/-- self.f = e -/
@[simp] def gSt (n : Str) (f : FE) (L : List Nat) (g : FI) (ns : List Str) (ds : List PyData) (env : En) : Rz (List Str × List PyData) := match (frees L env)[0]? with
  | some Sl.exn => (f env).bind fun d => if (noFA n (ns.map .str) && decide (ns.length < 100)) = true then g (ns ++ [n]) (ds ++ [d]) (frees L env) else .st
  | _ => .st
theorem dis_st {n self : Str} (hx : q.H0 x = none) (hc : Cls X.K C) (hn : NoAttr X.K C n) (he : ∀ u, DE X (insB q x u) e f L) (h2 : DIs X q x C rest g)
    (hN : X.N[0]? = some self := by rfl) (hv : Vis X.env.scope self := by first | exact Or.inl rfl | exact Or.inr (Or.inl rfl) | exact Or.inr (Or.inr rfl)) (hd : (self == ("__debug__" : Str)) = false := by decide) (hcd : (self == ("__classdict__" : Str)) = false := by decide)
    (hs : swapsWith e (some (.Attribute (.Name self p) n p')) pos.line X.env = pure false := by rfl) : DIs X q x C (.Assign [.Attribute (.Name self p) n p'] e pos :: rest) (gSt n f L g) :=
  PSs.wk (pss_cons (ps_fld (pe_var hN hv hd hcd) (tv := fun σ H Q => ∃ u, tD X.K (insB q x u) f L σ H Q) ⟨fun pins s σ H Q I ⟨u, y⟩ => (he u).run pins s σ H Q I y⟩ hs) h2) fun D σ H ⟨env, o, dx, ns, vs, ds, R, hl, ra, h⟩ => by
    unfold gSt at h
    split at h
    case h_2 => exact False.elim h
    rename_i q0
    refine ⟨_, env, o, R, (pz_ins hx h.bind).imp fun d _ h y H1 s1 r1 => ?_⟩
    split at h
    case isFalse => exact False.elim h
    rename_i hz
    rw [Bool.and_eq_true, decide_eq_true_iff] at hz
    have R1 := (R.frees L).same s1
    obtain ⟨a, ha, hσ⟩ := R1.exn 0 q0
    have ea : x = a := Option.some.inj ha
    subst ea
    have hxx : H1 x = some (.ins C dx (ns.zip vs)) := R1.ext _ _ upd_same
    have ez := zip_put (v := y) hl hz.1
    obtain ⟨R2, kp⟩ := R1.store (C' := C) (dx' := dx) (fs' := (ns ++ [n]).zip (vs ++ [y]))
    refine ⟨.ref x, hσ, x, C, dx, _, rfl, hxx, hc, hn, by rw [List.length_zip]; omega, ?_⟩
    rw [ez]
    refine ⟨frees L env, o, dx, ns ++ [n], vs ++ [y], ds ++ [d], R2, by rw [List.length_append, List.length_append, hl]; rfl, ?_, h⟩
    refine RpA.append ?_ (.one ?_)
    · exact Rp.moveA kp (fun a z => .inl z) _ _ ((ra.less fun a z => ex_frees z).same s1)
    · exact Rp.move kp (fun a z => .inl z) _ _ r1
end
end DL
namespace DL
open PySem PySem.Spec PyProof.Rows L2
abbrev FMk := List PyData → Rz (List Str × List PyData)
/-! lists that are lent: read by a def while it runs, the caller's own before and after -/
def RpM (K : PySem.W.Frag) (H : Hp) (O : Addr → Prop) (m : List Bool) (vs : List V) (ds : List PyData) : Prop := vs.length = ds.length ∧ ∀ (i : Nat) (v : V) (d : PyData), vs[i]? = some v → ds[i]? = some d → (m.getD i false = true → RpB K H O v d) ∧ (m.getD i false = false → Rp K H O v d)
theorem RpM.nil {K : PySem.W.Frag} {H : Hp} {O : Addr → Prop} {m : List Bool} : RpM K H O m [] [] := ⟨rfl, fun i v d e _ => by simp at e⟩
theorem RpM.cons {K : PySem.W.Frag} {H : Hp} {O : Addr → Prop} {m : List Bool} {c : Bool} {v : V} {vs : List V} {d : PyData} {ds : List PyData} (h1 : (c = true → RpB K H O v d) ∧ (c = false → Rp K H O v d)) (h : RpM K H O m vs ds) : RpM K H O (c :: m) (v :: vs) (d :: ds) := by
  refine ⟨by rw [List.length_cons, List.length_cons, h.1], fun i w e q1 q2 => ?_⟩
  cases i with
  | zero => cases q1; cases q2; simpa using h1
  | succ i =>
    have := h.2 i w e (by simpa using q1) (by simpa using q2)
    simpa using this
theorem RpM.of {K : PySem.W.Frag} {H : Hp} {O : Addr → Prop} : ∀ {vs : List V} {ds : List PyData}, RpA K H O vs ds → RpM K H O [] vs ds := fun {vs ds} r => ⟨r.length, fun i v d q1 q2 => by
  obtain ⟨w, h1, h2⟩ := r.get q2
  rw [q1] at h1; cases h1
  simpa using h2⟩
theorem RpM.mv {K : PySem.W.Frag} {H H' : Hp} {O O' : Addr → Prop} {m : List Bool} {vs : List V} {ds : List PyData} (s : Same H H') (k : ∀ a, O' a → O a ∨ H a = none) (h : RpM K H O m vs ds) : RpM K H' O' m vs ds :=
  ⟨h.1, fun i v d q1 q2 => ⟨fun c => ((h.2 i v d q1 q2).1 c).mv s k, fun c => Rp.move (.of_same s) k _ _ ((h.2 i v d q1 q2).2 c)⟩⟩
@[simp] def slM : Bool → PyData → Sl
  | true, .list es => .bor es
  | true, .dict ((.none, .bool _) :: _) => .no
  | _, d => .val d
@[simp] def slsM : List Bool → List PyData → List Sl
  | _, [] => []
  | [], d :: ds => .val d :: slsM [] ds
  | m :: ms, d :: ds => slM m d :: slsM ms ds
theorem slsM_len : ∀ (m : List Bool) (ds : List PyData), (slsM m ds).length = ds.length
  | m, [] => by cases m <;> rfl
  | [], d :: ds => by unfold slsM; rw [List.length_cons, List.length_cons, slsM_len]
  | m :: ms, d :: ds => by unfold slsM; rw [List.length_cons, List.length_cons, slsM_len]
theorem slM_or (m : Bool) (d : PyData) : (slM m d = .val d ∧ (m = false ∨ ((∀ es, d ≠ .list es) ∧ ∀ m kvs, d ≠ dkM m kvs))) ∨ (m = true ∧ ∃ es, d = .list es ∧ slM m d = .bor es) ∨ slM m d = .no := by
  cases m with
  | false => exact .inl ⟨by cases d <;> rfl, .inl rfl⟩
  | true =>
    unfold slM
    split
    · exact .inr (.inl ⟨rfl, _, rfl, rfl⟩)
    · exact .inr (.inr rfl)
    · rename_i h1 h2
      exact .inl ⟨rfl, .inr ⟨fun es z => h1 es rfl z, fun m kvs z => h2 m kvs rfl z⟩⟩
theorem slsM_get : ∀ (m : List Bool) (ds : List PyData) (i : Nat) (s : Sl), (slsM m ds)[i]? = some s → s = .no ∨ ∃ d, ds[i]? = some d ∧ ((s = .val d ∧ (m.getD i false = false ∨ ((∀ es, d ≠ .list es) ∧ ∀ m kvs, d ≠ dkM m kvs))) ∨ (m.getD i false = true ∧ ∃ es, d = .list es ∧ s = .bor es))
  | m, [], i, s, h => by cases m <;> simp [slsM] at h
  | [], d :: ds, 0, s, h => by
    unfold slsM at h; simp at h; subst h
    exact .inr ⟨d, rfl, .inl ⟨rfl, .inl rfl⟩⟩
  | [], d :: ds, i + 1, s, h => by
    unfold slsM at h
    rw [List.getElem?_cons_succ] at h
    rcases slsM_get [] ds i s h with z | ⟨d', h1, h2⟩
    · exact .inl z
    · exact .inr ⟨d', by simpa using h1, by simpa using h2⟩
  | m :: ms, d :: ds, 0, s, h => by
    unfold slsM at h; simp at h; subst h
    rcases slM_or m d with z | z | z
    · exact .inr ⟨d, rfl, .inl (by simpa using z)⟩
    · exact .inr ⟨d, rfl, .inr (by simpa using z)⟩
    · exact .inl z
  | m :: ms, d :: ds, i + 1, s, h => by
    unfold slsM at h
    rw [List.getElem?_cons_succ] at h
    rcases slsM_get ms ds i s h with z | ⟨d', h1, h2⟩
    · exact .inl z
    · exact .inr ⟨d', by simpa using h1, by simpa using h2⟩
/-- the ground of a def whose caller lends lists -/
def qB (K : PySem.W.Frag) (H : Hp) (O : Addr → Prop) (E : XK) (cls : Str → Value) : Bs := ⟨H, O, E, cls, none, fun v ds => RpB K H O v (.list ds)⟩
theorem pz_bq {α : Type} {K : PySem.W.Frag} {H : Hp} {O : Addr → Prop} {E : XK} {c : Str → Value} {r : Rz α} {P : α → Prop} (h : Pz K ⟨H, O, E, c, none, noBq⟩ r P) : Pz K (qB K H O E c) r P := by
  cases r with
  | ok a => exact h
  | ex x => exact h
  | st => exact h
section
variable {X : Cx} {b : Bs} {e : Expr} {es : List Expr} {f : FE} {fs : FA} {L La Lb : List Nat} {pos p : Pos} {m : List Bool}
def tDM (K : PySem.W.Frag) (b : Bs) (m : List Bool) (f : FA) (L : List Nat) : TA := fun σ H Q => ∃ env o, RS K b H env σ o ∧
  Pz K b (f env) fun ds => ∀ vs H', Same H H' → RpM K H' (Ex b (frees L env) o) m vs ds → Q vs H'
def DM (X : Cx) (b : Bs) (m : List Bool) (es : List Expr) (f : FA) (L : List Nat) : Prop := PA X es (tDM X.K b m f L)
theorem dm_of (h : DA X b es fs L) : DM X b [] es fs L := PA.wk h fun σ H Q ⟨env, o, R, h⟩ => ⟨env, o, R, h.imp fun ds _ h vs H' s r => h vs H' s (.of r)⟩
theorem dm_nil : DM X b m [] aNil [] := PA.wk pa_nil fun σ H Q ⟨_, _, _, h⟩ => h [] H (.refl H) .nil
theorem dm_v (h1 : DE X b e f La) (h2 : DM X b m es fs Lb) (hs : starEach (e :: es) X.env = (false, eval e X.env) :: starEach es X.env := by rfl) : DM X b (false :: m) (e :: es) (aCons f fs) (La ++ Lb) :=
  PA.wk (pa_cons h1 h2 hs) fun σ H Q ⟨env, o, R, h⟩ => ⟨env, o, R, h.bind.imp fun x _ h v H1 s1 r1 => ⟨env, o, R.same s1, h.bind.imp fun xs _ h vs H2 s2 r2 =>
    h (v :: vs) H2 (s1.trans s2) (.cons ⟨fun z => (by cases z), fun _ => (r1.same s2).less fun a z => (ex_frees_app z).1⟩ (r2.mv (.refl _) fun a z => .inl (ex_frees_app z).2))⟩⟩
theorem dm_b (h1 : DB X b e f La) (h2 : DM X b m es fs Lb) (hs : starEach (e :: es) X.env = (false, eval e X.env) :: starEach es X.env := by rfl) : DM X b (true :: m) (e :: es) (aCons f fs) (La ++ Lb) :=
  PA.wk (pa_cons h1 h2 hs) fun σ H Q ⟨env, o, R, h⟩ => ⟨env, o, R, h.bind.imp fun x _ h v H1 s1 r1 => ⟨env, o, R.same s1, h.bind.imp fun xs _ h vs H2 s2 r2 =>
    h (v :: vs) H2 (s1.trans s2) (.cons ⟨fun _ => r1.move s2 fun a z => (ex_frees_app z).1, fun z => (by cases z)⟩ (r2.mv (.refl _) fun a z => .inl (ex_frees_app z).2))⟩⟩
theorem ex_h0 {K : PySem.W.Frag} {H : Hp} {env : En} {σ : L2.St} {o : Nat → List Nat → Addr} (R : RS K b H env σ o) : ∀ a, Ex b env o a → b.O0 a ∨ b.H0 a = none := by
  rintro a (z | ⟨i, s, p, e, n, rfl⟩)
  · exact .inl z
  · exact .inr (R.new e n)
/-- a name that holds a lent list -/
@[simp] def cBo (i : Nat) (env : En) : Rz PyData := match env[i]? with
  | some (.bor ds) => .ok (.list ds)
  | some (.val d) => .ok d
  | _ => .st
theorem db_b (i : Nat) {x : Str} (hN : X.N[i]? = some x := by rfl) (hv : Vis X.env.scope x := by first | exact Or.inl rfl | exact Or.inr (Or.inl rfl) | exact Or.inr (Or.inr rfl)) (hd : (x == ("__debug__" : Str)) = false := by decide)
    (hcd : (x == ("__classdict__" : Str)) = false := by decide) : DB X b (.Name x pos) (cBo i) [] := PE.wk (pe_var hN hv hd hcd) fun σ H Q ⟨env, o, R, q⟩ => by
  unfold cBo at q
  split at q
  · rename_i ds e
    obtain ⟨v, h1, h2⟩ := R.bor i ds e
    exact ⟨v, h1, q _ _ (.refl H) ((R.bqk v ds h2).mv R.ext (ex_h0 R))⟩
  · rename_i d e
    obtain ⟨v, h1, h2⟩ := R.val i d e
    exact ⟨v, h1, q _ _ (.refl H) (.inl h2)⟩
  · exact False.elim q
theorem wk_seq {K : PySem.W.Frag} {a : Addr} {xs : List V} {H0 : Hp} (hs : SqL K H0 a xs) : Walk (Itl K a) xs.length (fun H => Same H0 H) (fun i H x H' => Same H H' ∧ xs[i]? = some x) :=
  ⟨fun i H hi s => ⟨xs, xs[i], s.seq hs, by simp [hi]⟩, fun H s => ⟨xs, s.seq hs, Nat.le_refl _⟩, fun i H x H' hi s y => by
    obtain ⟨e, y⟩ := y
    subst e
    exact ⟨.refl _, y xs (s.seq hs)⟩⟩
/-- for t in x, x a lent list -/
@[simp] def sForB (t : En → PyData → Rz En) (i : Nat) (body : FS) (env : En) : Rz Rs := match env[i]? with
  | some (.bor ds) => forD t body ds env
  | _ => .st
theorem ds_forB {tg : Expr} {body : List Stmt} {t : En → PyData → Rz En} {i : Nat} {g : FS} {x : Str} (F : Fx X b) (hg : DG X b tg t) (hb : DSs X b body g) (hN : X.N[i]? = some x := by rfl) (hv : Vis X.env.scope x := by first | exact Or.inl rfl | exact Or.inr (Or.inl rfl) | exact Or.inr (Or.inr rfl)) (hd : (x == ("__debug__" : Str)) = false := by decide)
    (hcd : (x == ("__classdict__" : Str)) = false := by decide) (hs : ∀ y, foldedSetIterable (.Name x p) X.env y = pure y := by intro _; rfl) : DS X b (.For tg (.Name x p) body [] pos) (sForB t i g) :=
  PS.wk (ps_for F.own F.calm (pi_list (pe_var hN hv hd hcd)) hg hb hs) fun D σ H ⟨env, o, R, h⟩ => by
  unfold sForB at h
  split at h
  case h_2 => exact False.elim h
  rename_i ds q
  obtain ⟨v, h1, h2⟩ := R.bor i ds q
  obtain ⟨a, xs, rfl, hS, hA⟩ := (R.bqk v ds h2).sqL
  refine ⟨_, h1, a, rfl, ⟨xs, R.ext.seq hS⟩, ?_⟩
  have hl := hA.length
  refine for_it (wk_seq hS) (fun i σ H => ∃ env o, RS X.K b H env σ o ∧ Pz X.K b (forD t g (ds.drop i) env) (Post X.K b H (Ex b env o) D)) ⟨env, o, R, h⟩ (fun i σ H _ ⟨env, o, R, _⟩ => R.ext) ?_ ?_
  · rintro i x σ H H' hlt ⟨env, o, R, h⟩ ⟨s2, hx⟩
    obtain ⟨d, hd, r⟩ := hA.get' hx
    have e : ds.drop i = d :: ds.drop (i + 1) := by
      obtain ⟨hl, e⟩ := List.getElem?_eq_some_iff.mp hd
      rw [List.drop_eq_getElem_cons hl, e]
    rw [e] at h
    have p2 : Per X.K H (Ex b env o) H' (Ex b env o) := .same s2 fun a z => .inl z
    have R' := R.same s2
    refine ⟨env, o, d, R', Rp.move (.of_same R'.ext) (ex_h0 R') _ _ r, (Pz.bind h).imp fun env1 _ h σ1 H3 o1 R3 p3 => ⟨env1, o1, R3, h.bind.imp fun r _ h => ?_⟩⟩
    have go : ∀ {e2 : En}, Pz X.K b (forD t g (ds.drop (i + 1)) e2) (Post X.K b H (Ex b env o) D) →
        Cont X.K b H3 (Ex b env1 o1) (fun σ H => ∃ env o, RS X.K b H env σ o ∧ Pz X.K b (forD t g (ds.drop (i + 1)) env) (Post X.K b H (Ex b env o) D)) e2 :=
      fun {e2} h σ' H' o' R' p' => ⟨e2, o', R', h.imp fun r _ h => Post.chain ((p2.trans p3).trans p') h⟩
    cases r with
    | nx e2 => exact go h
    | ct e2 => exact go h
    | bk e2 => exact Post.chain (r := .nx e2) (p2.trans p3) h
    | rt d => exact h
    | rto ds => exact h
    | rtn d => exact h
    | rtx d e => exact Post.chain (r := .rtx d e) (p2.trans p3) h
  · rintro σ H ⟨env, o, R, h⟩
    rw [hl, List.drop_length] at h
    exact h σ H o R .refl
end
def spI (K : PySem.W.Frag) (cls : Str → Value) (C : Addr) (m : List Bool) (n : Nat) (g : FMk) : Sp := fun vs H Q E => ∃ (H0 : Hp) (O : Addr → Prop) (x dx : Addr) (vs' : List V) (ds : List PyData),
  vs = .ref x :: vs' ∧ H0 x = none ∧ H = upd H0 x (.ins C dx []) ∧ (∀ c, O c → ∃ u, H0 c = some u) ∧ ds.length + 1 = n ∧ RpM K H0 O m vs' ds ∧
  Pz K (qB K H0 O E cls) (g ds) (IPost K (qB K H0 O E cls) x C (Q .non))
@[simp] def initI (N : Nat) (m : List Bool) (ds : List PyData) : En := Sl.exn :: (slsM m ds ++ List.replicate (N - ds.length - 1) Sl.no)
@[simp] def runI (N : Nat) (m : List Bool) (g : FI) (ds : List PyData) : Rz (List Str × List PyData) := g [] [] (initI N m ds)
theorem init_rsI {K : PySem.W.Frag} {q : Bs} {N : List Str} {m : List Bool} {x : Addr} {u : HO} {vs : List V} {ds : List PyData} (hn : ds.length + 1 ≤ N.length) (hx : q.H0 x = none) (r : RpM K q.H0 q.O0 m vs ds) (ho : ∀ c, q.O0 c → ∃ u, q.H0 c = some u)
    (hq : ∀ v ds, q.bq v ds ↔ RpB K q.H0 q.O0 v (.list ds)) : RS K (insB q x u) (upd q.H0 x u) (initI N.length m ds) (start N (.ref x :: vs)) o00 := by
  have hl := r.1
  have cas : ∀ (i : Nat) (s : Sl), (initI N.length m ds)[i]? = some s → (i = 0 ∧ s = Sl.exn) ∨ (s = Sl.no) ∨ (∃ j d, i = j + 1 ∧ ds[j]? = some d ∧ ((s = .val d ∧ (m.getD j false = false ∨ ((∀ es, d ≠ .list es) ∧ ∀ m kvs, d ≠ dkM m kvs))) ∨ (m.getD j false = true ∧ ∃ es, d = .list es ∧ s = .bor es))) := by
    intro i s h
    cases i with
    | zero => cases h; exact .inl ⟨rfl, rfl⟩
    | succ i =>
      unfold initI at h
      rw [List.getElem?_cons_succ] at h
      by_cases hi : i < ds.length
      · rw [List.getElem?_append_left (by rw [slsM_len]; exact hi)] at h
        rcases slsM_get m ds i s h with z | ⟨d, h1, h2⟩
        · exact .inr (.inl z)
        · exact .inr (.inr ⟨i, d, rfl, h1, h2⟩)
      · rw [List.getElem?_append_right (by rw [slsM_len]; omega), List.getElem?_replicate] at h
        split at h
        · cases h; exact .inr (.inl rfl)
        · cases h
  have nonode : ∀ {i : Nat} {s : Sl} {p : List Nat}, (initI N.length m ds)[i]? = some s → ¬ s.node p := fun {i s p} h n => by
    rcases cas i _ h with ⟨_, rfl⟩ | rfl | ⟨_, _, _, _, ⟨rfl, _⟩ | ⟨_, _, _, rfl⟩⟩ <;> exact n
  have no : ∀ {i : Nat} {s : Sl} {P : Prop}, (initI N.length m ds)[i]? = some s → (s ≠ .exn) → (s ≠ .no) → (∀ d, s ≠ .val d) → (∀ d, s ≠ .bor d) → P := fun {i s P} h h1 h2 h3 h4 => by
    rcases cas i _ h with ⟨_, e⟩ | e | ⟨_, _, _, _, ⟨e, _⟩ | ⟨_, _, _, e⟩⟩
    · exact absurd e h1
    · exact absurd e h2
    · exact absurd e (h3 _)
    · exact absurd e (h4 _)
  have le : ∀ c, Ex (insB q x u) (initI N.length m ds) o00 c → q.O0 c ∨ q.H0 c = none := by
    rintro c ((z | z) | ⟨i, s, p, e, n, _⟩)
    · exact .inl z
    · exact .inr (by rw [z]; exact hx)
    · exact (nonode e n).elim
  have at_ : ∀ {j : Nat} {d : PyData}, ds[j]? = some d → ∃ v, vs[j]? = some v ∧ (start N (.ref x :: vs))[j + 1]? = some (some v) := fun {j d} ed => by
    have hj : j < vs.length := by rw [hl]; exact (List.getElem?_eq_some_iff.mp ed).1
    refine ⟨vs[j], List.getElem?_eq_getElem hj, ?_⟩
    unfold L2.start
    rw [List.getElem?_append_left (by rw [List.length_map, List.length_cons]; omega), List.getElem?_map, List.getElem?_cons_succ, List.getElem?_eq_getElem hj]
    rfl
  refine ⟨by simp [initI, L2.start, hl, slsM_len]; omega, fun i d h => ?_, fun i fs h => (nonode (p := []) h rfl).elim, fun i j s s' p p' h _ n _ _ => (nonode h n).elim, .refl _, fun a z => ?_, fun i h => ?_, fun i d h => no h (fun z => nomatch z) (fun z => nomatch z) (fun _ z => nomatch z) (fun _ z => nomatch z), fun a ha es h => (nonode (p := []) h rfl).elim, fun i es h => ?_, fun v es z => ?_, fun i t h => no h (fun z => nomatch z) (fun z => nomatch z) (fun _ z => nomatch z) (fun _ z => nomatch z), fun j i p t h _ _ => no h (fun z => nomatch z) (fun z => nomatch z) (fun _ z => nomatch z) (fun _ z => nomatch z), fun a ha t h => no h (fun z => nomatch z) (fun z => nomatch z) (fun _ z => nomatch z) (fun _ z => nomatch z)⟩
  · rcases cas i _ h with ⟨_, e⟩ | e | ⟨j, d', ei, ed, ⟨e, hm⟩ | ⟨_, _, _, e⟩⟩
    · cases e
    · cases e
    · cases e
      subst ei
      obtain ⟨v, h1, h2⟩ := at_ ed
      refine ⟨v, h2, Rp.move (.of_same (same_upd hx)) le _ _ ?_⟩
      rcases hm with hm | hm
      · exact (r.2 j v d h1 ed).2 hm
      · cases c : m.getD j false with
        | false => exact (r.2 j v d h1 ed).2 c
        | true => exact ((r.2 j v d h1 ed).1 c).rp hm.1 hm.2
    · cases e
  · rcases z with z | z
    · obtain ⟨w, hw⟩ := ho a z
      refine ⟨w, ?_⟩
      show upd q.H0 x u a = _
      rw [upd_ne (fun e => by rw [e, hx] at hw; cases hw)]; exact hw
    · exact ⟨u, by subst z; exact upd_same⟩
  · rcases cas i _ h with ⟨e, _⟩ | e | ⟨_, _, _, _, ⟨e, _⟩ | ⟨_, _, _, e⟩⟩
    · subst e
      exact ⟨x, rfl, by unfold L2.start; rfl⟩
    · cases e
    · cases e
    · cases e
  · rcases cas i _ h with ⟨_, e⟩ | e | ⟨j, d', ei, ed, ⟨e, _⟩ | ⟨hm, es', e1, e⟩⟩
    · cases e
    · cases e
    · cases e
    · cases e
      subst ei e1
      obtain ⟨v, h1, h2⟩ := at_ ed
      exact ⟨v, h2, (hq _ _).mpr ((r.2 j v _ h1 ed).1 hm)⟩
  · refine ((hq _ _).mp z).mv (same_upd hx) fun a z => ?_
    rcases z with z | z
    · exact .inl z
    · exact .inr (by rw [z]; exact hx)
section
variable {P : Program} {w : World} {K : PySem.W.Frag} {mg : Str → Option Value} {base : Heap}
theorem fn_I {cls : Str → Value} {x qual : Str} {st : Stmt} {f C : Addr} {fd : FuncData} {N ps : List Str} {k : Nat} {m : List Bool} {g : FI} (F : Fun K x qual st f fd) (S : FnScope N ps (defScope st)) (hn : ps.length ≤ N.length)
    (hbody : ∀ (cdv : Value) (A : Around) (outer : List Env) (s : Shared) (H H0 : Hp) (E : XK) (O : Addr → Prop) (a : Addr), Room k (A.deeper (envOfC qual (defScope st) s.heap.objs.size f cdv)) → H0 a = none →
      (∀ u, Fx (cxOf (L2.CX P w) P w K mg base N qual (defScope st) f cdv A outer s H E) (insB (qB K H0 O E cls) a u)) →
      DIs (cxOf (L2.CX P w) P w K mg base N qual (defScope st) f cdv A outer s H E) (qB K H0 O E cls) a C (defBody st) g) {nN nP : Nat} (eN : N.length = nN := by rfl) (eP : ps.length = nP := by rfl) :
    FnOk P w K mg base (L2.CX P w) (k + 1) f fd ps (spI K cls C m nP (runI nN m g)) := by
  subst eN eP
  refine F.okX S (fun vs H Q E h => ?_) (fun cdv A outer s H vs Q E hr h => ?_)
  · obtain ⟨H0, O, a, dx, vs', ds, e, _, _, _, hl, r, _⟩ := h
    rw [e, List.length_cons, r.1, hl]
  · obtain ⟨H0, O, a, dx, vs', ds, e, hx, eH, ho, hl, r, h⟩ := h
    subst e eH
    refine ⟨_, hbody cdv A outer s _ H0 E O a hr hx (fun u => ⟨rfl, takes_of rfl rfl rfl rfl, passes_of rfl, by have := hr.un; show (A.deeper (envOfC qual (defScope st) s.heap.objs.size f cdv)).units + 100 < cLine; omega⟩), ?_⟩
    have R : RS K (insB (qB K H0 O E cls) a (.ins C dx [])) (upd H0 a (.ins C dx [])) (initI N.length m ds) (start N (.ref a :: vs')) o00 := init_rsI (q := qB K H0 O E cls) (by omega) hx r ho (fun _ _ => Iff.rfl)
    exact ⟨_, _, dx, [], [], [], R, rfl, .nil, h.imp fun r _ h H' dx' vs2 s' l2 r2 σ' => h H' dx' vs2 s' l2 r2⟩
/-- a class that makes instances -/
def FnI (P : Program) (w : World) (K : PySem.W.Frag) (mg : Str → Option Value) (base : Heap) (cls : Str → Value) (x : Str) (C : Addr) (m : List Bool) (k : Nat) (ps : List Str) (g : FMk) : Prop :=
  ∃ f fd, mg x = some (.ref C) ∧ Mk K C f ∧ FnOk P w K mg base (L2.CX P w) k f fd ps (spI K cls C m ps.length g) ∧ ∀ us : List Value, us.length = ps.length → bindArgs fd ⟨us, []⟩ = pure (ps.zip us)
/-- how a method stands in the written part -/
def MtAt (K : PySem.W.Frag) (C : Addr) (m qual : Str) (st : Stmt) : Prop := ∃ f fd, Meth K C m f ∧ Fun K m qual st f fd
def InAt (K : PySem.W.Frag) (C : Addr) (qual : Str) (st : Stmt) : Prop := ∃ f fd, Mk K C f ∧ Fun K "__init__" qual st f fd
theorem FnI.mk {cls : Str → Value} {x qual : Str} {st : Stmt} {C : Addr} {N ps : List Str} {k : Nat} {m : List Bool} {g : FI} (S : FnScope N ps (defScope st)) (hm : mg x = some (.ref C)) (At : InAt K C qual st)
    (hbody : ∀ (cdv : Value) (A : Around) (outer : List Env) (s : Shared) (H H0 : Hp) (E : XK) (O : Addr → Prop) (f a : Addr), Room k (A.deeper (envOfC qual (defScope st) s.heap.objs.size f cdv)) → H0 a = none →
      (∀ u, Fx (cxOf (L2.CX P w) P w K mg base N qual (defScope st) f cdv A outer s H E) (insB (qB K H0 O E cls) a u)) →
      DIs (cxOf (L2.CX P w) P w K mg base N qual (defScope st) f cdv A outer s H E) (qB K H0 O E cls) a C (defBody st) g)
    (hb : ∀ (kV doc pm : Value) (an : Option Addr) (cdv ct : Value) (us : List Value), us.length = ps.length → bindArgs (PySem.W.fnOf "__init__" qual (defArgs st) (defBody st) (defScope st) .none kV doc pm an cdv ct) ⟨us, []⟩ = pure (ps.zip us))
    {nN : Nat} (eN : N.length = nN := by rfl) (hn : ps.length ≤ N.length := by decide) : FnI P w K mg base cls x C m (k + 1) ps (runI nN m g) := by
  subst eN
  obtain ⟨f, fd, M, F⟩ := At
  refine ⟨f, fd, hm, M, fn_I F S hn fun cdv A outer s H H0 E O a hr hx hF => hbody cdv A outer s H H0 E O f a hr hx hF, ?_⟩
  obtain ⟨oc, od, kV, doc, pm, an, cdv, ct, osl, rfl, lk, hcd⟩ := F.ex
  exact hb kV doc pm an cdv ct
theorem FnM.mk {cls : Str → Value} {m qual : Str} {st : Stmt} {C : Addr} {N ps : List Str} {k : Nat} {body : FS} (S : FnScope N ps (defScope st)) (At : MtAt K C m qual st)
    (hbody : ∀ (cdv : Value) (A : Around) (outer : List Env) (s : Shared) (H : Hp) (E : XK) (O : Addr → Prop) (f : Addr), Room k (A.deeper (envOfC qual (defScope st) s.heap.objs.size f cdv)) →
      Fx (cxOf (L2.CX P w) P w K mg base N qual (defScope st) f cdv A outer s H E) ⟨H, O, E, cls, none, noBq⟩ →
      DSs (cxOf (L2.CX P w) P w K mg base N qual (defScope st) f cdv A outer s H E) ⟨H, O, E, cls, none, noBq⟩ (defBody st) body)
    (hb : ∀ (kV doc pm : Value) (an : Option Addr) (cdv ct : Value) (us : List Value), us.length = ps.length → bindArgs (PySem.W.fnOf m qual (defArgs st) (defBody st) (defScope st) .none kV doc pm an cdv ct) ⟨us, []⟩ = pure (ps.zip us))
    {nN : Nat} (eN : N.length = nN := by rfl) (hn : ps.length ≤ N.length := by decide) : FnM P w K mg base cls C m (k + 1) ps (runF nN body) := by
  subst eN
  obtain ⟨f, fd, M, F⟩ := At
  refine ⟨f, fd, M, fn_D F S hn fun cdv A outer s H E O hr hF => hbody cdv A outer s H E O f hr hF, ?_⟩
  obtain ⟨oc, od, kV, doc, pm, an, cdv, ct, osl, rfl, lk, hcd⟩ := F.ex
  exact hb kV doc pm an cdv ct
end
section
variable {X : Cx} {b : Bs} {e : Expr} {es : List Expr} {fs : FA} {L : List Nat} {pos p : Pos} {j n : Nat} {ps : List Str} {g : FMk} {x : Str} {C : Addr}
@[simp] def cMake (C : Nat) (g : FMk) (fs : FA) (env : En) : Rz PyData := (fs env).bind fun ds => (g ds).bind fun r => .ok (insD C r.1 r.2)
theorem de_make (F : Fx X b) {m : List Bool} (G : FnI X.prog X.w X.K X.mg X.base b.cls x C m j ps g) (hr : Room (j + 1) X.A) (hg : Gl X x) (ha : DM X b m (e :: es) fs L) (hn : ∀ env ds, fs env = .ok ds → ds.length = n) (hl : n + 1 = ps.length := by rfl)
    (hdb : (x == ("__debug__" : Str)) = false := by decide) (he : starEach (e :: es) X.env = (false, eval e X.env) :: starEach es X.env := by rfl) (hpl : (backTo pos (starEach es X.env)).any (·.1) = false := by rfl) :
    DE X b (.Call (.Name x p) (e :: es) [] pos) (cMake C g fs) L := by
  obtain ⟨f, fd, hm, M, G, hb⟩ := G
  refine PE.wk (pe_make (E := fun c d H => b.xw c d H) M G hr hg hm (.all hb) .nil (passes_all F) ha hdb he hpl) fun σ H Q ⟨env, o, R, h⟩ => ⟨env, o, R, h.bind.imp fun ds qd h vs H1 s1 r1 y dy ny nd ne => ?_⟩
  have R1 := (R.frees L).same s1
  have s2 : Same H1 (upd H1 dy (.own y)) := same_upd nd
  have ny2 : upd H1 dy (.own y) y = none := by rw [upd_ne (Ne.symm ne)]; exact ny
  refine ⟨upd H1 dy (.own y), Ex b (frees L env) o, y, dy, vs, ds, by rw [List.append_nil], ny2, rfl, fun c z => (R1.same s2).dom z, by rw [hn _ _ qd, hl], r1.mv s2 (fun a z => .inl z), ?_⟩
  refine pz_bq (pz_call (σ := σ) (W := fun c d _ H => b.xw c d H) (R1.same s2).ext (fun _ _ _ z => z) h.bind fun r h H' dx' vs2 s' l2 r2 => ⟨rfl, ?_⟩)
  have s3 : Same H1 H' := s2.trans ((same_upd ny2).trans s')
  refine h (.ref y) H' (s1.trans s3) (.ins (s' y _ upd_same) (fun z => ?_) l2 (r2.less fun _ z => .inl z))
  obtain ⟨u, hu⟩ := R1.dom z
  rw [ny] at hu; cases hu
end
end DL
/-! Loops over a range that changes the slots on the way; defs that call themselves; the law's end where the law's function knows classes. -/
namespace DL
open PySem PySem.Spec PyProof.Rows L2
section
variable {X : Cx} {b : Bs} {e e1 e2 : Expr} {es : List Expr} {f : FE} {fx : FX} {xs : FXA} {L : List Nat} {pos p p' : Pos}
theorem dx_tup {k : Nat} (h : DXA X b es xs) : DX X b (.Tuple es k pos) (xTup xs) :=
  PE.wk (pe_tup h) fun σ H Q ⟨env, o, R, h⟩ => ⟨env, o, R, h.bind.imp fun r _ h vs H1 o1 R1 p1 r1 => by
    split at h
    · rename_i hz
      refine ⟨by rw [r1.length]; exact Nat.le_trans hz million, fun q hq => h _ _ o1 (R1.same (same_upd hq)) (p1.trans (.same (same_upd hq) fun a z => .inl z)) (.tup (.inl upd_same) (r1.same (same_upd hq)))⟩
    · exact False.elim h⟩
/-- return e where the caller does not keep a list -/
@[simp] def sRetY (f : FX) (env : En) : Rz Rs := (f env).bind fun r => .ok (.rt r.1)
theorem ds_retY (he : DX X b e fx) : DS X b (.Return (some e) pos) (sRetY fx) := PS.wk (ps_ret he) fun D σ H ⟨env, o, R, h⟩ => ⟨env, o, R, h.bind.imp fun d _ h v H1 o1 R1 p1 r1 =>
  h v H1 R1.ext (r1.less fun a z => .inl z)⟩
/-! for over what changes the slots -/
abbrev FXI := En → Rz (List PyData × En)
def tDIX (K : PySem.W.Frag) (b : Bs) (f : FXI) : TI := fun σ H R => ∃ env o, RS K b H env σ o ∧ Pz K b (f env) fun r => ∀ J G H' o', RS K b H' r.2 σ o' → Per K H (Ex b env o) H' (Ex b r.2 o') → Wk K J r.1 G → G H' (Ex b r.2 o') → R J H'
def DIX (X : Cx) (b : Bs) (tg it : Expr) (f : FXI) : Prop := PI X tg it (tDIX X.K b f)
@[simp] def iX1 (f : FX) (env : En) : Rz (List PyData × En) := (f env).bind fun r => match r.1 with
  | .int j => if -(2 ^ 62) ≤ j ∧ j < 2 ^ 62 then .ok (intsD 0 j.toNat, r.2) else .st
  | _ => .st
theorem dix_r1 {tg : Expr} (hg : Gl X "range") (hm : X.mg "range" = none) (h : DX X b e fx) (hs : starEach [e] X.env = [(false, eval e X.env)] := by rfl) : DIX X b tg (.Call (.Name "range" p) [e] [] pos) (iX1 fx) :=
  PI.wk (pi_range1 hg hm (pa_cons h pa_nil hs) hs) fun σ H Q ⟨env, o, R, h⟩ => ⟨env, o, R, h.bind.imp fun r _ h v H1 o1 R1 p1 r1 => by
    obtain ⟨d, env1⟩ := r
    cases d with
    | int j =>
      replace h : Pz X.K b (if -(2 ^ 62) ≤ j ∧ j < 2 ^ 62 then Rz.ok (intsD 0 j.toNat, env1) else Rz.st) _ := h
      split at h
      · rename_i hz
        cases r1.int_of
        exact ⟨_, rfl, hz.1, hz.2, h _ _ H1 o1 R1 p1 wk_range True.intro⟩
      · exact False.elim h
    | _ => exact False.elim h⟩
@[simp] def sForX (t : En → PyData → Rz En) (f : FXI) (body : FS) (env : En) : Rz Rs := (f env).bind fun r => forD t body r.1 r.2
theorem ds_forX {tg it : Expr} {body : List Stmt} {t : En → PyData → Rz En} {fi : FXI} {g : FS} (F : Fx X b) (hi : DIX X b tg it fi) (hg : DG X b tg t) (hb : DSs X b body g)
    (hs : ∀ x, foldedSetIterable it X.env x = pure x := by intro _; rfl) : DS X b (.For tg it body [] pos) (sForX t fi g) :=
  PS.wk (ps_for F.own F.calm hi hg hb hs) fun D σ H ⟨env, o, R, h⟩ => ⟨env, o, R, h.bind.imp fun r _ h J G H1 o1 R1 p1 w g0 => by
  obtain ⟨ds, env1⟩ := r
  have h1 : Pz X.K b (forD t g ds env1) (Post X.K b H1 (Ex b env1 o1) D) := h.imp fun r _ h => Post.chain p1 h
  refine for_it w.wk (fun i σ H => ∃ env o, RS X.K b H env σ o ∧ G H (Ex b env o) ∧ Pz X.K b (forD t g (ds.drop i) env) (Post X.K b H (Ex b env o) D))
    ⟨env1, o1, R1, g0, h1⟩ (fun i σ H _ ⟨env, o, _, g, _⟩ => ⟨_, g⟩) ?_ ?_
  · rintro i x σ H H' hlt ⟨env, o, R, g0, h⟩ ⟨s2, y⟩
    obtain ⟨d, hd, r⟩ := y _ g0
    have e : ds.drop i = d :: ds.drop (i + 1) := by
      obtain ⟨hl, e⟩ := List.getElem?_eq_some_iff.mp hd
      rw [List.drop_eq_getElem_cons hl, e]
    rw [e] at h
    have p2 : Per X.K H (Ex b env o) H' (Ex b env o) := .same s2 fun a z => .inl z
    refine ⟨env, o, d, R.same s2, r, (Pz.bind h).imp fun env1 _ h σ1 H3 o1 R3 p3 => ⟨env1, o1, R3, h.bind.imp fun r _ h => ?_⟩⟩
    have go : ∀ {e2 : En}, Pz X.K b (forD t g (ds.drop (i + 1)) e2) (Post X.K b H (Ex b env o) D) →
        Cont X.K b H3 (Ex b env1 o1) (fun σ H => ∃ env o, RS X.K b H env σ o ∧ G H (Ex b env o) ∧ Pz X.K b (forD t g (ds.drop (i + 1)) env) (Post X.K b H (Ex b env o) D)) e2 :=
      fun {e2} h σ' H' o' R' p' => ⟨e2, o', R', w.per _ _ _ _ ((p2.trans p3).trans p') g0, h.imp fun r _ h => Post.chain ((p2.trans p3).trans p') h⟩
    cases r with
    | nx e2 => exact go h
    | ct e2 => exact go h
    | bk e2 => exact Post.chain (r := .nx e2) (p2.trans p3) h
    | rt d => exact h
    | rto ds => exact h
    | rtn d => exact h
    | rtx d e => exact Post.chain (r := .rtx d e) (p2.trans p3) h
  · rintro σ H ⟨env, o, R, g0, h⟩
    rw [List.drop_length] at h
    exact h σ H o R .refl⟩
/-! a def that calls itself: at the lowest level nothing is said -/
theorem dss_never {sts : List Stmt} : DSs X b sts sNever := ⟨fun pins s σ H Q I ⟨_, _, _, h⟩ => False.elim h⟩
end
/-! ### the law's end: its function may know where classes stand -/
open Classical in
noncomputable def lawG : FF := fun ds => if (∃ ns : List Int, ns.length ≤ 63 ∧ ds = [.list (ns.map .int)]) then .ok (.val (.bool true)) else .st
theorem lawG_true (ns : List Int) (h : ns.length ≤ 63) : lawG [.list (ns.map .int)] = .ok (.val (.bool true)) := if_pos ⟨ns, h, rfl⟩
theorem fn_lawG {P : Program} {w : World} {K : PySem.W.Frag} {mg : Str → Option Value} {base : Heap} {cls : Str → Value} {k : Nat} {f : Addr} {fd : FuncData} {ps : List Str} {g : FF} (h : FnOk P w K mg base (L2.CX P w) k f fd ps (spD K cls 1 g))
    (hg : ∀ ns : List Int, ns.length ≤ 63 → g [.list (ns.map .int)] = .ok (.val (.bool true))) : FnOk P w K mg base (L2.CX P w) k f fd ps (spD K cls 1 lawG) := by
  have sub : ∀ vs H Q E, spD K cls 1 lawG vs H Q E → spD K cls 1 g vs H Q E := fun vs H Q E ⟨O, ds, ho, hl, r, z⟩ => by
    refine ⟨O, ds, ho, hl, r, ?_⟩
    unfold lawG at z
    split at z
    · rename_i q
      obtain ⟨ns, h1, rfl⟩ := q
      rw [hg ns h1]; exact z
    · exact False.elim z
  exact ⟨fun vs H Q E z => h.len vs H Q E (sub _ _ _ _ z), fun A outer s H args us vs Q E hr e0 hb hv z => h.run A outer s H args us vs Q E hr e0 hb hv (sub _ _ _ _ z)⟩
end DL
/-! a tuple times a number: 1 gives the tuple itself -/
namespace DL
open PySem PySem.Spec PyProof.Rows L2
theorem tuple_mul1 (l : Addr) (items : Array Value) (n : Nat) (dd : Option Addr) (sl : Array (Option Value)) (u : Tok) :
    Meets (Builtin.«tuple.__mul__» { pos := [Value.ref l, Value.int 1 u] }) fun _ R s => s.heap.get? l = some { cls := Value.type "tuple", dict := dd, data := Data.seq items n, slots := sl } ∧ R (Except.ok (Flow.ret (Value.ref l))) s := by
  intro prog w A R s ⟨h, hr⟩
  show wpAny _ _ (asIndex (Value.int 1 u) >>= _) _ _ s
  have e : asIndex (Value.int 1 u) = pure 1 := rfl
  rw [e, pure_bind]
  refine wpAny_bind ?_
  refine wpAny_tupleItemsOf h rfl ?_
  have c : (items.isEmpty || (1 : Int) == 1) = true := by rw [show ((1 : Int) == 1) = true from rfl, Bool.or_true]
  dsimp only
  rw [if_pos c]
  refine wpAny_bind ?_
  unfold Builtin.Tuple.tupleIsExact
  refine wpAny_bind (wpAny_typeOf (T := "tuple") ⟨_, h, rfl⟩ ?_)
  refine wpAny_pure ?_
  rw [if_pos (by rfl)]
  refine wpAny_bind (wpAny_rule ?_)
  exact wpAny_pure hr
theorem op_rep1 {X : Cx} : OpR X (binaryOp .Mult) (fun x y H Q => ∃ l xs, x = .ref l ∧ y = .int 1 ∧ SqT X.K H l xs ∧ Q (.ref l) H) := by
  intro pins s σ H x y v u Q I rx ry h
  obtain ⟨l, xs, rfl, rfl, hS, q⟩ := h
  cases rx
  obtain ⟨t, rfl⟩ := ry
  have ob : ∃ dd items n sl, s.heap.get? l = some { cls := Value.type "tuple", dict := dd, data := Data.seq items n, slots := sl } := by
    rcases hS with h | ⟨ob, its, n, h1, h2, h3, h4⟩
    · have z := h.ok I.hok
      obtain ⟨_, _, _, ob, b1, b2, n, b3⟩ := z
      obtain ⟨c, dd, dt, sl⟩ := ob
      cases b2; cases b3
      exact ⟨_, _, _, _, b1⟩
    · have e := I.kIn l _ h1
      obtain ⟨c, dd, dt, sl⟩ := ob
      cases h2; cases h3
      exact ⟨_, _, _, _, e⟩
  obtain ⟨dd, items, n, sl, e⟩ := ob
  refine wpAny_binaryOp_repeat_ref (T := "tuple") (U := "int") (id := "tuple.__mul__") (idr := "int.__rmul__") rfl ⟨_, e, rfl⟩ (fun s' => rfl) noFill_tuple_mul PySem.F.fills_int_mul PySem.F.slot_int_rmul repeat_tuple (ix := .builtin "int.__index__") PySem.F.slot_int_index.1 ?_
  refine PySem.call_meets PySem.F.slot_int_rmul rfl PySem.F.entry_int_rmul (PySem.F.args_int_rmul_2 _ _) (int_rmul_tuple 1 t l items n dd sl) ⟨e, rfl, ⟨_, e, rfl⟩, ?_⟩
  refine PySem.call_meets PySem.F.slot_tuple_mul ⟨_, e, rfl⟩ PySem.F.entry_tuple_mul (PySem.F.args_tuple_mul_2 _ _) (tuple_mul1 l items n dd sl t) ⟨e, ?_⟩
  exact ⟨.ref l, H, I, rfl, q⟩
abbrev rMulAny (K : PySem.W.Frag) : R2 := fun x y H Q => (fun x y H Q => rI CMul (fun i j => .int (i * j)) x y H Q ∨ rRepT K x y H Q) x y H Q ∨ (fun x y H Q => ∃ l xs, x = .ref l ∧ y = .int 1 ∧ SqT K H l xs ∧ Q (.ref l) H) x y H Q
theorem opr_mul {X : Cx} : OpR X (binaryOp .Mult) (rMulAny X.K) := (op_mul.or op_repT).or op_rep1
@[simp] def gMul : PyData → PyData → Option PyData
  | .int i, .int j => (kMul i j).map .int
  | .tuple xs, .int k => if k = 1 then some (.tuple xs) else if 2 ≤ k ∧ k ≤ 1000 ∧ xs.length ≤ 1000 ∧ xs ≠ [] then some (.tuple (repA k.toNat xs)) else none
  | _, _ => none
theorem opd_mulT {K : PySem.W.Frag} : OpD K (rMulAny K) gMul := by
  intro H O x y dx dy d Q ho rx ry e q
  unfold gMul at e
  split at e
  · rename_i i j
    exact .inl (.inl (opd_mul (K := K) H O x y (.int i) (.int j) d Q ho rx ry e q))
  · rename_i xs k
    obtain ⟨a, vs, rfl, ha, ra⟩ := rx.sqT
    cases ry.int_of
    split at e
    · rename_i h1
      cases e
      subst h1
      exact .inr ⟨a, vs, rfl, rfl, ha, q _ _ (.refl H) rx⟩
    · split at e
      · rename_i h1 h2
        cases e
        obtain ⟨h2, h3, h4, h5⟩ := h2
        refine .inl (.inr ⟨a, k, vs, rfl, rfl, ha, fun z => ?_, h2, h3, by rw [ra.length]; exact h4, fun p hp => ?_⟩)
        · subst z
          exact h5 (List.length_eq_zero_iff.mp ra.length.symm)
        · have s := same_upd (u := .tup (List.replicate k.toNat vs).flatten) hp
          exact q _ _ s (.tup (.inl upd_same) ((rpa_rep ra k.toNat).same s))
      · cases e
  · cases e
end DL
/-! sums, greatest and least of lists and tuples of ints; max, min of three -/
namespace DL
open PySem PySem.Spec PyProof.Rows L2

def intsOf : List PyData → Option (List Int)
  | [] => some []
  | .int i :: ds => (intsOf ds).map (i :: ·)
  | _ :: _ => none
theorem intsOf_eq : ∀ {ds : List PyData} {ns : List Int}, intsOf ds = some ns → ds = ns.map .int
  | [], ns, h => by cases h; rfl
  | d :: ds, ns, h => by
    cases d with
    | int i =>
      replace h : (intsOf ds).map (i :: ·) = some ns := h
      cases q : intsOf ds with
      | none => rw [q] at h; cases h
      | some ms => rw [q] at h; cases h; rw [intsOf_eq q]; rfl
    | _ => cases h
@[simp] theorem intsOf_map : ∀ ns : List Int, intsOf (ns.map .int) = some ns
  | [] => rfl
  | n :: ns => by show (intsOf (ns.map .int)).map (n :: ·) = _; rw [intsOf_map ns]; rfl
theorem rpa_ints {K : PySem.W.Frag} {H : Hp} {O : Addr → Prop} : ∀ {vs : List V} {ns : List Int}, RpA K H O vs (ns.map .int) → vs = ns.map V.int
  | _, [], h => by cases h; rfl
  | _, n :: ns, h => by
    cases h with
    | cons a t => rw [a.int_of, rpa_ints t]; rfl
section
variable {prog : Program} {w : World} {A : Around} {E : Value → Shared → Prop} {s : Shared} {l : Addr}
theorem iter_intTup {xs : Array (Int × Tok)} {Q : Value → Shared → Prop} (hl : s.heap.IsTuple l (intItems xs))
    (h : ∀ s₂ : Shared, s₂ = { s with heap := s.heap.push { cls := .type "tuple_iterator", data := .fields #[.ref l, .int 0 0] } } →
      (s₂.heap.IsTupleIter s.heap.objs.size l 0 ∧ s₂.heap.IsTuple l (intItems xs)) → (∀ b ∈ [s.heap.objs.size, l], b < s₂.heap.objs.size) → l ≠ s.heap.objs.size → Q (.ref s.heap.objs.size) s₂) :
    wpAny (model prog w) A (pyIter (.ref l)) Q E s := by
  have hlt : l < s.heap.objs.size := by obtain ⟨_, e, _⟩ := hl; exact Heap.lt_size e
  refine wpAny_pyIter_tuple hl (h _ rfl ⟨⟨_, Heap.get?_push_size _ rfl, rfl, rfl⟩, hl.push _⟩ (fun b hb => ?_) (Nat.ne_of_lt hlt))
  show b < (s.heap.push _).objs.size
  rw [Heap.size_push]
  rcases List.mem_cons.mp hb with rfl | hb
  · exact Nat.lt_succ_self _
  · rcases List.mem_cons.mp hb with rfl | hb
    · exact Nat.lt_succ_of_lt hlt
    · cases hb
theorem old_keptT {h' : Heap} (hk : ∀ b o, b ∉ [s.heap.objs.size] → (s.heap.push { cls := .type "tuple_iterator", data := .fields #[.ref l, .int 0 0] }).get? b = some o → h'.get? b = some o) :
    ∀ b o, s.heap.get? b = some o → h'.get? b = some o := fun b o e => by
  refine hk b o (fun hm => ?_) (Heap.get?_push_of_some _ e)
  rcases List.mem_cons.mp hm with e1 | hm
  · exact absurd (e1 ▸ Heap.lt_size e) (Nat.lt_irrefl _)
  · cases hm
theorem sum_tupRaw {its : List Value} {ns : List Int} {Q : Value → Shared → Prop} (hh : A.handled = none) (hl : s.heap.IsTuple l its.toArray) (hi : IntsAre its ns)
    (h : ∀ h' tk t', (∀ b o, s.heap.get? b = some o → h'.get? b = some o) → Q (.int ns.sum t') { s with heap := h', toks := tk }) : wpAny (model prog w) A (call (.builtin "sum") [.ref l]) Q E s := by
  obtain ⟨xs, e⟩ := hi.allInts.items
  have hn : numsOf (intItems xs).toList = ns := by rw [← e]; exact hi.numsOf
  rw [nums_intItems] at hn
  rw [e] at hl
  refine call_sum_walkG (iter_intTup hl fun s₂ e st hfp hne => ?_)
  subst e
  refine ⟨_, _, _, _, _, _, numAt xs, rfl, Walks.tuple (A := A.in1) hh _ l hne (intItems xs), st, hfp, (fun _ _ => intItems_at), fun h' tk t' hk => ?_⟩
  have := h h' tk t' (old_keptT hk)
  rw [← hn] at this
  rw [show (intItems xs).size = xs.size by simp [intItems], preSum_eq, List.take_of_length_le (by simp)]
  exact this
theorem max_tupRaw {its : List Value} {ns : List Int} {Q : Value → Shared → Prop} (hh : A.handled = none) (hl : s.heap.IsTuple l its.toArray) (hi : IntsAre its ns) (hne : 0 < ns.length)
    (h : ∀ h' tk M t', (∀ b o, s.heap.get? b = some o → h'.get? b = some o) → M ∈ ns → (∀ a, a ∈ ns → a ≤ M) → Q (.int M t') { s with heap := h', toks := tk }) : wpAny (model prog w) A (call (.builtin "max") [.ref l]) Q E s := by
  obtain ⟨xs, e⟩ := hi.allInts.items
  have hn : numsOf (intItems xs).toList = ns := by rw [← e]; exact hi.numsOf
  rw [nums_intItems] at hn
  subst hn
  rw [e] at hl
  have hsz : 0 < xs.size := by simpa using hne
  refine call_max_walk (iter_intTup hl fun s₂ e st hfp hne2 => ?_)
  subst e
  refine ⟨_, _, _, _, _, _, _, rfl, Walks.tuple (A := A.in1) hh _ l hne2 (intItems xs), st, hfp, by simpa [intItems] using hsz, CmpOf.ints_gt (numAt xs) (fun _ _ => intItems_at), fun v h' tk hP hk => ?_⟩
  have hv : (intItems xs)[argBest (fun i j => decide (numAt xs i > numAt xs j)) (xs.size - 1)]? = some v := by simpa [intItems] using hP
  obtain ⟨t, rfl⟩ := intItems_at hv
  obtain ⟨h1, h2⟩ := argBest_gt (numAt xs) (xs.size - 1)
  refine h h' tk _ t (old_keptT hk) ?_ fun a ha => ?_
  · rw [numAt_eq]; exact PySem.getD_mem (by rw [List.length_map, Array.length_toList]; omega)
  · obtain ⟨j, hj, rfl⟩ := mem_getD ha
    rw [List.length_map, Array.length_toList] at hj
    rw [← numAt_eq]; exact h2 j (by omega)
theorem min_tupRaw {its : List Value} {ns : List Int} {Q : Value → Shared → Prop} (hh : A.handled = none) (hl : s.heap.IsTuple l its.toArray) (hi : IntsAre its ns) (hne : 0 < ns.length)
    (h : ∀ h' tk M t', (∀ b o, s.heap.get? b = some o → h'.get? b = some o) → M ∈ ns → (∀ a, a ∈ ns → M ≤ a) → Q (.int M t') { s with heap := h', toks := tk }) : wpAny (model prog w) A (call (.builtin "min") [.ref l]) Q E s := by
  obtain ⟨xs, e⟩ := hi.allInts.items
  have hn : numsOf (intItems xs).toList = ns := by rw [← e]; exact hi.numsOf
  rw [nums_intItems] at hn
  subst hn
  rw [e] at hl
  have hsz : 0 < xs.size := by simpa using hne
  refine call_min_walk (iter_intTup hl fun s₂ e st hfp hne2 => ?_)
  subst e
  refine ⟨_, _, _, _, _, _, _, rfl, Walks.tuple (A := A.in1) hh _ l hne2 (intItems xs), st, hfp, by simpa [intItems] using hsz, CmpOf.ints_lt (numAt xs) (fun _ _ => intItems_at), fun v h' tk hP hk => ?_⟩
  have hv : (intItems xs)[argBest (fun i j => decide (numAt xs i < numAt xs j)) (xs.size - 1)]? = some v := by simpa [intItems] using hP
  obtain ⟨t, rfl⟩ := intItems_at hv
  obtain ⟨h1, h2⟩ := argBest_lt (numAt xs) (xs.size - 1)
  refine h h' tk _ t (old_keptT hk) ?_ fun a ha => ?_
  · rw [numAt_eq]; exact PySem.getD_mem (by rw [List.length_map, Array.length_toList]; omega)
  · obtain ⟨j, hj, rfl⟩ := mem_getD ha
    rw [List.length_map, Array.length_toList] at hj
    rw [← numAt_eq]; exact h2 j (by omega)
/-! max, min of three -/
theorem args_max3 (a b c : Value) : argsOk "max" ⟨[a, b, c], []⟩ := by unfold argsOk; kernel_rfl
theorem args_min3 (a b c : Value) : argsOk "min" ⟨[a, b, c], []⟩ := by unfold argsOk; kernel_rfl
theorem max_three {i j k : Int} {t u v : Tok} {Q : Value → Shared → Prop} (hh : A.handled = none)
    (h : ∀ h' tk M t', (∀ b o, s.heap.get? b = some o → h'.get? b = some o) → M ∈ [i, j, k] → (∀ a, a ∈ [i, j, k] → a ≤ M) → Q (.int M t') { s with heap := h', toks := tk }) :
    wpAny (model prog w) A (call (.builtin "max") [.int i t, .int j u, .int k v]) Q E s := by
  have hname : (toString "max" ++ toString ".loop" : String) = "max.loop" := by decide
  have hT : (s.heap.push { cls := .type "tuple", data := .seq #[.int i t, .int j u, .int k v] }).IsTuple s.heap.objs.size (intItems #[(i, t), (j, u), (k, v)]) := ⟨_, Heap.get?_push_size _ rfl, rfl, 0, by simp [intItems]⟩
  refine call_function_tree F.kind_max F.plain_max F.entry_max (args_max3 _ _ _) ?_
  show wpAny _ A.in1 (Builtin.Builtins.bindParams "max" ["key", "default"] 0 ⟨[], []⟩ >>= _) _ _ s
  refine wpAny_bind (wpAny_of_eq (show Builtin.Builtins.bindParams "max" ["key", "default"] 0 ⟨[], []⟩ = pure [none, none] from rfl) ?_)
  show wpAny _ A.in1 (newTuple [_, _, _] >>= _) _ _ s
  refine wpAny_bind (wpAny_newObj_type ?_)
  refine wpAny_bind (iter_intTup hT fun s₂ e st hfp hne2 => ?_)
  subst e
  refine wpAny_bind (wpAny_newObj_type ?_)
  rw [hname]
  have W := Walks.tuple (prog := prog) (w := w) (A := A.in1) hh (s.heap.push { cls := .type "tuple", data := .seq #[.int i t, .int j u, .int k v] }).objs.size s.heap.objs.size hne2 (intItems #[(i, t), (j, u), (k, v)])
  refine wpAny_pure ⟨plainId_quiet F.plain_max_loop _, codeAny_max_loop_first W _ (CmpOf.ints_gt (numAt #[(i, t), (j, u), (k, v)]) (fun _ _ => intItems_at)) _ (fun hm => Nat.lt_irrefl _ (hfp _ hm)) (by simp [intItems]) (W.frame _ _ _ st fun b _ o e => Heap.get?_push_of_some _ e) (Heap.get?_push_size _ rfl) fun x h' tk hP hk => ?_⟩
  have hv : (intItems #[(i, t), (j, u), (k, v)])[argBest (fun a b => decide (numAt #[(i, t), (j, u), (k, v)] a > numAt #[(i, t), (j, u), (k, v)] b)) 2]? = some x := by simpa [intItems] using hP
  obtain ⟨t', rfl⟩ := intItems_at hv
  obtain ⟨h1, h2⟩ := argBest_gt (numAt #[(i, t), (j, u), (k, v)]) 2
  have n0 : numAt #[(i, t), (j, u), (k, v)] 0 = i := rfl
  have n1 : numAt #[(i, t), (j, u), (k, v)] 1 = j := rfl
  have n2 : numAt #[(i, t), (j, u), (k, v)] 2 = k := rfl
  refine h h' tk _ t' (fun b o e => ?_) ?_ fun a ha => ?_
  · have e1 := Heap.get?_push_of_some { cls := .type "tuple", data := .seq #[Value.int i t, .int j u, .int k v] } e
    have e2 := Heap.get?_push_of_some { cls := .type "tuple_iterator", data := .fields #[Value.ref s.heap.objs.size, .int 0 0] } e1
    refine hk b o (fun hm => ?_) (fun q => ?_) (Heap.get?_push_of_some _ e2)
    · rcases List.mem_cons.mp hm with e3 | hm
      · exact absurd (e3 ▸ Heap.lt_size e1) (Nat.lt_irrefl _)
      · cases hm
    · subst q; exact Nat.lt_irrefl _ (Heap.lt_size e2)
  · rcases (show argBest (fun a b => decide (numAt #[(i, t), (j, u), (k, v)] a > numAt #[(i, t), (j, u), (k, v)] b)) 2 = 0 ∨ argBest (fun a b => decide (numAt #[(i, t), (j, u), (k, v)] a > numAt #[(i, t), (j, u), (k, v)] b)) 2 = 1 ∨ argBest (fun a b => decide (numAt #[(i, t), (j, u), (k, v)] a > numAt #[(i, t), (j, u), (k, v)] b)) 2 = 2 by omega) with e | e | e
    · rw [e, n0]; simp
    · rw [e, n1]; simp
    · rw [e, n2]; simp
  · simp only [List.mem_cons, List.not_mem_nil, or_false] at ha
    rcases ha with rfl | rfl | rfl
    · have := h2 0 (by omega); rw [n0] at this; exact this
    · have := h2 1 (by omega); rw [n1] at this; exact this
    · have := h2 2 (by omega); rw [n2] at this; exact this
theorem min_three {i j k : Int} {t u v : Tok} {Q : Value → Shared → Prop} (hh : A.handled = none)
    (h : ∀ h' tk M t', (∀ b o, s.heap.get? b = some o → h'.get? b = some o) → M ∈ [i, j, k] → (∀ a, a ∈ [i, j, k] → M ≤ a) → Q (.int M t') { s with heap := h', toks := tk }) :
    wpAny (model prog w) A (call (.builtin "min") [.int i t, .int j u, .int k v]) Q E s := by
  have hname : (toString "min" ++ toString ".loop" : String) = "min.loop" := by decide
  have hT : (s.heap.push { cls := .type "tuple", data := .seq #[.int i t, .int j u, .int k v] }).IsTuple s.heap.objs.size (intItems #[(i, t), (j, u), (k, v)]) := ⟨_, Heap.get?_push_size _ rfl, rfl, 0, by simp [intItems]⟩
  refine call_function_tree F.kind_min F.plain_min F.entry_min (args_min3 _ _ _) ?_
  show wpAny _ A.in1 (Builtin.Builtins.bindParams "min" ["key", "default"] 0 ⟨[], []⟩ >>= _) _ _ s
  refine wpAny_bind (wpAny_of_eq (show Builtin.Builtins.bindParams "min" ["key", "default"] 0 ⟨[], []⟩ = pure [none, none] from rfl) ?_)
  show wpAny _ A.in1 (newTuple [_, _, _] >>= _) _ _ s
  refine wpAny_bind (wpAny_newObj_type ?_)
  refine wpAny_bind (iter_intTup hT fun s₂ e st hfp hne2 => ?_)
  subst e
  refine wpAny_bind (wpAny_newObj_type ?_)
  rw [hname]
  have W := Walks.tuple (prog := prog) (w := w) (A := A.in1) hh (s.heap.push { cls := .type "tuple", data := .seq #[.int i t, .int j u, .int k v] }).objs.size s.heap.objs.size hne2 (intItems #[(i, t), (j, u), (k, v)])
  refine wpAny_pure ⟨plainId_quiet F.plain_min_loop _, codeAny_min_loop_first W _ (CmpOf.ints_lt (numAt #[(i, t), (j, u), (k, v)]) (fun _ _ => intItems_at)) _ (fun hm => Nat.lt_irrefl _ (hfp _ hm)) (by simp [intItems]) (W.frame _ _ _ st fun b _ o e => Heap.get?_push_of_some _ e) (Heap.get?_push_size _ rfl) fun x h' tk hP hk => ?_⟩
  have hv : (intItems #[(i, t), (j, u), (k, v)])[argBest (fun a b => decide (numAt #[(i, t), (j, u), (k, v)] a < numAt #[(i, t), (j, u), (k, v)] b)) 2]? = some x := by simpa [intItems] using hP
  obtain ⟨t', rfl⟩ := intItems_at hv
  obtain ⟨h1, h2⟩ := argBest_lt (numAt #[(i, t), (j, u), (k, v)]) 2
  have n0 : numAt #[(i, t), (j, u), (k, v)] 0 = i := rfl
  have n1 : numAt #[(i, t), (j, u), (k, v)] 1 = j := rfl
  have n2 : numAt #[(i, t), (j, u), (k, v)] 2 = k := rfl
  refine h h' tk _ t' (fun b o e => ?_) ?_ fun a ha => ?_
  · have e1 := Heap.get?_push_of_some { cls := .type "tuple", data := .seq #[Value.int i t, .int j u, .int k v] } e
    have e2 := Heap.get?_push_of_some { cls := .type "tuple_iterator", data := .fields #[Value.ref s.heap.objs.size, .int 0 0] } e1
    refine hk b o (fun hm => ?_) (fun q => ?_) (Heap.get?_push_of_some _ e2)
    · rcases List.mem_cons.mp hm with e3 | hm
      · exact absurd (e3 ▸ Heap.lt_size e1) (Nat.lt_irrefl _)
      · cases hm
    · subst q; exact Nat.lt_irrefl _ (Heap.lt_size e2)
  · rcases (show argBest (fun a b => decide (numAt #[(i, t), (j, u), (k, v)] a < numAt #[(i, t), (j, u), (k, v)] b)) 2 = 0 ∨ argBest (fun a b => decide (numAt #[(i, t), (j, u), (k, v)] a < numAt #[(i, t), (j, u), (k, v)] b)) 2 = 1 ∨ argBest (fun a b => decide (numAt #[(i, t), (j, u), (k, v)] a < numAt #[(i, t), (j, u), (k, v)] b)) 2 = 2 by omega) with e | e | e
    · rw [e, n0]; simp
    · rw [e, n1]; simp
    · rw [e, n2]; simp
  · simp only [List.mem_cons, List.not_mem_nil, or_false] at ha
    rcases ha with rfl | rfl | rfl
    · have := h2 0 (by omega); rw [n0] at this; exact this
    · have := h2 1 (by omega); rw [n1] at this; exact this
    · have := h2 2 (by omega); rw [n2] at this; exact this
end
/-! the data -/
def maxI : Int → List Int → Int
  | m, [] => m
  | m, n :: ns => maxI (if n > m then n else m) ns
def minI : Int → List Int → Int
  | m, [] => m
  | m, n :: ns => minI (if n < m then n else m) ns
theorem maxI_spec : ∀ (ns : List Int) (m : Int), (maxI m ns = m ∨ maxI m ns ∈ ns) ∧ m ≤ maxI m ns ∧ ∀ a ∈ ns, a ≤ maxI m ns
  | [], m => ⟨.inl rfl, Int.le_refl _, fun _ h => nomatch h⟩
  | n :: ns, m => by
    obtain ⟨h1, h2, h3⟩ := maxI_spec ns (if n > m then n else m)
    unfold maxI
    refine ⟨?_, ?_, fun a ha => ?_⟩
    · rcases h1 with h1 | h1
      · rw [h1]; split
        · exact .inr (List.mem_cons_self ..)
        · exact .inl rfl
      · exact .inr (List.mem_cons_of_mem _ h1)
    · refine Int.le_trans ?_ h2
      split <;> omega
    · rcases List.mem_cons.mp ha with rfl | ha
      · refine Int.le_trans ?_ h2
        split <;> omega
      · exact h3 a ha
theorem minI_spec : ∀ (ns : List Int) (m : Int), (minI m ns = m ∨ minI m ns ∈ ns) ∧ minI m ns ≤ m ∧ ∀ a ∈ ns, minI m ns ≤ a
  | [], m => ⟨.inl rfl, Int.le_refl _, fun _ h => nomatch h⟩
  | n :: ns, m => by
    obtain ⟨h1, h2, h3⟩ := minI_spec ns (if n < m then n else m)
    unfold minI
    refine ⟨?_, ?_, fun a ha => ?_⟩
    · rcases h1 with h1 | h1
      · rw [h1]; split
        · exact .inr (List.mem_cons_self ..)
        · exact .inl rfl
      · exact .inr (List.mem_cons_of_mem _ h1)
    · refine Int.le_trans h2 ?_
      split <;> omega
    · rcases List.mem_cons.mp ha with rfl | ha
      · refine Int.le_trans h2 ?_
        split <;> omega
      · exact h3 a ha
theorem maxI_uni {m : Int} {ns : List Int} {M : Int} (h1 : M ∈ m :: ns) (h2 : ∀ a ∈ m :: ns, a ≤ M) : M = maxI m ns := by
  obtain ⟨k1, k2, k3⟩ := maxI_spec ns m
  have a : maxI m ns ≤ M := by
    refine h2 _ ?_
    rcases k1 with k1 | k1
    · rw [k1]; exact List.mem_cons_self ..
    · exact List.mem_cons_of_mem _ k1
  have c : M ≤ maxI m ns := by
    rcases List.mem_cons.mp h1 with rfl | h1
    · exact k2
    · exact k3 _ h1
  omega
theorem minI_uni {m : Int} {ns : List Int} {M : Int} (h1 : M ∈ m :: ns) (h2 : ∀ a ∈ m :: ns, M ≤ a) : M = minI m ns := by
  obtain ⟨k1, k2, k3⟩ := minI_spec ns m
  have a : M ≤ minI m ns := by
    refine h2 _ ?_
    rcases k1 with k1 | k1
    · rw [k1]; exact List.mem_cons_self ..
    · exact List.mem_cons_of_mem _ k1
  have c : minI m ns ≤ M := by
    rcases List.mem_cons.mp h1 with rfl | h1
    · exact k2
    · exact k3 _ h1
  omega
@[simp] def seqInts : PyData → Option (List Int)
  | .list ds => intsOf ds
  | .tuple ds => intsOf ds
  | _ => none
@[simp] def gSum (d : PyData) : Option PyData := (seqInts d).map fun ns => .int ns.sum
@[simp] def gMaxL (d : PyData) : Option PyData := (seqInts d).bind fun ns => match ns with | [] => none | m :: ns => some (.int (maxI m ns))
@[simp] def gMinL (d : PyData) : Option PyData := (seqInts d).bind fun ns => match ns with | [] => none | m :: ns => some (.int (minI m ns))
def rSeqI (K : PySem.W.Frag) (C : List Int → Prop) (R : List Int → Int → Prop) : List V → Hp → VK → Prop := fun vs H Q => ∃ (a : Addr) (ns : List Int), vs = [V.ref a] ∧ (SqL K H a (ns.map V.int) ∨ SqT K H a (ns.map V.int)) ∧ C ns ∧ ∀ m, R ns m → Q (.int m) H
section
variable {X : Cx}
theorem cr_sumA (hc : X.calm = true) : CallR X (.builtin "sum") (rSeqI X.K (fun _ => True) fun ns m => m = ns.sum) := by
  intro pins s σ H vs us Q I r h
  obtain ⟨a, ns, rfl, hs, _, q⟩ := h
  rw [Vals.ref1 r]
  rcases hs with hs | hs
  · obtain ⟨its, rv, hl, _⟩ := I.list hs
    exact sum_raw (I.ok.hd hc) hl.isList rv.ints fun h' tk t' hk => ⟨.int _, H, I.kept hk, ⟨_, rfl⟩, q _ rfl⟩
  · obtain ⟨its, rv, hl, _⟩ := I.tuple hs
    exact sum_tupRaw (I.ok.hd hc) hl rv.ints fun h' tk t' hk => ⟨.int _, H, I.kept hk, ⟨_, rfl⟩, q _ rfl⟩
theorem cr_maxA (hc : X.calm = true) : CallR X (.builtin "max") (rSeqI X.K (fun ns => 0 < ns.length) fun ns m => m ∈ ns ∧ ∀ y, y ∈ ns → y ≤ m) := by
  intro pins s σ H vs us Q I r h
  obtain ⟨a, ns, rfl, hs, hne, q⟩ := h
  rw [Vals.ref1 r]
  rcases hs with hs | hs
  · obtain ⟨its, rv, hl, _⟩ := I.list hs
    exact max_raw (I.ok.hd hc) hl.isList rv.ints hne fun h' tk m t' hk h1 h2 => ⟨.int _, H, I.kept hk, ⟨_, rfl⟩, q m ⟨h1, h2⟩⟩
  · obtain ⟨its, rv, hl, _⟩ := I.tuple hs
    exact max_tupRaw (I.ok.hd hc) hl rv.ints hne fun h' tk m t' hk h1 h2 => ⟨.int _, H, I.kept hk, ⟨_, rfl⟩, q m ⟨h1, h2⟩⟩
theorem cr_minA (hc : X.calm = true) : CallR X (.builtin "min") (rSeqI X.K (fun ns => 0 < ns.length) fun ns m => m ∈ ns ∧ ∀ y, y ∈ ns → m ≤ y) := by
  intro pins s σ H vs us Q I r h
  obtain ⟨a, ns, rfl, hs, hne, q⟩ := h
  rw [Vals.ref1 r]
  rcases hs with hs | hs
  · obtain ⟨its, rv, hl, _⟩ := I.list hs
    exact min_raw (I.ok.hd hc) hl.isList rv.ints hne fun h' tk m t' hk h1 h2 => ⟨.int _, H, I.kept hk, ⟨_, rfl⟩, q m ⟨h1, h2⟩⟩
  · obtain ⟨its, rv, hl, _⟩ := I.tuple hs
    exact min_tupRaw (I.ok.hd hc) hl rv.ints hne fun h' tk m t' hk h1 h2 => ⟨.int _, H, I.kept hk, ⟨_, rfl⟩, q m ⟨h1, h2⟩⟩
end
theorem seq_rd {K : PySem.W.Frag} {H : Hp} {O : Addr → Prop} {x : V} {dx : PyData} {ns : List Int} (rx : RpB K H O x dx) (e : seqInts dx = some ns) : ∃ a, x = .ref a ∧ (SqL K H a (ns.map V.int) ∨ SqT K H a (ns.map V.int)) := by
  unfold seqInts at e
  split at e
  · cases intsOf_eq e
    obtain ⟨a, vs, rfl, h1, h2⟩ := rx.sqL
    cases rpa_ints h2
    exact ⟨a, rfl, .inl h1⟩
  · cases intsOf_eq e
    obtain ⟨a, vs, rfl, h1, h2⟩ := rx.sqT
    cases rpa_ints h2
    exact ⟨a, rfl, .inr h1⟩
  · cases e
theorem cad_sum {K : PySem.W.Frag} : CaD K (rSeqI K (fun _ => True) fun ns m => m = ns.sum) gSum := by
  intro H O x dx d Q rx e q
  unfold gSum at e
  cases q1 : seqInts dx with
  | none => rw [q1] at e; cases e
  | some ns =>
    rw [q1] at e; cases e
    obtain ⟨a, rfl, h⟩ := seq_rd rx q1
    exact ⟨a, ns, rfl, h, True.intro, fun m hm => by subst hm; exact q _ _ (.refl H) (.int _)⟩
theorem cad_maxL {K : PySem.W.Frag} : CaD K (rSeqI K (fun ns => 0 < ns.length) fun ns m => m ∈ ns ∧ ∀ y, y ∈ ns → y ≤ m) gMaxL := by
  intro H O x dx d Q rx e q
  unfold gMaxL at e
  cases q1 : seqInts dx with
  | none => rw [q1] at e; cases e
  | some ns =>
    rw [q1] at e
    cases ns with
    | nil => cases e
    | cons m ns =>
      cases e
      obtain ⟨a, rfl, h⟩ := seq_rd rx q1
      exact ⟨a, m :: ns, rfl, h, Nat.zero_lt_succ _, fun M hm => by cases maxI_uni hm.1 hm.2; exact q _ _ (.refl H) (.int _)⟩
theorem cad_minL {K : PySem.W.Frag} : CaD K (rSeqI K (fun ns => 0 < ns.length) fun ns m => m ∈ ns ∧ ∀ y, y ∈ ns → m ≤ y) gMinL := by
  intro H O x dx d Q rx e q
  unfold gMinL at e
  cases q1 : seqInts dx with
  | none => rw [q1] at e; cases e
  | some ns =>
    rw [q1] at e
    cases ns with
    | nil => cases e
    | cons m ns =>
      cases e
      obtain ⟨a, rfl, h⟩ := seq_rd rx q1
      exact ⟨a, m :: ns, rfl, h, Nat.zero_lt_succ _, fun M hm => by cases minI_uni hm.1 hm.2; exact q _ _ (.refl H) (.int _)⟩
/-! three -/
@[simp] def gMax3 : PyData → PyData → PyData → Option PyData
  | .int i, .int j, .int k => some (.int (maxI i [j, k]))
  | _, _, _ => none
@[simp] def gMin3 : PyData → PyData → PyData → Option PyData
  | .int i, .int j, .int k => some (.int (minI i [j, k]))
  | _, _, _ => none
@[simp] def c3 (g : PyData → PyData → PyData → Option PyData) (f1 f2 f3 : FE) (env : En) : Rz PyData := (f1 env).bind fun x => (f2 env).bind fun y => (f3 env).bind fun z => Rz.of (g x y z)
theorem call_max3 {X : Cx} (hc : X.calm = true) : CallR X (.builtin "max") (fun xs H Q => ∃ i j k, xs = [.int i, .int j, .int k] ∧ Q (.int (maxI i [j, k])) H) := by
  intro pins s σ H xs us Q I r h
  obtain ⟨i, j, k, rfl, q⟩ := h
  cases r with
  | cons r1 r =>
    cases r with
    | cons r2 r =>
      cases r with
      | cons r3 r =>
        cases r
        obtain ⟨t, rfl⟩ := r1
        obtain ⟨t2, rfl⟩ := r2
        obtain ⟨t3, rfl⟩ := r3
        exact max_three (I.ok.hd hc) fun h' tk M t' hk h1 h2 => ⟨.int (maxI i [j, k]), H, I.kept hk, ⟨t', by rw [maxI_uni h1 h2]⟩, q⟩
theorem call_min3 {X : Cx} (hc : X.calm = true) : CallR X (.builtin "min") (fun xs H Q => ∃ i j k, xs = [.int i, .int j, .int k] ∧ Q (.int (minI i [j, k])) H) := by
  intro pins s σ H xs us Q I r h
  obtain ⟨i, j, k, rfl, q⟩ := h
  cases r with
  | cons r1 r =>
    cases r with
    | cons r2 r =>
      cases r with
      | cons r3 r =>
        cases r
        obtain ⟨t, rfl⟩ := r1
        obtain ⟨t2, rfl⟩ := r2
        obtain ⟨t3, rfl⟩ := r3
        exact min_three (I.ok.hd hc) fun h' tk M t' hk h1 h2 => ⟨.int (minI i [j, k]), H, I.kept hk, ⟨t', by rw [minI_uni h1 h2]⟩, q⟩
section
variable {X : Cx} {b : Bs} {e1 e2 e3 : Expr} {f1 f2 f3 : FE} {L1 L2' L3 : List Nat} {x : Str} {p pos : Pos} {id : String} {r : List V → Hp → VK → Prop} {g : Int → List Int → Int}
theorem de_i3 {gd : PyData → PyData → PyData → Option PyData} (hgd : ∀ x y z d, gd x y z = some d → ∃ i j k, x = .int i ∧ y = .int j ∧ z = .int k ∧ d = .int (g i [j, k]))
    (hc : CallR X (.builtin id) (fun xs H Q => ∃ i j k, xs = [.int i, .int j, .int k] ∧ Q (.int (g i [j, k])) H)) (hg : Gl X x) (hm : X.mg x = none) (hv : bootBuiltins x = some (.builtin id)) (h1 : DB X b e1 f1 L1) (h2 : DB X b e2 f2 L2') (h3 : DB X b e3 f3 L3) (hn : x ≠ "__name__" := by decide) (hdb : (x == ("__debug__" : Str)) = false := by decide)
    (he : starEach [e1, e2, e3] X.env = (false, eval e1 X.env) :: starEach [e2, e3] X.env := by rfl) (he2 : starEach [e2, e3] X.env = (false, eval e2 X.env) :: starEach [e3] X.env := by rfl) (he3 : starEach [e3] X.env = (false, eval e3 X.env) :: starEach [] X.env := by rfl) (hpl : (backTo pos (starEach [e2, e3] X.env)).any (·.1) = false := by rfl) :
    DE X b (.Call (.Name x p) [e1, e2, e3] [] pos) (c3 gd f1 f2 f3) [] :=
  PE.wk (pe_callB hc hg hm hv (pa_cons h1 (pa_cons h2 (pa_cons h3 pa_nil he3) he2) he) hn hdb he hpl) fun σ H Q ⟨env, o, R, h⟩ => by
    refine ⟨env, o, R, h.bind.imp fun dx _ h v H1 s1 r1 => ⟨env, o, R.same s1, h.bind.imp fun dy _ h w H2 s2 r2 => ⟨env, o, (R.same s1).same s2, h.bind.imp fun dz _ h u H3 s3 r3 => ?_⟩⟩⟩
    obtain ⟨d, e, h⟩ := h.of
    obtain ⟨i, j, k, rfl, rfl, rfl, rfl⟩ := hgd _ _ _ _ e
    cases (r1.rp fun _ z => nomatch z).int_of
    cases (r2.rp fun _ z => nomatch z).int_of
    cases (r3.rp fun _ z => nomatch z).int_of
    exact ⟨i, j, k, rfl, h _ H3 ((s1.trans s2).trans s3) (.int _)⟩
theorem gmax3 : ∀ x y z d, gMax3 x y z = some d → ∃ i j k, x = .int i ∧ y = .int j ∧ z = .int k ∧ d = .int (maxI i [j, k]) := fun x y z d e => by
  unfold gMax3 at e
  split at e
  · cases e; exact ⟨_, _, _, rfl, rfl, rfl, rfl⟩
  · cases e
theorem gmin3 : ∀ x y z d, gMin3 x y z = some d → ∃ i j k, x = .int i ∧ y = .int j ∧ z = .int k ∧ d = .int (minI i [j, k]) := fun x y z d e => by
  unfold gMin3 at e
  split at e
  · cases e; exact ⟨_, _, _, rfl, rfl, rfl, rfl⟩
  · cases e
end
end DL
namespace DL
open PySem PySem.Spec PyProof.Rows L2
/-! a list display whose items change the slots on the way -/
section
variable {X : Cx} {b : Bs} {es : List Expr} {xs : FXA} {pos : Pos}
@[simp] def xLst (fs : FXA) (env : En) : Rz (PyData × En) := (fs env).bind fun r => if r.1.length ≤ 1000000 then .ok (.list r.1, r.2) else .st
theorem dx_lst (h : DXA X b es xs) : DX X b (.List es pos) (xLst xs) :=
  PE.wk (pe_lst h) fun σ H Q ⟨env, o, R, h⟩ => ⟨env, o, R, h.bind.imp fun r _ h vs H1 o1 R1 p1 r1 => by
    split at h
    · rename_i hz
      refine ⟨by rw [r1.length]; exact Nat.le_trans hz million, fun p hp => h _ _ o1 (R1.same (same_upd hp)) (p1.trans (.same (same_upd hp) fun a z => .inl z)) (.lst (.inl upd_same) (fun z => ?_) (r1.same (same_upd hp)))⟩
      obtain ⟨u, hu⟩ := R1.dom z
      rw [hp] at hu; cases hu
    · exact False.elim h⟩
end
/-! tuple * 0 -/
set_option maxHeartbeats 4000000 in
theorem tuple_mul0 (l : Addr) (items : Array Value) (n : Nat) (dd : Option Addr) (sl : Array (Option Value)) (u : Tok) (c1 : (items.isEmpty || (0 : Int) == 1) = false) :
    Meets (Builtin.«tuple.__mul__» ⟨[.ref l, .int 0 u], []⟩) (fun _ R s => s.heap.get? l = some { cls := .type "tuple", dict := dd, data := .seq items n, slots := sl } ∧
      R (.ok (.ret (Value.ref s.heap.objs.size))) { s with heap := s.heap.push { cls := Value.type "tuple", data := Data.seq #[] }, toks := s.toks }) :=
  .of_wp fun prog w A R s h => by
    obtain ⟨hp, g, d, tk, os⟩ := s
    obtain ⟨hl, h⟩ := h
    have f1 := AutoSeq1.idx_int
    wp_walk using wpAny_loadPart' hl
    refine wpAny_ite_false (decide_eq_false (by rw [c1]; exact Bool.false_ne_true)) ?_
    wp_walk using wpAny_loadPart' hl
    repeat (first
      | (refine wpAny_ite_true (decide_eq_true (by rfl)) ?_; wp_walk using wpAny_loadPart' hl)
      | (refine wpAny_ite_true (by rfl) ?_; wp_walk using wpAny_loadPart' hl))
    exact ⟨_, rfl, h⟩
theorem op_rep0 {X : Cx} : OpR X (binaryOp .Mult) (fun x y H Q => ∃ l xs, x = .ref l ∧ y = .int 0 ∧ SqT X.K H l xs ∧ xs ≠ [] ∧ ∀ p, H p = none → Q (.ref p) (upd H p (.tup []))) := by
  intro pins s σ H x y v u Q I rx ry h
  obtain ⟨l, xs, rfl, rfl, hT, hne, q⟩ := h
  cases rx
  obtain ⟨t, rfl⟩ := ry
  obtain ⟨its, r, ⟨⟨cls, dd, data, sl⟩, ho, hc, n, hd⟩, hs⟩ := I.tuple hT
  simp only at hc hd
  subst hc hd
  have hn : its ≠ [] := fun e => hne (by
    have := r.length
    rw [e] at this
    exact List.length_eq_zero_iff.mp this)
  have c1 : (its.toArray.isEmpty || (0 : Int) == 1) = false := by
    cases its with
    | nil => exact absurd rfl hn
    | cons a as => rfl
  have hf : H s.heap.objs.size = none := I.hok.fresh (Nat.le_refl _)
  refine wpAny_binaryOp_repeat_ref (T := "tuple") (U := "int") (id := "tuple.__mul__") (idr := "int.__rmul__") rfl ⟨_, ho, rfl⟩ (fun s' => rfl) noFill_tuple_mul PySem.F.fills_int_mul PySem.F.slot_int_rmul repeat_tuple (ix := .builtin "int.__index__") PySem.F.slot_int_index.1 ?_
  refine PySem.call_meets PySem.F.slot_int_rmul rfl PySem.F.entry_int_rmul (PySem.F.args_int_rmul_2 _ _) (int_rmul_tuple 0 t l its.toArray n dd sl) ⟨ho, rfl, ⟨_, ho, rfl⟩, ?_⟩
  refine PySem.call_meets PySem.F.slot_tuple_mul ⟨_, ho, rfl⟩ PySem.F.entry_tuple_mul (PySem.F.args_tuple_mul_2 _ _) (tuple_mul0 l its.toArray n dd sl t c1) ⟨ho, ?_⟩
  exact ⟨.ref s.heap.objs.size, upd H s.heap.objs.size (.tup []), I.laid (t' := s.toks) (fun b u e => Heap.get?_push_of_some _ e) (Nat.le_refl _) (show ObjOk _ _ _ _ _ (.tup []) from ⟨Nat.zero_le _, [], .nil, IsTup.new _ _⟩), rfl, q _ hf⟩
abbrev rMulZ (K : PySem.W.Frag) : R2 := fun x y H Q => rMulAny K x y H Q ∨ (fun x y H Q => ∃ l xs, x = .ref l ∧ y = .int 0 ∧ SqT K H l xs ∧ xs ≠ [] ∧ ∀ p, H p = none → Q (.ref p) (upd H p (.tup []))) x y H Q
theorem opr_mulZ {X : Cx} : OpR X (binaryOp .Mult) (rMulZ X.K) := opr_mul.or op_rep0
@[simp] def gMulZ : PyData → PyData → Option PyData
  | .int i, .int j => (kMul i j).map .int
  | .tuple xs, .int k => if k = 0 then (if xs ≠ [] then some (.tuple []) else none) else gMul (.tuple xs) (.int k)
  | _, _ => none
theorem opd_mulZ {K : PySem.W.Frag} : OpD K (rMulZ K) gMulZ := by
  intro H O x y dx dy d Q ho rx ry e q
  unfold gMulZ at e
  split at e
  · exact .inl (opd_mulT H O x y _ _ d Q ho rx ry e q)
  · rename_i xs k
    split at e
    · rename_i hk
      split at e
      · rename_i hn
        cases e
        subst hk
        obtain ⟨a, vs, rfl, ha, ra⟩ := rx.sqT
        cases ry.int_of
        refine .inr ⟨a, vs, rfl, rfl, ha, fun z => hn ?_, fun p hp => q _ _ (same_upd hp) (.tup (.inl upd_same) .nil)⟩
        subst z
        cases ra; rfl
      · cases e
    · exact .inl (opd_mulT H O x y _ _ d Q ho rx ry e q)
  · cases e
end DL
/-! Comprehensions: targets of names and tuples of names; two fors. -/
namespace DL
open PySem PySem.Spec PyProof.Rows L2

/-! ### slots forgotten -/
@[simp] def noS : List Nat → En → En
  | [], env => env
  | v :: vs, env => (noS vs env).set v Sl.no
@[simp] def noOwnS : List Nat → En → Bool
  | [], _ => true
  | v :: vs, env => notOwn v env && noOwnS vs env
theorem noS_own : ∀ {vs : List Nat} {env : En} {j : Nat} {s : Sl}, s ≠ Sl.no → (noS vs env)[j]? = some s → env[j]? = some s
  | [], _, _, _, _, h => h
  | v :: vs, env, j, s, hs, h => by
    unfold noS at h
    by_cases hj : j = v
    · subst hj
      by_cases hl : j < (noS vs env).length
      · rw [List.getElem?_set_self hl] at h; cases h; exact absurd rfl hs
      · rw [List.getElem?_eq_none (by rw [List.length_set]; omega)] at h; cases h
    · rw [List.getElem?_set_ne (Ne.symm hj)] at h; exact noS_own hs h
theorem notOwn_node {i : Nat} {env : En} {s : Sl} {p : List Nat} (h : notOwn i env = true) (e : env[i]? = some s) (n : s.node p) : False := by
  unfold notOwn at h
  rw [e] at h
  cases s <;> first | exact n | exact Bool.false_ne_true h
theorem noS_keep : ∀ {vs : List Nat} {env : En} {j : Nat} {s : Sl} {p : List Nat}, noOwnS vs env = true → env[j]? = some s → s.node p → (noS vs env)[j]? = some s
  | [], _, _, _, _, _, h, _ => h
  | v :: vs, env, j, s, p, hs, h, n => by
    unfold noOwnS at hs
    rw [Bool.and_eq_true] at hs
    have hj : j ≠ v := by
      rintro rfl
      exact notOwn_node hs.1 h n
    unfold noS
    rw [List.getElem?_set_ne (Ne.symm hj)]
    exact noS_keep hs.2 h n
theorem wipe_set {i : Nat} {x : Option V} : ∀ {vs : List Nat} {σ : L2.St}, i ∈ vs → wipe (σ.set i x) vs = wipe σ vs := by
  have out : ∀ (vs : List Nat) (σ : L2.St), i ∉ vs → wipe (σ.set i x) vs = (wipe σ vs).set i x := by
    intro vs
    induction vs with
    | nil => intro σ _; rfl
    | cons v vs ih =>
      intro σ h
      simp only [List.mem_cons, not_or] at h
      unfold wipe
      rw [ih σ h.2, List.set_comm _ _ h.1]
  intro vs
  induction vs with
  | nil => intro σ h; exact nomatch h
  | cons v vs ih =>
    intro σ h
    unfold wipe
    by_cases hv : i ∈ vs
    · rw [ih hv]
    · have e : i = v := by
        rcases List.mem_cons.mp h with e | e
        · exact e
        · exact absurd e hv
      subst e
      rw [out vs σ hv, List.set_set]
theorem wipe_wipe : ∀ (vs : List Nat) (σ : L2.St), wipe (wipe σ vs) vs = wipe σ vs := by
  have gen : ∀ (us vs : List Nat) (σ : L2.St), (∀ u ∈ us, u ∈ vs) → wipe (wipe σ us) vs = wipe σ vs := by
    intro us
    induction us with
    | nil => intro vs σ _; rfl
    | cons u us ih =>
      intro vs σ h
      show wipe ((wipe σ us).set u none) vs = _
      rw [wipe_set (h u (List.mem_cons_self ..)), ih vs σ fun q hq => h q (List.mem_cons_of_mem _ hq)]
  exact fun vs σ => gen vs vs σ fun u h => h
theorem wipe_sub : ∀ (us vs : List Nat) (σ : L2.St), (∀ u ∈ us, u ∈ vs) → wipe (wipe σ us) vs = wipe σ vs := by
  intro us
  induction us with
  | nil => intro vs σ _; rfl
  | cons u us ih =>
    intro vs σ h
    show wipe ((wipe σ us).set u none) vs = _
    rw [wipe_set (h u (List.mem_cons_self ..)), ih vs σ fun q hq => h q (List.mem_cons_of_mem _ hq)]
theorem RS.noS {K : PySem.W.Frag} {b : Bs} {H : Hp} {env : En} {σ : L2.St} {o : Nat → List Nat → Addr} (r : RS K b H env σ o) : ∀ vs : List Nat, RS K b H (noS vs env) (wipe σ vs) o
  | [] => r
  | v :: vs => (r.noS vs).no (i := v)
theorem ex_noS {b : Bs} {env : En} {o : Nat → List Nat → Addr} {vs : List Nat} {a : Addr} (h : Ex b (noS vs env) o a) : Ex b env o a := by
  rcases h with z | ⟨j, s, p, z1, n, z2⟩
  · exact .inl z
  · exact .inr ⟨j, s, p, noS_own (by intro h; subst h; exact n) z1, n, z2⟩
theorem ex_noS' {b : Bs} {env : En} {o : Nat → List Nat → Addr} {vs : List Nat} {a : Addr} (hn : noOwnS vs env = true) (h : Ex b env o a) : Ex b (noS vs env) o a := by
  rcases h with z | ⟨j, s, p, z1, n, z2⟩
  · exact .inl z
  · exact .inr ⟨j, s, p, noS_keep hn z1 n, n, z2⟩

/-! ### targets that touch the slots vs alone -/
def tDGW (K : PySem.W.Frag) (b : Bs) (t : En → PyData → Rz En) (vs : List Nat) : TG := fun v σ H Q => ∃ env o d, RS K b H env σ o ∧ Rp K H (Ex b env o) v d ∧ Pz K b (t env d) (fun e' => ∀ σ', RS K b H e' σ' o → wipe σ' vs = wipe σ vs → (∀ a, Ex b e' o a ↔ Ex b env o a) → Q σ' H)
def tDGWs (K : PySem.W.Frag) (b : Bs) (t : En → List PyData → Rz En) (vs : List Nat) : TGs := fun v σ H Q => ∃ env o d, RS K b H env σ o ∧ RpA K H (Ex b env o) v d ∧ Pz K b (t env d) (fun e' => ∀ σ', RS K b H e' σ' o → wipe σ' vs = wipe σ vs → (∀ a, Ex b e' o a ↔ Ex b env o a) → Q σ' H)
def DGW (X : Cx) (b : Bs) (tg : Expr) (t : En → PyData → Rz En) (vs : List Nat) : Prop := PG X tg (tDGW X.K b t vs)
def DGWs (X : Cx) (b : Bs) (tg : List Expr) (t : En → List PyData → Rz En) (vs : List Nat) : Prop := PGs X tg (tDGWs X.K b t vs)
section
variable {X : Cx} {b : Bs} {e : Expr} {es : List Expr} {t : En → PyData → Rz En} {u : En → List PyData → Rz En} {vs : List Nat} {pos : Pos}
/-- a name whose slot owns nothing -/
@[simp] def gNw (i : Nat) (env : En) (d : PyData) : Rz En := if notOwn i env = true then .ok (env.set i (Sl.val d)) else .st
theorem dgw_nm {i : Nat} {x : Str} (hN : X.N.Nodup) (hv : i ∈ vs) (hi : X.N[i]? = some x := by rfl) (hx : Loc X.env.scope x := by first | exact Or.inl rfl | exact Or.inr rfl) (hf : X.fn x = true ∨ X.env.scope.names.lookup x = some .local := by first | exact .inl rfl | exact .inr rfl | assumption) : DGW X b (.Name x pos) (gNw i) vs :=
  PG.wk (pg_name hN hi hx hf) fun v σ H Q ⟨env, o, d, R, r, h⟩ => by
    unfold gNw at h
    split at h
    · rename_i hno
      refine h _ (R.set r) (wipe_set hv) fun a => ⟨ex_set, ?_⟩
      rintro (z | ⟨j, s, p, z1, n, z2⟩)
      · exact .inl z
      · refine .inr ⟨j, s, p, ?_, n, z2⟩
        have hj : i ≠ j := by
          rintro rfl
          exact notOwn_node hno z1 n
        rw [List.getElem?_set_ne hj]; exact z1
    · exact False.elim h
theorem dgws_nil : DGWs X b [] gsNil vs := PGs.wk pgs_nil fun v σ H Q ⟨env, o, ds, R, r, h⟩ => by
  cases r with
  | nil => exact ⟨rfl, h σ R rfl fun _ => .rfl⟩
  | cons _ _ => exact False.elim h
theorem dgws_cons (h1 : DGW X b e t vs) (h2 : DGWs X b es u vs) (hs : (assignEach (e :: es) X.env).map (·.2) = assign e X.env :: (assignEach es X.env).map (·.2) := by rfl) : DGWs X b (e :: es) (gsCons t u) vs :=
  PGs.wk (pgs_cons h1 h2 hs) fun v σ H Q ⟨env, o, ds, R, r, h⟩ => by
  cases r with
  | nil => exact False.elim h
  | cons r1 r2 =>
    exact ⟨_, _, rfl, env, o, _, R, r1, (Pz.bind h).imp fun env1 _ h σ1 R1 w1 x1 => ⟨env1, o, _, R1, r2.less fun a z => (x1 a).mp z, h.imp fun e _ h σ2 R2 w2 x2 => h σ2 R2 (w2.trans w1) fun a => (x2 a).trans (x1 a)⟩⟩
theorem dgw_tp {k : Nat} {n : Nat} (F : Fx X b) (h : DGWs X b es u vs) (hn : (assignEach es X.env).length = n := by rfl) (hst : (assignEach es X.env).findIdx? (·.1) = none := by rfl) : DGW X b (.Tuple es k pos) (gTp n u) vs :=
  PG.wk (pg_tup F.calm h hn hst) fun v σ H Q ⟨env, o, d, R, r, h⟩ => by
  unfold gTp at h
  split at h
  · split at h
    · rename_i ds hl
      obtain ⟨a, xs, rfl, q1, q2⟩ := r.sqT
      exact ⟨a, xs, rfl, q1, by rw [q2.length]; exact hl, env, o, _, R, q2, h⟩
    · exact False.elim h
  · exact False.elim h
end

/-! ### one for -/
@[simp] def lcG (t : En → PyData → Rz En) (fc : FT) (fe : FE) (env : En) : List PyData → Rz (List PyData)
  | [] => .ok []
  | d :: ds => (t env d).calm.bind fun e1 => (fc e1).calm.bind fun c => match c with
    | true => (fe e1).calm.bind fun y => (lcG t fc fe env ds).calm.bind fun ys => .ok (y :: ys)
    | false => lcG t fc fe env ds
@[simp] def oLcG (vs : List Nat) (t : En → PyData → Rz En) (fi : FA) (L : List Nat) (fc : FT) (fe : FE) (env : En) : Rz (List PyData) :=
  (fi env).bind fun ds => if noOwnS vs (frees L env) = true then (lcG t fc fe (noS vs (frees L env)) ds).bind fun ys => if ys.length ≤ 1000000 then .ok ys else .st else .st
theorem lcG_ex {t : En → PyData → Rz En} {fc : FT} {fe : FE} {env : En} : ∀ (ds : List PyData) (x : Xn), lcG t fc fe env ds ≠ .ex x
  | [], x, h => nomatch h
  | d :: ds, x, h => by
    unfold lcG at h
    cases q0 : t env d with
    | ok e1 =>
      rw [q0, Rz.calm_ok, Rz.bind_ok] at h
      cases q : fc e1 with
      | ok c =>
        rw [q, Rz.calm_ok, Rz.bind_ok] at h
        cases c with
        | true =>
          simp only at h
          cases q2 : fe e1 with
          | ok y =>
            rw [q2, Rz.calm_ok, Rz.bind_ok] at h
            cases q3 : lcG t fc fe env ds with
            | ok ys => rw [q3] at h; cases h
            | ex x' => exact lcG_ex ds x' q3
            | st => rw [q3] at h; cases h
          | ex x' => rw [q2] at h; cases h
          | st => rw [q2] at h; cases h
        | false => exact lcG_ex ds x h
      | ex x' => rw [q] at h; cases h
      | st => rw [q] at h; cases h
    | ex x' => rw [q0] at h; cases h
    | st => rw [q0] at h; cases h
def tGx (K : PySem.W.Frag) (b : Bs) (t : En → PyData → Rz En) (vs : List Nat) : TG := fun v σ H Q => ∃ D acc, tDGW K (blkB b D acc) t vs v σ H Q
theorem lessU {H' : Hp} {D : Addr} (u : HO) : lessA (upd H' D u) D = lessA H' D := by
  funext a
  unfold lessA
  by_cases q : a = D
  · rw [if_pos q, if_pos q]
  · rw [if_neg q, if_neg q, upd_ne q]
/-- the exclusions within a block -/
theorem ex_blk {b : Bs} {D : Addr} {acc : List V} {env : En} {o : Nat → List Nat → Addr} {a : Addr} : Ex (blkB b D acc) env o a ↔ Ex b env o a ∨ a = D := by
  constructor
  · rintro ((z | z) | z)
    · exact .inl (.inl z)
    · exact .inr z
    · exact .inl (.inr z)
  · rintro ((z | z) | z)
    · exact .inl (.inl z)
    · exact .inr z
    · exact .inl (.inr z)
/-- the state of a comprehension between two turns: D is the growing list -/
structure Bl (K : PySem.W.Frag) (b : Bs) (H1 : Hp) (D : Addr) (env : En) (o : Nat → List Nat → Addr) (σ : L2.St) (H : Hp) (acc : List V) (accs : List PyData) : Prop where
  at_ : H D = some (.lst acc)
  sm : Same H1 (lessA H D)
  rs : RS K b (lessA H D) env σ o
  ra : RpA K (lessA H D) (Ex b env o) acc accs
section
variable {K : PySem.W.Frag} {b : Bs} {H1 H H' : Hp} {D : Addr} {env : En} {o : Nat → List Nat → Addr} {σ : L2.St} {acc : List V} {accs : List PyData}
theorem Bl.in_ (B : Bl K b H1 D env o σ H acc accs) : RS K (blkB b D acc) H env σ o := B.rs.into lessA_at lessA_same B.at_
theorem Bl.same (B : Bl K b H1 D env o σ H acc accs) (s : Same H H') : Bl K b H1 D env o σ H' acc accs := by
  have k : Same (lessA H D) (lessA H' D) := lessA_of lessA_at (lessA_same.trans s)
  exact ⟨s _ _ B.at_, B.sm.trans k, B.rs.same k, B.ra.same k⟩
theorem Bl.grow (B : Bl K b H1 D env o σ H acc accs) {v : V} {d : PyData} {env' : En} (x : ∀ a, Ex b env o a → Ex b env' o a) (r : Rp K H (Ex (blkB b D acc) env' o) v d) : Bl K b H1 D env o σ (upd H D (.lst (acc ++ [v]))) (acc ++ [v]) (accs ++ [d]) := by
  refine ⟨upd_same, by rw [lessU]; exact B.sm, by rw [lessU]; exact B.rs, ?_⟩
  rw [lessU]
  refine RpA.append B.ra (.one ?_)
  exact Rp.move (keep_cut B.at_ (ex_blk.mpr (.inr rfl))) (fun a z => .inl (ex_blk.mpr (.inl (x a z)))) _ _ r
theorem Bl.per (B : Bl K b H1 D env o σ H acc accs) : Per K (lessA H D) (Ex b env o) H (Ex (blkB b D acc) env o) := .same lessA_same fun a z => by
  rcases ex_blk.mp z with z | z
  · exact .inl z
  · exact .inr (by rw [z]; exact lessA_at)
theorem Bl.lt (B : Bl K b H1 D env o σ H acc accs) {n : Nat} (h : accs.length + n + 1 ≤ 1000000) : acc.length < sizeLine := by
  rw [B.ra.length]
  have := million
  omega
end
section
variable {X : Cx} {b : Bs}
theorem lcG_read {vs : List Nat} {t : En → PyData → Rz En} {fi : FA} {L : List Nat} {fc : FT} {fe : FE} {σ : L2.St} {H : Hp} {Q : VK} (h : tDO X.K b (oLcG vs t fi L fc fe) L σ H Q) : tLc (tDI X.K b fi L) (tGx X.K b t vs) (tLt X.K b fc) (tLe X.K b fe) vs σ H Q := by
  obtain ⟨env, o, R, h⟩ := h
  refine ⟨env, o, R, h.bind.imp fun ds _ h J G H1 s1 w g0 D hD => ?_⟩
  by_cases hno : noOwnS vs (frees L env) = true
  case neg => rw [if_neg hno] at h; exact False.elim h
  rw [if_pos hno] at h
  have R1 := ((R.frees L).same s1).noS vs
  have hDH : H D = none := s1.free hD
  generalize hW : noS vs (frees L env) = envW at *
  have le : ∀ a, Ex b envW o a → Ex b (frees L env) o a := fun a z => by rw [← hW] at z; exact ex_noS z
  have ge : ∀ a, Ex b (frees L env) o a → Ex b envW o a := fun a z => by rw [← hW]; exact ex_noS' hno z
  have less1 : lessA H1 D = H1 := by
    funext a
    unfold lessA
    by_cases q : a = D
    · rw [if_pos q, q, hD]
    · rw [if_neg q]
  let W : Nat → Nat → Hp → Prop := fun i' m H' => m = ds.length - i' ∧ i' ≤ ds.length ∧ ∃ (acc : List V) (accs : List PyData), Bl X.K b H1 D envW o (wipe σ vs) H' acc accs ∧ G (lessA H' D) (Ex b envW o) ∧
    Pz X.K b (lcG t fc fe envW (ds.drop i')) fun ys => (accs ++ ys).length ≤ 1000000 ∧ ∀ a ws H'', Same H H'' → H a = none → H'' a = some (.lst ws) → RpA X.K H'' (fun c => Ex b (frees L env) o c ∨ c = a) ws (accs ++ ys) → Q (.ref a) H''
  refine ⟨W, ⟨ds.length, by simp, Nat.zero_le _, [], [], ⟨upd_same, by rw [lessU, less1]; exact .refl H1, by rw [lessU, less1]; exact R1, .nil⟩, by rw [lessU, less1]; exact w.per _ _ _ _ (.same (.refl H1) fun a z => .inl (le a z)) g0, ?_⟩, ?_⟩
  · refine h.bind.imp fun ys _ h => ?_
    split at h
    · exact ⟨‹_›, h⟩
    · exact False.elim h
  · rintro i' m H2 ⟨hm, hle, acc, accs, B, g2, h⟩
    have g2' : G H2 (Ex (blkB b D acc) envW o) := w.per _ _ _ _ B.per g2
    by_cases hlt : i' < ds.length
    · refine .inr ⟨w.wk.goes i' H2 hlt ⟨_, g2'⟩, fun H' => W (i' + 1) (ds.length - (i' + 1)) H', fun H' hw => ⟨_, by omega, hw⟩, fun v H3 y => ?_⟩
      obtain ⟨s3, y⟩ := w.wk.yields i' H2 v H3 hlt ⟨_, g2'⟩ y
      obtain ⟨d, hd, rv⟩ := y _ g2'
      have e : ds.drop i' = d :: ds.drop (i' + 1) := by
        obtain ⟨hl, e⟩ := List.getElem?_eq_some_iff.mp hd
        rw [List.drop_eq_getElem_cons hl, e]
      rw [e] at h
      have B3 := B.same s3
      have g3 : ∀ {H4 : Hp}, Same H3 H4 → G (lessA H4 D) (Ex b envW o) := fun {H4} s4 => w.per _ _ _ _ (.same (lessA_of lessA_at (lessA_same.trans (s3.trans s4))) fun a z => .inl z) g2
      refine ⟨D, acc, envW, o, d, B3.in_, rv, (Pz.bind h).calm.imp fun e1 _ h σ2 R4 w4 x4 => ⟨by rw [w4, wipe_wipe], D, acc, e1, o, R4, (Pz.bind h).calm.imp fun c _ h H4 s4 => ?_⟩⟩
      cases c with
      | true =>
        refine ⟨D, acc, e1, o, R4.same s4, (Pz.bind h).calm.imp fun yd _ h v5 H5 s5 r5 => ?_⟩
        have B5 := B3.same (s4.trans s5)
        have h := (Pz.bind h).calm (b' := b)
        have lsz : acc.length < sizeLine := by
          cases q : lcG t fc fe envW (ds.drop (i' + 1)) with
          | ok ys =>
            rw [q] at h
            have h1 : (accs ++ yd :: ys).length ≤ 1000000 := h.1
            rw [List.length_append, List.length_cons] at h1
            exact B5.lt (n := ys.length) (by omega)
          | ex x => exact absurd q (lcG_ex _ _)
          | st => rw [q] at h; exact False.elim h
        refine ⟨acc, B5.at_, lsz, rfl, by omega, _, _, B5.grow (env' := e1) (fun a z => ?_) r5, by rw [lessU]; exact g3 (s4.trans s5), h.imp fun ys _ h => ?_⟩
        · have q1 := (x4 a).mpr (ex_blk.mpr (.inl z))
          rcases ex_blk.mp q1 with q1 | q1
          · exact q1
          · subst q1
            obtain ⟨u, hu⟩ := B5.rs.dom z
            rw [lessA_at] at hu; cases hu
        · simp only [List.append_assoc, List.cons_append, List.nil_append]; exact h
      | false => exact ⟨rfl, by omega, _, _, B3.same s4, g3 s4, Pz.imp h fun ys _ h => h⟩
    · have e : i' = ds.length := by omega
      subst e
      rw [List.drop_length] at h
      refine .inl ⟨w.wk.stops H2 ⟨_, g2'⟩, ?_⟩
      obtain ⟨_, h⟩ := h
      refine h D acc H2 ((s1.trans B.sm).trans lessA_same) hDH B.at_ ?_
      rw [List.append_nil]
      refine Rp.moveA (.of_same lessA_same) (fun a z => ?_) _ _ B.ra
      rcases z with z | z
      · exact .inl (ge _ z)
      · exact .inr (by rw [z]; exact lessA_at)
end
section
variable {X : Cx} {b : Bs}
section
variable {elt tg iter : Expr} {ifs : List Expr} {scope : Scope} {own : List (Str × Nat)} {pos : Pos} {t : En → PyData → Rz En} {fi : FA} {L vs : List Nat} {fc : FT} {fe : FE} (F : Fx X b) (hN : X.N.Nodup) (hi : DI X b tg iter fi L)
    (hg : ∀ (s : Shared) (H : Hp) (C : Addr) (cl : List (Str × Addr)) (fp : List Addr) (D : Addr) (acc : List V), Fx (X.blk s H scope (compEnvC scope cl C X.env) fp) (blkB b D acc) → DGW (X.blk s H scope (compEnvC scope cl C X.env) fp) (blkB b D acc) tg t vs)
    (ht : ∀ (s : Shared) (H : Hp) (C : Addr) (cl : List (Str × Addr)) (fp : List Addr), PTs (X.blk s H scope (compEnvC scope cl C X.env) fp) ifs (tLt X.K b fc))
    (he : ∀ (s : Shared) (H : Hp) (C : Addr) (cl : List (Str × Addr)) (fp : List Addr) (D : Addr) (acc : List V), Fx (X.blk s H scope (compEnvC scope cl C X.env) fp) (blkB b D acc) → DE (X.blk s H scope (compEnvC scope cl C X.env) fp) (blkB b D acc) elt fe [])
    (ok : blkC X.N X.env.scope scope own = true) (ev : own.map (·.2) = vs)
    (hs : ∀ x, foldedSetIterable iter X.env x = pure x)
include F hN hi hg ht he ok ev hs
theorem do_lcG : DO X b (.ListComp elt [⟨tg, iter, ifs, 0⟩] scope pos) (oLcG vs t fi L fc fe) L :=
  PE.wk (pe_lc (te := tLe X.K b fe) (g := tGx X.K b t vs) F.calm hN hi (blkOk_by ok) (fun s H C cl fp => ⟨fun pins s' σ H' v u Q I r ⟨D, acc, q⟩ => (hg s H C cl fp D acc (fx_blk F)).run pins s' σ H' v u Q I r q⟩) ht
    (fun s H C cl fp => ⟨fun pins s' σ H' Q I ⟨D, acc, q⟩ => (he s H C cl fp D acc (fx_blk F)).run pins s' σ H' Q I q⟩) hs) fun σ H Q h => by subst ev; exact lcG_read h
variable {j : Nat} {y : Str} {py spos : Pos} (hy : X.N[j]? = some y) (hyl : X.env.scope.names.lookup y = some .local) (hsw : swapsWith (.ListComp elt [⟨tg, iter, ifs, 0⟩] scope pos) (some (.Name y py)) spos.line X.env = pure true)
include hy hyl hsw
theorem ds_setLcG : DS X b (.Assign [.Name y py] (.ListComp elt [⟨tg, iter, ifs, 0⟩] scope pos) spos) (sSet j (fun env => (oLcG vs t fi L fc fe env).bind fun ds => .ok (.list ds)) L) :=
  PS.wk (ps_setLc (te := tLe X.K b fe) (g := tGx X.K b t vs) F.calm hN hy hyl hsw hi (blkOk_by ok) (fun s H C cl fp => ⟨fun pins s' σ H' v u Q I r ⟨D, acc, q⟩ => (hg s H C cl fp D acc (fx_blk F)).run pins s' σ H' v u Q I r q⟩) ht
    (fun s H C cl fp => ⟨fun pins s' σ H' Q I ⟨D, acc, q⟩ => (he s H C cl fp D acc (fx_blk F)).run pins s' σ H' Q I q⟩) hs) fun D σ H ⟨env, o, R, h⟩ => by
    subst ev
    exact lcG_read ⟨env, o, R, h.bind.bind.imp fun ds _ h a vs H1 s1 hn ha r1 => by
      have R1 := (R.frees L).same s1
      refine h _ H1 o (R1.set (.lst (.inl ha) (fun z => ?_) (r1.less fun _ z => .inl z))) (per_frees s1 fun a z => ex_set z)
      obtain ⟨u, hu⟩ := (R.frees L).dom z
      rw [hn] at hu; cases hu⟩
theorem ds_setLcGO (hpin : b.pin = none ∨ j ≠ 1 := by first | exact .inl rfl | exact .inr (by decide)) : DS X b (.Assign [.Name y py] (.ListComp elt [⟨tg, iter, ifs, 0⟩] scope pos) spos) (sSetO j (oLcG vs t fi L fc fe) L) :=
  PS.wk (ps_setLc (te := tLe X.K b fe) (g := tGx X.K b t vs) F.calm hN hy hyl hsw hi (blkOk_by ok) (fun s H C cl fp => ⟨fun pins s' σ H' v u Q I r ⟨D, acc, q⟩ => (hg s H C cl fp D acc (fx_blk F)).run pins s' σ H' v u Q I r q⟩) ht
    (fun s H C cl fp => ⟨fun pins s' σ H' Q I ⟨D, acc, q⟩ => (he s H C cl fp D acc (fx_blk F)).run pins s' σ H' Q I q⟩) hs) fun D σ H ⟨env, o, R, h⟩ => by
    subst ev
    exact lcG_read ⟨env, o, R, h.bind.imp fun ds _ h a vs H1 s1 hn ha r1 => h _ H1 _ ((R.frees L).setOwn s1 hn ha r1 hpin) (.same s1 fun c z => by
      rcases ex_setOwn z with z | z
      · exact .inl (ex_frees z)
      · subst z; exact .inr hn)⟩
end
/-! ### two fors -/
@[simp] def lc2G (t : En → PyData → Rz En) (fc : FT) (vs1 : List Nat) (t1 : En → PyData → Rz En) (fi1 : FA) (fc1 : FT) (fe : FE) (env : En) : List PyData → Rz (List PyData)
  | [] => .ok []
  | d :: ds => (t env d).calm.bind fun e1 => (fc e1).calm.bind fun c => match c with
    | true => (fi1 e1).calm.bind fun ds1 => (if noOwnS vs1 e1 = true then lcG t1 fc1 fe (noS vs1 e1) ds1 else .st).calm.bind fun ys => (lc2G t fc vs1 t1 fi1 fc1 fe env ds).calm.bind fun zs => .ok (ys ++ zs)
    | false => lc2G t fc vs1 t1 fi1 fc1 fe env ds
@[simp] def oLc2 (vs : List Nat) (t : En → PyData → Rz En) (fi : FA) (L : List Nat) (fc : FT) (vs1 : List Nat) (t1 : En → PyData → Rz En) (fi1 : FA) (fc1 : FT) (fe : FE) (env : En) : Rz (List PyData) :=
  (fi env).bind fun ds => if noOwnS vs (frees L env) = true then (lc2G t fc vs1 t1 fi1 fc1 fe (noS vs (frees L env)) ds).bind fun ys => if ys.length ≤ 1000000 then .ok ys else .st else .st
def tIx (K : PySem.W.Frag) (b : Bs) (f : FA) : TI := fun σ H R => ∃ D acc, tDI K (blkB b D acc) f [] σ H R
theorem lc2_read {vs vs1 : List Nat} {t t1 : En → PyData → Rz En} {fi fi1 : FA} {L : List Nat} {fc fc1 : FT} {fe : FE} {σ : L2.St} {H : Hp} {Q : VK} (h : tDO X.K b (oLc2 vs t fi L fc vs1 t1 fi1 fc1 fe) L σ H Q) :
    tLc2 (tDI X.K b fi L) (tGx X.K b t vs) (tLt X.K b fc) (tIx X.K b fi1) (tGx X.K b t1 vs1) (tLt X.K b fc1) (tLe X.K b fe) vs vs1 σ H Q := by
  obtain ⟨env, o, R, h⟩ := h
  refine ⟨env, o, R, h.bind.imp fun ds _ h J G H1 s1 w g0 D hD => ?_⟩
  by_cases hno : noOwnS vs (frees L env) = true
  case neg => rw [if_neg hno] at h; exact False.elim h
  rw [if_pos hno] at h
  have R1 := ((R.frees L).same s1).noS vs
  have hDH : H D = none := s1.free hD
  generalize hW : noS vs (frees L env) = envW at *
  have le : ∀ a, Ex b envW o a → Ex b (frees L env) o a := fun a z => by rw [← hW] at z; exact ex_noS z
  have ge : ∀ a, Ex b (frees L env) o a → Ex b envW o a := fun a z => by rw [← hW]; exact ex_noS' hno z
  have less1 : lessA H1 D = H1 := by
    funext a
    unfold lessA
    by_cases q : a = D
    · rw [if_pos q, q, hD]
    · rw [if_neg q]
  let W : Nat → Nat → Hp → Prop := fun i' m H' => m = ds.length - i' ∧ i' ≤ ds.length ∧ ∃ (acc : List V) (accs : List PyData), Bl X.K b H1 D envW o (wipe σ vs) H' acc accs ∧ G (lessA H' D) (Ex b envW o) ∧
    Pz X.K b (lc2G t fc vs1 t1 fi1 fc1 fe envW (ds.drop i')) fun ys => (accs ++ ys).length ≤ 1000000 ∧ ∀ a ws H'', Same H H'' → H a = none → H'' a = some (.lst ws) → RpA X.K H'' (fun c => Ex b (frees L env) o c ∨ c = a) ws (accs ++ ys) → Q (.ref a) H''
  refine ⟨W, ⟨ds.length, by simp, Nat.zero_le _, [], [], ⟨upd_same, by rw [lessU, less1]; exact .refl H1, by rw [lessU, less1]; exact R1, .nil⟩, by rw [lessU, less1]; exact w.per _ _ _ _ (.same (.refl H1) fun a z => .inl (le a z)) g0, ?_⟩, ?_⟩
  · refine h.bind.imp fun ys _ h => ?_
    split at h
    · exact ⟨‹_›, h⟩
    · exact False.elim h
  · rintro i' m H2 ⟨hm, hle, acc, accs, B, g2, h⟩
    have g2' : G H2 (Ex (blkB b D acc) envW o) := w.per _ _ _ _ B.per g2
    by_cases hlt : i' < ds.length
    · refine .inr ⟨w.wk.goes i' H2 hlt ⟨_, g2'⟩, fun H' => W (i' + 1) (ds.length - (i' + 1)) H', fun H' hw => ⟨_, by omega, hw⟩, fun v H3 y => ?_⟩
      obtain ⟨s3, y⟩ := w.wk.yields i' H2 v H3 hlt ⟨_, g2'⟩ y
      obtain ⟨d, hd, rv⟩ := y _ g2'
      have e : ds.drop i' = d :: ds.drop (i' + 1) := by
        obtain ⟨hl, e⟩ := List.getElem?_eq_some_iff.mp hd
        rw [List.drop_eq_getElem_cons hl, e]
      rw [e] at h
      have B3 := B.same s3
      -- what is known of the outer walk later in the turn
      have g3 : ∀ {H4 : Hp}, Same (lessA H2 D) (lessA H4 D) → G (lessA H4 D) (Ex b envW o) := fun {H4} s4 => w.per _ _ _ _ (.same s4 fun a z => .inl z) g2
      have l3 : Same (lessA H2 D) (lessA H3 D) := lessA_of lessA_at (lessA_same.trans s3)
      refine ⟨D, acc, envW, o, d, B3.in_, rv, (Pz.bind h).calm.imp fun e1 _ h σ2 R4 w4 x4 => ⟨by rw [w4, wipe_wipe], D, acc, e1, o, R4, (Pz.bind h).calm.imp fun c _ h H4 s4 => ?_⟩⟩
      -- the exclusions of the turn's slots are the comprehension's
      have xe : ∀ a, H3 a ≠ none → a ≠ D → (Ex b e1 o a ↔ Ex b envW o a) := fun a _ hn => by
        have q := x4 a
        rw [ex_blk, ex_blk] at q
        constructor
        · intro z; rcases q.mp (.inl z) with z | z
          · exact z
          · exact absurd z hn
        · intro z; rcases q.mpr (.inl z) with z | z
          · exact z
          · exact absurd z hn
      have xd : ∀ a, Ex b envW o a → a ≠ D := fun a z q => by
        subst q
        obtain ⟨u, hu⟩ := B3.rs.dom z
        rw [lessA_at] at hu; cases hu
      have x1 : ∀ a, Ex b envW o a → Ex b e1 o a := fun a z => by
        have q1 := (x4 a).mpr (ex_blk.mpr (.inl z))
        rcases ex_blk.mp q1 with q1 | q1
        · exact q1
        · exact absurd q1 (xd a z)
      have x1D : ∀ a, Ex b e1 o a → Ex b envW o a ∨ a = D := fun a z => ex_blk.mp ((x4 a).mp (ex_blk.mpr (.inl z)))
      cases c with
      | true =>
        refine ⟨D, acc, e1, o, R4.same s4, (Pz.bind h).calm.imp fun ds1 _ h J1 G1 H5 s5 w1 g5 => ?_⟩
        have B5 := B3.same (s4.trans s5)
        have R5 : RS X.K (blkB b D acc) H5 e1 σ2 o := (R4.same s4).same s5
        have l5 : Same (lessA H2 D) (lessA H5 D) := l3.trans (lessA_of lessA_at (lessA_same.trans (s4.trans s5)))
        have h := (Pz.bind h).calm (b' := b)
        by_cases hno1 : noOwnS vs1 e1 = true
        case neg => rw [if_neg hno1] at h; exact False.elim h
        rw [if_pos hno1] at h
        have ex1 : ∀ c acc', Ex (blkB b D acc') (noS vs1 e1) o c ↔ Ex (blkB b D acc) e1 o c := fun c acc' => by
          rw [ex_blk, ex_blk]
          constructor
          · rintro (z | z)
            · exact .inl (ex_noS z)
            · exact .inr z
          · rintro (z | z)
            · exact .inl (ex_noS' hno1 z)
            · exact .inr z
        let W1 : Nat → Nat → Hp → Prop := fun j' k H' => k = ds1.length - j' ∧ j' ≤ ds1.length ∧ ∃ (acc' : List V) (accs' : List PyData), Bl X.K b H1 D envW o (wipe σ vs) H' acc' accs' ∧ Same (lessA H5 D) (lessA H' D) ∧ G1 H' (Ex (blkB b D acc') (noS vs1 e1) o) ∧ RS X.K (blkB b D acc') H' (noS vs1 e1) (wipe σ2 vs1) o ∧
          Pz X.K b (lcG t1 fc1 fe (noS vs1 e1) (ds1.drop j')) fun ys => Pz X.K b (lc2G t fc vs1 t1 fi1 fc1 fe envW (ds.drop (i' + 1))) fun zs => (accs' ++ (ys ++ zs)).length ≤ 1000000 ∧ ∀ a ws H'', Same H H'' → H a = none → H'' a = some (.lst ws) → RpA X.K H'' (fun c => Ex b (frees L env) o c ∨ c = a) ws (accs' ++ (ys ++ zs)) → Q (.ref a) H''
        refine ⟨W1, ⟨ds1.length, by simp, Nat.zero_le _, acc, accs, B5, .refl _, w1.per _ _ _ _ (.same (.refl H5) fun a z => .inl ((ex1 a acc).mp z)) g5, R5.noS vs1, ?_⟩, ?_⟩
        · rw [List.drop_zero]
          exact h.imp fun ys _ h => (Pz.bind h).calm.imp fun zs _ h => h
        · rintro j' k H6 ⟨hk, hle1, acc6, accs6, B6, s6, g6, R6, h⟩
          by_cases hlt1 : j' < ds1.length
          · refine .inr ⟨w1.wk.goes j' H6 hlt1 ⟨_, g6⟩, fun H' => W1 (j' + 1) (ds1.length - (j' + 1)) H', fun H' hw => ⟨_, by omega, hw⟩, fun v6 H7 y7 => ?_⟩
            obtain ⟨s7, y7⟩ := w1.wk.yields j' H6 v6 H7 hlt1 ⟨_, g6⟩ y7
            obtain ⟨d7, hd7, rv7⟩ := y7 _ g6
            have e7 : ds1.drop j' = d7 :: ds1.drop (j' + 1) := by
              obtain ⟨hl, e⟩ := List.getElem?_eq_some_iff.mp hd7
              rw [List.drop_eq_getElem_cons hl, e]
            rw [e7] at h
            have B7 := B6.same s7
            have l7 : ∀ {H8 : Hp}, Same H7 H8 → Same (lessA H5 D) (lessA H8 D) := fun {H8} s8 => s6.trans (lessA_of lessA_at (lessA_same.trans (s7.trans s8)))
            refine ⟨D, acc6, noS vs1 e1, o, d7, R6.same s7, rv7, (Pz.bind h).calm.imp fun e8 _ h σ8 R8 w8 x8 => ⟨by rw [w8, wipe_wipe], D, acc6, e8, o, R8, (Pz.bind h).calm.imp fun c8 _ h H8 s8 => ?_⟩⟩
            have g8 : ∀ {H9 : Hp} {acc9 : List V}, Same H7 H9 → G1 H9 (Ex (blkB b D acc9) (noS vs1 e1) o) := fun {H9 acc9} s9 => w1.per _ _ _ _ (.same (s7.trans s9) fun a z => .inl ((ex1 a acc6).mpr ((ex1 a acc9).mp z))) g6
            cases c8 with
            | true =>
              refine ⟨D, acc6, e8, o, R8.same s8, (Pz.bind h).calm.imp fun yd _ h v9 H9 s9 r9 => ?_⟩
              have B9 := B7.same (s8.trans s9)
              have h := (Pz.bind h).calm (b' := b)
              have lsz : acc6.length < sizeLine := by
                cases q : lcG t1 fc1 fe (noS vs1 e1) (ds1.drop (j' + 1)) with
                | ok ys =>
                  rw [q] at h
                  cases q2 : lc2G t fc vs1 t1 fi1 fc1 fe envW (ds.drop (i' + 1)) with
                  | ok zs =>
                    replace h : Pz X.K b (lc2G t fc vs1 t1 fi1 fc1 fe envW (ds.drop (i' + 1))) _ := h
                    rw [q2] at h
                    have h1 : (accs6 ++ (yd :: ys ++ zs)).length ≤ 1000000 := h.1
                    rw [List.length_append, List.length_append, List.length_cons] at h1
                    exact B9.lt (n := ys.length + zs.length) (by omega)
                  | st =>
                    replace h : Pz X.K b (lc2G t fc vs1 t1 fi1 fc1 fe envW (ds.drop (i' + 1))) _ := h
                    rw [q2] at h; exact False.elim h
                  | ex x =>
                    replace h : Pz X.K b (lc2G t fc vs1 t1 fi1 fc1 fe envW (ds.drop (i' + 1))) _ := h
                    exfalso
                    have nex : ∀ (ds : List PyData) (x : Xn), lc2G t fc vs1 t1 fi1 fc1 fe envW ds ≠ .ex x := by
                      intro ds
                      induction ds with
                      | nil => intro x h; exact nomatch h
                      | cons d ds ih =>
                        intro x h
                        unfold lc2G at h
                        cases q0 : t envW d with
                        | ok e1 =>
                          rw [q0, Rz.calm_ok, Rz.bind_ok] at h
                          cases q : fc e1 with
                          | ok c =>
                            rw [q, Rz.calm_ok, Rz.bind_ok] at h
                            cases c with
                            | true =>
                              simp only at h
                              cases q2 : fi1 e1 with
                              | ok y =>
                                rw [q2, Rz.calm_ok, Rz.bind_ok] at h
                                cases q3 : (if noOwnS vs1 e1 = true then lcG t1 fc1 fe (noS vs1 e1) y else .st) with
                                | ok ys =>
                                  rw [q3, Rz.calm_ok, Rz.bind_ok] at h
                                  cases q4 : lc2G t fc vs1 t1 fi1 fc1 fe envW ds with
                                  | ok zs => rw [q4] at h; cases h
                                  | ex x' => exact ih x' q4
                                  | st => rw [q4] at h; cases h
                                | ex x' => rw [q3] at h; cases h
                                | st => rw [q3] at h; cases h
                              | ex x' => rw [q2] at h; cases h
                              | st => rw [q2] at h; cases h
                            | false => exact ih x h
                          | ex x' => rw [q] at h; cases h
                          | st => rw [q] at h; cases h
                        | ex x' => rw [q0] at h; cases h
                        | st => rw [q0] at h; cases h
                    exact nex _ _ q2
                | ex x => exact absurd q (lcG_ex _ _)
                | st => rw [q] at h; exact False.elim h
              have x9 : ∀ a, Ex b envW o a → Ex b e8 o a := fun a z => by
                have q1 := (x8 a).mpr ((ex1 a acc6).mpr (ex_blk.mpr (.inl (x1 a z))))
                rcases ex_blk.mp q1 with q1 | q1
                · exact q1
                · exact absurd q1 (xd a z)
              refine ⟨acc6, B9.at_, lsz, rfl, by omega, _, _, B9.grow (env' := e8) x9 r9, by rw [lessU]; exact l7 (s8.trans s9), ?_, ?_, h.imp fun ys _ h => Pz.imp (r := lc2G t fc vs1 t1 fi1 fc1 fe envW (ds.drop (i' + 1))) h fun zs _ h => ?_⟩
              · -- the inner walk behind the list's growth
                have hx : ∀ a, Ex (blkB b D (acc6 ++ [v9])) (noS vs1 e1) o a → Ex (blkB b D acc6) (noS vs1 e1) o a := fun a z => (ex1 a acc6).mpr ((ex1 a _).mp z)
                refine w1.per _ _ _ _ ?_ (g8 (acc9 := acc6) (s8.trans s9))
                refine Per.keep (O := Ex (blkB b D acc6) (noS vs1 e1) o) ?_ hx
                intro a u hu hn
                by_cases q : a = D
                · subst q
                  rw [B9.at_] at hu; cases hu
                  rcases hn with hn | hn
                  · exact absurd True.intro hn
                  · exact absurd (ex_blk.mpr (.inr rfl)) hn
                · rw [upd_ne q]; exact hu
              · -- the slots behind the list's growth
                have R9 : RS X.K (blkB b D acc6) H9 (noS vs1 e1) (wipe σ2 vs1) o := R6.same (s7.trans (s8.trans s9))
                have hx : ∀ a, Ex (blkB b D (acc6 ++ [v9])) (noS vs1 e1) o a → Ex (blkB b D acc6) (noS vs1 e1) o a := fun a z => (ex1 a acc6).mpr ((ex1 a _).mp z)
                have kp : Keep (Ex (blkB b D acc6) (noS vs1 e1) o) H9 (upd H9 D (.lst (acc6 ++ [v9]))) := by
                  intro a u hu hn
                  by_cases q : a = D
                  · subst q
                    rw [B9.at_] at hu; cases hu
                    rcases hn with hn | hn
                    · exact absurd True.intro hn
                    · exact absurd (ex_blk.mpr (.inr rfl)) hn
                  · rw [upd_ne q]; exact hu
                have nD : ∀ {j : Nat} {s : Sl} {p : List Nat}, (noS vs1 e1)[j]? = some s → s.node p → o j p ≠ D := fun {j s p} q n z => by
                  have h4' : upd b.H0 D (.lst acc6) (o j p) = none := R9.new q n
                  rw [z, upd_same] at h4'; cases h4'
                refine ⟨R9.len, fun j d q => ?_, fun j es q => ?_, R9.injN, fun a u z => ?_, fun a z => ?_, R9.exn, R9.kv, R9.pin, R9.bor, fun v d q => ?_, fun j t q => ?_, R9.al, R9.pin0⟩
                · obtain ⟨w, h1, h2⟩ := R9.val j d q
                  exact ⟨w, h1, Rp.move kp (fun a z => .inl (hx a z)) _ _ h2⟩
                · obtain ⟨ws, h1, h2, h3, h4⟩ := R9.own j es q
                  refine ⟨ws, h1, by rw [upd_ne (nD q rfl)]; exact h2, Rp.moveA kp (fun a z => .inl (hx a z)) _ _ h3, ?_⟩
                  have h4' : upd b.H0 D (.lst acc6) (o j []) = none := h4
                  show upd b.H0 D _ (o j []) = none
                  rw [upd_ne (nD q rfl)] at h4' ⊢
                  exact h4'
                · change upd b.H0 D (.lst (acc6 ++ [v9])) a = some u at z
                  by_cases q : a = D
                  · subst q
                    rw [upd_same] at z ⊢
                    exact z
                  · rw [upd_ne q] at z ⊢
                    exact R9.ext a u (show upd b.H0 D _ a = some u by rw [upd_ne q]; exact z)
                · rcases z with z | z
                  · obtain ⟨u, hu⟩ := R9.o0 a (.inl z)
                    by_cases q : a = D
                    · exact ⟨.lst (acc6 ++ [v9]), by rw [q]; exact upd_same⟩
                    · refine ⟨u, ?_⟩
                      change upd b.H0 D (.lst acc6) a = some u at hu
                      show upd b.H0 D _ a = some u
                      rw [upd_ne q] at hu ⊢
                      exact hu
                  · exact ⟨.lst (acc6 ++ [v9]), by rw [z]; exact upd_same⟩
                · have r0 : RpB X.K b.H0 b.O0 v (.list d) := by
                    -- the lent lists stood before
                    exact B9.rs.bqk v d q
                  have bD : b.H0 D = none := by
                    cases q2 : b.H0 D with
                    | none => rfl
                    | some u =>
                      have := B9.rs.ext _ _ q2
                      rw [lessA_at] at this; cases this
                  refine r0.mv (fun a u hu => ?_) fun a z => ?_
                  · show upd b.H0 D _ a = some u
                    rw [upd_ne (fun q => by rw [q, bD] at hu; cases hu)]; exact hu
                  · rcases z with z | z
                    · exact .inl z
                    · exact .inr (by rw [z]; exact bD)
                · obtain ⟨w, h1, h2, h3⟩ := R9.ob j t q
                  refine ⟨w, h1, h2.move kp (fun a z => .inl (hx a z)) fun p n => ⟨rfl, fun u z => by rw [List.nil_append] at z ⊢; rw [upd_ne (nD q n)]; exact z⟩, fun p n => ?_⟩
                  have h4' : upd b.H0 D (.lst acc6) (o j p) = none := h3 p n
                  show upd b.H0 D _ (o j p) = none
                  rw [upd_ne (nD q n)] at h4' ⊢
                  exact h4'
              · simp only [List.append_assoc, List.cons_append, List.nil_append]
                simp only [List.cons_append] at h
                exact h
            | false => exact ⟨rfl, by omega, acc6, accs6, B7.same s8, l7 s8, g8 s8, R6.same (s7.trans s8), Pz.imp h fun ys _ h => h⟩
          · have e : j' = ds1.length := by omega
            subst e
            rw [List.drop_length] at h
            refine .inl ⟨w1.wk.stops H6 ⟨_, g6⟩, rfl, by omega, acc6, accs6, B6, g3 (l5.trans s6), ?_⟩
            exact Pz.imp h fun zs _ h => by simpa using h
      | false => exact ⟨rfl, by omega, _, _, B3.same s4, g3 (l3.trans (lessA_of lessA_at (lessA_same.trans s4))), Pz.imp h fun ys _ h => h⟩
    · have e : i' = ds.length := by omega
      subst e
      rw [List.drop_length] at h
      refine .inl ⟨w.wk.stops H2 ⟨_, g2'⟩, ?_⟩
      obtain ⟨_, h⟩ := h
      refine h D acc H2 ((s1.trans B.sm).trans lessA_same) hDH B.at_ ?_
      rw [List.append_nil]
      refine Rp.moveA (.of_same lessA_same) (fun a z => ?_) _ _ B.ra
      rcases z with z | z
      · exact .inl (ge _ z)
      · exact .inr (by rw [z]; exact lessA_at)
end
section
variable {X : Cx} {b : Bs}
variable {elt tg iter tg1 iter1 : Expr} {ifs ifs1 : List Expr} {scope : Scope} {own : List (Str × Nat)} {pos : Pos} {t t1 : En → PyData → Rz En} {fi fi1 : FA} {L vs vs1 : List Nat} {fc fc1 : FT} {fe : FE} (F : Fx X b) (hN : X.N.Nodup) (hi : DI X b tg iter fi L)
    (hg : ∀ (s : Shared) (H : Hp) (C : Addr) (cl : List (Str × Addr)) (fp : List Addr) (D : Addr) (acc : List V), Fx (X.blk s H scope (compEnvC scope cl C X.env) fp) (blkB b D acc) → DGW (X.blk s H scope (compEnvC scope cl C X.env) fp) (blkB b D acc) tg t vs)
    (ht : ∀ (s : Shared) (H : Hp) (C : Addr) (cl : List (Str × Addr)) (fp : List Addr), PTs (X.blk s H scope (compEnvC scope cl C X.env) fp) ifs (tLt X.K b fc))
    (hi1 : ∀ (s : Shared) (H : Hp) (C : Addr) (cl : List (Str × Addr)) (fp : List Addr) (D : Addr) (acc : List V), Fx (X.blk s H scope (compEnvC scope cl C X.env) fp) (blkB b D acc) → DI (X.blk s H scope (compEnvC scope cl C X.env) fp) (blkB b D acc) tg1 iter1 fi1 [])
    (hg1 : ∀ (s : Shared) (H : Hp) (C : Addr) (cl : List (Str × Addr)) (fp : List Addr) (D : Addr) (acc : List V), Fx (X.blk s H scope (compEnvC scope cl C X.env) fp) (blkB b D acc) → DGW (X.blk s H scope (compEnvC scope cl C X.env) fp) (blkB b D acc) tg1 t1 vs1)
    (ht1 : ∀ (s : Shared) (H : Hp) (C : Addr) (cl : List (Str × Addr)) (fp : List Addr), PTs (X.blk s H scope (compEnvC scope cl C X.env) fp) ifs1 (tLt X.K b fc1))
    (he : ∀ (s : Shared) (H : Hp) (C : Addr) (cl : List (Str × Addr)) (fp : List Addr) (D : Addr) (acc : List V), Fx (X.blk s H scope (compEnvC scope cl C X.env) fp) (blkB b D acc) → DE (X.blk s H scope (compEnvC scope cl C X.env) fp) (blkB b D acc) elt fe [])
    (ok : blkC X.N X.env.scope scope own = true) (ev : own.map (·.2) = vs) (hv : ∀ i ∈ vs1, i ∈ vs)
    (hs : ∀ x, foldedSetIterable iter X.env x = pure x) (hs1 : ∀ env x, foldedSetIterable iter1 env x = pure x)
include F hN hi hg ht hi1 hg1 ht1 he ok ev hv hs hs1
theorem do_lc2 : DO X b (.ListComp elt [⟨tg, iter, ifs, 0⟩, ⟨tg1, iter1, ifs1, 0⟩] scope pos) (oLc2 vs t fi L fc vs1 t1 fi1 fc1 fe) L :=
  PE.wk (pe_lc2 (te := tLe X.K b fe) (g := tGx X.K b t vs) (g1 := tGx X.K b t1 vs1) (wi1 := tIx X.K b fi1) (vs1 := vs1) F.calm hN hi (blkOk_by ok) (by rw [ev]; exact hv)
    (fun s H C cl fp => ⟨fun pins s' σ H' v u Q I r ⟨D, acc, q⟩ => (hg s H C cl fp D acc (fx_blk F)).run pins s' σ H' v u Q I r q⟩) ht
    (fun s H C cl fp => ⟨fun pins s' σ H' R I ⟨D, acc, q⟩ => (hi1 s H C cl fp D acc (fx_blk F)).run pins s' σ H' R I q⟩)
    (fun s H C cl fp => ⟨fun pins s' σ H' v u Q I r ⟨D, acc, q⟩ => (hg1 s H C cl fp D acc (fx_blk F)).run pins s' σ H' v u Q I r q⟩) ht1
    (fun s H C cl fp => ⟨fun pins s' σ H' Q I ⟨D, acc, q⟩ => (he s H C cl fp D acc (fx_blk F)).run pins s' σ H' Q I q⟩) hs hs1) fun σ H Q h => by subst ev; exact lc2_read h
variable {j : Nat} {y : Str} {py spos : Pos} (hy : X.N[j]? = some y) (hyl : X.env.scope.names.lookup y = some .local) (hsw : swapsWith (.ListComp elt [⟨tg, iter, ifs, 0⟩, ⟨tg1, iter1, ifs1, 0⟩] scope pos) (some (.Name y py)) spos.line X.env = pure true)
include hy hyl hsw
theorem ds_setLc2 : DS X b (.Assign [.Name y py] (.ListComp elt [⟨tg, iter, ifs, 0⟩, ⟨tg1, iter1, ifs1, 0⟩] scope pos) spos) (sSet j (fun env => (oLc2 vs t fi L fc vs1 t1 fi1 fc1 fe env).bind fun ds => .ok (.list ds)) L) :=
  PS.wk (ps_setLc2 (te := tLe X.K b fe) (g := tGx X.K b t vs) (g1 := tGx X.K b t1 vs1) (wi1 := tIx X.K b fi1) (vs1 := vs1) F.calm hN hy hyl hsw hi (blkOk_by ok) (by rw [ev]; exact hv)
    (fun s H C cl fp => ⟨fun pins s' σ H' v u Q I r ⟨D, acc, q⟩ => (hg s H C cl fp D acc (fx_blk F)).run pins s' σ H' v u Q I r q⟩) ht
    (fun s H C cl fp => ⟨fun pins s' σ H' R I ⟨D, acc, q⟩ => (hi1 s H C cl fp D acc (fx_blk F)).run pins s' σ H' R I q⟩)
    (fun s H C cl fp => ⟨fun pins s' σ H' v u Q I r ⟨D, acc, q⟩ => (hg1 s H C cl fp D acc (fx_blk F)).run pins s' σ H' v u Q I r q⟩) ht1
    (fun s H C cl fp => ⟨fun pins s' σ H' Q I ⟨D, acc, q⟩ => (he s H C cl fp D acc (fx_blk F)).run pins s' σ H' Q I q⟩) hs hs1) fun D σ H ⟨env, o, R, h⟩ => by
    subst ev
    exact lc2_read ⟨env, o, R, h.bind.bind.imp fun ds _ h a vs H1 s1 hn ha r1 => by
      have R1 := (R.frees L).same s1
      refine h _ H1 o (R1.set (.lst (.inl ha) (fun z => ?_) (r1.less fun _ z => .inl z))) (per_frees s1 fun a z => ex_set z)
      obtain ⟨u, hu⟩ := (R.frees L).dom z
      rw [hn] at hu; cases hu⟩
theorem ds_setLc2O (hpin : b.pin = none ∨ j ≠ 1 := by first | exact .inl rfl | exact .inr (by decide)) : DS X b (.Assign [.Name y py] (.ListComp elt [⟨tg, iter, ifs, 0⟩, ⟨tg1, iter1, ifs1, 0⟩] scope pos) spos) (sSetO j (oLc2 vs t fi L fc vs1 t1 fi1 fc1 fe) L) :=
  PS.wk (ps_setLc2 (te := tLe X.K b fe) (g := tGx X.K b t vs) (g1 := tGx X.K b t1 vs1) (wi1 := tIx X.K b fi1) (vs1 := vs1) F.calm hN hy hyl hsw hi (blkOk_by ok) (by rw [ev]; exact hv)
    (fun s H C cl fp => ⟨fun pins s' σ H' v u Q I r ⟨D, acc, q⟩ => (hg s H C cl fp D acc (fx_blk F)).run pins s' σ H' v u Q I r q⟩) ht
    (fun s H C cl fp => ⟨fun pins s' σ H' R I ⟨D, acc, q⟩ => (hi1 s H C cl fp D acc (fx_blk F)).run pins s' σ H' R I q⟩)
    (fun s H C cl fp => ⟨fun pins s' σ H' v u Q I r ⟨D, acc, q⟩ => (hg1 s H C cl fp D acc (fx_blk F)).run pins s' σ H' v u Q I r q⟩) ht1
    (fun s H C cl fp => ⟨fun pins s' σ H' Q I ⟨D, acc, q⟩ => (he s H C cl fp D acc (fx_blk F)).run pins s' σ H' Q I q⟩) hs hs1) fun D σ H ⟨env, o, R, h⟩ => by
    subst ev
    exact lc2_read ⟨env, o, R, h.bind.imp fun ds _ h a vs H1 s1 hn ha r1 => h _ H1 _ ((R.frees L).setOwn s1 hn ha r1 hpin) (.same s1 fun c z => by
      rcases ex_setOwn z with z | z
      · exact .inl (ex_frees z)
      · subst z; exact .inr hn)⟩
end
/-! ### i.bit_length(), i >> j, i & 1 -/
section
variable {X : Cx} {b : Bs} {e : Expr} {f : FE} {L : List Nat} {apos pos : Pos} {K : PySem.W.Frag}
@[simp] def gBits : PyData → Option PyData
  | .int i => some (.int (Builtin.Int.intBits i : Nat))
  | _ => none
theorem de_bits (h : DE X b e f L) (hbase : attributeBase e "bit_length" X.env (eval e X.env) = eval e X.env := by rfl) (hline : (apos.endLine == pos.line) = true := by rfl) : DE X b (.Call (.Attribute e "bit_length" apos) [] [] pos) (c1 gBits f) L :=
  PE.wk (pe_bits h hbase hline) fun σ H Q ⟨env, o, R, h⟩ => ⟨env, o, R, h.bind.imp fun d _ h v H1 s1 r1 => by
    obtain ⟨d', e', h⟩ := h.of
    unfold gBits at e'
    split at e'
    · cases e'
      exact ⟨_, r1.int_of, h _ H1 s1 (.int _)⟩
    · cases e'⟩
@[simp] def kShr (i j : Int) : Option Int := if 0 ≤ j then some (i / 2 ^ j.toNat) else none
theorem opd_shr : OpD K (rI (fun _ j => 0 ≤ j) fun i j => .int (i / 2 ^ j.toNat)) (gI kShr) := opd_I fun i j z e => by
  unfold kShr at e; split at e
  · rename_i h; cases e; exact ⟨h, rfl⟩
  · cases e
@[simp] def kAnd1 (i j : Int) : Option Int := if 0 ≤ i ∧ j = 1 then some (i % 2) else none
theorem opd_and1 : OpD K (fun x y H Q => ∃ n : Nat, x = .int (n : Int) ∧ y = .int 1 ∧ Q (.int ((n % 2 : Nat) : Int)) H) (gI kAnd1) := by
  intro H O x y dx dy d Q ho rx ry e q
  unfold gI at e
  split at e
  · rename_i i j
    unfold kAnd1 at e
    split at e
    · rename_i hc
      cases e
      obtain ⟨h0, rfl⟩ := hc
      obtain ⟨n, rfl⟩ := Int.eq_ofNat_of_zero_le h0
      exact ⟨n, rx.int_of, ry.int_of, q _ _ (.refl H) (by
        have : ((n % 2 : Nat) : Int) = (n : Int) % 2 := by omega
        rw [this]; exact .int _)⟩
    · cases e
  · cases e
end
end DL
/-! list(reversed(x)), x a list -/
namespace DL
open PySem PySem.Spec PyProof.Rows L2 RT
section
variable {prog : Program} {w : World} {A : Around} {E : Value → Shared → Prop} {s : Shared}
theorem call_list_rev {it l : Addr} {items : Array Value} {Q : Value → Shared → Prop} (hh : A.handled = none) (hit : s.heap.IsRevIter it l ((items.size : Int) - 1)) (hl : s.heap.IsList l items) (hne : l ≠ it) (hn : items.size ≤ sizeLine)
    (hQ : ∀ (h' : Heap) (tk : Nat) (acc : Array Value) (c' : Nat), (∀ b o, b ≠ it → s.heap.get? b = some o → h'.get? b = some o) → h'.get? s.heap.objs.size = some { cls := .type "list", dict := none, data := .seq acc c', slots := #[] } →
      ItemsOf (fun i v => items[items.size - 1 - i]? = some v) acc items.size → Q (.ref s.heap.objs.size) { s with heap := h', toks := tk }) :
    wpAny (model prog w) A (call (.type "list") [.ref it]) Q E s := by
  refine callType_codes (Q₁ := fun obj s₁ => obj = .ref s.heap.objs.size ∧ s₁ = { s with heap := s.heap.push { cls := .type "list", data := .seq #[] } }) F.called_list (F.typeCall_list_1 _) F.entry_list_init
    (code_list_new _ ⟨rfl, rfl⟩) fun obj s₁ h₁ => ?_
  obtain ⟨rfl, rfl⟩ := h₁
  have hS : (s.heap.push { cls := .type "list", data := .seq #[] }).get? s.heap.objs.size = some { cls := .type "list", data := .seq #[] } := Heap.get?_push_size _ rfl
  refine ⟨⟨_, hS, rfl⟩, F.args_list_init_2 _ _, ?_⟩
  obtain ⟨oi, hoi, _⟩ := id hit
  obtain ⟨ol, hol, _⟩ := id hl
  have hSi : s.heap.objs.size ≠ it := Nat.ne_of_gt (Heap.lt_size hoi)
  have hSl : s.heap.objs.size ≠ l := Nat.ne_of_gt (Heap.lt_size hol)
  have hSf : s.heap.objs.size ∉ [it, l] := by simp only [List.mem_cons, List.not_mem_nil, or_false, not_or]; exact ⟨hSi, hSl⟩
  show wpAny _ _ (do let old ← Builtin.List.listItems (.ref s.heap.objs.size); Builtin.List.listUpdate (.ref s.heap.objs.size) (fun _ => #[]); letGo old.toList.reverse; Builtin.List.listExtendWith (.ref s.heap.objs.size) (.ref it) .none) _ _ _
  refine wpAny_bind ?_
  unfold Builtin.List.listItems
  refine wpAny_bind (wpAny_seqItems hS rfl (wpAny_pure ?_))
  show wpAny _ _ (updateSeq s.heap.objs.size (fun _ => #[]) >>= fun _ => letGo (#[] : Array Value).toList.reverse >>= fun _ => Builtin.List.listExtendWith (.ref s.heap.objs.size) (.ref it) .none) _ _ _
  refine wpAny_bind (wpAny_updateSeq hS rfl ?_)
  have hS₂ := Heap.get?_update_self (Obj.mapSeq (fun _ => (#[] : Array Value))) hS rfl
  refine wpAny_bind (wpAny_letGo ?_)
  generalize hh2 : (s.heap.push { cls := .type "list", data := .seq #[] }).update s.heap.objs.size (Obj.mapSeq (fun _ => (#[] : Array Value))) = h2 at hS₂ ⊢
  have oth : ∀ b o, s.heap.get? b = some o → h2.get? b = some o := fun b o e => by
    rw [← hh2]
    exact (Heap.get?_update_other _ _ (Nat.ne_of_gt (Heap.lt_size e))).trans (Heap.get?_push_of_some _ e)
  have hit1 : h2.IsRevIter it l ((items.size : Int) - 1) := hit.at (oth it)
  have hl1 : h2.IsList l items := by
    obtain ⟨o, e, r⟩ := hl
    exact ⟨o, oth _ _ e, r⟩
  have hT : ({ s with heap := h2 } : Shared).TypeIs (.ref it) "list_reverseiterator" := Heap.IsRevIter.typeIs (s := { s with heap := h2 }) hit1
  have h1 : Builtin.List.listSameRef (.ref s.heap.objs.size) (.ref it) = false := by simp [Builtin.List.listSameRef, hSi]
  have W := (Walks.listRev (prog := prog) (w := w) (A := A.in1.in1) hh it l hne items).toS
  unfold Builtin.List.listExtendWith
  refine wpAny_bind (wpAny_typeOf hT ?_)
  rw [if_neg (by rw [h1]; decide)]
  refine wpAny_bind (wpAny_pyIter_revIter (s := { s with heap := h2 }) hit1 ?_)
  refine wpAny_bind (wpAny_holding ?_)
  unfold Builtin.List.listLengthHint
  refine wpAny_bind (wpAny_specialOf hT nolen_lri ?_)
  show wpAny _ A.in1.in1 (specialOf (Value.ref it) (Str.ofString "__length_hint__") >>= _) _ _ _
  refine wpAny_bind (wpAny_specialOf hT hint_lri ?_)
  generalize hid : ("list_reverseiterator.__length_hint__" : String) = id0
  wp_delta
  rw [show splitId id0 = some ("list_reverseiterator", "__length_hint__") from by subst hid; decide +kernel]
  subst hid
  refine wpAny_bind (wpAny_isInstance (b := true) hT (by rw [isSubtype_type]; kernel_rfl) ?_)
  refine wpAny_pure ?_
  rw [if_neg (by decide)]
  have e0 : ((items.size : Nat) : Int) - 1 - ((0 : Nat) : Int) = (items.size : Int) - 1 := by omega
  refine wpAny_pure ⟨plainId_quiet F.plain_extend_loop _, codeAny_extend_loopS W hn _ hSf _ items.size 0 _ _ _ rfl (Nat.zero_le _) ⟨Nat.zero_le _, by rw [e0]; exact hit1, hl1⟩ hS₂ (ItemsOf.nil _) fun s' acc' c' hm hS' hacc => ?_⟩
  refine ⟨rfl, ?_⟩
  rw [Moved.eq_with hm]
  refine hQ s'.heap s'.toks acc' c' (fun b o hb e => hm.heap b o (fun hmem => ?_) (oth b o e)) hS' hacc
  rcases List.mem_cons.mp hmem with e' | hmem
  · exact absurd (Heap.lt_size e) (by rw [e']; exact Nat.lt_irrefl _)
  · exact hb (List.mem_singleton.mp hmem)
end
section
variable {X : Cx}
def tLstRev (K : PySem.W.Frag) (te : TE) : TE := fun σ H Q => te σ H fun v H1 => ∃ (a : Addr) (xs : List V), v = .ref a ∧ SqL K H1 a xs ∧ ∀ q, H1 q = none → Q (.ref q) (upd H1 q (.lst xs.reverse))
theorem pe_lstRev {e : Expr} {te : TE} {p p2 pos pos2 : Pos} (hc : X.calm = true) (hg : Gl X "list") (hm : X.mg "list" = none) (hg2 : Gl X "reversed") (hm2 : X.mg "reversed" = none) (he : PE X e te)
    (hs : starEach [e] X.env = (false, eval e X.env) :: starEach [] X.env := by rfl)
    (hs2 : starEach [.Call (.Name "reversed" p2) [e] [] pos2] X.env = (false, eval (.Call (.Name "reversed" p2) [e] [] pos2) X.env) :: starEach [] X.env := by rfl) :
    PE X (.Call (.Name "list" p) [.Call (.Name "reversed" p2) [e] [] pos2] [] pos) (tLstRev X.K te) := by
  refine ⟨fun pins s σ H Q I h => ?_⟩
  refine Call_ (ld_blt I hg hm bb_list (PyProof.Rows.callWith_type1 (args_cons (Call_ (ld_blt I hg2 hm2 PyProof.Rows.boot_reversed (PyProof.Rows.callWith_type1 (args_cons (thn (he.run pins s σ H _ I h) fun u s1 ⟨v, H1, I1, r1, q1⟩ => args_nil ?_) hs) hs rfl))) hs2) hs2 rfl))
  obtain ⟨a, xs, ev, hq, q⟩ := q1
  subst ev
  obtain rfl : u = Value.ref a := r1
  obtain ⟨its, rv, p', hz⟩ := I1.list hq
  refine call_reversed_list p'.isList (args_nil ?_)
  have hl := p'.isList
  obtain ⟨ol, hol, _⟩ := id hl
  have hne : a ≠ s1.heap.objs.size := Nat.ne_of_lt (Heap.lt_size hol)
  have hn : its.toArray.size ≤ sizeLine := by rw [List.size_toArray, ← rv.length]; exact hz
  refine call_list_rev (s := { s1 with heap := s1.heap.push (revObj a ((its.toArray.size : Int) - 1)) }) (I1.ok.hd hc) ⟨_, Heap.get?_push_size _ rfl, rfl, rfl⟩ (hl.push _) hne hn fun h' tk acc c' hk hS hi => ?_
  have hsz : (s1.heap.push (revObj a ((its.toArray.size : Int) - 1))).objs.size = s1.heap.objs.size + 1 := Heap.size_push ..
  have I3 : Inv X pins σ (upd H1 (s1.heap.push (revObj a ((its.toArray.size : Int) - 1))).objs.size (.lst xs.reverse)) { s1 with heap := h', toks := tk } := I1.laid (t' := tk) (fun b o e => hk b o (Nat.ne_of_lt (Heap.lt_size e)) (Heap.get?_push_of_some _ e)) (by rw [hsz]; omega)
    (show ObjOk X.prog X.w _ _ _ (.lst xs.reverse) from ⟨by rw [List.length_reverse]; exact hz, acc.toList, c', vals_rev rv hi, by rw [Array.toArray_toList]; exact hS⟩)
  exact ⟨.ref _, _, I3, rfl, q _ (I1.hok.fresh (by rw [hsz]; omega))⟩
/-- list(reversed(e)) -/
@[simp] def oRvL (f : FE) (env : En) : Rz (List PyData) := (f env).bind fun x => match x with
  | .list xs => .ok xs.reverse
  | _ => .st
theorem do_lstRev {b : Bs} {e : Expr} {f : FE} {L : List Nat} {p p2 pos pos2 : Pos} (F : Fx X b) (hg : Gl X "list") (hm : X.mg "list" = none) (hg2 : Gl X "reversed") (hm2 : X.mg "reversed" = none) (h : DB X b e f L)
    (hs : starEach [e] X.env = (false, eval e X.env) :: starEach [] X.env := by rfl)
    (hs2 : starEach [.Call (.Name "reversed" p2) [e] [] pos2] X.env = (false, eval (.Call (.Name "reversed" p2) [e] [] pos2) X.env) :: starEach [] X.env := by rfl) : DO X b (.Call (.Name "list" p) [.Call (.Name "reversed" p2) [e] [] pos2] [] pos) (oRvL f) L :=
  PE.wk (pe_lstRev F.calm hg hm hg2 hm2 h hs hs2) fun σ H Q ⟨env, o, R, h⟩ => ⟨env, o, R, h.bind.imp fun x _ h v H1 s1 r1 => by
    split at h
    · obtain ⟨a, vs, rfl, q1, q2⟩ := r1.sqL
      exact ⟨a, vs, rfl, q1, fun p hp => h p vs.reverse _ (s1.trans (same_upd hp)) (s1.free hp) upd_same (rpa_new hp q2.reverse)⟩
    · exact False.elim h⟩
end
end DL
/-! texts -/
namespace DL
open PySem PySem.Spec PyProof.Rows L2
/-- a number's text -/
def intS (i : Int) : Str := (toString i : String)
section
variable {X : Cx} {b : Bs} {e e1 e2 : Expr} {es : List Expr} {f f1 f2 : FE} {L La Lb : List Nat} {pos p p2 apos : Pos}
@[simp] def gStr : PyData → Option PyData
  | .int i => if i.natAbs < 10 ^ 60 then some (.str (intS i)) else none
  | _ => none
theorem cad_str {K : PySem.W.Frag} : CaD K (fun xs H Q => ∃ i, xs = [.int i] ∧ i.natAbs.log2 < 1920 ∧ Q (.str (toString i)) H) gStr := by
  intro H O x dx d Q rx e q
  unfold gStr at e
  split at e
  · split at e
    · rename_i h
      cases e
      exact ⟨_, by rw [(rx.rp fun _ z => nomatch z).int_of], log_of h, q _ _ (.refl H) (.str _)⟩
    · cases e
  · cases e
/-! f-strings with their value -/
abbrev FV := En → Rz Str
def tDV (K : PySem.W.Frag) (b : Bs) (f : FV) : TE := fun σ H Q => ∃ env o, RS K b H env σ o ∧ Pz K b (f env) fun y => ∀ H', Same H H' → Q (.str y) H'
def DV (X : Cx) (b : Bs) (e : Expr) (f : FV) : Prop := PE X e (tDV X.K b f)
@[simp] def vStr (x : Str) (_ : En) : Rz Str := .ok x
theorem dv_str {x : Str} {j : Nat} : DV X b (.Constant (.str x) j pos) (vStr x) := PE.wk pe_str fun σ H Q ⟨env, o, R, h⟩ => h H (.refl H)
@[simp] def gFmt : PyData → Option Str
  | .int i => if i.natAbs < 10 ^ 60 then some (intS i) else none
  | .str y => if y.length ≤ 100000 then some y else none
  | _ => none
@[simp] def vFmt (f : FE) (env : En) : Rz Str := (f env).bind fun d => Rz.of (gFmt d)
theorem dv_fmt (h : DE X b e f L) : DV X b (.FormattedValue e (-1) none pos) (vFmt f) :=
  PE.wk (pe_fmt h) fun σ H Q ⟨env, o, R, h⟩ => ⟨env, o, R, h.bind.imp fun d _ h v H1 s1 r1 => by
    obtain ⟨y, e, h2⟩ := h.of
    clear h
    unfold gFmt at e
    split at e
    · split at e
      · rename_i hz
        cases e
        exact .inr ⟨_, r1.int_of, log_of hz, h2 H1 s1⟩
      · cases e
    · split at e
      · rename_i hz
        cases e
        have := million
        exact .inl ⟨_, r1.str_of, by omega, h2 H1 s1⟩
      · cases e
    · cases e⟩
def jGo : List FV → Str → En → Rz Str
  | [], acc, _ => .ok acc
  | f :: fs, acc, env => (f env).bind fun y => if (acc ++ y).length ≤ 1000000 then jGo fs (acc ++ y) env else .st
theorem js_go {K : PySem.W.Frag} : ∀ (fs : List FV) (acc : Str) (σ : L2.St) (H : Hp) (env : En) (o : Nat → List Nat → Addr) (Q : Str → Hp → Prop), RS K b H env σ o → Pz K b (jGo fs acc env) (fun out => ∀ H', Same H H' → Q out H') → tJs (fs.map (tDV K b)) acc σ H Q
  | [], acc, σ, H, env, o, Q, R, h => h H (.refl H)
  | f :: fs, acc, σ, H, env, o, Q, R, h => by
    unfold jGo at h
    refine ⟨env, o, R, h.bind.imp fun y _ h H1 s1 => ?_⟩
    split at h
    · rename_i hz
      have := million
      exact ⟨y, rfl, by omega, js_go fs _ σ H1 env o Q (R.same s1) (h.imp fun out _ h H2 s2 => h H2 (s1.trans s2))⟩
    · exact False.elim h
def DJv (X : Cx) (b : Bs) (es : List Expr) (fs : List FV) : Prop := PJ X es (fs.map (tDV X.K b))
theorem djv_nil : DJv X b [] [] := PJ.nil
theorem djv_cons {fv : FV} {fs : List FV} (h1 : DV X b e fv) (h2 : DJv X b es fs) : DJv X b (e :: es) (fv :: fs) := PJ.cons h1 h2
@[simp] def cFs (fs : List FV) (env : En) : Rz PyData := (jGo fs Str.empty env).bind fun y => .ok (.str y)
theorem de_fs {v1 v2 : Expr} {rest : List Expr} {fs : List FV} (h : DJv X b (v1 :: v2 :: rest) fs) : DE X b (.JoinedStr (v1 :: v2 :: rest) pos) (cFs fs) [] :=
  PE.wk (pe_joined h) fun σ H Q ⟨env, o, R, q⟩ => js_go fs _ σ H env o _ R (q.bind.imp fun y _ q H' s => q _ H' s (.str y))
/-! methods of a text -/
@[simp] def cT0 (g : Str → Option PyData) (f : FE) (env : En) : Rz PyData := (f env).bind fun x => match x with
  | .str a => Rz.of (g a)
  | _ => .st
@[simp] def cT1 (g : Str → PyData → Option PyData) (f1 f2 : FE) (env : En) : Rz PyData := (f1 env).bind fun x => match x with
  | .str a => (f2 env).bind fun y => Rz.of (g a y)
  | _ => .st
theorem de_m0 {id : String} {name : Str} {r : V → List V → Hp → VK → Prop} {g : Str → Option PyData} (slot : Slot "str" name id) (ty : typeOf (.builtin id) = pure (.type "method_descriptor")) (rule : MtR X id r)
    (hd : ∀ (H : Hp) (O : Addr → Prop) (a : Str) (d : PyData) (Q : VK), g a = some d → (∀ v H', Same H H' → Rp X.K H' O v d → Q v H') → r (.str a) [] H Q) (ho : DE X b e f L)
    (hbase : attributeBase e name X.env (eval e X.env) = eval e X.env := by rfl) (hline : (apos.endLine == pos.line) = true := by rfl) : DE X b (.Call (.Attribute e name apos) [] [] pos) (cT0 g f) L :=
  PE.wk (pe_m0 slot ty rule ho hbase hline) fun σ H Q ⟨env, o, R, h⟩ => ⟨env, o, R, h.bind.imp fun d _ h v H1 s1 r1 => by
    split at h
    · rename_i a _
      obtain ⟨d', e', h⟩ := h.of
      cases r1.str_of
      exact ⟨⟨a, rfl⟩, hd H1 (Ex b (frees L env) o) a d' Q e' fun v H' s r => h v H' (s1.trans s) r⟩
    · exact False.elim h⟩
theorem de_m1 {id : String} {name : Str} {r : V → List V → Hp → VK → Prop} {g : Str → PyData → Option PyData} (slot : Slot "str" name id) (ty : typeOf (.builtin id) = pure (.type "method_descriptor")) (rule : MtR X id r)
    (hd : ∀ (H : Hp) (O : Addr → Prop) (a : Str) (y : V) (dy d : PyData) (Q : VK), RpB X.K H O y dy → g a dy = some d → (∀ v H', Same H H' → Rp X.K H' O v d → Q v H') → r (.str a) [y] H Q) (h1 : DE X b e1 f1 La) (h2 : DB X b e2 f2 Lb)
    (hs : starEach [e2] X.env = [(false, eval e2 X.env)] := by rfl) (hbase : attributeBase e1 name X.env (eval e1 X.env) = eval e1 X.env := by rfl) (hline : (apos.endLine == pos.line) = true := by rfl) :
    DE X b (.Call (.Attribute e1 name apos) [e2] [] pos) (cT1 g f1 f2) (La ++ Lb) :=
  PE.wk (L2.pe_m1 slot ty rule h1 h2 hs hbase hline) fun σ H Q ⟨env, o, R, h⟩ => ⟨env, o, R, h.bind.imp fun d _ h v H1 s1 r1 => by
    split at h
    · rename_i a _
      cases r1.str_of
      refine ⟨⟨a, rfl⟩, env, o, R.same s1, h.bind.imp fun dy _ h y H2 s2 r2 => ?_⟩
      obtain ⟨d', e', h⟩ := h.of
      exact hd H2 (Ex b (frees (La ++ Lb) env) o) a y dy d' Q (r2.move (.refl _) fun a z => (ex_frees_app z).2) e' fun v H' s r => h v H' ((s1.trans s2).trans s) r
    · exact False.elim h⟩
/-- a list's texts -/
def strsOf : List PyData → Option (List Str)
  | [] => some []
  | .str y :: ds => (strsOf ds).map (y :: ·)
  | _ :: _ => none
theorem strsOf_map (ys : List Str) : strsOf (ys.map .str) = some ys := by
  induction ys with
  | nil => rfl
  | cons y ys ih => show (strsOf (ys.map .str)).map (y :: ·) = _; rw [ih]; rfl
theorem rpa_strs {K : PySem.W.Frag} {H : Hp} {O : Addr → Prop} : ∀ {ds : List PyData} {vs : List V} {ys : List Str}, RpA K H O vs ds → strsOf ds = some ys → vs = ys.map V.str
  | [], _, _, r, e => by cases r; cases e; rfl
  | .str y :: ds, _, ys, r, e => by
    cases r with
    | cons a t =>
      have e : (strsOf ds).map (y :: ·) = some ys := e
      cases q : strsOf ds with
      | none => rw [q] at e; cases e
      | some zs =>
        rw [q] at e
        cases e
        rw [a.str_of, rpa_strs t q]
        rfl
  | .none :: _, _, _, _, e => by cases e
  | .bool _ :: _, _, _, _, e => by cases e
  | .int _ :: _, _, _, _, e => by cases e
  | .list _ :: _, _, _, _, e => by cases e
  | .tuple _ :: _, _, _, _, e => by cases e
  | .dict _ :: _, _, _, _, e => by cases e
def joinOk (a : Str) (ys : List Str) : Bool := decide ((ys.map (·.length)).sum + ys.length * a.length ≤ 1000000)
@[simp] def gJoinL (a : Str) (ds : List PyData) : Option PyData := (strsOf ds).bind fun ys => if joinOk a ys = true then some (.str (Txt.join a ys)) else none
@[simp] def gJoin (a : Str) : PyData → Option PyData
  | .list ds => gJoinL a ds
  | .tuple ds => gJoinL a ds
  | _ => none
theorem de_join (h1 : DE X b e1 f1 La) (h2 : DB X b e2 f2 Lb)
    (hs : starEach [e2] X.env = [(false, eval e2 X.env)] := by rfl) (hbase : attributeBase e1 "join" X.env (eval e1 X.env) = eval e1 X.env := by rfl) (hline : (apos.endLine == pos.line) = true := by rfl) :
    DE X b (.Call (.Attribute e1 "join" apos) [e2] [] pos) (cT1 gJoin f1 f2) (La ++ Lb) :=
  de_m1 F.slot_str_join F.type_str_join mt_join (by
    intro H O a y dy d Q ry e q
    have go : ∀ ds, gJoinL a ds = some d → ∃ ys, strsOf ds = some ys ∧ (ys.map (·.length)).sum + ys.length * a.length ≤ 16777216 ∧ d = .str (Txt.join a ys) := by
      intro ds e
      unfold gJoinL at e
      cases q1 : strsOf ds with
      | none => rw [q1] at e; cases e
      | some ys =>
        rw [q1] at e
        replace e : (if joinOk a ys = true then some (PyData.str (Txt.join a ys)) else none) = some d := e
        split at e
        · rename_i hz
          cases e
          have := of_decide_eq_true hz
          exact ⟨ys, rfl, by omega, rfl⟩
        · cases e
    unfold gJoin at e
    split at e
    · obtain ⟨ys, e1, e2, rfl⟩ := go _ e
      obtain ⟨c, vs, rfl, k1, k2⟩ := ry.sqL
      rw [rpa_strs k2 e1] at k1
      exact ⟨a, c, ys, rfl, rfl, .inl k1, e2, q _ _ (.refl H) (.str _)⟩
    · obtain ⟨ys, e1, e2, rfl⟩ := go _ e
      obtain ⟨c, vs, rfl, k1, k2⟩ := ry.sqT
      rw [rpa_strs k2 e1] at k1
      exact ⟨a, c, ys, rfl, rfl, .inr k1, e2, q _ _ (.refl H) (.str _)⟩
    · cases e) h1 h2 hs hbase hline
@[simp] def gSw (a : Str) : PyData → Option PyData
  | .str y => some (.bool (Txt.startswith a y))
  | _ => none
theorem de_sw (h1 : DE X b e1 f1 La) (h2 : DB X b e2 f2 Lb)
    (hs : starEach [e2] X.env = [(false, eval e2 X.env)] := by rfl) (hbase : attributeBase e1 "startswith" X.env (eval e1 X.env) = eval e1 X.env := by rfl) (hline : (apos.endLine == pos.line) = true := by rfl) :
    DE X b (.Call (.Attribute e1 "startswith" apos) [e2] [] pos) (cT1 gSw f1 f2) (La ++ Lb) :=
  de_m1 F.slot_str_startswith F.type_str_startswith mt_startswith (by
    intro H O a y dy d Q ry e q
    unfold gSw at e
    split at e
    · cases e
      cases (ry.rp fun _ z => nomatch z).str_of
      exact ⟨a, _, rfl, rfl, q _ _ (.refl H) (.bl _)⟩
    · cases e) h1 h2 hs hbase hline
@[simp] def gUp (a : Str) : Option PyData := if a.length ≤ 1000000 then some (.str (Txt.upper a)) else none
theorem de_up (h : DE X b e f L) (hbase : attributeBase e "upper" X.env (eval e X.env) = eval e X.env := by rfl) (hline : (apos.endLine == pos.line) = true := by rfl) : DE X b (.Call (.Attribute e "upper" apos) [] [] pos) (cT0 gUp f) L :=
  de_m0 F.slot_str_upper F.type_str_upper mt_upper (by
    intro H O a d Q e q
    unfold gUp at e
    split at e
    · cases e
      exact ⟨a, rfl, rfl, by omega, q _ _ (.refl H) (.str _)⟩
    · cases e) h hbase hline
/-- x.split(y): a new list -/
@[simp] def oSplit (f1 f2 : FE) (env : En) : Rz (List PyData) := (f1 env).bind fun x => match x with
  | .str a => (f2 env).bind fun y => match y with
    | .str c => if (c.length == 0) = false ∧ a.length ≤ 1000000 then .ok ((Txt.split a c).map .str) else .st
    | _ => .st
  | _ => .st
theorem rpa_str {K : PySem.W.Frag} {H : Hp} {O : Addr → Prop} : ∀ ys : List Str, RpA K H O (ys.map V.str) (ys.map .str)
  | [] => .nil
  | y :: ys => .cons (.str y) (rpa_str ys)
theorem do_split (h1 : DE X b e1 f1 La) (h2 : DE X b e2 f2 Lb)
    (hs : starEach [e2] X.env = [(false, eval e2 X.env)] := by rfl) (hbase : attributeBase e1 "split" X.env (eval e1 X.env) = eval e1 X.env := by rfl) (hline : (apos.endLine == pos.line) = true := by rfl) :
    DO X b (.Call (.Attribute e1 "split" apos) [e2] [] pos) (oSplit f1 f2) (La ++ Lb) :=
  PE.wk (pe_split h1 h2 hs hbase hline) fun σ H Q ⟨env, o, R, h⟩ => ⟨env, o, R, h.bind.imp fun d _ h v H1 s1 r1 => by
    split at h
    · rename_i a _
      cases r1.str_of
      refine ⟨⟨a, rfl⟩, env, o, R.same s1, h.bind.imp fun dy _ h y H2 s2 r2 => ?_⟩
      split at h
      · rename_i c _
        cases r2.str_of
        split at h
        · rename_i hz
          have := million
          have hm : (1000000 : Nat) + 2 ≤ sizeLine := by rw [sizeLine_eq]; decide
          exact ⟨a, c, rfl, rfl, hz.1, by omega, fun q hq => h q _ _ ((s1.trans s2).trans (same_upd hq)) ((s1.trans s2).free hq) upd_same (rpa_str _)⟩
        · exact False.elim h
      · exact False.elim h
    · exact False.elim h⟩
end
end DL
/-! texts as lists of signs -/
namespace DL
open PySem PySem.Spec PyProof.Rows L2
abbrev sg (x : Str) : List Nat := x.cps.toList
def mkS (l : List Nat) : Str := ⟨l.toArray⟩
@[simp] theorem sg_mk (l : List Nat) : sg (mkS l) = l := by simp [sg, mkS]
theorem mk_sg (x : Str) : mkS (sg x) = x := by
  cases x with
  | mk c => simp [mkS, sg]
theorem sg_inj {a b : Str} (h : sg a = sg b) : a = b := by rw [← mk_sg a, ← mk_sg b, h]
theorem sg_app (a b : Str) : sg (a ++ b) = sg a ++ sg b := by
  show (a.cps ++ b.cps).toList = _
  simp [sg]
theorem mk_app (a b : List Nat) : mkS a ++ mkS b = mkS (a ++ b) := sg_inj (by rw [sg_app, sg_mk, sg_mk, sg_mk])
theorem len_sg (x : Str) : x.length = (sg x).length := by simp [Str.length, sg]
theorem len_mk (l : List Nat) : (mkS l).length = l.length := by rw [len_sg, sg_mk]
theorem len_app (a b : Str) : (a ++ b).length = a.length + b.length := Str.length_append a b
theorem str_assoc (a b c : Str) : a ++ b ++ c = a ++ (b ++ c) := sg_inj (by rw [sg_app, sg_app, sg_app, sg_app, List.append_assoc])
def joinL (s : List Nat) : List (List Nat) → List Nat
  | [] => []
  | [x] => x
  | x :: y :: r => x ++ s ++ joinL s (y :: r)
theorem sg_join' (a : Str) : ∀ ys : List Str, sg (Str.join a ys) = joinL (sg a) (ys.map sg)
  | [] => rfl
  | [x] => rfl
  | x :: y :: r => by
    show sg (x ++ a ++ Str.join a (y :: r)) = sg x ++ sg a ++ joinL (sg a) ((y :: r).map sg)
    rw [sg_app, sg_app, sg_join' a (y :: r)]
theorem sg_join (a : Str) (ys : List Str) : sg (Txt.join a ys) = joinL (sg a) (ys.map sg) := by
  show sg (Builtin.Str.glued a ys) = _
  rw [StrLaws.glued_eq_join, sg_join']
theorem joinL_nil : ∀ ys : List (List Nat), joinL [] ys = ys.flatten
  | [] => rfl
  | [x] => by simp [joinL]
  | x :: y :: r => by
    rw [joinL, joinL_nil (y :: r)]
    simp
/-- cut at each c -/
def splC (c : Nat) : List Nat → List (List Nat)
  | [] => [[]]
  | x :: l => if x = c then [] :: splC c l else match splC c l with
    | [] => [[x]]
    | p :: ps => (x :: p) :: ps
theorem splC_ne (c : Nat) (l : List Nat) : splC c l ≠ [] := by
  cases l with
  | nil => exact List.cons_ne_nil _ _
  | cons x l =>
    unfold splC
    split
    · exact List.cons_ne_nil _ _
    · split <;> exact List.cons_ne_nil _ _
theorem splC_free {c : Nat} : ∀ {p : List Nat}, c ∉ p → splC c p = [p]
  | [], _ => rfl
  | x :: p, h => by
    rw [List.mem_cons, not_or] at h
    rw [splC, if_neg (Ne.symm h.1), splC_free h.2]
theorem splC_app {c : Nat} : ∀ {p l : List Nat}, c ∉ p → splC c (p ++ c :: l) = p :: splC c l
  | [], l, _ => by rw [List.nil_append, splC, if_pos rfl]
  | x :: p, l, h => by
    rw [List.mem_cons, not_or] at h
    rw [List.cons_append, splC, if_neg (Ne.symm h.1), splC_app h.2]
theorem splC_join (c : Nat) : ∀ parts : List (List Nat), parts ≠ [] → (∀ p ∈ parts, c ∉ p) → splC c (joinL [c] parts) = parts
  | [], h, _ => absurd rfl h
  | [x], _, h => splC_free (h x (List.mem_cons_self ..))
  | x :: y :: r, _, h => by
    rw [joinL, List.append_assoc, List.singleton_append, splC_app (h x (List.mem_cons_self ..)), splC_join c (y :: r) (List.cons_ne_nil _ _) (fun p hp => h p (List.mem_cons_of_mem _ hp))]
theorem split_eq (x : Str) (c : Nat) : Txt.split x ⟨#[c]⟩ = (splC c (sg x)).map mkS := by
  have hj := StrLaws.join_split x ⟨#[c]⟩
  have hf := StrLaws.split_free x c
  have hne : Txt.split x ⟨#[c]⟩ ≠ [] := by
    intro e
    rw [e] at hj
    have hx : x.length = 0 := by rw [← hj]; rfl
    unfold Txt.split at e
    rw [if_pos (by rw [hx]; rfl)] at e
    cases e
  have h1 : sg x = joinL [c] ((Txt.split x ⟨#[c]⟩).map sg) := by
    conv => lhs; rw [← hj]
    rw [sg_join']
  rw [h1, splC_join c _ (by simpa using hne) (fun p hp => by
    obtain ⟨q, hq, rfl⟩ := List.mem_map.mp hp
    exact hf q hq), List.map_map]
  conv => lhs; rw [← List.map_id (Txt.split x ⟨#[c]⟩)]
  exact List.map_congr_left fun q _ => (mk_sg q).symm
/-- begins with -/
theorem sw_eq (x y : Str) (h : sg y ≠ []) : Txt.startswith x y = (sg y).isPrefixOf (sg x) := by
  have ha := TL.at_iff (x := x) (y := y) h 0
  rw [Bool.eq_iff_iff]
  unfold Txt.startswith
  rw [Bool.and_eq_true, decide_eq_true_eq]
  constructor
  · intro z
    have := ha.mp ⟨z.1, z.2⟩
    rw [List.drop_zero] at this
    have e : (TL.tl x).take (TL.tl y).length = TL.tl y := eq_of_beq this
    exact List.isPrefixOf_iff_prefix.mpr (by rw [show sg y = TL.tl y from rfl, ← e]; exact List.take_prefix _ _)
  · intro z
    have e := List.isPrefixOf_iff_prefix.mp z
    have := ha.mpr (by
      rw [List.drop_zero]
      show ((TL.tl x).take (TL.tl y).length == TL.tl y) = true
      rw [beq_iff_eq]
      exact (List.prefix_iff_eq_take.mp e).symm)
    exact ⟨this.1, this.2⟩
theorem cutS_from (x : Str) (k : Nat) : cutS x (some (k : Int)) none = mkS ((sg x).drop k) := by
  unfold cutS
  apply sg_inj
  rw [sg_mk]
  show (List.toArray _).toList = _
  rw [List.toList_toArray, HT.sIx_nat, HT.sIx_none, len_sg]
  by_cases h : k ≤ (sg x).length
  · rw [Nat.min_eq_left h]
    exact List.take_of_length_le (by rw [List.length_drop]; exact Nat.le_refl _)
  · rw [Nat.min_eq_right (by omega), List.drop_eq_nil_of_le (Nat.le_refl _), List.take_nil, List.drop_eq_nil_of_le (by omega)]
theorem eqv_str (a b : Str) : PyData.eqv (.str a) (.str b) = (a == b) := rfl
end DL
/-! Dicts whose keys are tuples of ints (nested), or ints and texts: as data, and what the operations do. -/
namespace DL
open PySem PySem.Spec PyProof.Rows L2

/-! ### equality of data is decided -/
mutual
def dbeq : PyData → PyData → Bool
  | .none, .none => true
  | .bool a, .bool b => a == b
  | .int a, .int b => a == b
  | .str a, .str b => a == b
  | .list a, .list b => dbeqs a b
  | .tuple a, .tuple b => dbeqs a b
  | .dict a, .dict b => dbeqp a b
  | _, _ => false
def dbeqs : List PyData → List PyData → Bool
  | [], [] => true
  | a :: as, b :: bs => dbeq a b && dbeqs as bs
  | _, _ => false
def dbeqp : List (PyData × PyData) → List (PyData × PyData) → Bool
  | [], [] => true
  | (a, c) :: as, (b, d) :: bs => dbeq a b && (dbeq c d && dbeqp as bs)
  | _, _ => false
end
mutual
theorem dbeq_self : ∀ a : PyData, dbeq a a = true
  | .none => rfl
  | .bool a => by simp [dbeq]
  | .int a => by simp [dbeq]
  | .str a => by simp [dbeq]
  | .list a => by rw [dbeq]; exact dbeqs_self a
  | .tuple a => by rw [dbeq]; exact dbeqs_self a
  | .dict a => by rw [dbeq]; exact dbeqp_self a
theorem dbeqs_self : ∀ a : List PyData, dbeqs a a = true
  | [] => rfl
  | a :: as => by rw [dbeqs, dbeq_self a, dbeqs_self as]; rfl
theorem dbeqp_self : ∀ a : List (PyData × PyData), dbeqp a a = true
  | [] => rfl
  | (a, c) :: as => by rw [dbeqp, dbeq_self a, dbeq_self c, dbeqp_self as]; rfl
end
mutual
theorem dbeq_eq : ∀ a b : PyData, dbeq a b = true → a = b
  | .none, .none, _ => rfl
  | .bool a, .bool b, h => by simp only [dbeq, beq_iff_eq] at h; rw [h]
  | .int a, .int b, h => by simp only [dbeq, beq_iff_eq] at h; rw [h]
  | .str a, .str b, h => by simp only [dbeq, beq_iff_eq] at h; rw [h]
  | .list a, .list b, h => by rw [dbeq] at h; rw [dbeqs_eq a b h]
  | .tuple a, .tuple b, h => by rw [dbeq] at h; rw [dbeqs_eq a b h]
  | .dict a, .dict b, h => by rw [dbeq] at h; rw [dbeqp_eq a b h]
  | .none, .bool _, h | .none, .int _, h | .none, .str _, h | .none, .list _, h | .none, .tuple _, h | .none, .dict _, h => by simp [dbeq] at h
  | .bool _, .none, h | .bool _, .int _, h | .bool _, .str _, h | .bool _, .list _, h | .bool _, .tuple _, h | .bool _, .dict _, h => by simp [dbeq] at h
  | .int _, .none, h | .int _, .bool _, h | .int _, .str _, h | .int _, .list _, h | .int _, .tuple _, h | .int _, .dict _, h => by simp [dbeq] at h
  | .str _, .none, h | .str _, .bool _, h | .str _, .int _, h | .str _, .list _, h | .str _, .tuple _, h | .str _, .dict _, h => by simp [dbeq] at h
  | .list _, .none, h | .list _, .bool _, h | .list _, .int _, h | .list _, .str _, h | .list _, .tuple _, h | .list _, .dict _, h => by simp [dbeq] at h
  | .tuple _, .none, h | .tuple _, .bool _, h | .tuple _, .int _, h | .tuple _, .str _, h | .tuple _, .list _, h | .tuple _, .dict _, h => by simp [dbeq] at h
  | .dict _, .none, h | .dict _, .bool _, h | .dict _, .int _, h | .dict _, .str _, h | .dict _, .list _, h | .dict _, .tuple _, h => by simp [dbeq] at h
theorem dbeqs_eq : ∀ a b : List PyData, dbeqs a b = true → a = b
  | [], [], _ => rfl
  | a :: as, b :: bs, h => by
    rw [dbeqs, Bool.and_eq_true] at h
    rw [dbeq_eq a b h.1, dbeqs_eq as bs h.2]
  | [], _ :: _, h => by simp [dbeqs] at h
  | _ :: _, [], h => by simp [dbeqs] at h
theorem dbeqp_eq : ∀ a b : List (PyData × PyData), dbeqp a b = true → a = b
  | [], [], _ => rfl
  | (a, c) :: as, (b, d) :: bs, h => by
    rw [dbeqp, Bool.and_eq_true, Bool.and_eq_true] at h
    rw [dbeq_eq a b h.1, dbeq_eq c d h.2.1, dbeqp_eq as bs h.2.2]
  | [], _ :: _, h => by simp [dbeqp] at h
  | _ :: _, [], h => by simp [dbeqp] at h
end
instance instDecPyData : DecidableEq PyData := fun a b => if h : dbeq a b = true then .isTrue (dbeq_eq a b h) else .isFalse fun e => h (e ▸ dbeq_self a)

/-! ### tables -/
abbrev Tb := List (PyData × PyData)
/-- what stands under a key -/
def dlk : Tb → PyData → Option PyData
  | [], _ => none
  | p :: r, k => if p.1 = k then some p.2 else dlk r k
/-- stored in its place, or at the end -/
def dput : Tb → PyData → PyData → Tb
  | [], k, d => [(k, d)]
  | p :: r, k, d => if p.1 = k then (p.1, d) :: r else p :: dput r k d
def ddel : Tb → PyData → Tb
  | [], _ => []
  | p :: r, k => if p.1 = k then r else p :: ddel r k
theorem dlk_mem {t : Tb} {k d : PyData} (h : dlk t k = some d) : (k, d) ∈ t := by
  induction t with
  | nil => cases h
  | cons p r ih =>
    unfold dlk at h
    split at h
    · rename_i e
      cases h
      rw [← e]
      exact List.mem_cons_self
    · exact List.mem_cons_of_mem _ (ih h)
theorem dlk_none {t : Tb} {k : PyData} : dlk t k = none ↔ k ∉ t.map (·.1) := by
  induction t with
  | nil => simp [dlk]
  | cons p r ih =>
    unfold dlk
    split
    · rename_i e; simp [e]
    · rename_i e; rw [ih]; simp; intro _ z; exact e z.symm
theorem dlk_put {t : Tb} {k d j : PyData} : dlk (dput t k d) j = if k = j then some d else dlk t j := by
  induction t with
  | nil => rfl
  | cons p r ih =>
    unfold dput
    by_cases e : p.1 = k
    · rw [if_pos e]
      show (if p.1 = j then some d else dlk r j) = _
      by_cases q : p.1 = j
      · rw [if_pos q, if_pos (e.symm.trans q)]
      · rw [if_neg q, if_neg (fun z => q (e.trans z))]
        show _ = (if p.1 = j then some p.2 else dlk r j)
        rw [if_neg q]
    · rw [if_neg e]
      show (if p.1 = j then some p.2 else dlk (dput r k d) j) = _
      by_cases q : p.1 = j
      · rw [if_pos q, if_neg (fun z => e (q.trans z.symm))]
        show _ = (if p.1 = j then some p.2 else dlk r j)
        rw [if_pos q]
      · rw [if_neg q, ih]
        show _ = if k = j then some d else (if p.1 = j then some p.2 else dlk r j)
        rw [if_neg q]
theorem dput_keys {t : Tb} {k d : PyData} : (dput t k d).map (·.1) = if k ∈ t.map (·.1) then t.map (·.1) else t.map (·.1) ++ [k] := by
  induction t with
  | nil => rfl
  | cons p r ih =>
    unfold dput
    by_cases e : p.1 = k
    · rw [if_pos e, if_pos (by rw [← e]; exact List.mem_cons_self)]; rfl
    · rw [if_neg e, List.map_cons, ih, List.map_cons]
      by_cases q : k ∈ r.map (·.1)
      · rw [if_pos q, if_pos (List.mem_cons_of_mem _ q)]
      · rw [if_neg q, if_neg (by intro z; rcases List.mem_cons.mp z with z | z; exact e z.symm; exact q z)]; rfl
theorem dput_nodup {t : Tb} {k d : PyData} (h : (t.map (·.1)).Nodup) : ((dput t k d).map (·.1)).Nodup := by
  rw [dput_keys]
  split
  · exact h
  · rename_i q
    rw [List.nodup_append]
    refine ⟨h, by simp, fun a ha b hb => ?_⟩
    rw [List.mem_singleton.mp hb]
    exact fun z => q (z ▸ ha)
theorem dput_length {t : Tb} {k d : PyData} : (dput t k d).length ≤ t.length + 1 := by
  induction t with
  | nil => exact Nat.le_refl _
  | cons p r ih =>
    unfold dput
    split
    · simp
    · simp; exact ih
theorem ddel_sub {t : Tb} {k : PyData} : (ddel t k).Sublist t := by
  induction t with
  | nil => exact .slnil
  | cons p r ih =>
    unfold ddel
    split
    · exact List.sublist_cons_self _ _
    · exact ih.cons_cons p
theorem ddel_nodup {t : Tb} {k : PyData} (h : (t.map (·.1)).Nodup) : ((ddel t k).map (·.1)).Nodup := (ddel_sub.map _).nodup h
theorem ddel_length {t : Tb} {k : PyData} : (ddel t k).length ≤ t.length := ddel_sub.length_le

/-! ### keys of the one kind: tuples of ints -/
mutual
def nk : PyData → NestedKey
  | .int i => .num i
  | .tuple ds => .tup (nks ds)
  | .none => .none
  | .bool _ => .none
  | .str _ => .none
  | .list _ => .none
  | .dict _ => .none
def nks : List PyData → List NestedKey
  | [] => []
  | d :: ds => nk d :: nks ds
end
mutual
theorem nk_hash (w : World) : ∀ (d : PyData) (n : Nat), tkey n d = true → (nk d).hash w = nh d
  | .int i, _, _ => by simp [nk, nh, NestedKey.hash]
  | .tuple ds, n, h => by
    cases n with
    | zero => simp [tkey] at h
    | succ n =>
      simp only [tkey] at h
      simp only [nk, nh, NestedKey.hash]
      rw [nks_hash w ds n h]
  | .none, n, h => by cases n <;> simp [tkey] at h
  | .bool _, n, h => by cases n <;> simp [tkey] at h
  | .str _, n, h => by cases n <;> simp [tkey] at h
  | .list _, n, h => by cases n <;> simp [tkey] at h
  | .dict _, n, h => by cases n <;> simp [tkey] at h
theorem nks_hash (w : World) : ∀ (d : List PyData) (n : Nat), tkeys n d = true → NestedKey.hashes w (nks d) = nhs d
  | [], _, _ => by simp [nks, nhs, NestedKey.hashes]
  | d :: ds, n, h => by
    rw [tkeys, Bool.and_eq_true] at h
    simp only [nks, nhs, NestedKey.hashes]
    rw [nk_hash w d n h.1, nks_hash w ds n h.2]
end
mutual
theorem nk_depth : ∀ (d : PyData) (n : Nat), tkey n d = true → (nk d).depth ≤ n
  | .int i, _, _ => by simp [nk, NestedKey.depth]
  | .tuple ds, n, h => by
    cases n with
    | zero => simp [tkey] at h
    | succ n =>
      simp only [tkey] at h
      simp only [nk, NestedKey.depth]
      have := nks_depth ds n h
      omega
  | .none, n, h => by cases n <;> simp [tkey] at h
  | .bool _, n, h => by cases n <;> simp [tkey] at h
  | .str _, n, h => by cases n <;> simp [tkey] at h
  | .list _, n, h => by cases n <;> simp [tkey] at h
  | .dict _, n, h => by cases n <;> simp [tkey] at h
theorem nks_depth : ∀ (d : List PyData) (n : Nat), tkeys n d = true → NestedKey.depthAll (nks d) ≤ n
  | [], _, _ => by simp [nks, NestedKey.depthAll]
  | d :: ds, n, h => by
    rw [tkeys, Bool.and_eq_true] at h
    simp only [nks, NestedKey.depthAll]
    have h1 := nk_depth d n h.1
    have h2 := nks_depth ds n h.2
    omega
end
mutual
theorem nk_inj : ∀ (d e : PyData) (n m : Nat), tkey n d = true → tkey m e = true → nk d = nk e → d = e
  | .int i, e, n, m, _, h, q => by
    cases e with
    | int j => simp only [nk, NestedKey.num.injEq] at q; rw [q]
    | tuple _ => simp [nk] at q
    | _ => cases m <;> simp [tkey] at h
  | .tuple ds, e, n, m, g, h, q => by
    cases e with
    | tuple es =>
      cases n with
      | zero => simp [tkey] at g
      | succ n =>
        cases m with
        | zero => simp [tkey] at h
        | succ m =>
          simp only [tkey] at g h
          simp only [nk, NestedKey.tup.injEq] at q
          rw [nks_inj ds es n m g h q]
    | int _ => simp [nk] at q
    | _ => cases m <;> simp [tkey] at h
  | .none, _, n, _, h, _, _ => by cases n <;> simp [tkey] at h
  | .bool _, _, n, _, h, _, _ => by cases n <;> simp [tkey] at h
  | .str _, _, n, _, h, _, _ => by cases n <;> simp [tkey] at h
  | .list _, _, n, _, h, _, _ => by cases n <;> simp [tkey] at h
  | .dict _, _, n, _, h, _, _ => by cases n <;> simp [tkey] at h
theorem nks_inj : ∀ (d e : List PyData) (n m : Nat), tkeys n d = true → tkeys m e = true → nks d = nks e → d = e
  | [], [], _, _, _, _, _ => rfl
  | [], _ :: _, _, _, _, _, q => by simp [nks] at q
  | _ :: _, [], _, _, _, _, q => by simp [nks] at q
  | d :: ds, e :: es, n, m, g, h, q => by
    rw [tkeys, Bool.and_eq_true] at g h
    simp only [nks, List.cons.injEq] at q
    rw [nk_inj d e n m g.1 h.1 q.1, nks_inj ds es n m g.2 h.2 q.2]
end
theorem tupKey_t {k : PyData} (h : tupKey k = true) : tkey 8 k = true := by
  cases k <;> first | exact h | cases h
section
variable {X : Cx} {pins : List (Addr × Obj)} {σ : L2.St} {H : Hp} {s : Shared} {O : Addr → Prop}
mutual
theorem nk_is (I : Inv X pins σ H s) : ∀ (d : PyData) (n : Nat) (v : V) (u : Value), tkey n d = true → Rp X.K H O v d → RelV v u → NestedIs s.heap (nk d) u
  | .int i, n, v, u, _, r, e => by
    cases r.int_of
    obtain ⟨t, rfl⟩ := (show ∃ t, u = Value.int i t from e)
    rw [nk]
    exact .int i t
  | .tuple ds, n, v, u, h, r, e => by
    cases n with
    | zero => simp [tkey] at h
    | succ n =>
      simp only [tkey] at h
      obtain ⟨a, xs, rfl, h1, h2⟩ := r.sqT
      obtain rfl : u = Value.ref a := e
      obtain ⟨its, rv, ⟨ob, g1, g2, m, g3⟩, _⟩ := I.tuple h1
      rw [nk]
      exact .tup g1 g2 g3 (nks_is I ds n xs its h h2 rv)
  | .none, n, _, _, h, _, _ => by cases n <;> simp [tkey] at h
  | .bool _, n, _, _, h, _, _ => by cases n <;> simp [tkey] at h
  | .str _, n, _, _, h, _, _ => by cases n <;> simp [tkey] at h
  | .list _, n, _, _, h, _, _ => by cases n <;> simp [tkey] at h
  | .dict _, n, _, _, h, _, _ => by cases n <;> simp [tkey] at h
theorem nks_is (I : Inv X pins σ H s) : ∀ (d : List PyData) (n : Nat) (vs : List V) (us : List Value), tkeys n d = true → RpA X.K H O vs d → Vals vs us → NestedAll s.heap (nks d) us
  | [], _, _, _, _, r, e => by
    cases r
    cases e
    rw [nks]
    exact .nil
  | d :: ds, n, _, _, h, r, e => by
    rw [tkeys, Bool.and_eq_true] at h
    cases r with
    | cons r1 r2 =>
      cases e with
      | cons e1 e2 =>
        rw [nks]
        exact .cons (nk_is I d n _ _ h.1 r1 e1) (nks_is I ds n _ _ h.2 r2 e2)
end
theorem key_is (I : Inv X pins σ H s) {k : PyData} {b : Addr} (h : tupKey k = true) (r : Rp X.K H O (.ref b) k) : (nestedKind X.prog X.w).is s.heap (nk k) b :=
  ⟨nk_is I k 8 (.ref b) (.ref b) (tupKey_t h) r rfl, nk_depth k 8 (tupKey_t h)⟩
end
theorem tup_ref {K : PySem.W.Frag} {H : Hp} {O : Addr → Prop} {v : V} {k : PyData} (h : tupKey k = true) (r : Rp K H O v k) : ∃ b, v = .ref b := by
  cases k with
  | tuple ds => obtain ⟨a, xs, e, _⟩ := r.sqT; exact ⟨a, e⟩
  | _ => cases h

/-- the entries by their keys, the pairs of values, the data -/
inductive Tri : List (NestedKey × Addr × Value) → List (V × V) → Tb → Prop
  | nil : Tri [] [] []
  | cons {b : Addr} {u : Value} {v : V} {k d : PyData} {xs : List (NestedKey × Addr × Value)} {vs : List (V × V)} {kvs : Tb} : tupKey k = true → RelV v u → Tri xs vs kvs → Tri ((nk k, b, u) :: xs) ((.ref b, v) :: vs) ((k, d) :: kvs)
theorem EsL.tri {P : Program} {w : World} : ∀ {es : List DictEntry} {vs : List (V × V)} {kvs : Tb}, EsL es vs kvs → ∃ xs, es = xs.map (entryOfKey (nestedKind P w)) ∧ Tri xs vs kvs
  | _, _, _, .nil => ⟨[], rfl, .nil⟩
  | _, _, _, .cons (k := k) (b := b) (u := u) h r t => by
    obtain ⟨xs, e, q⟩ := EsL.tri (P := P) (w := w) t
    refine ⟨(nk k, b, u) :: xs, ?_, .cons h r q⟩
    rw [List.map_cons, ← e]
    show _ = (⟨(nk k).hash w, .ref b, u⟩ : DictEntry) :: _
    rw [nk_hash w k 8 (tupKey_t h)]
theorem Tri.es {P : Program} {w : World} : ∀ {xs : List (NestedKey × Addr × Value)} {vs : List (V × V)} {kvs : Tb}, Tri xs vs kvs → EsL (xs.map (entryOfKey (nestedKind P w))) vs kvs
  | _, _, _, .nil => .nil
  | _, _, _, .cons (k := k) (b := b) (u := u) h r t => by
    have q := Tri.es (P := P) (w := w) t
    rw [List.map_cons]
    show EsL ((⟨(nk k).hash w, .ref b, u⟩ : DictEntry) :: _) _ _
    rw [nk_hash w k 8 (tupKey_t h)]
    exact .cons h r q
theorem Tri.length : ∀ {xs : List (NestedKey × Addr × Value)} {vs : List (V × V)} {kvs : Tb}, Tri xs vs kvs → xs.length = kvs.length
  | _, _, _, .nil => rfl
  | _, _, _, .cons _ _ t => by rw [List.length_cons, List.length_cons, t.length]
theorem Tri.keys : ∀ {xs : List (NestedKey × Addr × Value)} {vs : List (V × V)} {kvs : Tb}, Tri xs vs kvs → xs.map (·.1) = (kvs.map (·.1)).map nk ∧ ∀ k ∈ kvs.map (·.1), tupKey k = true
  | _, _, _, .nil => ⟨rfl, fun k h => by simp at h⟩
  | _, _, _, .cons h _ t => by
    obtain ⟨e, q⟩ := t.keys
    refine ⟨by rw [List.map_cons, List.map_cons, List.map_cons, e], fun k z => ?_⟩
    rw [List.map_cons] at z
    rcases List.mem_cons.mp z with z | z
    · rw [z]; exact h
    · exact q k z
theorem nk_nodup : ∀ {ks : List PyData}, (∀ k ∈ ks, tupKey k = true) → ks.Nodup → (ks.map nk).Nodup
  | [], _, _ => .nil
  | k :: ks, h, n => by
    rw [List.nodup_cons] at n
    rw [List.map_cons, List.nodup_cons]
    refine ⟨fun z => ?_, nk_nodup (fun j hj => h j (List.mem_cons_of_mem _ hj)) n.2⟩
    obtain ⟨j, hj, e⟩ := List.mem_map.mp z
    have e2 := nk_inj j k 8 8 (tupKey_t (h j (List.mem_cons_of_mem _ hj))) (tupKey_t (h k List.mem_cons_self)) e
    exact n.1 (e2 ▸ hj)
theorem Tri.nodup {xs : List (NestedKey × Addr × Value)} {vs : List (V × V)} {kvs : Tb} (t : Tri xs vs kvs) (h : (kvs.map (·.1)).Nodup) : (xs.map (·.1)).Nodup := by
  obtain ⟨e, q⟩ := t.keys
  rw [e]
  exact nk_nodup q h
section
variable {X : Cx} {pins : List (Addr × Obj)} {σ : L2.St} {H H' : Hp} {s : Shared} {O : Addr → Prop} {K : PySem.W.Frag}
theorem Tri.is (I : Inv X pins σ H s) : ∀ {xs : List (NestedKey × Addr × Value)} {vs : List (V × V)} {kvs : Tb}, Tri xs vs kvs → RpE X.K H O vs kvs → ∀ x ∈ xs, (nestedKind X.prog X.w).is s.heap x.1 x.2.1
  | _, _, _, .nil, _, x, hx => by simp at hx
  | _, _, _, .cons h _ t, r, x, hx => by
    cases r with
    | cons r1 r2 r3 =>
      rcases List.mem_cons.mp hx with e | hx
      · rw [e]; exact key_is I h r1
      · exact Tri.is I t r3 x hx
/-- looked up -/
theorem Tri.at_ : ∀ {xs : List (NestedKey × Addr × Value)} {vs : List (V × V)} {kvs : Tb}, Tri xs vs kvs → RpE K H O vs kvs → ∀ {k : PyData}, tupKey k = true →
    match dlk kvs k with
    | none => atKey xs (nk k) = none
    | some d => ∃ b u v, atKey xs (nk k) = some (b, u) ∧ RelV v u ∧ Rp K H O v d
  | _, _, _, .nil, _, k, _ => rfl
  | _, _, _, .cons (k := k') (b := b) (u := u) (xs := xs) (kvs := kvs) h e t, r, k, hk => by
    cases r with
    | cons r1 r2 r3 =>
      have ih := Tri.at_ t r3 hk
      by_cases q : k' = k
      · subst q
        have e1 : ∀ d, dlk ((k', d) :: kvs) k' = some d := fun d => if_pos rfl
        rw [e1]
        exact ⟨b, u, _, by simp [atKey], e, r2⟩
      · have q' : ¬ nk k' = nk k := fun z => q (nk_inj k' k 8 8 (tupKey_t h) (tupKey_t hk) z)
        have e1 : ∀ d, dlk ((k', d) :: kvs) k = dlk kvs k := fun d => if_neg q
        have e2 : atKey ((nk k', b, u) :: xs) (nk k) = atKey xs (nk k) := by simp [atKey, q']
        rw [e1, e2]
        exact ih
/-- stored -/
theorem Tri.put : ∀ {xs : List (NestedKey × Addr × Value)} {vs : List (V × V)} {kvs : Tb}, Tri xs vs kvs → RpE K H O vs kvs → (kvs.map (·.1)).Nodup → ∀ {k d : PyData} {b : Addr} {u : Value} {v : V}, tupKey k = true → Rp K H O (.ref b) k → Rp K H O v d → RelV v u →
    ∃ vs', Tri (storedH xs (nk k) b u) vs' (dput kvs k d) ∧ RpE K H O vs' (dput kvs k d)
  | _, _, _, .nil, _, _, k, d, b, u, v, h, r1, r2, e => ⟨[(.ref b, v)], .cons h e .nil, .cons r1 r2 .nil⟩
  | _, _, _, .cons (k := k') (b := b') (u := u') (v := v') (d := d') (xs := xs) (vs := vs) (kvs := kvs) h' e' t, r, nd, k, d, b, u, v, h, r1, r2, e => by
    rw [List.map_cons, List.nodup_cons] at nd
    cases r with
    | cons q1 q2 q3 =>
      by_cases q : k' = k
      · subst q
        have e1 : dput ((k', d') :: kvs) k' d = (k', d) :: kvs := if_pos rfl
        have hn : nk k' ∉ xs.map (·.1) := by
          obtain ⟨e3, e4⟩ := t.keys
          rw [e3]
          intro z
          obtain ⟨j, hj, e5⟩ := List.mem_map.mp z
          have := nk_inj j k' 8 8 (tupKey_t (e4 j hj)) (tupKey_t h) e5
          exact nd.1 (this ▸ hj)
        have e2 : storedH ((nk k', b', u') :: xs) (nk k') b u = (nk k', b', u) :: xs := by
          rw [storedH_old (p := (b', u')) (by simp [atKey]), List.map_cons, map_putAt_of_not_mem xs _ _ hn]
          simp [putAt]
        rw [e1, e2]
        exact ⟨(.ref b', v) :: vs, .cons h' e t, .cons q1 r2 q3⟩
      · have q' : ¬ nk k' = nk k := fun z => q (nk_inj k' k 8 8 (tupKey_t h') (tupKey_t h) z)
        obtain ⟨vs', t', r'⟩ := Tri.put t q3 nd.2 h r1 r2 e
        have e1 : dput ((k', d') :: kvs) k d = (k', d') :: dput kvs k d := if_neg q
        have e2 : storedH ((nk k', b', u') :: xs) (nk k) b u = (nk k', b', u') :: storedH xs (nk k) b u := by
          have e3 : atKey ((nk k', b', u') :: xs) (nk k) = atKey xs (nk k) := by simp [atKey, q']
          unfold storedH
          rw [e3]
          split
          · rw [List.map_cons]; simp [putAt, q']
          · rfl
        rw [e1, e2]
        exact ⟨(.ref b', v') :: vs', .cons h' e' t', .cons q1 q2 r'⟩
/-- taken out -/
theorem Tri.del : ∀ {xs : List (NestedKey × Addr × Value)} {vs : List (V × V)} {kvs : Tb}, Tri xs vs kvs → RpE K H O vs kvs → (kvs.map (·.1)).Nodup → ∀ {k : PyData}, tupKey k = true →
    ∃ vs', Tri (withoutH xs (nk k)) vs' (ddel kvs k) ∧ RpE K H O vs' (ddel kvs k)
  | _, _, _, .nil, _, _, k, h => ⟨[], .nil, .nil⟩
  | _, _, _, .cons (k := k') (b := b') (u := u') (v := v') (d := d') (xs := xs) (vs := vs) (kvs := kvs) h' e' t, r, nd, k, h => by
    rw [List.map_cons, List.nodup_cons] at nd
    cases r with
    | cons q1 q2 q3 =>
      by_cases q : k' = k
      · subst q
        have e1 : ddel ((k', d') :: kvs) k' = kvs := if_pos rfl
        have hn : nk k' ∉ xs.map (·.1) := by
          obtain ⟨e3, e4⟩ := t.keys
          rw [e3]
          intro z
          obtain ⟨j, hj, e5⟩ := List.mem_map.mp z
          have := nk_inj j k' 8 8 (tupKey_t (e4 j hj)) (tupKey_t h) e5
          exact nd.1 (this ▸ hj)
        have e2 : withoutH ((nk k', b', u') :: xs) (nk k') = xs := by
          have := withoutH_of_not_mem xs _ hn
          unfold withoutH at this ⊢
          rw [List.filter_cons]
          simpa using this
        rw [e1, e2]
        exact ⟨vs, t, q3⟩
      · have q' : ¬ nk k' = nk k := fun z => q (nk_inj k' k 8 8 (tupKey_t h') (tupKey_t h) z)
        obtain ⟨vs', t', r'⟩ := Tri.del t q3 nd.2 h
        have e1 : ddel ((k', d') :: kvs) k = (k', d') :: ddel kvs k := if_neg q
        have e2 : withoutH ((nk k', b', u') :: xs) (nk k) = (nk k', b', u') :: withoutH xs (nk k) := by
          unfold withoutH
          rw [List.filter_cons]
          simp [q']
        rw [e1, e2]
        exact ⟨(.ref b', v') :: vs', .cons h' e' t', .cons q1 q2 r'⟩
/-- the dict as the library tells it -/
theorem dh_of (I : Inv X pins σ H s) {a : Addr} {es : List DictEntry} {ep : Nat} {vs : List (V × V)} {kvs : Tb} (e : H a = some (dHO a es ep)) (w : DsOk a kvs) (l : EsL es vs kvs) (r : RpE X.K H O vs kvs) :
    ∃ xs, s.heap.DictOfH (nestedKind X.prog X.w) a xs ∧ Tri xs vs kvs := by
  obtain ⟨xs, e1, t⟩ := EsL.tri (P := X.prog) (w := X.w) l
  obtain ⟨⟨ob, h1, h2, h3⟩, _, _⟩ := (show ObjOk X.prog X.w H s.heap a (dHO a es ep) from I.hok a _ e)
  exact ⟨xs, ⟨ob, es.toArray, ep, h1, h2, h3, by rw [← e1], t.is I r, t.nodup w.nd⟩, t⟩
theorem dHO_ok {P : Program} {w : World} {H : Hp} {h : Heap} {a : Addr} {es : List DictEntry} {ep : Nat} (r : h.DictRaw a es.toArray ep) : ObjOk P w H h a (dHO a es ep) :=
  ⟨r, let ⟨o, e, _⟩ := r; ⟨o, e⟩, fun _ _ ⟨o, e1, e2, e3⟩ k => ⟨o, k o e1, e2, e3⟩⟩
/-- .. and back, behind a change -/
theorem dh_put (I : Inv X pins σ H s) {h' : Heap} {t' : Nat} {a : Addr} {xs : List (NestedKey × Addr × Value)} (mu : Mut (H a)) (hd : h'.DictOfH (nestedKind X.prog X.w) a xs) (hs : Heap.SameBut a s.heap h') :
    ∃ ep, Inv X pins σ (upd H a (dHO a (xs.map (entryOfKey (nestedKind X.prog X.w))) ep)) { s with heap := h', toks := t' } := by
  obtain ⟨o, es, ep, h1, h2, h3, h4, _, _⟩ := hd
  have he : es = (xs.map (entryOfKey (nestedKind X.prog X.w))).toArray := by rw [← h4]
  exact ⟨ep, d_write I mu hs ⟨o, h1⟩ (dHO_ok ⟨o, h1, h2, by rw [h3, he]⟩)⟩
end
end DL
/-! Dicts of both kinds: what the operations do to the data. -/
namespace DL
open PySem PySem.Spec PyProof.Rows L2

/-! ### keys of the other kind: ints and texts -/
def kd : Key → PyData
  | .inl i => .int i
  | .inr x => .str x
theorem kd_inj {a b : Key} (h : kd a = kd b) : a = b := by
  cases a <;> cases b <;> simp [kd] at h <;> rw [h]
theorem kd_rp {K : PySem.W.Frag} {H : Hp} {O : Addr → Prop} {k : Key} {v : V} (r : Rp K H O v (kd k)) : v = kV k := by
  cases k with
  | inl i => exact r.int_of
  | inr x => exact r.str_of
theorem rp_kd {K : PySem.W.Frag} {H : Hp} {O : Addr → Prop} {k : Key} : Rp K H O (kV k) (kd k) := by
  cases k with
  | inl i => exact .int i
  | inr x => exact .str x
theorem kd_is {K : PySem.W.Frag} {H : Hp} {O : Addr → Prop} {k : Key} {d : PyData} (r : Rp K H O (kV k) d) : d = kd k := by
  cases k <;> cases r <;> rfl
/-- a text or an int -/
def scal : PyData → Bool
  | .int _ => true
  | .str _ => true
  | _ => false
theorem scal_kd {k : PyData} (h : scal k = true) : ∃ j, k = kd j := by
  cases k with
  | int i => exact ⟨.inl i, rfl⟩
  | str x => exact ⟨.inr x, rfl⟩
  | _ => cases h
abbrev prs (ps : List (Key × V)) : List (V × V) := ps.map fun p => (kV p.1, p.2)
section
variable {K : PySem.W.Frag} {H : Hp} {O : Addr → Prop}
theorem ke_keys : ∀ {ps : List (Key × V)} {kvs : Tb}, RpE K H O (prs ps) kvs → kvs.map (·.1) = (ps.map (·.1)).map kd
  | [], _, .nil => rfl
  | p :: ps, _, .cons r1 r2 r3 => by
    rw [List.map_cons, List.map_cons, List.map_cons, ke_keys r3, kd_is r1]
theorem ke_at : ∀ {ps : List (Key × V)} {kvs : Tb}, RpE K H O (prs ps) kvs → ∀ {k : Key},
    match dlk kvs (kd k) with
    | none => valV ps k = none
    | some d => ∃ v, valV ps k = some v ∧ Rp K H O v d
  | [], _, .nil, k => rfl
  | p :: ps, _, .cons (k := k') (d := d') (kvs := kvs) r1 r2 r3, k => by
    have ih := ke_at r3 (k := k)
    obtain rfl := kd_is r1
    by_cases q : p.1 = k
    · have e1 : dlk ((kd p.1, d') :: kvs) (kd k) = some d' := by rw [q]; exact if_pos rfl
      rw [e1, valV_pos q]
      exact ⟨_, rfl, r2⟩
    · have e1 : dlk ((kd p.1, d') :: kvs) (kd k) = dlk kvs (kd k) := if_neg fun z => q (kd_inj z)
      rw [e1, valV_neg q]
      exact ih
theorem rep_none {k : Key} {y : V} : ∀ {ps : List (Key × V)}, k ∉ ps.map (·.1) → (ps.map fun kv => if kv.1 = k then (kv.1, y) else kv) = ps
  | [], _ => rfl
  | p :: r, h => by
    rw [List.map_cons] at h ⊢
    rw [if_neg (fun z => h (by rw [z]; exact List.mem_cons_self)), rep_none fun z => h (List.mem_cons_of_mem _ z)]
theorem ke_put : ∀ {ps : List (Key × V)} {kvs : Tb}, RpE K H O (prs ps) kvs → (ps.map (·.1)).Nodup → ∀ {k : Key} {v : V} {d : PyData}, Rp K H O v d → RpE K H O (prs (putK ps k v)) (dput kvs (kd k) d)
  | [], _, .nil, _, k, v, d, r => .cons rp_kd r .nil
  | p :: ps, _, .cons (k := k') (d := d') (kvs := kvs) r1 r2 r3, nd, k, v, d, r => by
    rw [List.map_cons, List.nodup_cons] at nd
    obtain rfl := kd_is r1
    by_cases q : p.1 = k
    · have e1 : dput ((kd p.1, d') :: kvs) (kd k) d = (kd p.1, d) :: kvs := if_pos (by rw [q])
      have e2 : putK (p :: ps) k v = (p.1, v) :: ps := by
        unfold putK
        rw [if_pos (by rw [List.any_cons, decide_eq_true q]; rfl), List.map_cons, if_pos q, rep_none (by rw [← q]; exact nd.1)]
      rw [e1, e2]
      exact .cons rp_kd r r3
    · have e1 : dput ((kd p.1, d') :: kvs) (kd k) d = (kd p.1, d') :: dput kvs (kd k) d := if_neg fun z => q (kd_inj z)
      have e2 : putK (p :: ps) k v = p :: putK ps k v := by
        unfold putK
        rw [List.any_cons, decide_eq_false q, Bool.false_or]
        split
        · rw [List.map_cons, if_neg q]
        · rfl
      rw [e1, e2]
      exact .cons r1 r2 (ke_put r3 nd.2 r)
theorem ke_del : ∀ {ps : List (Key × V)} {kvs : Tb}, RpE K H O (prs ps) kvs → (ps.map (·.1)).Nodup → ∀ {k : Key}, RpE K H O (prs (dropK ps k)) (ddel kvs (kd k))
  | [], _, .nil, _, k => .nil
  | p :: ps, _, .cons (k := k') (d := d') (kvs := kvs) r1 r2 r3, nd, k => by
    rw [List.map_cons, List.nodup_cons] at nd
    obtain rfl := kd_is r1
    by_cases q : p.1 = k
    · have e1 : ddel ((kd p.1, d') :: kvs) (kd k) = kvs := if_pos (by rw [q])
      have e2 : dropK (p :: ps) k = ps := by
        unfold dropK
        rw [List.filter_cons, if_neg (by simpa using q), List.filter_eq_self]
        intro x hx
        simp only [ne_eq, decide_eq_true_eq]
        intro z
        exact nd.1 (by rw [q, ← z]; exact List.mem_map.mpr ⟨x, hx, rfl⟩)
      rw [e1, e2]
      exact r3
    · have e1 : ddel ((kd p.1, d') :: kvs) (kd k) = (kd p.1, d') :: ddel kvs (kd k) := if_neg fun z => q (kd_inj z)
      have e2 : dropK (p :: ps) k = p :: dropK ps k := by
        unfold dropK
        rw [List.filter_cons, if_pos (by simpa using q)]
      rw [e1, e2]
      exact .cons r1 r2 (ke_del r3 nd.2)
end

/-! ### both kinds -/
def VT (X : Cx) (H : Hp) (O : Addr → Prop) (h : Heap) (a : Addr) (kvs : Tb) : Prop := ∃ xs vs, h.DictOfH (nestedKind X.prog X.w) a xs ∧ Tri xs vs kvs ∧ RpE X.K H O vs kvs
def VKd (X : Cx) (H : Hp) (O : Addr → Prop) (h : Heap) (a : Addr) (kvs : Tb) : Prop := ∃ (ps : List (Key × V)) (us : List (Key × Value)), KV ps us ∧ h.DictOf (mixKind X.prog X.w) a us ∧ RpE X.K H O (prs ps) kvs ∧ (ps.map (·.1)).Nodup
/-- a key that the dict can be asked for -/
@[simp] def okR (m : Bool) (kvs : Tb) (k : PyData) : Bool := match m with
  | true => scal k || (kvs.isEmpty && tupKey k)
  | false => tupKey k || (kvs.isEmpty && scal k)
structure Vw (X : Cx) (H : Hp) (O : Addr → Prop) (h : Heap) (a : Addr) (kvs : Tb) : Prop where
  low : (a == sysModules) = false
  mu : Mut (H a)
  nd : (kvs.map (·.1)).Nodup
  few : kvs.length ≤ sizeLine
  ty : ∃ es ep, h.DictRaw a es ep ∧ es.size = kvs.length
theorem map_nodup {α β : Type} {f : α → β} (hf : ∀ a b, f a = f b → a = b) : ∀ {l : List α}, l.Nodup → (l.map f).Nodup
  | [], _ => .nil
  | a :: l, h => by
    rw [List.nodup_cons] at h
    rw [List.map_cons, List.nodup_cons]
    refine ⟨fun z => ?_, map_nodup hf h.2⟩
    obtain ⟨b, hb, e⟩ := List.mem_map.mp z
    exact h.1 (hf _ _ e ▸ hb)
section
variable {X : Cx} {pins : List (Addr × Obj)} {σ : L2.St} {H H' : Hp} {s : Shared} {O : Addr → Prop}
theorem dict_view (I : Inv X pins σ H s) {a : Addr} {m : Bool} {kvs : Tb} (c : Cn X.K H O a (dkM m kvs)) :
    Vw X H O s.heap a kvs ∧ (m = false → VT X H O s.heap a kvs) ∧ (m = true → VKd X H O s.heap a kvs) := by
  cases c with
  | @dct es ep0 vs _ e w l r =>
    obtain ⟨xs, hd, t⟩ := dh_of I e w l r
    refine ⟨⟨w.low, by rw [e]; exact True.intro, w.nd, Nat.le_trans w.few million, ?_⟩, fun _ => ⟨xs, vs, hd, t, r⟩, fun z => nomatch z⟩
    obtain ⟨es', ep, h1, h2, _⟩ := hd.raw
    exact ⟨es', ep, h1, by rw [h2, t.length]⟩
  | @dck ps _ e r =>
    obtain ⟨z, hd, us, rel, dd⟩ := dk_of I.hok e
    have nd : (ps.map (·.1)).Nodup := by
      rw [rel.keys]
      obtain ⟨_, _, _, _, _, _, _, _, hn⟩ := dd
      exact hn
    have l1 := r.length
    rw [List.length_map] at l1
    have hk : (kvs.map (·.1)).Nodup := by
      rw [ke_keys r]
      exact map_nodup (fun _ _ => kd_inj) nd
    have ty : ∃ es ep, s.heap.DictRaw a es ep ∧ es.size = kvs.length := by
      obtain ⟨es', ep, h1, h2, _⟩ := dd.raw
      exact ⟨es', ep, h1, by rw [h2, ← rel.length, l1]⟩
    have few : kvs.length ≤ sizeLine := by rw [← l1]; exact z
    exact ⟨⟨hd, by rw [e]; exact True.intro, hk, few, ty⟩, (fun z => nomatch z), fun _ => ⟨ps, us, rel, dd, r, nd⟩⟩
/-- the empty one is both -/
theorem raw_t {h : Heap} {a : Addr} {es : Array DictEntry} {ep : Nat} (r : h.DictRaw a es ep) (z : es.size = 0) : VT X H O h a [] := by
  have : es = #[] := Array.eq_empty_of_size_eq_zero z
  subst this
  obtain ⟨o, h1, h2, h3⟩ := r
  exact ⟨[], [], ⟨o, #[], ep, h1, h2, h3, rfl, fun _ hx => by simp at hx, .nil⟩, .nil, .nil⟩
theorem raw_k {h : Heap} {a : Addr} {es : Array DictEntry} {ep : Nat} (r : h.DictRaw a es ep) (z : es.size = 0) : VKd X H O h a [] := by
  have : es = #[] := Array.eq_empty_of_size_eq_zero z
  subst this
  obtain ⟨o, h1, h2, h3⟩ := r
  exact ⟨[], [], .nil, ⟨o, #[], ep, h1, h2, h3, fun e he => by simp at he, .nil, .nil⟩, .nil, .nil⟩
theorem view_t (I : Inv X pins σ H s) {a : Addr} {m : Bool} {kvs : Tb} {k : PyData} (c : Cn X.K H O a (dkM m kvs)) (ok : okR m kvs k = true) (t : tupKey k = true) : VT X H O s.heap a kvs := by
  obtain ⟨w, v1, v2⟩ := dict_view I c
  cases m with
  | false => exact v1 rfl
  | true =>
    have sc : scal k = false := by cases k <;> first | rfl | cases t
    have e : kvs = [] := by
      simp only [okR, sc, Bool.false_or, Bool.and_eq_true, List.isEmpty_iff] at ok
      exact ok.1
    subst e
    obtain ⟨es, ep, r, z⟩ := w.ty
    exact raw_t r z
theorem view_k (I : Inv X pins σ H s) {a : Addr} {m : Bool} {kvs : Tb} {k : PyData} (c : Cn X.K H O a (dkM m kvs)) (ok : okR m kvs k = true) (t : tupKey k = false) : VKd X H O s.heap a kvs ∧ ∃ j, k = kd j := by
  obtain ⟨w, v1, v2⟩ := dict_view I c
  cases m with
  | true =>
    have sc : scal k = true := by
      simp only [okR, t, Bool.and_false, Bool.or_false] at ok
      exact ok
    exact ⟨v2 rfl, scal_kd sc⟩
  | false =>
    simp only [okR, t, Bool.false_or, Bool.and_eq_true, List.isEmpty_iff] at ok
    obtain ⟨e, sc⟩ := ok
    subst e
    obtain ⟨es, ep, r, z⟩ := w.ty
    exact ⟨raw_k r z, scal_kd sc⟩

/-! ### the operations -/
variable {A : Around} {E : Value → Shared → Prop} {a : Addr} {m : Bool} {kvs : Tb} {k d : PyData} {y v : V} {u r : Value}
theorem nroom {A : Around} (hu : A.units + 65 < cLine) : (nestedKind X.prog X.w).room A.in1 := by
  show A.units + 1 + 8 < cLine
  omega
/-- d[k] -/
theorem q_getItem (hu : A.units + 65 < cLine) (I : Inv X pins σ H s) (c : Cn X.K H O a (dkM m kvs)) (ok : okR m kvs k = true) (rk : Rp X.K H O y k) (ry : RelV y u) (l : dlk kvs k = some d) {Q : Value → Shared → Prop}
    (h : ∀ v w s', Inv X pins σ H s' → RelV v w → Rp X.K H O v d → Q w s') : wpAny (model X.prog X.w) A (getItem (.ref a) u) Q E s := by
  cases t : tupKey k with
  | true =>
    obtain ⟨xs, vs, hd, tr, r⟩ := view_t I c ok t
    obtain ⟨b, rfl⟩ := tup_ref t rk
    obtain rfl : u = Value.ref b := ry
    have e := tr.at_ r t
    rw [l] at e
    obtain ⟨b2, u2, v2, e1, e2, e3⟩ := e
    exact wpAny_getItem_heap (nroom hu) (key_is I t rk) hd e1 (h _ _ _ (I.tok _) e2 e3)
  | false =>
    obtain ⟨⟨ps, us, rel, dd, r, nd⟩, j, rfl⟩ := view_k I c ok t
    obtain rfl := kd_rp rk
    have e := ke_at r (k := j)
    rw [l] at e
    obtain ⟨v2, e1, e2⟩ := e
    obtain ⟨w', hw, rw'⟩ := RelO.some_of (v := v2) (o := valueAt us j) (by rw [← e1]; exact rel.val j)
    exact wpAny_getItem_of (kV_is ry) dd.mapOf hw (h _ _ _ (I.tok _) rw' e2)
/-- k in d -/
theorem q_in (hu : A.units + 65 < cLine) (I : Inv X pins σ H s) (c : Cn X.K H O a (dkM m kvs)) (ok : okR m kvs k = true) (rk : Rp X.K H O y k) (ry : RelV y u) {Q : Value → Shared → Prop}
    (h : ∀ s', Inv X pins σ H s' → Q (.bool (dlk kvs k).isSome) s') : wpAny (model X.prog X.w) A (compareOp .In u (.ref a)) Q E s := by
  have low := (dict_view I c).1.low
  cases t : tupKey k with
  | true =>
    obtain ⟨xs, vs, hd, tr, r⟩ := view_t I c ok t
    obtain ⟨b, rfl⟩ := tup_ref t rk
    obtain rfl : u = Value.ref b := ry
    have e := tr.at_ r t
    refine wpAny_in_heap (nroom hu) (key_is I t rk) low hd ?_
    have e2 : (atKey xs (nk k)).isSome = (dlk kvs k).isSome := by
      cases q : dlk kvs k with
      | none => rw [q] at e; rw [e]; rfl
      | some d => rw [q] at e; obtain ⟨b2, u2, v2, e1, _⟩ := e; rw [e1]; rfl
    rw [e2]
    exact h _ (I.tok _)
  | false =>
    obtain ⟨⟨ps, us, rel, dd, r, nd⟩, j, rfl⟩ := view_k I c ok t
    obtain rfl := kd_rp rk
    have e := ke_at r (k := j)
    refine wpAny_in_of (kV_is ry) low dd.mapOf ?_
    have e2 : (valueAt us j).isSome = (dlk kvs (kd j)).isSome := by
      rw [← (rel.val j).isSome_eq]
      cases q : dlk kvs (kd j) with
      | none => rw [q] at e; rw [e]; rfl
      | some d => rw [q] at e; obtain ⟨v2, e1, _⟩ := e; rw [e1]; rfl
    rw [e2]
    exact h _ (I.tok _)
theorem q_notIn (hu : A.units + 65 < cLine) (I : Inv X pins σ H s) (c : Cn X.K H O a (dkM m kvs)) (ok : okR m kvs k = true) (rk : Rp X.K H O y k) (ry : RelV y u) {Q : Value → Shared → Prop}
    (h : ∀ s', Inv X pins σ H s' → Q (.bool (!(dlk kvs k).isSome)) s') : wpAny (model X.prog X.w) A (compareOp .NotIn u (.ref a)) Q E s := by
  have low := (dict_view I c).1.low
  cases t : tupKey k with
  | true =>
    obtain ⟨xs, vs, hd, tr, r⟩ := view_t I c ok t
    obtain ⟨b, rfl⟩ := tup_ref t rk
    obtain rfl : u = Value.ref b := ry
    have e := tr.at_ r t
    refine wpAny_notIn_heap (nroom hu) (key_is I t rk) low hd ?_
    have e2 : (atKey xs (nk k)).isSome = (dlk kvs k).isSome := by
      cases q : dlk kvs k with
      | none => rw [q] at e; rw [e]; rfl
      | some d => rw [q] at e; obtain ⟨b2, u2, v2, e1, _⟩ := e; rw [e1]; rfl
    rw [e2]
    exact h _ (I.tok _)
  | false =>
    obtain ⟨⟨ps, us, rel, dd, r, nd⟩, j, rfl⟩ := view_k I c ok t
    obtain rfl := kd_rp rk
    have e := ke_at r (k := j)
    refine wpAny_notIn_of (kV_is ry) low dd.mapOf ?_
    have e2 : (valueAt us j).isSome = (dlk kvs (kd j)).isSome := by
      rw [← (rel.val j).isSome_eq]
      cases q : dlk kvs (kd j) with
      | none => rw [q] at e; rw [e]; rfl
      | some d => rw [q] at e; obtain ⟨v2, e1, _⟩ := e; rw [e1]; rfl
    rw [e2]
    exact h _ (I.tok _)
/-- d.get(k) -/
theorem q_get1 (hu : A.units + 65 < cLine) (I : Inv X pins σ H s) (c : Cn X.K H O a (dkM m kvs)) (ok : okR m kvs k = true) (rk : Rp X.K H O y k) (ry : RelV y u) {Q : Value → Shared → Prop}
    (h : ∀ v w s', Inv X pins σ H s' → RelV v w → Rp X.K H O v ((dlk kvs k).getD .none) → Q w s') : wpAny (model X.prog X.w) A (call (.builtin "dict.get") [.ref a, u]) Q E s := by
  have low := (dict_view I c).1.low
  cases t : tupKey k with
  | true =>
    obtain ⟨xs, vs, hd, tr, r⟩ := view_t I c ok t
    obtain ⟨b, rfl⟩ := tup_ref t rk
    obtain rfl : u = Value.ref b := ry
    have e := tr.at_ r t
    refine call_meetsIn PySem.F.slot_dict_get hd.typeIs PySem.F.entry_dict_get (PySem.F.args_dict_get_2 _ _) (meetsH_dict_get (nestedKind X.prog X.w) a b low) ⟨nroom hu, nk k, xs, key_is I t rk, hd, ?_⟩
    cases q : dlk kvs k with
    | none => rw [q] at e h; rw [e]; exact h .non _ _ (I.tok _) rfl .non
    | some d => rw [q] at e h; obtain ⟨b2, u2, v2, e1, e2, e3⟩ := e; rw [e1]; exact h _ _ _ (I.tok _) e2 e3
  | false =>
    obtain ⟨⟨ps, us, rel, dd, r, nd⟩, j, rfl⟩ := view_k I c ok t
    obtain rfl := kd_rp rk
    have e := ke_at r (k := j)
    refine call_meetsIn PySem.F.slot_dict_get dd.typeIs PySem.F.entry_dict_get (PySem.F.args_dict_get_2 _ _) (meets_dict_get (mixKind X.prog X.w) a (kV_is ry) low) ⟨_, dd.mapOf, ?_⟩
    have e2 := rel.val j
    cases q : dlk kvs (kd j) with
    | none =>
      rw [q] at e h
      rw [e] at e2
      rw [RelO.none_of e2]
      exact h .non _ _ (I.tok _) rfl .non
    | some d =>
      rw [q] at e h
      obtain ⟨v2, e1, e3⟩ := e
      rw [e1] at e2
      obtain ⟨w', hw, rw'⟩ := RelO.some_of e2
      rw [hw]
      exact h _ _ _ (I.tok _) rw' e3
/-- d.get(k, x) -/
theorem q_get2 (hu : A.units + 65 < cLine) (I : Inv X pins σ H s) (c : Cn X.K H O a (dkM m kvs)) (ok : okR m kvs k = true) (rk : Rp X.K H O y k) (ry : RelV y u) {x : PyData} (rx : Rp X.K H O v x) (rv : RelV v r) {Q : Value → Shared → Prop}
    (h : ∀ v w s', Inv X pins σ H s' → RelV v w → Rp X.K H O v ((dlk kvs k).getD x) → Q w s') : wpAny (model X.prog X.w) A (call (.builtin "dict.get") [.ref a, u, r]) Q E s := by
  have low := (dict_view I c).1.low
  cases t : tupKey k with
  | true =>
    obtain ⟨xs, vs, hd, tr, r⟩ := view_t I c ok t
    obtain ⟨b, rfl⟩ := tup_ref t rk
    obtain rfl : u = Value.ref b := ry
    have e := tr.at_ r t
    refine call_meetsIn PySem.F.slot_dict_get hd.typeIs PySem.F.entry_dict_get (PySem.F.args_dict_get_3 _ _ _) (meetsH_dict_get_default (nestedKind X.prog X.w) a b low _) ⟨nroom hu, nk k, xs, key_is I t rk, hd, ?_⟩
    cases q : dlk kvs k with
    | none => rw [q] at e h; rw [e]; exact h v _ _ (I.tok _) rv rx
    | some d => rw [q] at e h; obtain ⟨b2, u2, v2, e1, e2, e3⟩ := e; rw [e1]; exact h _ _ _ (I.tok _) e2 e3
  | false =>
    obtain ⟨⟨ps, us, rel, dd, r, nd⟩, j, rfl⟩ := view_k I c ok t
    obtain rfl := kd_rp rk
    have e := ke_at r (k := j)
    refine call_meetsIn PySem.F.slot_dict_get dd.typeIs PySem.F.entry_dict_get (PySem.F.args_dict_get_3 _ _ _) (meets_dict_get_default (mixKind X.prog X.w) a (kV_is ry) low _) ⟨_, dd.mapOf, ?_⟩
    have e2 := rel.val j
    cases q : dlk kvs (kd j) with
    | none =>
      rw [q] at e h
      rw [e] at e2
      rw [RelO.none_of e2]
      exact h v _ _ (I.tok _) rv rx
    | some d =>
      rw [q] at e h
      obtain ⟨v2, e1, e3⟩ := e
      rw [e1] at e2
      obtain ⟨w', hw, rw'⟩ := RelO.some_of e2
      rw [hw]
      exact h _ _ _ (I.tok _) rw' e3
/-- what the content is behind a change: the kind of its keys goes by k -/
def After (X : Cx) (pins : List (Addr × Obj)) (σ : L2.St) (H : Hp) (O : Addr → Prop) (a : Addr) (d : PyData) (s' : Shared) : Prop :=
  ∃ u, Inv X pins σ (upd H a u) s' ∧ (Keep O H (upd H a u) → Cn X.K (upd H a u) O a d)
theorem after_t (I : Inv X pins σ H s) (w : Vw X H O s.heap a kvs) {kvs' : Tb} {h' : Heap} {t' : Nat} {xs : List (NestedKey × Addr × Value)} {vs : List (V × V)} (hd : h'.DictOfH (nestedKind X.prog X.w) a xs) (hs : Heap.SameBut a s.heap h')
    (t : Tri xs vs kvs') (r : RpE X.K H O vs kvs') (nd : (kvs'.map (·.1)).Nodup) (few : kvs'.length ≤ 1000000) : After X pins σ H O a (dkM false kvs') { s with heap := h', toks := t' } :=
  let ⟨ep, I'⟩ := dh_put (t' := t') I w.mu hd hs; ⟨dHO a (xs.map (entryOfKey (nestedKind X.prog X.w))) ep, I', fun kp => .dct upd_same ⟨w.low, few, nd⟩ t.es (Rp.mvE kp (fun _ z => .inl z) r)⟩
theorem after_k (I : Inv X pins σ H s) (w : Vw X H O s.heap a kvs) {kvs' : Tb} {h' : Heap} {t' : Nat} {ps : List (Key × V)} {us : List (Key × Value)} (rel : KV ps us) (hd : h'.DictOf (mixKind X.prog X.w) a us) (hs : Heap.SameBut a s.heap h')
    (r : RpE X.K H O (prs ps) kvs') (few : kvs'.length ≤ 1000000) : After X pins σ H O a (dkM true kvs') { s with heap := h', toks := t' } := by
  have l := r.length
  rw [List.length_map] at l
  refine ⟨.dK ps, d_write I w.mu hs (let ⟨q, _, _, hq, _⟩ := hd; ⟨q, hq⟩) (dk_new (by have := million; omega) w.low rel hd), fun kp => .dck upd_same (Rp.mvE kp (fun _ z => .inl z) r)⟩
/-- d[k] = v -/
theorem q_setItem (hu : A.units + 65 < cLine) (I : Inv X pins σ H s) (c : Cn X.K H O a (dkM m kvs)) (ok : okR m kvs k = true) (rk : Rp X.K H O y k) (ry : RelV y u) (rd : Rp X.K H O v d) (rv : RelV v r) (few : kvs.length < 1000000) {Q : Unit → Shared → Prop}
    (h : ∀ s', After X pins σ H O a (dkM (!tupKey k) (dput kvs k d)) s' → Q () s') : wpAny (model X.prog X.w) A (setItem (.ref a) u r) Q E s := by
  obtain ⟨w, _, _⟩ := dict_view I c
  have few' : (dput kvs k d).length ≤ 1000000 := by have := dput_length (t := kvs) (k := k) (d := d); omega
  cases t : tupKey k with
  | true =>
    rw [t] at h
    obtain ⟨xs, vs, hd, tr, q⟩ := view_t I c ok t
    obtain ⟨b, rfl⟩ := tup_ref t rk
    obtain rfl : u = Value.ref b := ry
    obtain ⟨vs', tr', r'⟩ := tr.put q w.nd t rk rd rv
    exact wpAny_setItem_heap (hsz := by have := w.few; rw [tr.length]; exact this) (nroom hu) (key_is I t rk) hd fun h' hd' hs => h _ (after_t I w hd' hs tr' r' (dput_nodup w.nd) few')
  | false =>
    rw [t] at h
    obtain ⟨⟨ps, us, rel, dd, q, nd⟩, j, rfl⟩ := view_k I c ok t
    obtain rfl := kd_rp rk
    have hl := q.length
    rw [List.length_map] at hl
    exact wpAny_setItem_pairs (hsz := by rw [← rel.length, hl]; exact w.few) (kV_is ry) dd fun h' dd' hs => h _ (after_k I w (rel.put j rv) dd' hs (ke_put q nd rd) few')
/-- .. of a comprehension -/
theorem q_dictSet (hu : A.units + 65 < cLine) (I : Inv X pins σ H s) (c : Cn X.K H O a (dkM m kvs)) (ok : okR m kvs k = true) (rk : Rp X.K H O y k) (ry : RelV y u) (rd : Rp X.K H O v d) (rv : RelV v r) (few : kvs.length < 1000000) {Q : Unit → Shared → Prop}
    (h : ∀ s', After X pins σ H O a (dkM (!tupKey k) (dput kvs k d)) s' → Q () s') : wpAny (model X.prog X.w) A (dictSet a u r) Q E s := by
  obtain ⟨w, _, _⟩ := dict_view I c
  have few' : (dput kvs k d).length ≤ 1000000 := by have := dput_length (t := kvs) (k := k) (d := d); omega
  cases t : tupKey k with
  | true =>
    rw [t] at h
    obtain ⟨xs, vs, hd, tr, q⟩ := view_t I c ok t
    obtain ⟨b, rfl⟩ := tup_ref t rk
    obtain rfl : u = Value.ref b := ry
    obtain ⟨vs', tr', r'⟩ := tr.put q w.nd t rk rd rv
    exact wpAny_dictSet_heap (hsz := by have := w.few; rw [tr.length]; exact this) (by show A.units + 8 < cLine; omega) (key_is I t rk) hd fun h' hd' hs => h _ (after_t I w hd' hs tr' r' (dput_nodup w.nd) few')
  | false =>
    rw [t] at h
    obtain ⟨⟨ps, us, rel, dd, q, nd⟩, j, rfl⟩ := view_k I c ok t
    obtain rfl := kd_rp rk
    have hl := q.length
    rw [List.length_map] at hl
    exact wpAny_dictSet_pairs (hsz := by rw [← rel.length, hl]; exact w.few) (kV_is ry) dd fun h' dd' hs => h _ (after_k I w (rel.put j rv) dd' hs (ke_put q nd rd) few')
/-- del d[k], there -/
theorem q_delItem (hu : A.units + 65 < cLine) (I : Inv X pins σ H s) (c : Cn X.K H O a (dkM m kvs)) (ok : okR m kvs k = true) (rk : Rp X.K H O y k) (ry : RelV y u) (l : (dlk kvs k).isSome = true) (few : kvs.length ≤ 1000000) {Q : Unit → Shared → Prop}
    (h : ∀ s', After X pins σ H O a (dkM (!tupKey k) (ddel kvs k)) s' → Q () s') : wpAny (model X.prog X.w) A (delItem (.ref a) u) Q E s := by
  obtain ⟨w, _, _⟩ := dict_view I c
  have few' : (ddel kvs k).length ≤ 1000000 := by have := ddel_length (t := kvs) (k := k); omega
  obtain ⟨d, hl⟩ := Option.isSome_iff_exists.mp l
  cases t : tupKey k with
  | true =>
    rw [t] at h
    obtain ⟨xs, vs, hd, tr, q⟩ := view_t I c ok t
    obtain ⟨b, rfl⟩ := tup_ref t rk
    obtain rfl : u = Value.ref b := ry
    have e := tr.at_ q t
    rw [hl] at e
    obtain ⟨b2, u2, v2, e1, _⟩ := e
    obtain ⟨vs', tr', r'⟩ := tr.del q w.nd t
    exact wpAny_delItem_heap (hsz := by have := w.few; rw [tr.length]; exact this) (nroom hu) (key_is I t rk) w.low hd e1 fun h' hd' hs => h _ (after_t I w hd' hs tr' r' (ddel_nodup w.nd) few')
  | false =>
    rw [t] at h
    obtain ⟨⟨ps, us, rel, dd, q, nd⟩, j, rfl⟩ := view_k I c ok t
    obtain rfl := kd_rp rk
    have e := ke_at q (k := j)
    rw [hl] at e
    obtain ⟨v2, e1, _⟩ := e
    have hl := q.length
    rw [List.length_map] at hl
    exact wpAny_delItem_slot dd.typeIs (by decide) PySem.F.slot_dict_delitem
      (call_meetsIn PySem.F.slot_dict_delitem dd.typeIs PySem.F.entry_dict_delitem (PySem.F.args_dict_delitem_2 _ _) (meets_dict_delitem_pairs (mixKind X.prog X.w) a (kV_is ry)) ⟨us, dd, by rw [← rel.length, hl]; exact w.few, by rw [← (rel.val j).isSome_eq, e1]; rfl, fun h' dd' hs => h _ (after_k (t' := _) I w (rel.drop j) dd' hs (ke_del q nd) few')⟩)
/-- d.pop(k), d.pop(k, x), there -/
theorem q_pop {more : List Value} (hm : more = [] ∨ ∃ x, more = [x]) (hu : A.units + 65 < cLine) (I : Inv X pins σ H s) (c : Cn X.K H O a (dkM m kvs)) (ok : okR m kvs k = true) (rk : Rp X.K H O y k) (ry : RelV y u) (l : dlk kvs k = some d) (few : kvs.length ≤ 1000000) {Q : Value → Shared → Prop}
    (h : ∀ v w s', After X pins σ H O a (dkM (!tupKey k) (ddel kvs k)) s' → RelV v w → Rp X.K H O v d → Q w s') : wpAny (model X.prog X.w) A (call (.builtin "dict.pop") (.ref a :: u :: more)) Q E s := by
  obtain ⟨w, _, _⟩ := dict_view I c
  have few' : (ddel kvs k).length ≤ 1000000 := by have := ddel_length (t := kvs) (k := k); omega
  have ha : argsOk "dict.pop" ⟨.ref a :: u :: more, []⟩ := by
    rcases hm with q | ⟨x, q⟩
    · subst q; exact PySem.F.args_dict_pop_2 _ _
    · subst q; exact PySem.F.args_dict_pop_3 _ _ _
  cases t : tupKey k with
  | true =>
    rw [t] at h
    obtain ⟨xs, vs, hd, tr, q⟩ := view_t I c ok t
    obtain ⟨b, rfl⟩ := tup_ref t rk
    obtain rfl : u = Value.ref b := ry
    have e := tr.at_ q t
    rw [l] at e
    obtain ⟨b2, u2, v2, e1, e2, e3⟩ := e
    obtain ⟨vs', tr', r'⟩ := tr.del q w.nd t
    exact call_pop_heap (hsz := by have := w.few; rw [tr.length]; exact this) hm ha (nroom hu) (key_is I t rk) w.low hd e1 fun h' hd' hs => h _ _ _ (after_t I w hd' hs tr' r' (ddel_nodup w.nd) few') e2 e3
  | false =>
    rw [t] at h
    obtain ⟨⟨ps, us, rel, dd, q, nd⟩, j, rfl⟩ := view_k I c ok t
    obtain rfl := kd_rp rk
    have e := ke_at q (k := j)
    rw [l] at e
    obtain ⟨v2, e1, e3⟩ := e
    have hl := q.length
    rw [List.length_map] at hl
    obtain ⟨w', hw, rw'⟩ := RelO.some_of (v := v2) (o := valueAt us j) (by rw [← e1]; exact rel.val j)
    have hp : (keyPart u).isSome = true := by
      cases j with
      | inl i => obtain ⟨t, q⟩ := (show ∃ t, u = Value.int i t from ry); subst q; rfl
      | inr x => obtain ⟨t, q⟩ := (show ∃ t, u = Value.str x t from ry); subst q; rfl
    exact call_meetsIn PySem.F.slot_dict_pop dd.typeIs PySem.F.entry_dict_pop ha (meets_dict_pop_there (mixKind X.prog X.w) a (kV_is ry) more hm hp)
      ⟨us, w', dd, by rw [← rel.length, hl]; exact w.few, hw, fun h' dd' hs => h _ _ _ (after_k I w (rel.drop j) dd' hs (ke_del q nd) few') rw' e3⟩
/-- len(d) -/
theorem q_len (I : Inv X pins σ H s) (c : Cn X.K H O a (dkM m kvs)) {Q : Value → Shared → Prop} (h : ∀ t s', Inv X pins σ H s' → Q (.int kvs.length t) s') : wpAny (model X.prog X.w) A (call (.builtin "len") [.ref a]) Q E s := by
  obtain ⟨w, v1, v2⟩ := dict_view I c
  have few := w.few
  cases m with
  | false =>
    obtain ⟨xs, vs, hd, tr, q⟩ := v1 rfl
    have e := tr.length
    refine call_len_dictH w.low hd (by rw [e]; rw [sizeLine_eq] at few; omega) ?_
    rw [e]
    exact h _ _ (I.tok _)
  | true =>
    obtain ⟨ps, us, rel, dd, q, nd⟩ := v2 rfl
    have hl := q.length
    rw [List.length_map] at hl
    have e : us.length = kvs.length := by rw [← rel.length, hl]
    refine call_len_dict w.low dd (by rw [e]; rw [sizeLine_eq] at few; omega) ?_
    rw [e]
    exact h _ _ (I.tok _)
end
end DL
/-! Dicts in expressions. -/
namespace DL
open PySem PySem.Spec PyProof.Rows L2

section
variable {K : PySem.W.Frag} {H : Hp} {O : Addr → Prop} {v : V} {m : Bool} {kvs : Tb} {k : PyData}
theorem RpB.cn (h : RpB K H O v (dkM m kvs)) : ∃ a, v = .ref a ∧ Cn K H O a (dkM m kvs) := by
  rcases h with h | ⟨a, e, h⟩
  · cases h with
    | dct r n w e s => exact ⟨_, rfl, .dct r w e s⟩
    | dck r n s => exact ⟨_, rfl, .dck r s⟩
  · exact ⟨a, e, h⟩
theorem okR_cases (ok : okR m kvs k = true) : scal k = true ∨ tupKey k = true := by
  cases q : scal k with
  | true => exact .inl rfl
  | false =>
    cases q2 : tupKey k with
    | true => exact .inr rfl
    | false => cases m <;> simp [okR, q, q2] at ok
theorem okR_rp (ok : okR m kvs k = true) (h : RpB K H O v k) : Rp K H O v k := by
  rcases okR_cases ok with q | q <;> cases k <;> first | cases q; done | exact h.rp (by intro _ z; cases z) (by intro _ _ z; cases z)
end

/-! ### == of two dicts whose keys are tuples -/
inductive Hts (P : Program) (w : World) (A : Around) (s : Shared) (zs : List (NestedKey × Addr × Value)) : List (NestedKey × Addr × Value) → Bool → Prop
  | nil : Hts P w A s zs [] true
  | no {k : NestedKey} {c : Addr} {u : Value} {r : List (NestedKey × Addr × Value)} : atKey zs k = none → Hts P w A s zs ((k, c, u) :: r) false
  | yes {k : NestedKey} {c c' : Addr} {u u' : Value} {r : List (NestedKey × Addr × Value)} {e q : Bool} : atKey zs k = some (c', u') → SeqAt.EqP P w A s u u' e → Hts P w A s zs r q → Hts P w A s zs ((k, c, u) :: r) (e && q)
section
variable {P : Program} {w : World} {A : Around} {E : Value → Shared → Prop} {s : Shared} {a1 a2 : Addr} {ys zs : List (NestedKey × Addr × Value)} {t : Bool}
theorem same_pairsH {nm : String} {Q : Bool → Shared → Prop} (l1 : (a1 == sysModules) = false) (l2 : (a2 == sysModules) = false) (hr : (nestedKind P w).room A)
    (d1 : s.heap.DictOfH (nestedKind P w) a1 ys) (d2 : s.heap.DictOfH (nestedKind P w) a2 zs) (hh : ys.length = zs.length → Hts P w A s zs ys t) (h : Q (ys.length == zs.length && t) s) :
    wpAny (model P w) A (Builtin.Dict.samePairs nm a1 a2) Q E s := by
  obtain ⟨o1, es1, ep1, g1, _, k1, f1, i1, n1⟩ := d1
  obtain ⟨o2, es2, ep2, g2, _, k2, f2, i2, n2⟩ := d2
  have z1 := size_of_entries f1
  have z2 := size_of_entries f2
  unfold Builtin.Dict.samePairs Builtin.Dict.showsAll
  rw [if_neg (by rw [l1]; exact Bool.false_ne_true), if_neg (by rw [l2]; exact Bool.false_ne_true)]
  refine wpAny_bind (wpAny_pure (wpAny_bind (wpAny_pure (wpAny_bind (wpAny_dictEntries g1 k1 ?_)))))
  dsimp only
  refine wpAny_bind (wpAny_dictEntries g2 k2 ?_)
  by_cases hz : es1.size = es2.size
  · rw [if_neg (by rw [hz]; simp)]
    have hl : ys.length = zs.length := by rw [← z1, ← z2, hz]
    rw [hl] at h
    simp only [beq_self_eq_true, Bool.true_and] at h
    have hh := hh hl
    refine wpAny_bind (wpAny_dictEpoch g1 k1 (wpAny_bind ?_))
    rw [Std.Legacy.Range.forIn_eq_forIn_range']
    simp only [Std.Legacy.Range.size, Nat.sub_zero, Nat.add_sub_cancel, Nat.div_one]
    refine wpAny_forIn_list _ (fun more g s' => s' = s ∧ g = (none, ()) ∧ ∃ j, more = List.range' j (es1.size - j) ∧ j ≤ es1.size ∧ Hts P w A s zs (ys.drop j) t) _ ?_ ?_ _ _ ⟨rfl, rfl, 0, by simp, Nat.zero_le _, hh⟩
    · rintro x more g s' ⟨rfl, rfl, j, hm, hj, hd⟩
      have hlt : j < es1.size := by
        rcases Nat.lt_or_ge j es1.size with z | z
        · exact z
        · rw [Nat.sub_eq_zero_of_le z] at hm; cases hm
      have hs : es1.size - j = (es1.size - (j + 1)) + 1 := by omega
      rw [hs, List.range'_succ] at hm
      injection hm with hx hm
      subst hx
      refine wpAny_bind (wpAny_dictEntries g1 k1 ?_)
      have hy : x < ys.length := by rw [← z1]; exact hlt
      obtain ⟨⟨k, c, u⟩, hk⟩ : ∃ p, ys[x]? = some p := ⟨ys[x], List.getElem?_eq_getElem hy⟩
      rw [entry_at f1 x, hk]
      have hmem : (k, c, u) ∈ ys := List.mem_of_getElem? hk
      have hc := i1 _ hmem
      have e0 : ys.drop x = (k, c, u) :: ys.drop (x + 1) := by
        obtain ⟨h1, h2⟩ := List.getElem?_eq_some_iff.mp hk
        rw [List.drop_eq_getElem_cons h1, h2]
      rw [e0] at hd
      show wpAny _ _ (holding [Value.ref c, u] _ >>= _) _ _ _
      refine wpAny_bind (wpAny_holding (wpAny_bind (wpAny_dictFind_heap hr hc g2 k2 f2 i2 n2 (fun no => ?_) (fun i p hp => ?_))))
      · have hn := atKey_none_of_get no
        have ht : t = false := by
          cases hd with
          | no _ => rfl
          | yes q _ _ => rw [hn] at q; cases q
        subst ht
        refine wpAny_pure ?_
        show wpAny _ _ (if (!false) = true then _ else _) _ _ _
        rw [if_pos (show (!false) = true from rfl)]
        exact wpAny_pure (wpAny_pure h)
      · have hn := atKey_of_get n2 hp
        refine wpAny_bind (wpAny_dictEntries g2 k2 ?_)
        rw [entry_at f2 i, hp]
        cases hd with
        | no q => rw [hn] at q; cases q
        | @yes _ _ c' _ u' _ e q hq he hr2 =>
          rw [hn] at hq
          cases hq
          refine wpAny_holding (he _ _ ?_)
          cases e with
          | false =>
            show wpAny _ _ (if (!false) = true then _ else _) _ _ _
            rw [if_pos (show (!false) = true from rfl)]
            exact wpAny_pure (wpAny_pure (by rw [Bool.false_and] at h; exact h))
          | true =>
            show wpAny _ _ (if (!true) = true then _ else _) _ _ _
            rw [if_neg (show ¬ (!true) = true from Bool.false_ne_true)]
            refine wpAny_bind (wpAny_dictEpoch g1 k1 ?_)
            rw [if_neg (by simp)]
            exact wpAny_pure ⟨rfl, rfl, x + 1, hm, hlt, by rw [Bool.true_and]; exact hr2⟩
    · rintro g s' ⟨rfl, rfl, j, hm, hj, hd⟩
      have hje : j = es1.size := by
        rcases Nat.lt_or_ge j es1.size with z | z
        · have hs : es1.size - j = (es1.size - (j + 1)) + 1 := by omega
          rw [hs, List.range'_succ] at hm; cases hm
        · omega
      rw [hje, z1, List.drop_length] at hd
      cases hd
      exact wpAny_pure h
  · rw [if_pos (by simpa using hz)]
    have hb : (ys.length == zs.length) = false := by rw [← z1, ← z2]; simpa using hz
    rw [hb, Bool.false_and] at h
    exact wpAny_bind (wpAny_rule (wpAny_pure h))
theorem eqH {Q : Value → Shared → Prop} (l1 : (a1 == sysModules) = false) (l2 : (a2 == sysModules) = false) (hr : (nestedKind P w).room A.in1) (hu : A.units < cLine)
    (d1 : s.heap.DictOfH (nestedKind P w) a1 ys) (d2 : s.heap.DictOfH (nestedKind P w) a2 zs) (hh : ys.length = zs.length → Hts P w A.in1 s zs ys t) (h : Q (.bool (ys.length == zs.length && t)) s) :
    wpAny (model P w) A (compareOp .Eq (.ref a1) (.ref a2)) Q E s := by
  refine wpAny_richCompare_same_room (op := .Eq) d1.typeIs d2.typeIs PySem.F.slot_dict_eq (wpAny_call_entry PySem.F.slot_dict_eq d1.typeIs PySem.F.entry_dict_eq (E := E) ?_ (PySem.F.args_dict_eq_2 _ _)) hu
  show wpAny _ _ (Builtin.Dict.dictSlotArgs "__eq__" ⟨[.ref a1, .ref a2], []⟩ >>= _) _ _ s
  refine wpAny_bind ?_
  unfold Builtin.Dict.dictSlotArgs
  refine wpAny_bind (wpAny_notOrdered_dict d1.typeIs ?_)
  show wpAny _ _ (pure (Value.ref a1, Value.ref a2)) _ _ s
  refine wpAny_pure (wpAny_bind (wpAny_isInstance (T := "dict") d2.typeIs PySem.F.sub_dict_dict ?_))
  simp only [Bool.not_true, Bool.false_eq_true, if_false]
  refine wpAny_bind (wpAny_pure (wpAny_bind (wpAny_pure (wpAny_bind (same_pairsH l1 l2 hr d1 d2 hh (wpAny_pure ⟨_, rfl, ?_, ?_⟩))))))
  · intro z; cases z
  · simpa using h
theorem neH {Q : Value → Shared → Prop} (l1 : (a1 == sysModules) = false) (l2 : (a2 == sysModules) = false) (hr : (nestedKind P w).room A.in1) (hu : A.units < cLine)
    (d1 : s.heap.DictOfH (nestedKind P w) a1 ys) (d2 : s.heap.DictOfH (nestedKind P w) a2 zs) (hh : ys.length = zs.length → Hts P w A.in1 s zs ys t) (h : Q (.bool (!(ys.length == zs.length && t))) s) :
    wpAny (model P w) A (compareOp .NotEq (.ref a1) (.ref a2)) Q E s := by
  refine wpAny_richCompare_same_room (op := .NotEq) d1.typeIs d2.typeIs PySem.F.slot_dict_ne (wpAny_call_entry PySem.F.slot_dict_ne d1.typeIs PySem.F.entry_dict_ne (E := E) ?_ (PySem.F.args_dict_ne_2 _ _)) hu
  show wpAny _ _ (Builtin.Dict.dictSlotArgs "__ne__" ⟨[.ref a1, .ref a2], []⟩ >>= _) _ _ s
  refine wpAny_bind ?_
  unfold Builtin.Dict.dictSlotArgs
  refine wpAny_bind (wpAny_notOrdered_dict d1.typeIs ?_)
  show wpAny _ _ (pure (Value.ref a1, Value.ref a2)) _ _ s
  refine wpAny_pure (wpAny_bind (wpAny_isInstance (T := "dict") d2.typeIs PySem.F.sub_dict_dict ?_))
  simp only [Bool.not_true, Bool.false_eq_true, if_false]
  refine wpAny_bind (wpAny_pure (wpAny_bind (wpAny_pure (wpAny_bind (same_pairsH l1 l2 hr d1 d2 hh (wpAny_pure ⟨_, rfl, ?_, ?_⟩))))))
  · intro z; cases z
  · simpa using h
end
/-- each entry of the one stands in the other -/
def dsub : Tb → Tb → Bool
  | [], _ => true
  | p :: r, t => (match dlk t p.1 with | some d => PyData.eqv p.2 d | none => false) && dsub r t
def deq (a b : Tb) : Bool := a.length == b.length && dsub a b
/-- it may be compared -/
def eqOk (m : Bool) (kvs : Tb) : Bool := (!m || kvs.isEmpty) && kvs.all fun p => SeqAt.shaped p.2
section
variable {X : Cx} {pins : List (Addr × Obj)} {σ : L2.St} {H : Hp} {s : Shared} {O O' : Addr → Prop} {a1 a2 : Addr} {m1 m2 : Bool} {t1 t2 : Tb}
theorem view_eq (I : Inv X pins σ H s) {a : Addr} {m : Bool} {kvs : Tb} (c : Cn X.K H O a (dkM m kvs)) (ok : eqOk m kvs = true) : VT X H O s.heap a kvs := by
  obtain ⟨w, v1, v2⟩ := dict_view I c
  unfold eqOk at ok
  rw [Bool.and_eq_true] at ok
  cases m with
  | false => exact v1 rfl
  | true =>
    have e : kvs = [] := by simpa using ok.1
    subst e
    obtain ⟨es, ep, r, z⟩ := w.ty
    exact raw_t r z
theorem hts_of (I : Inv X pins σ H s) {A : Around} (hu : A.in1.units + 64 < cLine) {zs : List (NestedKey × Addr × Value)} {vs2 : List (V × V)} (tz : Tri zs vs2 t2) (rz : RpE X.K H O' vs2 t2) (sz : ∀ p ∈ t2, SeqAt.shaped p.2 = true) :
    ∀ {ys : List (NestedKey × Addr × Value)} {vs1 : List (V × V)} {t1 : Tb}, Tri ys vs1 t1 → RpE X.K H O vs1 t1 → (∀ p ∈ t1, SeqAt.shaped p.2 = true) → Hts X.prog X.w A.in1 s zs ys (dsub t1 t2)
  | _, _, _, .nil, _, _ => .nil
  | _, _, _, .cons (k := k) (d := d) (u := u) hk ru t, .cons r1 r2 r3, sh => by
    have ih := hts_of I hu tz rz sz t r3 fun p hp => sh p (List.mem_cons_of_mem _ hp)
    have at2 := tz.at_ rz hk
    unfold dsub
    dsimp only
    cases q : dlk t2 k with
    | none => rw [q] at at2; exact .no at2
    | some d' =>
      rw [q] at at2
      obtain ⟨c', u', v', e1, e2, e3⟩ := at2
      refine .yes e1 ?_ ih
      have s1 : SeqAt.shaped d = true := sh _ List.mem_cons_self
      have s2 : SeqAt.shaped d' = true := sz _ (dlk_mem q)
      obtain ⟨as, g1⟩ := Dp.reads I d _ u (Rp.dp _ _ (lay_of s1) r2) ru
      obtain ⟨bs, g2⟩ := Dp.reads I d' v' u' (Rp.dp _ _ (lay_of s2) e3) e2
      exact (PySem.W.keq_at g1 g2 s1 s2 hu).eqP
def rEqM (K : PySem.W.Frag) : R2 := fun x y H Q => ∃ (O O' : Addr → Prop) (a1 a2 : Addr) (m1 m2 : Bool) (t1 t2 : Tb), x = .ref a1 ∧ y = .ref a2 ∧ Cn K H O a1 (dkM m1 t1) ∧ Cn K H O' a2 (dkM m2 t2) ∧ eqOk m1 t1 = true ∧ eqOk m2 t2 = true ∧ Q (.bl (deq t1 t2)) H
def rNeM (K : PySem.W.Frag) : R2 := fun x y H Q => ∃ (O O' : Addr → Prop) (a1 a2 : Addr) (m1 m2 : Bool) (t1 t2 : Tb), x = .ref a1 ∧ y = .ref a2 ∧ Cn K H O a1 (dkM m1 t1) ∧ Cn K H O' a2 (dkM m2 t2) ∧ eqOk m1 t1 = true ∧ eqOk m2 t2 = true ∧ Q (.bl (!deq t1 t2)) H
theorem eqOk_sh {m : Bool} {t : Tb} (h : eqOk m t = true) : ∀ p ∈ t, SeqAt.shaped p.2 = true := by
  unfold eqOk at h
  rw [Bool.and_eq_true] at h
  exact List.all_eq_true.mp h.2
theorem op_eqM (hu : X.A.units + 65 < cLine) : OpR X (compareOp .Eq) (rEqM X.K) := by
  intro pins s σ H x y v u Q I rx ry h
  obtain ⟨O, O', a1, a2, m1, m2, t1, t2, ex, ey, c1, c2, k1, k2, q⟩ := h
  subst ex ey
  obtain rfl : v = Value.ref a1 := rx
  obtain rfl : u = Value.ref a2 := ry
  obtain ⟨ys, vs1, d1, y1, r1⟩ := view_eq I c1 k1
  obtain ⟨zs, vs2, d2, y2, r2⟩ := view_eq I c2 k2
  refine eqH (dict_view I c1).1.low (dict_view I c2).1.low (nroom (X := X) hu) (by omega) d1 d2 (fun _ => hts_of I (by show X.A.units + 1 + 64 < cLine; omega) y2 r2 (eqOk_sh k2) y1 r1 (eqOk_sh k1)) ⟨.bl _, H, I, rfl, ?_⟩
  rw [y1.length, y2.length]
  exact q
theorem op_neM (hu : X.A.units + 65 < cLine) : OpR X (compareOp .NotEq) (rNeM X.K) := by
  intro pins s σ H x y v u Q I rx ry h
  obtain ⟨O, O', a1, a2, m1, m2, t1, t2, ex, ey, c1, c2, k1, k2, q⟩ := h
  subst ex ey
  obtain rfl : v = Value.ref a1 := rx
  obtain rfl : u = Value.ref a2 := ry
  obtain ⟨ys, vs1, d1, y1, r1⟩ := view_eq I c1 k1
  obtain ⟨zs, vs2, d2, y2, r2⟩ := view_eq I c2 k2
  refine neH (dict_view I c1).1.low (dict_view I c2).1.low (nroom (X := X) hu) (by omega) d1 d2 (fun _ => hts_of I (by show X.A.units + 1 + 64 < cLine; omega) y2 r2 (eqOk_sh k2) y1 r1 (eqOk_sh k1)) ⟨.bl _, H, I, rfl, ?_⟩
  rw [y1.length, y2.length]
  exact q
end
@[simp] def gEqA : PyData → PyData → Option Bool
  | .dict ((.none, .bool m1) :: t1), .dict ((.none, .bool m2) :: t2) => if eqOk m1 t1 = true ∧ eqOk m2 t2 = true then some (deq t1 t2) else none
  | x, y => gEq x y
@[simp] def gNeA : PyData → PyData → Option Bool
  | .dict ((.none, .bool m1) :: t1), .dict ((.none, .bool m2) :: t2) => if eqOk m1 t1 = true ∧ eqOk m2 t2 = true then some (!deq t1 t2) else none
  | x, y => gNe x y
section
variable {K : PySem.W.Frag}
theorem opb_eqA : OpB K (fun x y H Q => rEqD K x y H Q ∨ rEqM K x y H Q) (bo gEqA) := by
  intro H O x y dx dy d Q ho rx ry e q
  unfold bo gEqA at e
  split at e
  · split at e
    · rename_i hc
      cases e
      obtain ⟨a1, ex, c1⟩ := rx.cn
      obtain ⟨a2, ey, c2⟩ := ry.cn
      exact .inr ⟨O, O, a1, a2, _, _, _, _, ex, ey, c1, c2, hc.1, hc.2, q _ _ (.refl H) (.bl _)⟩
    · cases e
  · exact .inl (opb_eq H O x y dx dy d Q ho rx ry e q)
theorem opb_neA : OpB K (fun x y H Q => rNeD K x y H Q ∨ rNeM K x y H Q) (bo gNeA) := by
  intro H O x y dx dy d Q ho rx ry e q
  unfold bo gNeA at e
  split at e
  · split at e
    · rename_i hc
      cases e
      obtain ⟨a1, ex, c1⟩ := rx.cn
      obtain ⟨a2, ey, c2⟩ := ry.cn
      exact .inr ⟨O, O, a1, a2, _, _, _, _, ex, ey, c1, c2, hc.1, hc.2, q _ _ (.refl H) (.bl _)⟩
    · cases e
  · exact .inl (opb_ne H O x y dx dy d Q ho rx ry e q)
end

section
variable {X : Cx} {b : Bs} {e e1 e2 e3 : Expr} {f f1 f2 f3 : FE} {L La Lb Lc : List Nat} {pos p apos cpos : Pos}
/-! ### d[k] -/
@[simp] def gIxA : PyData → PyData → Option PyData
  | .dict ((.none, .bool m) :: kvs), k => if okR m kvs k = true then dlk kvs k else none
  | x, k => gIx x k
def rIxM (K : PySem.W.Frag) : R2 := fun x y H Q => ∃ (O : Addr → Prop) (m : Bool) (kvs : Tb) (k d : PyData) (a : Addr), x = .ref a ∧ Cn K H O a (dkM m kvs) ∧ okR m kvs k = true ∧ Rp K H O y k ∧ dlk kvs k = some d ∧ ∀ v, Rp K H O v d → Q v H
theorem ix_dct (hu : X.A.units + 65 < cLine) : IxR X (rIxM X.K) := by
  intro value slice pins s σ H x y v u Q I rx ry h hs
  obtain ⟨O, m, kvs, k, d, a, ex, c, ok, rk, hl, q⟩ := h
  subst ex
  obtain rfl : v = Value.ref a := rx
  obtain ⟨es, ep, r, _⟩ := (dict_view I c).1.ty
  exact tail_any r.typeIs PySem.F.slot_dict_getitem.lookup (q_getItem hu I c ok rk ry hl fun v2 w2 s2 I2 rw2 rp2 => ⟨v2, H, I2, rw2, q v2 rp2⟩) hs
theorem opb_ixA {K : PySem.W.Frag} : OpB K (fun x y H Q => rIx K x y H Q ∨ rIxM K x y H Q) gIxA := by
  intro H O x y dx dy d Q ho rx ry e q
  unfold gIxA at e
  split at e
  · split at e
    · rename_i ok
      obtain ⟨a, ex, c⟩ := rx.cn
      exact .inr ⟨O, _, _, _, d, a, ex, c, ok, okR_rp ok ry, e, fun v r => q v H (.refl H) r⟩
    · cases e
  · exact .inl (opb_ix H O x y dx dy d Q ho rx ry e q)
theorem de_ixA (F : Fx X b) (h1 : DB X b e1 f1 La) (h2 : DB X b e2 f2 Lb) (hs : PlainIx e2 := by exact fun _ _ => rfl) : DE X b (.Subscript e1 e2 pos) (c2 gIxA f1 f2) (La ++ Lb) :=
  PE.wk (pe_ix (ix_seq.or (ix_dct F.un1)) h1 h2 hs) fun _ _ _ h => twoB h opb_ixA
/-! ### k in d -/
@[simp] def gInA : PyData → PyData → Option Bool
  | k, .dict ((.none, .bool m) :: kvs) => if okR m kvs k = true then some (dlk kvs k).isSome else none
  | x, y => gIn x y
@[simp] def gNinA (x y : PyData) : Option Bool := (gInA x y).map not
def rInM (K : PySem.W.Frag) : R2 := fun x y H Q => ∃ (O : Addr → Prop) (m : Bool) (kvs : Tb) (k : PyData) (a : Addr), y = .ref a ∧ Cn K H O a (dkM m kvs) ∧ okR m kvs k = true ∧ Rp K H O x k ∧ Q (.bl (dlk kvs k).isSome) H
def rNinM (K : PySem.W.Frag) : R2 := fun x y H Q => ∃ (O : Addr → Prop) (m : Bool) (kvs : Tb) (k : PyData) (a : Addr), y = .ref a ∧ Cn K H O a (dkM m kvs) ∧ okR m kvs k = true ∧ Rp K H O x k ∧ Q (.bl (!(dlk kvs k).isSome)) H
theorem op_inM (hu : X.A.units + 65 < cLine) : OpR X (compareOp .In) (rInM X.K) := by
  intro pins s σ H x y v u Q I rx ry h
  obtain ⟨O, m, kvs, k, a, ey, c, ok, rk, q⟩ := h
  subst ey
  obtain rfl : u = Value.ref a := ry
  exact q_in hu I c ok rk rx fun s2 I2 => ⟨.bl _, H, I2, rfl, q⟩
theorem op_ninM (hu : X.A.units + 65 < cLine) : OpR X (compareOp .NotIn) (rNinM X.K) := by
  intro pins s σ H x y v u Q I rx ry h
  obtain ⟨O, m, kvs, k, a, ey, c, ok, rk, q⟩ := h
  subst ey
  obtain rfl : u = Value.ref a := ry
  exact q_notIn hu I c ok rk rx fun s2 I2 => ⟨.bl _, H, I2, rfl, q⟩
theorem opb_inA {K : PySem.W.Frag} : OpB K (fun x y H Q => (rInD K x y H Q ∨ rInT K x y H Q) ∨ rInM K x y H Q) (bo gInA) := by
  intro H O x y dx dy d Q ho rx ry e q
  unfold bo gInA at e
  split at e
  · split at e
    · rename_i ok
      cases e
      obtain ⟨a, ey, c⟩ := ry.cn
      exact .inr ⟨O, _, _, _, a, ey, c, ok, okR_rp ok rx, q _ _ (.refl H) (.bl _)⟩
    · cases e
  · exact .inl (opb_in H O x y dx dy d Q ho rx ry e q)
theorem opb_ninA {K : PySem.W.Frag} : OpB K (fun x y H Q => (rNotInD K x y H Q ∨ rNinT K x y H Q) ∨ rNinM K x y H Q) (bo gNinA) := by
  intro H O x y dx dy d Q ho rx ry e q
  unfold bo gNinA gInA at e
  split at e
  · split at e
    · rename_i ok
      cases e
      obtain ⟨a, ey, c⟩ := ry.cn
      exact .inr ⟨O, _, _, _, a, ey, c, ok, okR_rp ok rx, q _ _ (.refl H) (.bl _)⟩
    · cases e
  · exact .inl (opb_nin H O x y dx dy d Q ho rx ry e q)
/-! ### d.get(k), d.get(k, x) -/
@[simp] def gGet : PyData → PyData → Option PyData
  | .dict ((.none, .bool m) :: kvs), k => if okR m kvs k = true then some ((dlk kvs k).getD .none) else none
  | _, _ => none
@[simp] def gGet3 : PyData → PyData → PyData → Option PyData
  | .dict ((.none, .bool m) :: kvs), k, x => if okR m kvs k = true then some ((dlk kvs k).getD x) else none
  | _, _, _ => none
theorem dict_at {pins : List (Addr × Obj)} {σ : L2.St} {H : Hp} {s : Shared} {O : Addr → Prop} {a : Addr} {m : Bool} {kvs : Tb} (I : Inv X pins σ H s) (c : Cn X.K H O a (dkM m kvs)) :
    s.TypeIs (.ref a) "dict" ∧ ∀ c, Value.ref a = .ref c → ∃ ob, s.heap.get? c = some ob ∧ ob.dict = none := by
  obtain ⟨es, ep, r, _⟩ := (dict_view I c).1.ty
  refine ⟨r.typeIs, fun c q => ?_⟩
  cases q
  obtain ⟨ob, h1, h2, _⟩ := r
  exact ⟨ob, h1, h2.2.1⟩
theorem Pz.split {K : PySem.W.Frag} {α : Type} {r : Rz α} {P : α → Prop} (h : Pz K b r P) : (∃ a, r = .ok a ∧ P a) ∨ ∃ x, r = .ex x ∧ XP K b x := by
  cases r with
  | ok a => exact .inl ⟨a, rfl, h⟩
  | ex x => exact .inr ⟨x, rfl, h⟩
  | st => exact h.elim
theorem dk_some {d : PyData} {k r : PyData} (h : gGet d k = some r) : ∃ m kvs, d = dkM m kvs ∧ okR m kvs k = true ∧ r = (dlk kvs k).getD .none := by
  unfold gGet at h
  split at h
  · split at h
    · cases h; exact ⟨_, _, rfl, ‹_›, rfl⟩
    · cases h
  · cases h
theorem dk_some3 {d : PyData} {k x r : PyData} (h : gGet3 d k x = some r) : ∃ m kvs, d = dkM m kvs ∧ okR m kvs k = true ∧ r = (dlk kvs k).getD x := by
  unfold gGet3 at h
  split at h
  · split at h
    · cases h; exact ⟨_, _, rfl, ‹_›, rfl⟩
    · cases h
  · cases h
/-- the receiver is known to be a dict before the arguments are read -/
@[simp] def isDk : PyData → Bool
  | .dict ((.none, .bool _) :: _) => true
  | _ => false
theorem isDk_of {d : PyData} (h : isDk d = true) : ∃ m kvs, d = dkM m kvs := by
  unfold isDk at h
  split at h
  · exact ⟨_, _, rfl⟩
  · cases h
@[simp] def cGetM (f1 f2 : FE) (env : En) : Rz PyData := (f1 env).bind fun x => if isDk x = true then (f2 env).bind fun y => Rz.of (gGet x y) else .st
@[simp] def cGetM3 (f1 f2 f3 : FE) (env : En) : Rz PyData := (f1 env).bind fun x => if isDk x = true then (f2 env).bind fun y => (f3 env).bind fun z => Rz.of (gGet3 x y z) else .st
theorem de_get1 (F : Fx X b) (h1 : DB X b e1 f1 La) (h2 : DE X b e2 f2 Lb) (m : M1 X e1 "get" apos e2 cpos := by exact ⟨rfl, rfl, rfl, rfl⟩) : DE X b (.Call (.Attribute e1 "get" apos) [e2] [] cpos) (cGetM f1 f2) (La ++ Lb) := by
  refine ⟨fun pins s σ H Q I h => ?_⟩
  obtain ⟨env, o, R, h⟩ := h
  refine wpAny_Call_method m.base m.few m.line PySem.F.plainAttrs_dict PySem.F.slot_dict_get PySem.F.type_dict_get (thn (h1.run pins s σ H (fun x H1 => ∃ a mm kvs, x = .ref a ∧ Same H H1 ∧ Cn X.K H1 (Ex b (frees La env) o) a (dkM mm kvs) ∧ Pz X.K b (f2 env) fun y => ∃ d, gGet (dkM mm kvs) y = some d ∧ ∀ v H', Same H H' → Rp X.K H' (Ex b (frees (La ++ Lb) env) o) v d → Q v H') I ⟨env, o, R, h.bind.imp fun dx _ h v H1 s1 r1 => ?_⟩) fun u s1 ⟨x, H1, I1, rx, a, mm, kvs, ex, sm, c, h⟩ => ?_)
  · split at h
    · rename_i hd
      obtain ⟨mm, kvs, rfl⟩ := isDk_of hd
      obtain ⟨a, ea, c⟩ := r1.cn
      exact ⟨a, mm, kvs, ea, s1, c, h.bind.imp fun y _ h => h.of⟩
    · exact h.elim
  · subst ex
    obtain rfl : u = Value.ref a := rx
    obtain ⟨t1, t2⟩ := dict_at I1 c
    refine ⟨t1, t2, ?_⟩
    rw [m.trees]
    refine Calls.callWith_builtin rfl (Calls.evalArgs_plain (Calls.spliced_cons (thn (h2.run pins s1 σ H1 (fun y H2 => ∃ k d, Same H1 H2 ∧ Rp X.K H2 (Ex b (frees Lb env) o) y k ∧ gGet (dkM mm kvs) k = some d ∧ ∀ v H', Same H H' → Rp X.K H' (Ex b (frees (La ++ Lb) env) o) v d → Q v H') I1 ⟨env, o, R.same sm, h.imp fun y _ h v H2 s2 r2 => ?_⟩) fun iv s2 ⟨y, H2, I2, ry, k, d, s2', rk, eg, h⟩ => Calls.spliced_nil ?_)))
    · obtain ⟨d, eg, h⟩ := h
      exact ⟨y, d, s2, r2, eg, h⟩
    · obtain ⟨_, _, ek, ok, er⟩ := dk_some eg
      cases ek
      subst er
      have c2 := (c.same s2').less (O' := Ex b (frees (La ++ Lb) env) o) fun a z => (ex_frees_app z).1
      have rk2 := rk.less (O' := Ex b (frees (La ++ Lb) env) o) fun a z => (ex_frees_app z).2
      exact q_get1 F.un1 I2 c2 ok rk2 ry fun v w s3 I3 rw3 rp3 => ⟨v, H2, I3, rw3, h v H2 (sm.trans s2') rp3⟩
theorem de_get2 (F : Fx X b) (h1 : DB X b e1 f1 La) (h2 : DE X b e2 f2 Lb) (h3 : DE X b e3 f3 Lc) (m : M2 X e1 "get" apos e2 e3 cpos := by exact ⟨rfl, rfl, rfl, rfl⟩) : DE X b (.Call (.Attribute e1 "get" apos) [e2, e3] [] cpos) (cGetM3 f1 f2 f3) (La ++ (Lb ++ Lc)) := by
  refine ⟨fun pins s σ H Q I h => ?_⟩
  obtain ⟨env, o, R, h⟩ := h
  refine wpAny_Call_method m.base m.few m.line PySem.F.plainAttrs_dict PySem.F.slot_dict_get PySem.F.type_dict_get (thn (h1.run pins s σ H (fun x H1 => ∃ a mm kvs, x = .ref a ∧ Same H H1 ∧ Cn X.K H1 (Ex b (frees La env) o) a (dkM mm kvs) ∧ Pz X.K b (f2 env) fun y => Pz X.K b (f3 env) fun z => ∃ d, gGet3 (dkM mm kvs) y z = some d ∧ ∀ v H', Same H H' → Rp X.K H' (Ex b (frees (La ++ (Lb ++ Lc)) env) o) v d → Q v H') I ⟨env, o, R, h.bind.imp fun dx _ h v H1 s1 r1 => ?_⟩) fun u s1 ⟨x, H1, I1, rx, a, mm, kvs, ex, sm, c, h⟩ => ?_)
  · split at h
    · rename_i hd
      obtain ⟨mm, kvs, rfl⟩ := isDk_of hd
      obtain ⟨a, ea, c⟩ := r1.cn
      exact ⟨a, mm, kvs, ea, s1, c, h.bind.imp fun y _ h => h.bind.imp fun z _ h => h.of⟩
    · exact h.elim
  · subst ex
    obtain rfl : u = Value.ref a := rx
    obtain ⟨t1, t2⟩ := dict_at I1 c
    refine ⟨t1, t2, ?_⟩
    rw [m.trees]
    refine Calls.callWith_builtin rfl (Calls.evalArgs_plain (Calls.spliced_cons (thn (h2.run pins s1 σ H1 (fun y H2 => ∃ k, Same H1 H2 ∧ Rp X.K H2 (Ex b (frees Lb env) o) y k ∧ Pz X.K b (f3 env) fun z => ∃ d, gGet3 (dkM mm kvs) k z = some d ∧ ∀ v H', Same H H' → Rp X.K H' (Ex b (frees (La ++ (Lb ++ Lc)) env) o) v d → Q v H') I1 ⟨env, o, R.same sm, h.imp fun y _ h v H2 s2 r2 => ⟨y, s2, r2, h⟩⟩) fun iv s2 ⟨y, H2, I2, ry, k, s2', rk, h⟩ =>
      Calls.spliced_cons (thn (h3.run pins s2 σ H2 (fun z H3 => ∃ x d, Same H2 H3 ∧ Rp X.K H3 (Ex b (frees Lc env) o) z x ∧ gGet3 (dkM mm kvs) k x = some d ∧ ∀ v H', Same H H' → Rp X.K H' (Ex b (frees (La ++ (Lb ++ Lc)) env) o) v d → Q v H') I2 ⟨env, o, (R.same sm).same s2', h.imp fun z _ h v H3 s3 r3 => ?_⟩) fun jv s3 ⟨z, H3, I3, rz, x, d, s3', rx, eg, h⟩ => Calls.spliced_nil ?_))))
    · obtain ⟨d, eg, h⟩ := h
      exact ⟨z, d, s3, r3, eg, h⟩
    · obtain ⟨_, _, ek, ok, er⟩ := dk_some3 eg
      cases ek
      subst er
      have c2 := (c.same (s2'.trans s3')).less (O' := Ex b (frees (La ++ (Lb ++ Lc)) env) o) fun a z => (ex_frees_app z).1
      have rk2 := (rk.same s3').less (O' := Ex b (frees (La ++ (Lb ++ Lc)) env) o) fun a z => (ex_frees_app (ex_frees_app z).2).1
      have rx2 := rx.less (O' := Ex b (frees (La ++ (Lb ++ Lc)) env) o) fun a z => (ex_frees_app (ex_frees_app z).2).2
      exact q_get2 F.un1 I3 c2 ok rk2 ry rx2 rz fun v w s4 I4 rw4 rp4 => ⟨v, H3, I4, rw4, h v H3 ((sm.trans s2').trans s3') rp4⟩
/-! ### len(d), isinstance(d, c) -/
@[simp] def gLenA : PyData → Option PyData
  | .dict ((.none, .bool _) :: kvs) => some (.int kvs.length)
  | x => gLen x
def rLenM (K : PySem.W.Frag) : List V → Hp → VK → Prop := fun xs H Q => ∃ (O : Addr → Prop) (m : Bool) (kvs : Tb) (a : Addr), xs = [.ref a] ∧ Cn K H O a (dkM m kvs) ∧ Q (.int kvs.length) H
theorem call_lenM : CallR X (.builtin "len") (rLenM X.K) := by
  intro pins s σ H xs us Q I r h
  obtain ⟨O, m, kvs, a, ex, c, q⟩ := h
  subst ex
  cases r with
  | cons r1 r2 =>
    cases r2
    obtain rfl := (show _ = Value.ref a from r1)
    exact q_len I c fun t s2 I2 => ⟨.int _, H, I2, ⟨t, rfl⟩, q⟩
theorem cad_lenA {K : PySem.W.Frag} : CaD K (fun xs H Q => (∃ x n, xs = [x] ∧ LenV K x H n ∧ Q (.int n) H) ∨ rLenM K xs H Q) gLenA := by
  intro H O x dx d Q rx e q
  unfold gLenA at e
  split at e
  · cases e
    obtain ⟨a, ex, c⟩ := rx.cn
    exact .inr ⟨O, _, _, a, by rw [ex], c, q _ _ (.refl H) (.int _)⟩
  · exact .inl (cad_len H O x dx d Q rx e q)
end
end DL
/-! New dicts, dicts that change, arguments that are lent. -/
namespace DL
open PySem PySem.Spec PyProof.Rows L2

/-! ### a new dict, nobody else's -/
abbrev FD := En → Rz (Bool × Tb)
def tDC (K : PySem.W.Frag) (b : Bs) (f : FD) (L : List Nat) : TE := fun σ H Q => ∃ env o, RS K b H env σ o ∧
  Pz K b (f env) fun r => ∀ a H', Same H H' → H a = none → Cn K H' (fun c => Ex b (frees L env) o c ∨ c = a) a (dkM r.1 r.2) → Q (.ref a) H'
def DC (X : Cx) (b : Bs) (e : Expr) (f : FD) (L : List Nat) : Prop := PE X e (tDC X.K b f L)
section
variable {X : Cx} {b : Bs} {e e1 e2 e3 : Expr} {f f1 f2 f3 : FE} {fd : FD} {fs : FA} {L La Lb Lc : List Nat} {pos p p' apos cpos : Pos}
theorem de_ofC (h : DC X b e fd L) : DE X b e (fun env => (fd env).bind fun r => .ok (dkM r.1 r.2)) L := PE.wk h fun σ H Q ⟨env, o, R, q⟩ => by
  refine ⟨env, o, R, q.bind.imp fun r _ q a H' s hn c => q _ _ s (Cn.rp (c.less fun _ z => .inl z) fun z => ?_)⟩
  obtain ⟨u, hu⟩ := (R.frees L).dom z
  rw [hn] at hu; cases hu
/-- {} -/
@[simp] def cDn (_ : En) : Rz (Bool × Tb) := .ok (false, [])
theorem dn_raw (h : Heap) : (h.push { cls := .type "dict", data := .dict #[] }).DictRaw h.objs.size ([] : List DictEntry).toArray 0 := ⟨_, Heap.get?_push_size _ rfl, ⟨rfl, rfl, rfl⟩, rfl⟩
theorem dn_ok {P : Program} {w : World} {H : Hp} (h : Heap) : ObjOk P w H (h.push { cls := .type "dict", data := .dict #[] }) h.objs.size (dHO h.objs.size [] 0) := dHO_ok (dn_raw h)
theorem low_new {pins : List (Addr × Obj)} {σ : L2.St} {H : Hp} {s : Shared} (I : Inv X pins σ H s) : (s.heap.objs.size == sysModules) = false := beq_eq_false_iff_ne.mpr (Ne.symm (Nat.ne_of_lt I.big))
theorem dsOk_nil {a : Addr} (h : (a == sysModules) = false) : DsOk a [] := ⟨h, Nat.zero_le _, .nil⟩
theorem dc_new : DC X b (.Dict [] [] pos) cDn [] := ⟨fun pins s σ H Q I ⟨env, o, R, h⟩ => by
  have hn := I.hok.fresh (Nat.le_refl s.heap.objs.size)
  refine wpAny_Dict_empty ⟨.ref s.heap.objs.size, _, I.laid (a := s.heap.objs.size) (o := dHO s.heap.objs.size [] 0) (t' := s.toks) (fun _ _ q => Heap.get?_push_of_some _ q) (Nat.le_refl _) (dn_ok s.heap), rfl, ?_⟩
  exact h _ _ (same_upd hn) hn (.dct upd_same (dsOk_nil (low_new I)) .nil .nil)⟩
/-! names -/
@[simp] def noAl (i : Nat) : En → Bool
  | [] => true
  | s :: r => (match s with | .al j _ => j != i | _ => true) && noAl i r
theorem noAl_of {i : Nat} : ∀ {env : En}, noAl i env = true → ∀ (j : Nat) (p : List Nat), env[j]? ≠ some (Sl.al i p)
  | [], _, j, p => by simp
  | s :: r, h, j, p => by
    unfold noAl at h
    rw [Bool.and_eq_true] at h
    cases j with
    | zero =>
      intro z
      have z' : s = Sl.al i p := by simpa using z
      subst z'
      simp at h
    | succ j => rw [List.getElem?_cons_succ]; exact noAl_of h.2 j p
@[simp] def sSetC (i : Nat) (f : FD) (L : List Nat) (env : En) : Rz Rs := (f env).bind fun r => if noAl i (frees L env) = true then .ok (.nx ((frees L env).set i (Sl.ob (.di r.1 r.2)))) else .st
theorem setC_nx {K : PySem.W.Frag} {H H1 : Hp} {env : En} {σ : L2.St} {o : Nat → List Nat → Addr} {i : Nat} {D : Ends} {r : Bool × Tb} {a : Addr} (hpin : b.pin = none ∨ (i ≠ 1 ∧ i ≠ 0)) (R : RS K b H env σ o) (s1 : Same H H1) (hn : H a = none)
    (c : Cn K H1 (fun c => Ex b (frees L env) o c ∨ c = a) a (dkM r.1 r.2)) (h : Pz K b (if noAl i (frees L env) = true then Rz.ok (Rs.nx ((frees L env).set i (Sl.ob (.di r.1 r.2)))) else Rz.st) (Post K b H (Ex b env o) D)) : D.nx (σ.set i (some (.ref a))) H1 := by
  split at h
  · rename_i ha
    have R1 : RS K b H (frees L env) σ o := R.frees L
    refine h _ H1 _ (R1.setNew (i := i) (ad := fun _ => a) (s := Sl.ob (.di r.1 r.2)) (v := .ref a) s1 (fun p n => by cases n; exact hn) (fun p q n m _ => by cases n; cases m; rfl) (fun O hO => ?_) (noAl_of ha) hpin) (.same s1 fun x z => ?_)
    · refine .di (c.less fun x z => ?_)
      rcases hO x z with z | ⟨p, _, z⟩
      · exact .inl z
      · exact .inr z
    · rcases z with z | ⟨j, s', q, z1, n, z2⟩
      · exact .inl (.inl z)
      · dsimp only at z2
        rcases set_get z1 with ⟨rfl, rfl, _⟩ | ⟨hj, z1⟩
        · rw [if_pos rfl] at z2
          exact .inr (by rw [← z2]; exact hn)
        · rw [if_neg hj] at z2
          exact .inl (ex_frees (.inr ⟨j, s', q, z1, n, z2⟩))
  · exact h.elim
theorem ds_setC {i : Nat} {x : Str} (hN : X.N.Nodup) (he : DC X b e fd L) (hpin : b.pin = none ∨ (i ≠ 1 ∧ i ≠ 0) := by first | exact .inl rfl | exact .inr (by decide)) (hi : X.N[i]? = some x := by rfl) (hx : Loc X.env.scope x := by first | exact Or.inl rfl | exact Or.inr rfl)
    (hf : X.fn x = true ∨ X.env.scope.names.lookup x = some .local := by first | exact .inl rfl | exact .inr rfl | assumption) (hs : swapsWith e (some (.Name x p')) pos.line X.env = pure false := by rfl) :
    DS X b (.Assign [.Name x p'] e pos) (sSetC i fd L) :=
  PS.wk (ps_set hN hi hx he hs hf) fun D σ H ⟨env, o, R, h⟩ => ⟨env, o, R, h.bind.imp fun r _ h a H1 s1 hn c => setC_nx hpin R s1 hn c h⟩
/-- return of a new dict -/
@[simp] def sRetC (f : FD) (env : En) : Rz Rs := (f env).bind fun r => .ok (.rtn (dkM r.1 r.2))
theorem ds_retC (he : DC X b e fd L) : DS X b (.Return (some e) pos) (sRetC fd) := PS.wk (ps_ret he) fun D σ H ⟨env, o, R, h⟩ => ⟨env, o, R, h.bind.imp fun r _ h a H1 s1 hn c =>
  h a H1 (R.ext.trans s1) (R.ext.free hn) (c.less fun x z => z.elim (fun z => .inl (.inl z)) .inr)⟩
/-! calls of defs that make a dict -/
@[simp] def dkOf : PyData → Rz (Bool × Tb)
  | .dict ((.none, .bool m) :: kvs) => .ok (m, kvs)
  | _ => .st
theorem dkOf_ok {K : PySem.W.Frag} {d : PyData} {P : Bool × Tb → Prop} (h : Pz K b (dkOf d) P) : ∃ m kvs, d = dkM m kvs ∧ P (m, kvs) := by
  unfold dkOf at h
  split at h
  · exact ⟨_, _, rfl, h⟩
  · exact h.elim
@[simp] def dCall (g : FF) (fs : FA) (env : En) : Rz (Bool × Tb) := (fs env).bind fun ds => (g ds).bind fun r => match r with
  | .val _ => .st
  | .own _ => .st
  | .new d => dkOf d
theorem dc_call {k n : Nat} {f : Addr} {fd : FuncData} {ps : List Str} {g : FF} {x : Str} {es : List Expr} (F : Fx X b) (G : FnOk X.prog X.w X.K X.mg X.base (L2.CX X.prog X.w) k f fd ps (spD X.K b.cls n g)) (hr : Room k X.A) (hg : Gl X x) (hm : X.mg x = some (.ref f)) (hk : PySem.W.keepIn X.K (.ref f) = true) (hb : Binds X.K fd ps [])
    (ha : DA X b (e :: es) fs L) (hn : ∀ env ds, fs env = .ok ds → ds.length = n) (hdb : (x == ("__debug__" : Str)) = false := by decide) (he : starEach (e :: es) X.env = (false, eval e X.env) :: starEach es X.env := by rfl) (hpl : (backTo pos (starEach es X.env)).any (·.1) = false := by rfl) :
    DC X b (.Call (.Name x p) (e :: es) [] pos) (dCall g fs) L :=
  PE.wk (pe_callS G hr hg hm hk hb (fun σ => passAt (W := fun c d _ H => b.xw c d H) F.tk σ) ha hdb he hpl) fun σ H Q ⟨env, o, R, h⟩ => ⟨env, o, R, h.bind.imp fun ds q h vs H1 s1 r1 => by
    have R1 := (R.frees L).same s1
    refine ⟨Ex b (frees L env) o, ds, fun a z => R1.dom z, hn _ _ q, r1, pz_call R1.ext (fun _ _ _ z => z) h.bind fun r h => ?_⟩
    cases r with
    | val d => exact False.elim h
    | own es => exact False.elim h
    | new d =>
      obtain ⟨m, kvs, rfl, h⟩ := dkOf_ok h
      exact fun a H' s hn c => h a H' (s1.trans s) (s1.free hn) c⟩
theorem dc_fn {j n : Nat} {ps : List Str} {g : FF} {x : Str} {es : List Expr} (F : Fx X b) (G : Fn X.prog X.w X.K X.mg X.base b.cls x j ps g) (hr : Room j X.A) (hg : Gl X x) (ha : DA X b (e :: es) fs L) (hn : ∀ env ds, fs env = .ok ds → ds.length = n) (hl : n = ps.length := by rfl)
    (hdb : (x == ("__debug__" : Str)) = false := by decide) (he : starEach (e :: es) X.env = (false, eval e X.env) :: starEach es X.env := by rfl) (hpl : (backTo pos (starEach es X.env)).any (·.1) = false := by rfl) :
    DC X b (.Call (.Name x p) (e :: es) [] pos) (dCall g fs) L := by
  obtain ⟨f0, fd0, hm, G, hk, hb⟩ := G
  exact dc_call F G hr hg hm hk (.all hb) ha (fun env ds h => (hn env ds h).trans hl) hdb he hpl
/-! ### d[k] = v, also xs[i] = v -/
def rSetM (K : PySem.W.Frag) : V → V → V → Hp → (Hp → Prop) → Prop := fun x y v H Q => ∃ (O : Addr → Prop) (m : Bool) (kvs : Tb) (k d : PyData) (a : Addr), x = .ref a ∧ Cn K H O a (dkM m kvs) ∧ okR m kvs k = true ∧ Rp K H O y k ∧ Rp K H O v d ∧ kvs.length < 1000000 ∧
  ∀ u, (Keep O H (upd H a u) → Cn K (upd H a u) O a (dkM (!tupKey k) (dput kvs k d))) → Q (upd H a u)
theorem set_dct (hu : X.A.units + 65 < cLine) : PSet X (rSetM X.K) := by
  intro pins s σ H x y v ov iv u Q I rx ry rv h
  obtain ⟨O, m, kvs, k, d, a, ex, c, ok, rk, rd, few, q⟩ := h
  subst ex
  obtain rfl : ov = Value.ref a := rx
  exact q_setItem hu I c ok rk ry rd rv few fun s2 ⟨u2, I2, hc⟩ => ⟨_, I2, q u2 hc⟩
theorem pset_or {t t' : TSet} (h : PSet X t) (h' : PSet X t') : PSet X (fun o i v H Q => t o i v H Q ∨ t' o i v H Q) := fun pins s σ H o i v ov iv u Q I ro ri rv z => z.elim (h pins s σ H o i v ov iv u Q I ro ri rv) (h' pins s σ H o i v ov iv u Q I ro ri rv)
@[simp] def sSetM (i : Nat) (fi : FE) (f : FE) (L : List Nat) (env : En) : Rz Rs := (f env).bind fun d => match (frees L env)[i]? with
  | some (.own ds) => (fi (frees L env)).bind fun k => match k with
    | .int k => match ixN ds.length k with
      | some j => .ok (.nx ((frees L env).set i (Sl.own (ds.set j d))))
      | none => .st
    | _ => .st
  | some (.ob (.di m kvs)) => (fi (frees L env)).bind fun k => if okR m kvs k = true ∧ kvs.length < 1000000 then .ok (.nx ((frees L env).set i (Sl.ob (.di (!tupKey k) (dput kvs k d))))) else .st
  | _ => .st
theorem ds_setM {i : Nat} {x : Str} {pn p2 : Pos} {fi : FE} {ei : Expr} (F : Fx X b) (he : DE X b e f L) (hx : DE X b ei fi []) (hN : X.N[i]? = some x := by rfl) (hv : Vis X.env.scope x := by first | exact Or.inl rfl | exact Or.inr (Or.inl rfl) | exact Or.inr (Or.inr rfl)) (hd : (x == ("__debug__" : Str)) = false := by decide) (hcd : (x == ("__classdict__" : Str)) = false := by decide)
    (ha : ∀ v, assign (.Subscript (.Name x pn) ei p2) X.env v = (do
      let ov ← holding [v] (eval (.Name x pn) X.env)
      let iv ← holding [v, ov] (eval ei X.env)
      standAt p2
      holding [v, ov, iv] (setItem ov iv v)
      release [v, ov, iv] []) := by intro _; rfl)
    (hs : swapsWithSole [.Subscript (.Name x pn) ei p2] e pos.line X.env = pure false := by rfl) (hw : swappedStores [.Subscript (.Name x pn) ei p2] e X.env = pure none := by rfl)
    (h1 : (assignEach [.Subscript (.Name x pn) ei p2] X.env).map (·.2) = [assign (.Subscript (.Name x pn) ei p2) X.env] := by rfl) :
    DS X b (.Assign [.Subscript (.Name x pn) ei p2] e pos) (sSetM i fi f L) :=
  PS.wk (ps_asg he (pg_sub (pe_var hN hv hd hcd) hx (pset_or set_list (set_dct F.un1)) ha) hs hw h1) fun D σ H ⟨env, o, R, h⟩ => ⟨env, o, R, h.bind.imp fun d _ h v H1 s1 r1 => by
  have R1 := (R.frees L).same s1
  split at h
  · rename_i ds q
    obtain ⟨ws, k1, k2, k3, k4⟩ := R1.own i ds q
    refine ⟨.ref (o i []), k1, frees L env, o, R1, h.bind.imp fun k _ h w H2 s2 r2 => ?_⟩
    cases k with
    | int kk =>
      replace h : Pz X.K b (match ixN ds.length kk with | some j => Rz.ok (Rs.nx ((frees L env).set i (Sl.own (ds.set j d)))) | none => Rz.st) (Post X.K b H (Ex b env o) D) := h
      split at h
      · rename_i j qj
        have R2 := R1.same s2
        obtain ⟨xs, m1, m2, m3, m4⟩ := R2.own i ds q
        obtain ⟨R3, kp, le⟩ := R2.updOwn q (m3.set (r1.same s2) j)
        exact .inl ⟨o i [], xs, kk, j, rfl, r2.int_of, m2, by rw [m3.length]; exact qj, h _ _ o R3 ((Per.same (s1.trans s2) fun a z => .inl (ex_frees z)).trans (.keep kp le))⟩
      · exact False.elim h
    | _ => exact False.elim h
  · rename_i m kvs q
    obtain ⟨k1, _, _⟩ := R1.cn (d := dkM m kvs) q rfl
    refine ⟨.ref (o i []), k1, frees L env, o, R1, h.bind.imp fun k _ h w H2 s2 r2 => ?_⟩
    split at h
    · rename_i hc
      have R2 := R1.same s2
      obtain ⟨_, c2, _⟩ := R2.cn (d := dkM m kvs) q rfl
      refine .inr ⟨Ex b (frees L env) o, m, kvs, k, d, o i [], rfl, c2, hc.1, r2, r1.same s2, hc.2, fun u hu => ?_⟩
      obtain ⟨R3, kp, le⟩ := R2.updDi q hu
      exact h _ _ o R3 ((Per.same (s1.trans s2) fun a z => .inl (ex_frees z)).trans (.keep kp le))
    · exact False.elim h
  · exact False.elim h⟩
/-! ### what is lent to an expression whose value bears no dict -/
mutual
def noDk : PyData → Bool
  | .list ds => noDks ds
  | .tuple ds => noDks ds
  | .dict ((.list _, .tuple ds) :: _) => noDks ds
  | .dict _ => false
  | _ => true
def noDks : List PyData → Bool
  | [] => true
  | d :: ds => noDk d && noDks ds
end
@[simp] theorem noDk_int (i : Int) : noDk (.int i) = true := by simp [noDk]
@[simp] theorem noDk_str (i : Str) : noDk (.str i) = true := by simp [noDk]
@[simp] theorem noDk_bool (i : Bool) : noDk (.bool i) = true := by simp [noDk]
@[simp] theorem noDk_none : noDk .none = true := by simp [noDk]
@[simp] theorem noDk_list (ds : List PyData) : noDk (.list ds) = noDks ds := by simp [noDk]
@[simp] theorem noDk_tuple (ds : List PyData) : noDk (.tuple ds) = noDks ds := by simp [noDk]
@[simp] theorem noDks_nil : noDks [] = true := by simp [noDks]
@[simp] theorem noDks_cons (d : PyData) (ds : List PyData) : noDks (d :: ds) = (noDk d && noDks ds) := by simp [noDks]
theorem noDks_all : ∀ ds : List PyData, noDks ds = ds.all noDk
  | [] => by simp
  | d :: ds => by rw [noDks_cons, noDks_all ds, List.all_cons]
/-- the slots of L own dicts, or nothing -/
@[simp] def dctL : List Nat → En → Bool
  | [], _ => true
  | i :: L, env => (match env[i]? with | some (.own _) => false | _ => true) && dctL L env
theorem ex_thaw {K : PySem.W.Frag} {H : Hp} {env : En} {σ : L2.St} {o : Nat → List Nat → Addr} {L : List Nat} (R : RS K b H env σ o) (hL : dctL L env = true) {a : Addr} (z : Ex b env o a) :
    Ex b (frees L env) o a ∨ ∃ (O : Addr → Prop) (m : Bool) (kvs : Tb), Cn K H O a (dkM m kvs) := by
  induction L generalizing env with
  | nil => exact .inl z
  | cons i L ih =>
    unfold dctL at hL
    rw [Bool.and_eq_true] at hL
    show Ex b (frees L (freeze i env)) o a ∨ _
    have R' := R.freeze i
    have hL' : dctL L (freeze i env) = true := by
      have gen : ∀ M : List Nat, dctL M env = true → dctL M (freeze i env) = true := by
        intro M
        induction M with
        | nil => intro _; rfl
        | cons j M ihM =>
          intro h
          unfold dctL at h ⊢
          rw [Bool.and_eq_true] at h ⊢
          refine ⟨?_, ihM h.2⟩
          cases q : env[i]?.bind froz with
          | none => rw [freeze_none q]; exact h.1
          | some d =>
            obtain ⟨s, e, f⟩ := Option.bind_eq_some_iff.mp q
            rw [freeze_some e f]
            by_cases hj : j = i
            · subst hj
              rw [List.getElem?_set_self (List.getElem?_eq_some_iff.mp e).1]
            · rw [List.getElem?_set_ne (Ne.symm hj)]; exact h.1
      exact gen L hL.2
    have key : Ex b (freeze i env) o a ∨ ∃ (O : Addr → Prop) (m : Bool) (kvs : Tb), Cn K H O a (dkM m kvs) := by
      cases q : env[i]?.bind froz with
      | none => rw [freeze_none q]; exact .inl z
      | some d =>
        obtain ⟨s, e, f⟩ := Option.bind_eq_some_iff.mp q
        rcases z with z | ⟨j, s', p, e', n, q'⟩
        · exact .inl (.inl z)
        · by_cases hj : j = i
          · subst hj
            rw [e] at e'
            cases e'
            obtain rfl := froz_node f n
            obtain ⟨_, c, _⟩ := R.cn e f
            cases s with
            | own ds => rw [e] at hL; exact absurd hL.1 Bool.false_ne_true
            | ob t =>
              cases t with
              | di m kvs => cases f; rw [← q']; exact .inr ⟨_, _, _, c⟩
              | _ => cases f
            | _ => cases f
          · refine .inl (.inr ⟨j, s', p, ?_, n, q'⟩)
            rw [freeze_some e f, List.getElem?_set_ne (Ne.symm hj)]
            exact e'
    rcases key with z | z
    · exact ih R' hL' z
    · exact .inr z
section
variable {K : PySem.W.Frag} {H : Hp} {O O' : Addr → Prop}
theorem cn_dict {a : Addr} {m : Bool} {kvs : Tb} (c : Cn K H O a (dkM m kvs)) : (∀ xs, ¬ Rd H a (.lst xs)) ∧ ∀ C dx fs, H a ≠ some (.ins C dx fs) := by
  cases c with
  | dct r _ _ _ =>
    refine ⟨fun xs z => ?_, fun _ _ _ z => ?_⟩
    · rcases z with z | ⟨o, z⟩
      · rw [r] at z; cases z
      · rw [r] at z; cases z
    · rw [r] at z; cases z
  | dck r _ =>
    refine ⟨fun xs z => ?_, fun _ _ _ z => ?_⟩
    · rcases z with z | ⟨o, z⟩
      · rw [r] at z; cases z
      · rw [r] at z; cases z
    · rw [r] at z; cases z
mutual
theorem rp_thaw (hO : ∀ a, O' a → O a ∨ ∃ (O : Addr → Prop) (m : Bool) (kvs : Tb), Cn K H O a (dkM m kvs)) : ∀ {v : V} {d : PyData}, Rp K H O v d → noDk d = true → Rp K H O' v d
  | _, _, .non, _ => .non
  | _, _, .bl b, _ => .bl b
  | _, _, .int i, _ => .int i
  | _, _, .str x, _ => .str x
  | _, _, .lst r n s, h => by
    refine .lst r (fun z => ?_) (rpa_thaw hO s (by simpa using h))
    rcases hO _ z with z | ⟨_, _, _, c⟩
    · exact n z
    · exact (cn_dict c).1 _ r
  | _, _, .lstK r s, h => .lstK r (rpa_thaw hO s (by simpa using h))
  | _, _, .tup r s, h => .tup r (rpa_thaw hO s (by simpa using h))
  | _, _, .tupK r s, h => .tupK r (rpa_thaw hO s (by simpa using h))
  | _, _, .ins r n l s, h => by
    refine .ins r (fun z => ?_) l (rpa_thaw hO s (by simpa [noDk] using h))
    rcases hO _ z with z | ⟨_, _, _, c⟩
    · exact n z
    · exact (cn_dict c).2 _ _ _ r
  | _, _, .dct _ _ _ _ _, h => by simp [noDk] at h
  | _, _, .dck _ _ _, h => by simp [noDk] at h
theorem rpa_thaw (hO : ∀ a, O' a → O a ∨ ∃ (O : Addr → Prop) (m : Bool) (kvs : Tb), Cn K H O a (dkM m kvs)) : ∀ {vs : List V} {ds : List PyData}, RpA K H O vs ds → noDks ds = true → RpA K H O' vs ds
  | _, _, .nil, _ => .nil
  | _, _, .cons a c, h => by
    rw [noDks_cons, Bool.and_eq_true] at h
    exact .cons (rp_thaw hO a h.1) (rpa_thaw hO c h.2)
end
end
@[simp] def cTh (f : FE) (L : List Nat) (env : En) : Rz PyData := (f env).bind fun d => if (noDk d && dctL L env) = true then .ok d else .st
theorem de_thaw (h : DE X b e f L) : DE X b e (cTh f L) [] := PE.wk h fun σ H Q ⟨env, o, R, q⟩ => by
  refine ⟨env, o, R, q.bind.imp fun d _ q v H' s r => ?_⟩
  split at q
  · rename_i hc
    rw [Bool.and_eq_true] at hc
    exact q v H' s (rp_thaw (fun a z => ex_thaw (R.same s) hc.2 z) r hc.1)
  · exact q.elim
@[simp] def oTh (f : FO) (L : List Nat) (env : En) : Rz (List PyData) := (f env).bind fun d => if (noDks d && dctL L env) = true then .ok d else .st
theorem do_thaw {fo : FO} (h : DO X b e fo L) : DO X b e (oTh fo L) [] := PE.wk h fun σ H Q ⟨env, o, R, q⟩ => by
  refine ⟨env, o, R, q.bind.imp fun d _ q a vs H' s hn ha r => ?_⟩
  split at q
  · rename_i hc
    rw [Bool.and_eq_true] at hc
    refine q a vs H' s hn ha (rpa_thaw (fun c z => ?_) r hc.1)
    rcases z with z | z
    · rcases ex_thaw (R.same s) hc.2 z with z | z
      · exact .inl (.inl z)
      · exact .inr z
    · exact .inl (.inr z)
  · exact q.elim
/-! ### isinstance(x, c), x perhaps a dict -/
structure IsiA (K : PySem.W.Frag) (c : String) : Prop where
  base : Isi K c
  dct : PySem.W.kitOne K (.type "dict") (.type c) = some (decide ("dict" = c))
@[simp] def gIsiA (c : String) : PyData → Option Bool
  | .dict ((.none, .bool _) :: _) => some (decide ("dict" = c))
  | d => gIsi c d
def rIsiM (K : PySem.W.Frag) : List V → Hp → VK → Prop := fun xs H Q => ∃ (O : Addr → Prop) (m : Bool) (kvs : Tb) (a : Addr) (c : String), xs = [.ref a, .ty c] ∧ Cn K H O a (dkM m kvs) ∧ PySem.W.kitOne K (.type "dict") (.type c) = some (decide ("dict" = c)) ∧ Q (.bl (decide ("dict" = c))) H
theorem call_isiM : CallR X (.builtin "isinstance") (rIsiM X.K) := by
  intro pins s σ H xs us Q I r h
  obtain ⟨O, m, kvs, a, c, rfl, cn, k, q⟩ := h
  cases r with
  | cons r1 r2 =>
    cases r2 with
    | cons r2 r3 =>
      cases r3
      obtain rfl := (show _ = Value.ref a from r1)
      obtain rfl := (show _ = Value.type c from r2)
      obtain ⟨es, ep, ⟨ob, h1, h2, _⟩, _⟩ := (dict_view I cn).1.ty
      exact PySem.W.kia_one PySem.W.kitx_dict I.kIn ⟨ob, h1, h2.1⟩ k (fun z => nomatch z) fun tk => ⟨.bl _, H, I.tok tk, rfl, q⟩
@[simp] def cIsiA (c : String) (f : FE) (env : En) : Rz PyData := (f env).bind fun d => Rz.of ((gIsiA c d).map .bool)
theorem de_isiA {c : String} {y : Str} {p2 : Pos} (i : IsiA X.K c) (hg : Gl X "isinstance") (hm : X.mg "isinstance" = none) (hv : bootBuiltins "isinstance" = some (.builtin "isinstance")) (gy : Gl X y) (my : X.mg y = none) (hy : bootBuiltins y = some (.type c)) (h : DB X b e f L)
    (hn : y ≠ "__name__" := by decide) (hdb : (y == ("__debug__" : Str)) = false := by decide)
    (he : starEach [e, .Name y p2] X.env = (false, eval e X.env) :: starEach [.Name y p2] X.env := by rfl) (he2 : starEach [.Name y p2] X.env = (false, eval (.Name y p2) X.env) :: starEach [] X.env := by rfl) (hpl : (backTo pos (starEach [.Name y p2] X.env)).any (·.1) = false := by rfl) :
    DE X b (.Call (.Name "isinstance" p) [e, .Name y p2] [] pos) (cIsiA c f) [] :=
  PE.wk (pe_callB (call_isi.or call_isiM) hg hm hv (pa_cons h (pa_cons (pe_bltn gy my hy (v := .ty c) rfl hn hdb) pa_nil he2) he) (by decide) (by decide) he hpl) fun σ H Q ⟨env, o, R, h⟩ => by
    refine ⟨env, o, R, h.bind.imp fun d _ h v H1 s1 r1 => ?_⟩
    obtain ⟨k, e, h⟩ := h.of
    unfold gIsiA at e
    split at e
    · cases e
      obtain ⟨a, rfl, cn⟩ := r1.cn
      exact .inr ⟨_, _, _, a, c, rfl, cn, i.dct, h _ H1 s1 (.bl _)⟩
    · unfold gIsi at e
      cases q : tyD d with
      | none => rw [q] at e; cases e
      | some t =>
        rw [q] at e
        cases e
        exact .inl ⟨v, .ty c, .type t, .type c, _, rfl, .ty c, ty_of r1 q, i.base.ok t (tyD_mem q), h _ H1 s1 (.bl _)⟩
theorem isi_dict {K : PySem.W.Frag} : Isi K "dict" := ⟨fun t h => by
  simp only [List.mem_cons, List.not_mem_nil, or_false] at h
  rcases h with rfl | rfl | rfl | rfl | rfl | rfl <;> exact kit_ty (by decide +kernel)⟩
theorem isiA_int {K : PySem.W.Frag} : IsiA K "int" := ⟨isi_int, kit_ty (by decide +kernel)⟩
theorem isiA_bool {K : PySem.W.Frag} : IsiA K "bool" := ⟨isi_bool, kit_ty (by decide +kernel)⟩
theorem isiA_str {K : PySem.W.Frag} : IsiA K "str" := ⟨isi_str, kit_ty (by decide +kernel)⟩
theorem isiA_list {K : PySem.W.Frag} : IsiA K "list" := ⟨isi_list, kit_ty (by decide +kernel)⟩
theorem isiA_tuple {K : PySem.W.Frag} : IsiA K "tuple" := ⟨isi_tuple, kit_ty (by decide +kernel)⟩
theorem isiA_dict {K : PySem.W.Frag} : IsiA K "dict" := ⟨isi_dict, kit_ty (by decide +kernel)⟩
end
end DL
/-! Walks of dicts whose keys are tuples: by keys, values, items. -/
namespace DL
open PySem PySem.Spec PyProof.Rows L2

theorem EsL.length : ∀ {es : List DictEntry} {vs : List (V × V)} {kvs : Tb}, EsL es vs kvs → es.length = vs.length ∧ vs.length = kvs.length
  | _, _, _, .nil => ⟨rfl, rfl⟩
  | _, _, _, .cons _ _ t => ⟨by rw [List.length_cons, List.length_cons, t.length.1], by rw [List.length_cons, List.length_cons, t.length.2]⟩
theorem EsL.get : ∀ {es : List DictEntry} {vs : List (V × V)} {kvs : Tb}, EsL es vs kvs → ∀ {i : Nat} {p : V × V}, vs[i]? = some p → ∃ e b, es[i]? = some e ∧ e.key = .ref b ∧ p.1 = .ref b ∧ RelV p.2 e.val
  | _, _, _, .nil, i, p, h => by simp at h
  | _, _, _, .cons (b := b) _ r t, i, p, h => by
    cases i with
    | zero =>
      cases h
      exact ⟨_, b, rfl, rfl, rfl, r⟩
    | succ i => exact EsL.get t (i := i) h
/-- the walks, by the entries as they lie -/
def Iky (a : Addr) (es : List DictEntry) (ep : Nat) (vs : List (V × V)) : It :=
  ⟨fun i H => H a = some (dHO a es ep) ∧ i < vs.length, fun i H x H' => H' = H ∧ ∃ p, vs[i]? = some p ∧ x = p.1, fun i H => H a = some (dHO a es ep) ∧ vs.length ≤ i⟩
def Ivl (a : Addr) (es : List DictEntry) (ep : Nat) (vs : List (V × V)) : It :=
  ⟨fun i H => H a = some (dHO a es ep) ∧ i < vs.length, fun i H x H' => H' = H ∧ ∃ p, vs[i]? = some p ∧ x = p.2, fun i H => H a = some (dHO a es ep) ∧ vs.length ≤ i⟩
def Iim (a : Addr) (es : List DictEntry) (ep : Nat) (vs : List (V × V)) : It :=
  ⟨fun i H => H a = some (dHO a es ep) ∧ i < vs.length, fun i H x H' => ∃ T p, vs[i]? = some p ∧ x = .ref T ∧ H T = none ∧ H' = upd H T (.tup [p.1, p.2]), fun i H => H a = some (dHO a es ep) ∧ vs.length ≤ i⟩
section
variable {P : Program} {w : World} {K : PySem.W.Frag} {tg : Expr} {a : Addr} {es : List DictEntry} {ep : Nat} {vs : List (V × V)} {kvs : Tb}
theorem raw_at {X : Cx} {pins : List (Addr × Obj)} {σ : L2.St} {H : Hp} {s : Shared} (I : Inv X pins σ H s) (h : H a = some (dHO a es ep)) : s.heap.DictRaw a es.toArray ep :=
  (show ObjOk X.prog X.w H s.heap a (dHO a es ep) from I.hok a _ h).1
theorem trn_keys (l : EsL es vs kvs) (it : Addr) : Turn P w K tg (Iky a es ep vs) [it] it (fun i h => h.IsKeyIter it a i es.length ep) where
  mem := List.mem_singleton.mpr rfl
  obj := fun i h st c hc => by
    cases List.mem_singleton.mp hc
    obtain ⟨ob, e1, _, e3⟩ := st
    exact ⟨ob, e1, fun v z => by rw [e3] at z; cases z⟩
  keep := fun i h h' st k => st.at fun ob e => k it (List.mem_singleton.mpr rfl) ob e
  item := by
    intro X hP hw hK hc i pins s σ H E I hf st hg
    subst hP hw hK
    obtain ⟨hd, hi⟩ := hg
    obtain ⟨t0, t1, t2, t3, t4, t5⟩ := hf it (List.mem_singleton.mpr rfl)
    have rw0 := raw_at I hd
    obtain ⟨p, hp⟩ : ∃ p, vs[i]? = some p := ⟨_, List.getElem?_eq_getElem hi⟩
    obtain ⟨e, b, q1, q2, q3, q4⟩ := l.get hp
    have hlt : i < es.toArray.size := by rw [List.size_toArray, l.length.1]; exact hi
    have he : es.toArray[i] = e := by
      have := List.getElem?_eq_getElem (l := es) (i := i) (by rw [l.length.1]; exact hi)
      rw [this] at q1
      cases q1
      simp
    refine wpAny_pyNext_keys_item_raw (es := es.toArray) (by rw [List.size_toArray]; exact st) rw0 hlt fun h' st' sb => ?_
    rw [he, q2]
    have I1 : Inv X pins σ H { s with heap := h' } := I.turned (t' := s.toks) (fun c ob hb z => (sb.2 c hb).trans z) t0 t1 t3 t4 t5
    rw [List.size_toArray] at st'
    obtain ⟨oi, z1, z2, z3⟩ := id st'
    exact ⟨_, rfl, go_of (s := { s with heap := h' }) z1 z2 z3 (by decide) ⟨.ref b, H, I1, rfl, ⟨rfl, p, hp, q3.symm⟩, st', fun c hb => (hf c hb).1⟩⟩
  done := by
    intro X hP hw hK hc i pins s σ H E I hf st hg
    subst hP hw hK
    obtain ⟨hd, hi⟩ := hg
    obtain ⟨t0, t1, t2, t3, t4, t5⟩ := hf it (List.mem_singleton.mpr rfl)
    exact wpAny_pyNext_keys_end_raw (es := es.toArray) (I.ok.hd hc) (by rw [List.size_toArray]; exact st) (raw_at I hd) (by rw [List.size_toArray, l.length.1]; exact hi) fun h' eb => ⟨rfl, I.turned (t' := s.toks) (fun c ob hb z => eb c ob hb z) t0 t1 t3 t4 t5⟩
  self := fun A i s Q E st h => wpAny_pyIter_keyiter st h
theorem trn_vals (l : EsL es vs kvs) (it : Addr) : Turn P w K tg (Ivl a es ep vs) [it] it (fun i h => h.IsValIter it a i es.length ep) where
  mem := List.mem_singleton.mpr rfl
  obj := fun i h st c hc => by
    cases List.mem_singleton.mp hc
    obtain ⟨ob, e1, _, e3⟩ := st
    exact ⟨ob, e1, fun v z => by rw [e3] at z; cases z⟩
  keep := fun i h h' st k => st.at fun ob e => k it (List.mem_singleton.mpr rfl) ob e
  item := by
    intro X hP hw hK hc i pins s σ H E I hf st hg
    subst hP hw hK
    obtain ⟨hd, hi⟩ := hg
    obtain ⟨t0, t1, t2, t3, t4, t5⟩ := hf it (List.mem_singleton.mpr rfl)
    have rw0 := raw_at I hd
    obtain ⟨p, hp⟩ : ∃ p, vs[i]? = some p := ⟨_, List.getElem?_eq_getElem hi⟩
    obtain ⟨e, b, q1, q2, q3, q4⟩ := l.get hp
    have hlt : i < es.toArray.size := by rw [List.size_toArray, l.length.1]; exact hi
    have he : es.toArray[i] = e := by
      have := List.getElem?_eq_getElem (l := es) (i := i) (by rw [l.length.1]; exact hi)
      rw [this] at q1
      cases q1
      simp
    refine wpAny_pyNext_values_item_raw (es := es.toArray) (by rw [List.size_toArray]; exact st) rw0 hlt fun h' st' sb => ?_
    rw [he]
    have I1 : Inv X pins σ H { s with heap := h' } := I.turned (t' := s.toks) (fun c ob hb z => (sb.2 c hb).trans z) t0 t1 t3 t4 t5
    rw [List.size_toArray] at st'
    obtain ⟨oi, z1, z2, z3⟩ := id st'
    exact ⟨_, rfl, go_of (s := { s with heap := h' }) z1 z2 z3 (by decide) ⟨p.2, H, I1, q4, ⟨rfl, p, hp, rfl⟩, st', fun c hb => (hf c hb).1⟩⟩
  done := by
    intro X hP hw hK hc i pins s σ H E I hf st hg
    subst hP hw hK
    obtain ⟨hd, hi⟩ := hg
    obtain ⟨t0, t1, t2, t3, t4, t5⟩ := hf it (List.mem_singleton.mpr rfl)
    exact wpAny_pyNext_values_end_raw (es := es.toArray) (I.ok.hd hc) (by rw [List.size_toArray]; exact st) (raw_at I hd) (by rw [List.size_toArray, l.length.1]; exact hi) fun h' eb => ⟨rfl, I.turned (t' := s.toks) (fun c ob hb z => eb c ob hb z) t0 t1 t3 t4 t5⟩
  self := fun A i s Q E st h => wpAny_pyIter_valiter st h
theorem trn_items {elts : List Expr} {kk : Nat} {tpos : Pos} (l : EsL es vs kvs) (it : Addr) : Turn P w K (.Tuple elts kk tpos) (Iim a es ep vs) [it] it (fun i h => ∃ ok ov, IsItemIter h it a i es.length ep ok ov) where
  mem := List.mem_singleton.mpr rfl
  obj := fun i h st c hc => by
    cases List.mem_singleton.mp hc
    obtain ⟨ok, ov, e⟩ := st
    exact ⟨_, e, fun v z => nomatch z⟩
  keep := fun i h h' st k => let ⟨ok, ov, e⟩ := st; ⟨ok, ov, k it (List.mem_singleton.mpr rfl) _ e⟩
  item := by
    intro X hP hw hK hc i pins s σ H E I hf st hg
    subst hP hw hK
    obtain ⟨hd, hi⟩ := hg
    have rw0 := raw_at I hd
    obtain ⟨p, hp⟩ : ∃ p, vs[i]? = some p := ⟨_, List.getElem?_eq_getElem hi⟩
    obtain ⟨e, b, q1, q2, q3, q4⟩ := l.get hp
    have hlt : i < es.toArray.size := by rw [List.size_toArray, l.length.1]; exact hi
    have he : es.toArray[i] = e := by
      have := List.getElem?_eq_getElem (l := es) (i := i) (by rw [l.length.1]; exact hi)
      rw [this] at q1
      cases q1
      simp
    obtain ⟨ok, ov, st⟩ := st
    have hz : it < s.heap.objs.size := Heap.lt_size st
    refine wpAny_pyNext_items_item_raw (es := es.toArray) (by rw [List.size_toArray]; exact st) rw0 hlt fun h' ho hT hs hk => ?_
    rw [he, q2] at hT ho
    refine ⟨_, rfl, wpAny_letOwnedTupleGo_items (s := { s with heap := h' }) ho fun h'' st' sb => ?_⟩
    have hT2 : h''.get? s.heap.objs.size = some { cls := .type "tuple", data := .seq #[.ref b, e.val] } := (sb.2 _ (Nat.ne_of_gt hz)).trans hT
    have nw : ObjOk X.prog X.w (upd H s.heap.objs.size (.tup [p.1, p.2])) h'' s.heap.objs.size (.tup [p.1, p.2]) :=
      ⟨by show 2 ≤ sizeLine; decide, [.ref b, e.val], .cons (by rw [q3]; rfl) (.cons q4 .nil), ⟨_, hT2, rfl, _, rfl⟩⟩
    have I1 : Inv X pins σ (upd H s.heap.objs.size (.tup [p.1, p.2])) { s with heap := h'' } :=
      I.turnedNew (t' := s.toks) (ch := [it]) (fun c ob hb z => (sb.2 c (by simpa using hb)).trans (hk c ob (by simpa using hb) z)) hf (Nat.le_refl _) nw
    rw [List.size_toArray] at st'
    refine ⟨.ref s.heap.objs.size, _, I1, rfl, ⟨_, p, hp, rfl, I.hok.fresh (Nat.le_refl _), rfl⟩, ⟨_, _, st'⟩, fun c hc => ?_⟩
    cases List.mem_singleton.mp hc
    rw [upd_ne (Nat.ne_of_lt hz)]
    exact (hf it (List.mem_singleton.mpr rfl)).1
  done := by
    intro X hP hw hK hc i pins s σ H E I hf st hg
    subst hP hw hK
    obtain ⟨hd, hi⟩ := hg
    obtain ⟨t0, t1, t2, t3, t4, t5⟩ := hf it (List.mem_singleton.mpr rfl)
    obtain ⟨ok, ov, st⟩ := st
    exact wpAny_pyNext_items_end_raw (es := es.toArray) (I.ok.hd hc) (by rw [List.size_toArray]; exact st) (raw_at I hd) (by rw [List.size_toArray, l.length.1]; exact hi) fun h' eb => ⟨rfl, I.turned (t' := s.toks) (fun c ob hb z => eb c ob hb z) t0 t1 t3 t4 t5⟩
  self := fun A i s Q E st h => let ⟨_, _, e⟩ := st; PySem.W.kcp_self e h
end
theorem RpE.get {K : PySem.W.Frag} {H : Hp} {O : Addr → Prop} : ∀ {vs : List (V × V)} {kvs : Tb}, RpE K H O vs kvs → ∀ {i : Nat} {p : V × V}, vs[i]? = some p → ∃ k d, kvs[i]? = some (k, d) ∧ Rp K H O p.1 k ∧ Rp K H O p.2 d
  | _, _, .nil, i, p, h => by simp at h
  | _, _, .cons r1 r2 t, i, p, h => by
    cases i with
    | zero => cases h; exact ⟨_, _, rfl, r1, r2⟩
    | succ i => exact RpE.get t (i := i) h
theorem Per.allE {K : PySem.W.Frag} {H H1 : Hp} {O O1 : Addr → Prop} (p : Per K H O H1 O1) : ∀ {vs : List (V × V)} {kvs : Tb}, RpE K H O vs kvs → RpE K H1 O1 vs kvs
  | _, _, .nil => .nil
  | _, _, .cons r1 r2 t => .cons (p _ _ r1) (p _ _ r2) (Per.allE p t)
/-- what a walk of a dict leans on -/
def Gd (K : PySem.W.Frag) (a : Addr) (es : List DictEntry) (ep : Nat) (vs : List (V × V)) (kvs : Tb) : Hp → (Addr → Prop) → Prop := fun H O => H a = some (dHO a es ep) ∧ ¬ O a ∧ RpE K H O vs kvs
theorem Gd.per {K : PySem.W.Frag} {a : Addr} {es : List DictEntry} {ep : Nat} {vs : List (V × V)} {kvs : Tb} {H H' : Hp} {O O' : Addr → Prop} (p : Per K H O H' O') (g : Gd K a es ep vs kvs H O) : Gd K a es ep vs kvs H' O' :=
  let ⟨g1, g2, g3⟩ := g
  let ⟨k1, k2⟩ := p.dc a _ g1 g2
  ⟨k1, k2, Per.allE p g3⟩
section
variable {K : PySem.W.Frag} {a : Addr} {es : List DictEntry} {ep : Nat} {vs : List (V × V)} {kvs : Tb}
theorem wk_keys (l : EsL es vs kvs) : Wk K (Iky a es ep vs) (kvs.map (·.1)) (Gd K a es ep vs kvs) := by
  have hl := l.length.2
  refine ⟨⟨fun i H hi ⟨O, g⟩ => ⟨g.1, by rw [List.length_map] at hi; omega⟩, fun H ⟨O, g⟩ => ⟨g.1, by rw [List.length_map]; omega⟩, fun i H x H' hi ⟨O, g⟩ y => ?_⟩, fun H O H' O' p g => g.per p⟩
  obtain ⟨rfl, p, hp, rfl⟩ := y
  refine ⟨.refl _, fun O g => ?_⟩
  obtain ⟨k, d, e, r1, _⟩ := g.2.2.get hp
  exact ⟨k, by rw [List.getElem?_map, e]; rfl, r1⟩
theorem wk_vals (l : EsL es vs kvs) : Wk K (Ivl a es ep vs) (kvs.map (·.2)) (Gd K a es ep vs kvs) := by
  have hl := l.length.2
  refine ⟨⟨fun i H hi ⟨O, g⟩ => ⟨g.1, by rw [List.length_map] at hi; omega⟩, fun H ⟨O, g⟩ => ⟨g.1, by rw [List.length_map]; omega⟩, fun i H x H' hi ⟨O, g⟩ y => ?_⟩, fun H O H' O' p g => g.per p⟩
  obtain ⟨rfl, p, hp, rfl⟩ := y
  refine ⟨.refl _, fun O g => ?_⟩
  obtain ⟨k, d, e, _, r2⟩ := g.2.2.get hp
  exact ⟨d, by rw [List.getElem?_map, e]; rfl, r2⟩
@[simp] def itemsD (kvs : Tb) : List PyData := kvs.map fun p => .tuple [p.1, p.2]
theorem wk_items (l : EsL es vs kvs) : Wk K (Iim a es ep vs) (itemsD kvs) (Gd K a es ep vs kvs) := by
  have hl := l.length.2
  refine ⟨⟨fun i H hi ⟨O, g⟩ => ⟨g.1, by rw [itemsD, List.length_map] at hi; omega⟩, fun H ⟨O, g⟩ => ⟨g.1, by rw [itemsD, List.length_map]; omega⟩, fun i H x H' hi ⟨O, g⟩ y => ?_⟩, fun H O H' O' p g => g.per p⟩
  obtain ⟨T, p, hp, rfl, hT, rfl⟩ := y
  refine ⟨same_upd hT, fun O g => ?_⟩
  obtain ⟨k, d, e, r1, r2⟩ := g.2.2.get hp
  exact ⟨.tuple [k, d], by rw [itemsD, List.getElem?_map, e]; rfl, .tup (.inl upd_same) (.cons (r1.same (same_upd hT)) (.cons (r2.same (same_upd hT)) .nil))⟩
end
section
variable {X : Cx} {b : Bs} {e : Expr} {f : FE} {L : List Nat} {pos apos cpos : Pos} {tg : Expr}
theorem Rp.dctOf {K : PySem.W.Frag} {H : Hp} {O : Addr → Prop} {v : V} {kvs : Tb} (r : Rp K H O v (dkM false kvs)) : ∃ a es ep vs, v = .ref a ∧ DsOk a kvs ∧ EsL es vs kvs ∧ Gd K a es ep vs kvs H O := by
  cases r with
  | dct r n w l s => exact ⟨_, _, _, _, rfl, w, l, r, n, s⟩
/-- for x in e: a list, a tuple, a dict -/
@[simp] def iAny (f : FE) (env : En) : Rz (List PyData) := (f env).bind fun d => match d with
  | .list ds => .ok ds
  | .tuple ds => .ok ds
  | .dict ((.none, .bool false) :: kvs) => .ok (kvs.map (·.1))
  | _ => .st
theorem di_any (h : DE X b e f L) : DI X b tg e (iAny f) L := by
  refine ⟨fun pins s σ H R I q => ?_⟩
  obtain ⟨env, o, RS0, q⟩ := q
  by_cases hs : (∃ kvs, f env = .ok (dkM false kvs))
  · obtain ⟨kvs, e1⟩ := hs
    have q1 : ∀ J G H', Same H H' → Wk X.K J (kvs.map (·.1)) G → G H' (Ex b (frees L env) o) → R J H' := by
      unfold iAny at q
      rw [e1] at q
      exact q
    refine thn (h.run pins s σ H (fun x H1 => ∃ a es ep vs, x = .ref a ∧ DsOk a kvs ∧ EsL es vs kvs ∧ H1 a = some (dHO a es ep) ∧ R (Iky a es ep vs) H1) I ⟨env, o, RS0, by
      rw [e1]
      intro v H1 s1 r1
      obtain ⟨a, es, ep, vs, rfl, w, l, g⟩ := r1.dctOf
      exact ⟨a, es, ep, vs, rfl, w, l, g.1, q1 _ _ H1 s1 (wk_keys l) g⟩⟩) fun u s1 ⟨x, H1, I1, rx, a, es, ep, vs, ex, w, l, ha, q2⟩ => ?_
    subst ex
    obtain rfl : u = Value.ref a := rx
    refine wpAny_pyIter_dict_raw w.low (raw_at I1 ha) (pi_one (tk := s1.toks) I1 _ (trn_keys l _) ⟨_, Heap.get?_push_size _ rfl, rfl, ?_⟩ q2)
    rw [List.size_toArray] <;> rfl
  · refine (di_sq (tg := tg) h).run pins s σ H R I ⟨env, o, RS0, ?_⟩
    unfold iAny at q
    unfold iSq
    cases e1 : f env with
    | st => rw [e1] at q; exact q
    | ex x => rw [e1] at q; exact q
    | ok d =>
      rw [e1, Rz.bind_ok] at q
      rw [Rz.bind_ok]
      split at q
      · exact q
      · exact q
      · exact absurd ⟨_, e1⟩ hs
      · exact q.elim
@[simp] def dkF : PyData → Rz Tb
  | .dict ((.none, .bool false) :: kvs) => .ok kvs
  | _ => .st
theorem dkF_ok {K : PySem.W.Frag} {d : PyData} {P : Tb → Prop} (h : Pz K b (dkF d) P) : ∃ kvs, d = dkM false kvs ∧ P kvs := by
  unfold dkF at h
  split at h
  · exact ⟨_, rfl, h⟩
  · exact h.elim
/-- e.items() -/
@[simp] def iItm (f : FE) (env : En) : Rz (List PyData) := (f env).bind fun d => (dkF d).bind fun kvs => .ok (itemsD kvs)
@[simp] def iVal (f : FE) (env : En) : Rz (List PyData) := (f env).bind fun d => (dkF d).bind fun kvs => .ok (kvs.map (·.2))
theorem di_items {elts : List Expr} {kk : Nat} {tpos : Pos} (h : DE X b e f L) (hb : attributeBase e "items" X.env (eval e X.env) = eval e X.env := by rfl) (hl : (apos.endLine == cpos.line) = true := by rfl) : DI X b (.Tuple elts kk tpos) (.Call (.Attribute e "items" apos) [] [] cpos) (iItm f) L := by
  refine ⟨fun pins s σ H R I q => ?_⟩
  obtain ⟨env, o, RS0, q⟩ := q
  refine wpAny_Call_method (T := "dict") (id := "dict.items") hb rfl hl PySem.F.plainAttrs_dict PySem.F.slot_dict_items PySem.F.type_dict_items (thn (h.run pins s σ H (fun x H1 => ∃ a es ep vs kvs, x = .ref a ∧ DsOk a kvs ∧ EsL es vs kvs ∧ H1 a = some (dHO a es ep) ∧ R (Iim a es ep vs) H1) I ⟨env, o, RS0, q.bind.imp fun d _ q v H1 s1 r1 => by
      obtain ⟨kvs, rfl, q⟩ := dkF_ok q.bind
      obtain ⟨a, es, ep, vs, rfl, w, l, g⟩ := r1.dctOf
      exact ⟨a, es, ep, vs, kvs, rfl, w, l, g.1, q _ _ H1 s1 (wk_items l) g⟩⟩) fun u s1 ⟨x, H1, I1, rx, a, es, ep, vs, kvs, ex, w, l, ha, q2⟩ => ?_)
  subst ex
  obtain rfl : u = Value.ref a := rx
  have rw0 := raw_at I1 ha
  obtain ⟨ob, h1, h2, h3⟩ := id rw0
  refine ⟨rw0.typeIs, fun c z => by cases z; exact ⟨ob, h1, h2.2.1⟩, ?_⟩
  have I2 : Inv X pins σ H1 { s1 with heap := s1.heap.push { cls := .type "dict_items", data := .fields #[.ref a] } } := I1.kept (t' := s1.toks) fun c ob z => Heap.get?_push_of_some _ z
  have fin : wpAny (model X.prog X.w) X.A (pyIter (.ref s1.heap.objs.size)) (PIE X pins σ (.Tuple elts kk tpos) R) X.xe { s1 with heap := s1.heap.push { cls := .type "dict_items", data := .fields #[.ref a] } } := by
    refine wpAny_pyIter_items_raw (d := a) (es := es.toArray) ⟨_, Heap.get?_push_size _ rfl, rfl, rfl⟩ (rw0.push _) (pi_one (tk := s1.toks) I2 _ (trn_items l _) ⟨.none, .none, ?_⟩ q2)
    rw [List.size_toArray]
    exact Heap.get?_push_size _ rfl
  show wpAny _ _ (callWith cpos (.builtin "dict.items") [.ref a] [] []) _ X.xe s1
  exact method_meetsIn PySem.F.slot_dict_items PySem.F.entry_dict_items rfl (PySem.evalArgs_none ⟨rfl, rw0.typeIs, PySem.F.args_dict_items_1 _, _, meets_dict_items_raw a w.low, ⟨_, _, rw0⟩, fin⟩)
theorem di_vals (h : DE X b e f L) (hb : attributeBase e "values" X.env (eval e X.env) = eval e X.env := by rfl) (hl : (apos.endLine == cpos.line) = true := by rfl) : DI X b tg (.Call (.Attribute e "values" apos) [] [] cpos) (iVal f) L := by
  refine ⟨fun pins s σ H R I q => ?_⟩
  obtain ⟨env, o, RS0, q⟩ := q
  refine wpAny_Call_method (T := "dict") (id := "dict.values") hb rfl hl PySem.F.plainAttrs_dict PySem.F.slot_dict_values PySem.F.type_dict_values (thn (h.run pins s σ H (fun x H1 => ∃ a es ep vs kvs, x = .ref a ∧ DsOk a kvs ∧ EsL es vs kvs ∧ H1 a = some (dHO a es ep) ∧ R (Ivl a es ep vs) H1) I ⟨env, o, RS0, q.bind.imp fun d _ q v H1 s1 r1 => by
      obtain ⟨kvs, rfl, q⟩ := dkF_ok q.bind
      obtain ⟨a, es, ep, vs, rfl, w, l, g⟩ := r1.dctOf
      exact ⟨a, es, ep, vs, kvs, rfl, w, l, g.1, q _ _ H1 s1 (wk_vals l) g⟩⟩) fun u s1 ⟨x, H1, I1, rx, a, es, ep, vs, kvs, ex, w, l, ha, q2⟩ => ?_)
  subst ex
  obtain rfl : u = Value.ref a := rx
  have rw0 := raw_at I1 ha
  obtain ⟨ob, h1, h2, h3⟩ := id rw0
  refine ⟨rw0.typeIs, fun c z => by cases z; exact ⟨ob, h1, h2.2.1⟩, ?_⟩
  have I2 : Inv X pins σ H1 { s1 with heap := s1.heap.push { cls := .type "dict_values", data := .fields #[.ref a] } } := I1.kept (t' := s1.toks) fun c ob z => Heap.get?_push_of_some _ z
  have fin : wpAny (model X.prog X.w) X.A (pyIter (.ref s1.heap.objs.size)) (PIE X pins σ tg R) X.xe { s1 with heap := s1.heap.push { cls := .type "dict_values", data := .fields #[.ref a] } } := by
    refine wpAny_pyIter_values_raw (d := a) (es := es.toArray) ⟨_, Heap.get?_push_size _ rfl, rfl, rfl⟩ (rw0.push _) (pi_one (tk := s1.toks) I2 _ (trn_vals l _) ⟨_, Heap.get?_push_size _ rfl, rfl, ?_⟩ q2)
    rw [List.size_toArray] <;> rfl
  show wpAny _ _ (callWith cpos (.builtin "dict.values") [.ref a] [] []) _ X.xe s1
  exact method_meetsIn PySem.F.slot_dict_values PySem.F.entry_dict_values rfl (PySem.evalArgs_none ⟨rfl, rw0.typeIs, PySem.F.args_dict_values_1 _, _, meets_dict_values_raw a w.low, ⟨_, _, rw0⟩, fin⟩)
end
end DL
/-! Dict comprehensions, keys of both kinds. -/
namespace DL
open PySem PySem.Spec PyProof.Rows L2

/-! ### the hand layer's judgement -/
section
variable {X : Cx}
/-- D is the new dict; Nx what stands behind a turn -/
def tDm (wi : TI) (g : TG) (tt : TT) (tk tv : TE) (vs : List Nat) (K : PySem.W.Frag) : TE := fun σ H Q => wi σ H fun J H1 => ∀ D, (D == sysModules) = false → H1 D = none → ∃ W : Nat → Nat → Hp → Prop, (∃ m, W 0 m (upd H1 D (dHO D [] 0))) ∧ ∀ i m H, W i m H →
  (J.stop i H ∧ Q (.ref D) H) ∨ (J.go i H ∧ ∃ Nx : Hp → Prop, (∀ H', Nx H' → ∃ m', m' < m ∧ W (i + 1) m' H') ∧ ∀ x H', J.yld i H x H' → g x (wipe σ vs) H' fun σ2 H2 => wipe σ2 vs = wipe σ vs ∧ tt σ2 H2 fun c H3 =>
    if c = true then tk σ2 H3 fun y H4 => tv σ2 H4 fun z H5 => rSetM K (.ref D) y z H5 Nx else Nx H3)
theorem dm_core {pins : List (Addr × Obj)} {s : Shared} {σ : L2.St} {H : Hp} {Q : VK} {kx vx tg iter : Expr} {ifs : List Expr} {scope : Scope} {own : List (Str × Nat)} {pos pos' : Pos} {wi : TI} {g : TG} {tt : TT} {tk tv : TE} {use : Option (Value → Sem Unit)} {Qf : Value → Shared → Prop}
    (hu : X.A.units + 65 < cLine) (hc : X.calm = true) (hN : X.N.Nodup) (I : Inv X pins σ H s) (hi : PI X tg iter wi) (ok : BlkOk X.N X.env.scope scope own)
    (hg : ∀ (s : Shared) (H : Hp) (C : Addr) (cl : List (Str × Addr)) (fp : List Addr), PG (X.blk s H scope (compEnvC scope cl C X.env) fp) tg g) (ht : ∀ (s : Shared) (H : Hp) (C : Addr) (cl : List (Str × Addr)) (fp : List Addr), PTs (X.blk s H scope (compEnvC scope cl C X.env) fp) ifs tt)
    (hk : ∀ (s : Shared) (H : Hp) (C : Addr) (cl : List (Str × Addr)) (fp : List Addr), PE (X.blk s H scope (compEnvC scope cl C X.env) fp) kx tk)
    (he : ∀ (s : Shared) (H : Hp) (C : Addr) (cl : List (Str × Addr)) (fp : List Addr), PE (X.blk s H scope (compEnvC scope cl C X.env) fp) vx tv) (hs : ∀ x, foldedSetIterable iter X.env x = pure x)
    (h : tDm wi g tt tk tv (own.map (·.2)) X.K σ H Q)
    (fin : ∀ D C s' m H', Inv X pins σ H' s' → Q (.ref D) H' → s'.heap.Ns C m → FpOk X pins H' C → compPost (model X.prog X.w) X.A X.xe use Qf (.ref D) C (.ok .next) s') :
    wpAny (model X.prog X.w) X.A (comprehension (.DictComp kx vx [⟨tg, iter, ifs, 0⟩] scope pos) scope X.env pos' newDict false (eval iter X.env) use) Qf X.xe s := by
  have free : ∀ y ∈ scope.names, y.2 = .free → ∃ c, X.env.cells.lookup y.1 = some c := fun y hy e => (ok.free y hy e).elim (fun z => I.ok.has _ (.inl z)) fun z => I.ok.has _ (.inr z)
  refine wpAny_comprehension_free (use := use) rfl hs (closure_ok free) ok.kind (fun y hy e => by rw [ok.uniq y hy, e]) (thn (hi.run pins s σ H _ I h) fun xv t1 hx => thn hx fun itv t2 h2 => ?_)
  obtain ⟨it, fp, tn, J, H2, e, I2, T, st2, f2, q⟩ := h2
  subst e
  refine wpAny_newObj_type (newEnv_comp ?_)
  generalize hD : t2.heap.objs.size = D
  have hDn : H2 D = none := I2.hok.fresh (Nat.le_of_eq hD)
  obtain ⟨W, ⟨m0, w0⟩, turn⟩ := q D (by rw [← hD]; exact low_new I2) hDn
  generalize hs3 : ({ t2 with heap := t2.heap.push { cls := .type "dict", data := .dict #[] } } : Shared) = t3
  have I3 : Inv X pins σ (upd H2 D (dHO D [] 0)) t3 := by
    rw [← hs3]
    refine I2.laid (t' := t2.toks) (fun c ob z => Heap.get?_push_of_some _ z) (Nat.le_of_eq hD) ?_
    rw [← hD]
    exact dn_ok t2.heap
  have h3 : t3.heap = t2.heap.push { cls := .type "dict", data := .dict #[] } := by rw [← hs3]
  have f3 : ∀ c ∈ fp, FpOk X pins (upd H2 D (dHO D [] 0)) c ∧ c < t3.heap.objs.size := fun c hc => by
    obtain ⟨ob, e, _⟩ := T.obj _ _ st2 c hc
    have hlt : c < t2.heap.objs.size := Heap.lt_size e
    refine ⟨⟨?_, (f2 c hc).2⟩, by rw [h3, Heap.size_push]; exact Nat.lt_succ_of_lt hlt⟩
    rw [upd_ne (by rw [← hD]; exact Nat.ne_of_lt hlt)]
    exact (f2 c hc).1
  have st3 : tn 0 t3.heap := T.keep _ _ _ st2 fun c _ ob e => by rw [h3]; exact Heap.get?_push_of_some _ e
  have I4 := block_start I3 ok hN f3
  have pg := hg t3 (upd H2 D (dHO D [] 0)) t3.heap.objs.size (cellsFrom (t3.heap.objs.size + 1) scope.names (cloFrom X.env.cells scope.names [])) fp
  have pt := ht t3 (upd H2 D (dHO D [] 0)) t3.heap.objs.size (cellsFrom (t3.heap.objs.size + 1) scope.names (cloFrom X.env.cells scope.names [])) fp
  have pk := hk t3 (upd H2 D (dHO D [] 0)) t3.heap.objs.size (cellsFrom (t3.heap.objs.size + 1) scope.names (cloFrom X.env.cells scope.names [])) fp
  have pe := he t3 (upd H2 D (dHO D [] 0)) t3.heap.objs.size (cellsFrom (t3.heap.objs.size + 1) scope.names (cloFrom X.env.cells scope.names [])) fp
  show codeAny _ _ (.compStart (.DictComp kx vx [⟨tg, iter, ifs, 0⟩] scope pos) 0 (.ref it) (.ref D) (compEnvC scope (cellsFrom (t3.heap.objs.size + 1) scope.names (cloFrom X.env.cells scope.names [])) t3.heap.objs.size X.env)) (compPost (model X.prog X.w) X.A X.xe use Qf (.ref D) t3.heap.objs.size) { t3 with heap := pushCells (t3.heap.push { cls := .type "dict", data := .dict #[] }) scope.names }
  have nfp : ∀ c ∈ fp, (upd H2 D (dHO D [] 0)) c = none := fun c hc => (f3 c hc).1.1
  generalize hce : compEnvC scope (cellsFrom (t3.heap.objs.size + 1) scope.names (cloFrom X.env.cells scope.names [])) t3.heap.objs.size X.env = ce at I4 pg pt pk pe ⊢
  have cL : ce.locals = t3.heap.objs.size := by subst hce; rfl
  generalize hH3 : upd H2 D (dHO D [] 0) = H3 at I3 I4 pg pt pk pe w0 nfp f3
  generalize hs4 : ({ t3 with heap := pushCells (t3.heap.push { cls := .type "dict", data := .dict #[] }) scope.names } : Shared) = t4 at I4 ⊢
  have st4 : tn 0 t4.heap := T.keep _ _ _ st3 fun c _ ob e => by rw [← hs4]; exact pushCells_keeps _ _ _ _ (Heap.get?_push_of_some _ e)
  have stat : ∀ {σ' : L2.St} {H' : Hp} {s' : Shared}, Inv (X.blk t3 H3 scope ce fp) [] σ' H' s' → (∀ c ∈ fp, H' c = none) → ∀ c ∈ fp, FpOk (X.blk t3 H3 scope ce fp) [] H' c := fun {σ' H' s'} I' hn c hc =>
    ⟨hn c hc, (I'.ok.exf c hc).1, I'.ok.exfs c hc, .inl hc, fun x c' e => (I'.ok.exf c hc).2 x c' e, fun p hp => absurd (show p ∈ ([] : List (Addr × Obj)) ++ [] from hp) (by simp)⟩
  have loop : codeAny (model X.prog X.w) X.A (.compLoop (.DictComp kx vx [⟨tg, iter, ifs, 0⟩] scope pos) 0 (.ref it) (.ref D) ce) (compPost (model X.prog X.w) X.A X.xe use Qf (.ref D) t3.heap.objs.size) t4 := by
    refine compLoop_anyD (fun n s' => ∃ i H', Inv (X.blk t3 H3 scope ce fp) [] (wipe σ (own.map (·.2))) H' s' ∧ tn i s'.heap ∧ (∀ c ∈ fp, H' c = none) ∧ W i n H') ?_ m0 ⟨0, H3, I4, st4, nfp, w0⟩
    rintro n s5 ⟨i, H5, I5, st5, n5, w5⟩
    rcases turn i n H5 w5 with ⟨stop, qq⟩ | ⟨go, Nx, hNx, step⟩
    · refine thnF (T.done (X.blk t3 H3 scope ce fp) rfl rfl rfl hc i [] s5 _ H5 (fun _ _ => False) I5 (stat I5 n5) st5 stop) fun r s6 ⟨hr, I6⟩ => ?_
      subst hr
      have I7 : Inv X pins σ H5 s6 := I3.call' (ch := fp) I6.os I6.base I6.hok I6.bare fun c hc => ⟨(f3 c hc).1.2.2.2.1, (f3 c hc).1.2.1, (f3 c hc).1.2.2.2.2.1, (f3 c hc).1.2.2.2.2.2⟩
      have nC : H5 t3.heap.objs.size = none := by
        have z : H5 ce.locals = none := I6.free
        rw [cL] at z
        exact z
      obtain ⟨m, hn, _⟩ := I6.loc
      replace hn : s6.heap.Ns ce.locals m := hn
      rw [cL] at hn
      exact fin D t3.heap.objs.size s6 m H5 I7 qq hn (I3.fpOk (Nat.le_refl _) nC)
    · refine thnF (T.item (X.blk t3 H3 scope ce fp) rfl rfl rfl hc i [] s5 _ H5 (fun _ _ => False) I5 (stat I5 n5) st5 go) fun r s6 ⟨u, hr, h6⟩ => ?_
      subst hr
      refine thnF h6 fun _ s7 ⟨x, H7, I7, r7, y7, st7, n7⟩ => ?_
      have I7' := I7.pinned (stat I7 n7) (T.obj _ _ st7)
      refine thnF (pg.run _ s7 _ H7 x u _ I7' r7 (step x H7 y7)) fun _ s8 ⟨σ8, H8, I8, hw8, q8⟩ => ?_
      refine thnF (pt.run _ s8 σ8 H8 _ I8 q8) fun c s9 ⟨H9, I9, q9⟩ => ?_
      have back : ∀ {s' : Shared} {H' : Hp}, Inv (X.blk t3 H3 scope ce fp) ([] ++ pinsAt fp s7.heap) σ8 H' s' → Nx H' → ∃ m, m < n ∧ ∃ i H', Inv (X.blk t3 H3 scope ce fp) [] (wipe σ (own.map (·.2))) H' s' ∧ tn i s'.heap ∧ (∀ c ∈ fp, H' c = none) ∧ W i m H' := fun {s' H'} I' nx => by
        obtain ⟨m', hm, w'⟩ := hNx H' nx
        have pin' : ∀ c ∈ fp, ∀ ob, s7.heap.get? c = some ob → s'.heap.get? c = some ob ∧ H' c = none := fun c hc ob e =>
          let z := I'.pin (c, ob) (List.mem_append_right _ (List.mem_append_right _ (mem_pinsAt hc e)))
          ⟨z.1, z.2.1⟩
        have hl : (wipe σ (own.map (·.2))).length = σ8.length := by rw [← hw8, wipe_length]
        refine ⟨m', hm, i + 1, H', (I'.unpinned (pins := [])).weak hl (fun j v e => ?_), T.keep _ _ _ st7 fun c hc ob e => (pin' c hc ob e).1, fun c hc => ?_, w'⟩
        · rw [← hw8] at e
          exact (wipe_some e).1
        · obtain ⟨ob, e, _⟩ := T.obj _ _ st7 c hc
          exact (pin' c hc ob e).2
      cases c with
      | false =>
        simp only [Bool.false_eq_true, if_false] at q9 ⊢
        exact back I9 q9
      | true =>
        simp only [if_true] at q9 ⊢
        refine thnF (pk.run _ s9 σ8 H9 _ I9 q9) fun z s10 ⟨yk, H10, I10, r10, q10⟩ => ?_
        refine thnF (pe.run _ s10 σ8 H10 _ I10 q10) fun z2 s11 ⟨yv, H11, I11, r11, O, m, kvs, k, d, a, ea, cn, okk, rk, rd, few, nx⟩ => ?_
        cases ea
        exact q_dictSet (X := X.blk t3 H3 scope ce fp) hu I11 cn okk rk r10 rd r11 few fun s12 ⟨u12, I12, c12⟩ => back I12 (nx u12 c12)
  exact codeAny_compStart_dict loop (T.self X.A 0 _ _ _ st4 loop)
section
variable {kx vx tg iter : Expr} {ifs : List Expr} {scope : Scope} {own : List (Str × Nat)} {pos : Pos} {wi : TI} {g : TG} {tt : TT} {tk tv : TE} (hu : X.A.units + 65 < cLine) (hc : X.calm = true) (hN : X.N.Nodup) (hi : PI X tg iter wi) (ok : BlkOk X.N X.env.scope scope own)
    (hg : ∀ (s : Shared) (H : Hp) (C : Addr) (cl : List (Str × Addr)) (fp : List Addr), PG (X.blk s H scope (compEnvC scope cl C X.env) fp) tg g) (ht : ∀ (s : Shared) (H : Hp) (C : Addr) (cl : List (Str × Addr)) (fp : List Addr), PTs (X.blk s H scope (compEnvC scope cl C X.env) fp) ifs tt)
    (hk : ∀ (s : Shared) (H : Hp) (C : Addr) (cl : List (Str × Addr)) (fp : List Addr), PE (X.blk s H scope (compEnvC scope cl C X.env) fp) kx tk)
    (he : ∀ (s : Shared) (H : Hp) (C : Addr) (cl : List (Str × Addr)) (fp : List Addr), PE (X.blk s H scope (compEnvC scope cl C X.env) fp) vx tv) (hs : ∀ x, foldedSetIterable iter X.env x = pure x)
include hu hc hN hi ok hg ht hk he hs
theorem pe_dm : PE X (.DictComp kx vx [⟨tg, iter, ifs, 0⟩] scope pos) (tDm wi g tt tk tv (own.map (·.2)) X.K) := ⟨fun pins s σ H Q I h => by
  rw [arm_eval_DictComp]
  refine dm_core hu hc hN I hi ok hg ht hk he hs h fun D C s' m H' I' q hn f => ⟨m, hn, fun h'' sb => ?_⟩
  obtain ⟨t0, t1, t2, t3, t4, t5⟩ := f
  exact ⟨.ref D, H', I'.turned (t' := s'.toks) (fun c ob hb e => (sb.2 c hb).trans e) t0 t1 t3 t4 t5, rfl, q⟩⟩
theorem ps_dm {i : Nat} {y : Str} {py spos : Pos} (hy : X.N[i]? = some y) (hyl : X.env.scope.names.lookup y = some .local) (hsw : swapsWith (.DictComp kx vx [⟨tg, iter, ifs, 0⟩] scope pos) (some (.Name y py)) spos.line X.env = pure true) :
    PS X (.Assign [.Name y py] (.DictComp kx vx [⟨tg, iter, ifs, 0⟩] scope pos) spos) (tAsg (tDm wi g tt tk tv (own.map (·.2)) X.K) (gName i)) := ⟨fun pins s σ H D I h => by
  rw [exec_Assign_Name_used _ _ _ _ hsw]
  refine wpAny_bind (wpAny_standAt (wpAny_bind ?_))
  show wpAny _ X.A (do let _ ← comprehension (.DictComp kx vx [⟨tg, iter, ifs, 0⟩] scope pos) scope X.env (firstIterPos [⟨tg, iter, ifs, 0⟩] pos) newDict false (eval iter X.env) (some (assign (.Name y py) X.env))) _ _ s
  replace h : tDm wi g tt tk tv (own.map (·.2)) X.K σ H (fun x H1 => gName i x σ H1 D.nx) := h
  refine wpAny_bind (thn (dm_core (Qf := fun _ s' => SP X pins D .next s') hu hc hN I hi ok hg ht hk he hs h fun L C s' m H' I' q hn f => ?_) fun _ s' hq => wpAny_pure (wpAny_pure hq))
  show wpAny _ _ (assign (.Name y py) X.env (.ref L)) _ _ _
  refine wpAny_assign_Name (store_ok2 (v := V.ref L) I' hN hy (.inl hyl) rfl (fun s2 I2 ⟨a, sb, ha⟩ => ?_) (.inr hyl))
  obtain ⟨t0, t1, t2, t3, t4, t5⟩ := f
  have haC : C ≠ a := by
    rcases ha with z | z
    · rw [z]; exact t1
    · exact fun e => t4 y a z e.symm
  exact ⟨m, hn.sameBut sb haC, fun h3 sb3 => ⟨_, H', I2.turned (t' := s2.toks) (fun c ob hb e => (sb3.2 c hb).trans e) t0 t1 t3 t4 t5, q⟩⟩⟩
end
end

/-! ### within a block whose new thing lies at D as u -/
def blkU (b : Bs) (D : Addr) (u : HO) : Bs := ⟨upd b.H0 D u, fun a => b.O0 a ∨ a = D, fun _ _ _ => False, b.cls, b.pin, b.bq⟩
section
variable {K : PySem.W.Frag} {b : Bs} {H H' H1 : Hp} {env : En} {σ : L2.St} {o : Nat → List Nat → Addr} {D : Addr} {u : HO} {m : Bool} {kvs : Tb}
theorem RS.intoU {Hm : Hp} (r : RS K b Hm env σ o) (hm : Hm D = none) (s : Same Hm H) (hD : H D = some u) : RS K (blkU b D u) H env σ o := by
  have ex : ∀ a, Ex (blkU b D u) env o a → Ex b env o a ∨ Hm a = none := by
    rintro a ((z | z) | z)
    · exact .inl (.inl z)
    · exact .inr (by rw [z]; exact hm)
    · exact .inl (.inr z)
  have b0 : b.H0 D = none := by
    cases q : b.H0 D with
    | none => rfl
    | some u => rw [r.ext _ _ q] at hm; cases hm
  have nD : ∀ {j : Nat} {s : Sl} {p : List Nat}, env[j]? = some s → s.node p → o j p ≠ D := fun {j s p} e n z => by
    obtain ⟨u, hu⟩ := r.dom (.inr ⟨j, s, p, e, n, rfl⟩)
    rw [z, hm] at hu; cases hu
  refine ⟨r.len, fun j d q => ?_, fun j es q => ?_, r.injN, fun a u' e => ?_, fun a z => ?_, r.exn, r.kv, r.pin, r.bor, fun v ds q => ?_, fun j t e => ?_, r.al, r.pin0⟩
  · obtain ⟨v, h1, h2⟩ := r.val j d q
    exact ⟨v, h1, Rp.move (.of_same s) ex _ _ h2⟩
  · obtain ⟨vs, h1, h2, h3, h4⟩ := r.own j es q
    refine ⟨vs, h1, s _ _ h2, Rp.moveA (.of_same s) ex _ _ h3, ?_⟩
    show upd b.H0 D _ (o j []) = none
    rw [upd_ne (nD q rfl)]; exact h4
  · change upd b.H0 D u a = some u' at e
    by_cases q : a = D
    · rw [q, upd_same] at e; rw [q, hD]; exact e
    · rw [upd_ne q] at e; exact s _ _ (r.ext _ _ e)
  · rcases z with z | z
    · obtain ⟨w, hu⟩ := r.o0 a z
      refine ⟨w, ?_⟩
      show upd b.H0 D _ a = some w
      rw [upd_ne (fun h => by rw [h, b0] at hu; cases hu)]; exact hu
    · exact ⟨u, by rw [z]; exact upd_same⟩
  · refine (r.bqk v ds q).mv (fun a w e => ?_) fun a z => ?_
    · show upd b.H0 D _ a = some w
      rw [upd_ne (fun h => by rw [h, b0] at e; cases e)]; exact e
    · rcases z with z | z
      · exact .inl z
      · exact .inr (by rw [z]; exact b0)
  · obtain ⟨v, h1, h2, h3⟩ := r.ob j t e
    refine ⟨v, h1, h2.move (.of_same s) ex fun q _ => ⟨rfl, fun u z => s _ _ z⟩, fun p n => ?_⟩
    show upd b.H0 D _ (o j p) = none
    rw [upd_ne (nD e n)]; exact h3 p n
theorem ex_blkU {a : Addr} : Ex (blkU b D u) env o a ↔ Ex b env o a ∨ a = D := by
  constructor
  · rintro ((z | z) | z)
    · exact .inl (.inl z)
    · exact .inr z
    · exact .inl (.inr z)
  · rintro ((z | z) | z)
    · exact .inl (.inl z)
    · exact .inr z
    · exact .inl (.inr z)
theorem Cn.mt {O : Addr → Prop} {a : Addr} {u : HO} (c : Cn K H O a (dkM m kvs)) (e : H a = Option.some u) : Mt u := by
  cases c with
  | dct r _ _ _ => rw [r] at e; cases e; exact True.intro
  | dck r _ => rw [r] at e; cases e; exact True.intro
structure BlD (K : PySem.W.Frag) (b : Bs) (H1 : Hp) (D : Addr) (env : En) (o : Nat → List Nat → Addr) (σ : L2.St) (H : Hp) (u : HO) (m : Bool) (kvs : Tb) : Prop where
  at_ : H D = some u
  sm : Same H1 (lessA H D)
  rs : RS K b (lessA H D) env σ o
  cn : Cn K H (Ex (blkU b D u) env o) D (dkM m kvs)
theorem BlD.in_ (B : BlD K b H1 D env o σ H u m kvs) : RS K (blkU b D u) H env σ o := B.rs.intoU lessA_at lessA_same B.at_
theorem BlD.same (B : BlD K b H1 D env o σ H u m kvs) (s : Same H H') : BlD K b H1 D env o σ H' u m kvs := by
  have k : Same (lessA H D) (lessA H' D) := lessA_of lessA_at (lessA_same.trans s)
  exact ⟨s _ _ B.at_, B.sm.trans k, B.rs.same k, B.cn.same s⟩
theorem BlD.per (B : BlD K b H1 D env o σ H u m kvs) : Per K (lessA H D) (Ex b env o) H (Ex (blkU b D u) env o) := .same lessA_same fun a z => by
  rcases ex_blkU.mp z with z | z
  · exact .inl z
  · exact .inr (by rw [z]; exact lessA_at)
theorem BlD.put {u' : HO} {m' : Bool} {kvs' : Tb} (B : BlD K b H1 D env o σ H u m kvs) (hc : Keep (Ex (blkU b D u) env o) H (upd H D u') → Cn K (upd H D u') (Ex (blkU b D u) env o) D (dkM m' kvs')) : BlD K b H1 D env o σ (upd H D u') u' m' kvs' := by
  have kp : Keep (Ex (blkU b D u) env o) H (upd H D u') := fun a x e z => by
    by_cases ha : a = D
    · subst ha
      rcases z with z | z
      · exact absurd (B.cn.mt e) z
      · exact absurd (ex_blkU.mpr (.inr rfl)) z
    · rw [upd_ne ha]; exact e
  exact ⟨upd_same, by rw [lessU]; exact B.sm, by rw [lessU]; exact B.rs, (hc kp).less fun a z => ex_blkU.mpr (ex_blkU.mp z)⟩
end
/-! ### as functions of the slots -/
@[simp] def dcG (t : En → PyData → Rz En) (fc : FT) (fk fv : FE) (env : En) : Bool → Tb → List PyData → Rz (Bool × Tb)
  | m, kvs, [] => .ok (m, kvs)
  | m, kvs, d :: ds => (t env d).calm.bind fun e1 => (fc e1).calm.bind fun c => match c with
    | true => (fk e1).calm.bind fun k => (fv e1).calm.bind fun v => if okR m kvs k = true ∧ kvs.length < 1000000 then dcG t fc fk fv env (!tupKey k) (dput kvs k v) ds else .st
    | false => dcG t fc fk fv env m kvs ds
@[simp] def oDcG (vs : List Nat) (t : En → PyData → Rz En) (fi : FA) (L : List Nat) (fc : FT) (fk fv : FE) (env : En) : Rz (Bool × Tb) :=
  (fi env).bind fun ds => if noOwnS vs (frees L env) = true then dcG t fc fk fv (noS vs (frees L env)) false [] ds else .st
def tGxU (K : PySem.W.Frag) (b : Bs) (t : En → PyData → Rz En) (vs : List Nat) : TG := fun v σ H Q => ∃ D u, tDGW K (blkU b D u) t vs v σ H Q
def tLtU (K : PySem.W.Frag) (b : Bs) (f : FT) : TT := fun σ H Q => ∃ D u, tDT K (blkU b D u) f σ H Q
def tLeU (K : PySem.W.Frag) (b : Bs) (f : FE) : TE := fun σ H Q => ∃ D u, tD K (blkU b D u) f [] σ H Q
section
variable {X : Cx} {b : Bs}
theorem fx_blkU (F : Fx X b) {s : Shared} {H : Hp} {scope : Scope} {cenv : Env} {fp : List Addr} {D : Addr} {u : HO} : Fx (X.blk s H scope cenv fp) (blkU b D u) :=
  ⟨F.calm, fun u s' h => by rcases h with ⟨_, _, _, _, _, _, _, _, _, _, _, _, _, _, _, _, w⟩; exact w.elim, PassesOwn.never, F.u⟩
theorem dcG_read {vs : List Nat} {t : En → PyData → Rz En} {fi : FA} {L : List Nat} {fc : FT} {fk fv : FE} {σ : L2.St} {H : Hp} {Q : VK} (h : tDC X.K b (oDcG vs t fi L fc fk fv) L σ H Q) : tDm (tDI X.K b fi L) (tGxU X.K b t vs) (tLtU X.K b fc) (tLeU X.K b fk) (tLeU X.K b fv) vs X.K σ H Q := by
  obtain ⟨env, o, R, h⟩ := h
  refine ⟨env, o, R, h.bind.imp fun ds _ h J G H1 s1 w g0 D low hD => ?_⟩
  by_cases hno : noOwnS vs (frees L env) = true
  case neg => rw [if_neg hno] at h; exact False.elim h
  rw [if_pos hno] at h
  have R1 := ((R.frees L).same s1).noS vs
  have hDH : H D = none := s1.free hD
  generalize hW : noS vs (frees L env) = envW at *
  have le : ∀ a, Ex b envW o a → Ex b (frees L env) o a := fun a z => by rw [← hW] at z; exact ex_noS z
  have ge : ∀ a, Ex b (frees L env) o a → Ex b envW o a := fun a z => by rw [← hW]; exact ex_noS' hno z
  have less1 : lessA H1 D = H1 := by
    funext a
    unfold lessA
    by_cases q : a = D
    · rw [if_pos q, q, hD]
    · rw [if_neg q]
  let W : Nat → Nat → Hp → Prop := fun i' k H' => k = ds.length - i' ∧ i' ≤ ds.length ∧ ∃ (u : HO) (m : Bool) (kvs : Tb), BlD X.K b H1 D envW o (wipe σ vs) H' u m kvs ∧ G (lessA H' D) (Ex b envW o) ∧
    Pz X.K b (dcG t fc fk fv envW m kvs (ds.drop i')) fun r => ∀ a H'', Same H H'' → H a = none → Cn X.K H'' (fun c => Ex b (frees L env) o c ∨ c = a) a (dkM r.1 r.2) → Q (.ref a) H''
  refine ⟨W, ⟨ds.length, by simp, Nat.zero_le _, dHO D [] 0, false, [], ⟨upd_same, by rw [lessU, less1]; exact .refl H1, by rw [lessU, less1]; exact R1, .dct upd_same (dsOk_nil low) .nil .nil⟩, by rw [lessU, less1]; exact w.per _ _ _ _ (.same (.refl H1) fun a z => .inl (le a z)) g0, ?_⟩, ?_⟩
  · rw [List.drop_zero]; exact h
  · rintro i' k H2 ⟨hm, hle, u, m, kvs, B, g2, h⟩
    have g2' : G H2 (Ex (blkU b D u) envW o) := w.per _ _ _ _ B.per g2
    by_cases hlt : i' < ds.length
    · refine .inr ⟨w.wk.goes i' H2 hlt ⟨_, g2'⟩, fun H' => W (i' + 1) (ds.length - (i' + 1)) H', fun H' hw => ⟨_, by omega, hw⟩, fun v H3 y => ?_⟩
      obtain ⟨s3, y⟩ := w.wk.yields i' H2 v H3 hlt ⟨_, g2'⟩ y
      obtain ⟨d, hd, rv⟩ := y _ g2'
      have e : ds.drop i' = d :: ds.drop (i' + 1) := by
        obtain ⟨hl, e⟩ := List.getElem?_eq_some_iff.mp hd
        rw [List.drop_eq_getElem_cons hl, e]
      rw [e] at h
      have B3 := B.same s3
      have g3 : ∀ {H4 : Hp}, Same H3 H4 → G (lessA H4 D) (Ex b envW o) := fun {H4} s4 => w.per _ _ _ _ (.same (lessA_of lessA_at (lessA_same.trans (s3.trans s4))) fun a z => .inl z) g2
      refine ⟨D, u, envW, o, d, B3.in_, rv, (Pz.bind h).calm.imp fun e1 _ h σ2 R4 w4 x4 => ⟨by rw [w4, wipe_wipe], D, u, e1, o, R4, (Pz.bind h).calm.imp fun c _ h H4 s4 => ?_⟩⟩
      cases c with
      | true =>
        refine ⟨D, u, e1, o, R4.same s4, (Pz.bind h).calm.imp fun kd _ h v5 H5 s5 r5 => ⟨D, u, e1, o, (R4.same s4).same s5, (Pz.bind h).calm.imp fun yd _ h v6 H6 s6 r6 => ?_⟩⟩
        split at h
        · rename_i hok
          have B6 := B3.same ((s4.trans s5).trans s6)
          refine ⟨Ex (blkU b D u) envW o, m, kvs, kd, yd, D, rfl, B6.cn, hok.1, (r5.same s6).less fun a z => (x4 a).mpr z, r6.less fun a z => (x4 a).mpr z, hok.2, fun u' hc => ?_⟩
          exact ⟨rfl, by omega, u', _, _, B6.put hc, by rw [lessU]; exact g3 ((s4.trans s5).trans s6), h⟩
        · exact h.elim
      | false => exact ⟨rfl, by omega, u, m, kvs, B3.same s4, g3 s4, h⟩
    · have e : i' = ds.length := by omega
      subst e
      rw [List.drop_length] at h
      refine .inl ⟨w.wk.stops H2 ⟨_, g2'⟩, ?_⟩
      refine h D H2 ((s1.trans B.sm).trans lessA_same) hDH (B.cn.less fun a z => ?_)
      rcases z with z | z
      · exact ex_blkU.mpr (.inl (ge _ z))
      · exact ex_blkU.mpr (.inr z)
theorem ltU_nil {scope : Scope} : ∀ (s : Shared) (H : Hp) (C : Addr) (cl : List (Str × Addr)) (fp : List Addr), PTs (X.blk s H scope (compEnvC scope cl C X.env) fp) [] (tLtU X.K b tYesD) :=
  fun s H C cl fp => ⟨fun pins s' σ H' Q I ⟨D, u, env, o, R, h⟩ => pts_nil.run pins s' σ H' Q I (h H' (.refl H'))⟩
theorem ltU_one {scope : Scope} {c : Expr} {fc : FT} (F : Fx X b) (h : ∀ (s : Shared) (H : Hp) (C : Addr) (cl : List (Str × Addr)) (fp : List Addr) (D : Addr) (u : HO), Fx (X.blk s H scope (compEnvC scope cl C X.env) fp) (blkU b D u) → DT (X.blk s H scope (compEnvC scope cl C X.env) fp) (blkU b D u) c fc) :
    ∀ (s : Shared) (H : Hp) (C : Addr) (cl : List (Str × Addr)) (fp : List Addr), PTs (X.blk s H scope (compEnvC scope cl C X.env) fp) [c] (tLtU X.K b fc) :=
  fun s H C cl fp => ⟨fun pins s' σ H' Q I ⟨D, u, q⟩ => (pts_one (h s H C cl fp D u (fx_blkU F))).run pins s' σ H' Q I q⟩
section
variable {kx vx tg iter : Expr} {ifs : List Expr} {scope : Scope} {own : List (Str × Nat)} {pos : Pos} {t : En → PyData → Rz En} {fi : FA} {L vs : List Nat} {fc : FT} {fk fv : FE} (F : Fx X b) (hN : X.N.Nodup) (hi : DI X b tg iter fi L)
    (hg : ∀ (s : Shared) (H : Hp) (C : Addr) (cl : List (Str × Addr)) (fp : List Addr) (D : Addr) (u : HO), Fx (X.blk s H scope (compEnvC scope cl C X.env) fp) (blkU b D u) → DGW (X.blk s H scope (compEnvC scope cl C X.env) fp) (blkU b D u) tg t vs)
    (ht : ∀ (s : Shared) (H : Hp) (C : Addr) (cl : List (Str × Addr)) (fp : List Addr), PTs (X.blk s H scope (compEnvC scope cl C X.env) fp) ifs (tLtU X.K b fc))
    (hk : ∀ (s : Shared) (H : Hp) (C : Addr) (cl : List (Str × Addr)) (fp : List Addr) (D : Addr) (u : HO), Fx (X.blk s H scope (compEnvC scope cl C X.env) fp) (blkU b D u) → DE (X.blk s H scope (compEnvC scope cl C X.env) fp) (blkU b D u) kx fk [])
    (he : ∀ (s : Shared) (H : Hp) (C : Addr) (cl : List (Str × Addr)) (fp : List Addr) (D : Addr) (u : HO), Fx (X.blk s H scope (compEnvC scope cl C X.env) fp) (blkU b D u) → DE (X.blk s H scope (compEnvC scope cl C X.env) fp) (blkU b D u) vx fv [])
    (ok : blkC X.N X.env.scope scope own = true) (ev : own.map (·.2) = vs)
    (hs : ∀ x, foldedSetIterable iter X.env x = pure x)
include F hN hi hg ht hk he ok ev hs
theorem dc_cmp : DC X b (.DictComp kx vx [⟨tg, iter, ifs, 0⟩] scope pos) (oDcG vs t fi L fc fk fv) L :=
  PE.wk (pe_dm (tk := tLeU X.K b fk) (tv := tLeU X.K b fv) (g := tGxU X.K b t vs) F.un1 F.calm hN hi (blkOk_by ok) (fun s H C cl fp => ⟨fun pins s' σ H' v u Q I r ⟨D, uu, q⟩ => (hg s H C cl fp D uu (fx_blkU F)).run pins s' σ H' v u Q I r q⟩) ht
    (fun s H C cl fp => ⟨fun pins s' σ H' Q I ⟨D, u, q⟩ => (hk s H C cl fp D u (fx_blkU F)).run pins s' σ H' Q I q⟩) (fun s H C cl fp => ⟨fun pins s' σ H' Q I ⟨D, u, q⟩ => (he s H C cl fp D u (fx_blkU F)).run pins s' σ H' Q I q⟩) hs) fun σ H Q h => by subst ev; exact dcG_read h
theorem ds_setDc {j : Nat} {y : Str} {py spos : Pos} (hy : X.N[j]? = some y) (hyl : X.env.scope.names.lookup y = some .local) (hsw : swapsWith (.DictComp kx vx [⟨tg, iter, ifs, 0⟩] scope pos) (some (.Name y py)) spos.line X.env = pure true)
    (hpin : b.pin = none ∨ (j ≠ 1 ∧ j ≠ 0) := by first | exact .inl rfl | exact .inr (by decide)) : DS X b (.Assign [.Name y py] (.DictComp kx vx [⟨tg, iter, ifs, 0⟩] scope pos) spos) (sSetC j (oDcG vs t fi L fc fk fv) L) :=
  PS.wk (ps_dm (tk := tLeU X.K b fk) (tv := tLeU X.K b fv) (g := tGxU X.K b t vs) F.un1 F.calm hN hi (blkOk_by ok) (fun s H C cl fp => ⟨fun pins s' σ H' v u Q I r ⟨D, uu, q⟩ => (hg s H C cl fp D uu (fx_blkU F)).run pins s' σ H' v u Q I r q⟩) ht
    (fun s H C cl fp => ⟨fun pins s' σ H' Q I ⟨D, u, q⟩ => (hk s H C cl fp D u (fx_blkU F)).run pins s' σ H' Q I q⟩) (fun s H C cl fp => ⟨fun pins s' σ H' Q I ⟨D, u, q⟩ => (he s H C cl fp D u (fx_blkU F)).run pins s' σ H' Q I q⟩) hs hy hyl hsw) fun D σ H ⟨env, o, R, h⟩ => by
    subst ev
    exact dcG_read ⟨env, o, R, h.bind.imp fun r _ h a H1 s1 hn c => setC_nx hpin R s1 hn c h⟩
theorem ds_setDcV {j : Nat} {y : Str} {py spos : Pos} (hy : X.N[j]? = some y) (hyl : X.env.scope.names.lookup y = some .local) (hsw : swapsWith (.DictComp kx vx [⟨tg, iter, ifs, 0⟩] scope pos) (some (.Name y py)) spos.line X.env = pure true) :
    DS X b (.Assign [.Name y py] (.DictComp kx vx [⟨tg, iter, ifs, 0⟩] scope pos) spos) (sSet j (fun env => (oDcG vs t fi L fc fk fv env).bind fun r => .ok (dkM r.1 r.2)) L) :=
  PS.wk (ps_dm (tk := tLeU X.K b fk) (tv := tLeU X.K b fv) (g := tGxU X.K b t vs) F.un1 F.calm hN hi (blkOk_by ok) (fun s H C cl fp => ⟨fun pins s' σ H' v u Q I r ⟨D, uu, q⟩ => (hg s H C cl fp D uu (fx_blkU F)).run pins s' σ H' v u Q I r q⟩) ht
    (fun s H C cl fp => ⟨fun pins s' σ H' Q I ⟨D, u, q⟩ => (hk s H C cl fp D u (fx_blkU F)).run pins s' σ H' Q I q⟩) (fun s H C cl fp => ⟨fun pins s' σ H' Q I ⟨D, u, q⟩ => (he s H C cl fp D u (fx_blkU F)).run pins s' σ H' Q I q⟩) hs hy hyl hsw) fun D σ H ⟨env, o, R, h⟩ => by
    subst ev
    exact dcG_read ⟨env, o, R, h.bind.bind.imp fun r _ h a H1 s1 hn c => by
      have R1 := (R.frees L).same s1
      refine h _ H1 o (R1.set (Cn.rp (c.less fun _ z => .inl z) fun z => ?_)) (per_frees s1 fun a z => ex_set z)
      obtain ⟨u, hu⟩ := (R.frees L).dom z
      rw [hn] at hu; cases hu⟩
end
end
end DL
/-! Displays of dicts, pop, copies by comprehension's rules. -/
namespace DL
open PySem PySem.Spec PyProof.Rows L2
theorem swD_true {kx vx : Expr} {gs : List Comprehension} {scope : Scope} {pos py : Pos} {y : Str} {l : Nat} {env : Env} (hk : env.scope.kind = .function) (hy : env.scope.names.lookup y = some .local) (hl : (py.line == pos.line) = true)
    (ha : (scope.names.any fun (n, k) => n == y && (k == .local || k == .cell)) = false) : swapsWith (.DictComp kx vx gs scope pos) (some (.Name y py)) l env = pure true := by
  have k1 : env.kindOf y = some .local := hy
  have k2 : env.blockKind = .function := by unfold Env.blockKind; rw [hk]; rfl
  unfold swapsWith
  simp only [k2, k1, ha, Expr.pos, hl]
  rfl
/-! ### displays -/
abbrev FPs := En → Rz Tb
@[simp] def pNil (_ : En) : Rz Tb := .ok []
@[simp] def pCons (fk fv : FE) (r : FPs) (env : En) : Rz Tb := (fk env).bind fun k => (fv env).bind fun v => (r env).bind fun t => .ok ((k, v) :: t)
def tDPs (K : PySem.W.Frag) (b : Bs) (f : FPs) : L2.St → Hp → (List (V × V) → Hp → Prop) → Prop := fun σ H Q => ∃ env o, RS K b H env σ o ∧ Pz K b (f env) fun t => ∀ ps H', Same H H' → RpE K H' (Ex b env o) ps t → Q ps H'
def DPs (X : Cx) (b : Bs) (pos : Pos) (keys : List (Option Expr)) (values : List Expr) (f : FPs) : Prop := ∃ trs, PPs X pos keys values trs ∧ ∀ σ H Q, tDPs X.K b f σ H Q → tPairs trs σ H Q
section
variable {X : Cx} {b : Bs} {k v : Expr} {ks : List (Option Expr)} {vs : List Expr} {fk fv : FE} {fp : FPs} {pos : Pos}
theorem dps_nil : DPs X b pos [] [] pNil := ⟨[], pps_nil, fun σ H Q ⟨env, o, R, h⟩ => h [] H (.refl H) .nil⟩
theorem dps_cons (h1 : DE X b k fk []) (h2 : DE X b v fv []) (h3 : DPs X b pos ks vs fp) : DPs X b pos (some k :: ks) (v :: vs) (pCons fk fv fp) := by
  obtain ⟨trs, p, q⟩ := h3
  refine ⟨_, pps_cons h1 h2 p, fun σ H Q ⟨env, o, R, h⟩ => ⟨env, o, R, h.bind.imp fun kd _ h x H1 s1 r1 => ⟨env, o, R.same s1, h.bind.imp fun vd _ h y H2 s2 r2 => q σ H2 _ ⟨env, o, (R.same s1).same s2, h.bind.imp fun t _ h ps H3 s3 r3 => ?_⟩⟩⟩⟩
  exact h _ H3 ((s1.trans s2).trans s3) (.cons ((r1.same s2).same s3) (r2.same s3) r3)
@[simp] def putAll : Bool → Tb → Tb → Rz (Bool × Tb)
  | m, t, [] => .ok (m, t)
  | m, t, p :: r => if okR m t p.1 = true ∧ t.length < 1000000 then putAll (!tupKey p.1) (dput t p.1 p.2) r else .st
@[simp] def cDisp (f : FPs) (env : En) : Rz (Bool × Tb) := (f env).calm.bind fun ps => putAll false [] ps
theorem fx_U (F : Fx X b) {D : Addr} {u : HO} : Fx X (blkU b D u) :=
  ⟨F.calm, fun u s' h => by rcases h with ⟨_, _, _, _, _, _, _, _, _, _, _, _, _, _, _, _, w⟩; exact w.elim, F.own, F.u⟩
theorem store_all {pins : List (Addr × Obj)} {σ : L2.St} {O : Addr → Prop} {p : Addr} (hu : X.A.units + 65 < cLine) (hO : O p) : ∀ {ps : List (V × V)} {t kvs : Tb} {m : Bool} {us : List (Value × Value)} {H : Hp} {s : Shared} {Q : PUnit → Shared → Prop} {P : Bool × Tb → Prop}, Inv X pins σ H s → VV ps us → RpE X.K H O ps t → Cn X.K H O p (dkM m kvs) →
    Pz X.K b (putAll m kvs t) P → (∀ r H' s', P r → Inv X pins σ H' s' → Cn X.K H' O p (dkM r.1 r.2) → (∀ a u, a ≠ p → H a = some u → H' a = some u) → Q PUnit.unit s') →
    wpAny (model X.prog X.w) X.A (forIn us PUnit.unit fun (x : Value × Value) (_ : PUnit) => (do dictSet p x.1 x.2; pure (ForInStep.yield PUnit.unit) : Sem (ForInStep PUnit))) Q X.xe s
  | _, _, kvs, m, _, H, s, Q, P, I, .nil, .nil, c, h, q => by
    rw [List.forIn_nil]
    exact wpAny_pure (q (m, kvs) H s h I c fun _ _ _ e => e)
  | _, _, kvs, m, _, H, s, Q, P, I, .cons r1 rel, .cons q1 q2 q3, c, h, q => by
    rw [List.forIn_cons]
    unfold putAll at h
    split at h
    · rename_i hc
      refine wpAny_bind (wpAny_bind (q_dictSet hu I c hc.1 q1 r1.1 q2 r1.2 hc.2 fun s2 ⟨u2, I2, cn⟩ => wpAny_pure ?_))
      have kp : Keep O H (upd H p u2) := fun a x e z => by
        by_cases ha : a = p
        · subst ha
          rcases z with z | z
          · exact absurd (c.mt e) z
          · exact absurd hO z
        · rw [upd_ne ha]; exact e
      exact store_all hu hO I2 rel (Rp.mvE kp (fun _ z => .inl z) q3) (cn kp) h fun r H' s' hp I' c' k => q r H' s' hp I' c' fun a u ha e => k a u ha (by rw [upd_ne ha]; exact e)
    · exact h.elim
theorem dc_disp {keys : List (Option Expr)} {values : List Expr} (F : Fx X b) (h : ∀ (D : Addr) (u : HO), Fx X (blkU b D u) → DPs X (blkU b D u) pos keys values fp) (hall : keys.all (·.isSome) = true := by rfl) (hl : keys.length = values.length := by rfl) (h0 : keys ≠ [] := by exact fun z => nomatch z)
    (h15 : keys.length ≤ 15 := by decide) : DC X b (.Dict keys values pos) (cDisp fp) [] := ⟨fun pins s σ H Q I ⟨env, o, R, q⟩ => by
  have hn := I.hok.fresh (Nat.le_refl s.heap.objs.size)
  have I1 := I.laid (a := s.heap.objs.size) (o := dHO s.heap.objs.size [] 0) (h' := s.heap.push { cls := .type "dict", data := .dict #[] }) (t' := s.toks) (fun _ _ q => Heap.get?_push_of_some _ q) (Nat.le_refl _) (dn_ok s.heap)
  have low := low_new I
  have lenP := pairTrees_length keys values X.env pos hall hl
  rw [arm_eval_Dict, zip_pairTrees keys values X.env pos hall hl, dictDisplay_pairs _ (fun z => h0 (by rw [z] at lenP; exact List.length_eq_zero_iff.mp lenP.symm)) (by omega)]
  refine wpAny_bind (wpAny_standAt (wpAny_bind ?_))
  unfold subDict
  refine wpAny_bind (wpAny_alloc (wpAny_bind (wpAny_holding ?_)))
  rw [if_pos (by omega)]
  generalize hp : s.heap.objs.size = p at *
  have hR : RS X.K (blkU b p (dHO p [] 0)) (upd H p (dHO p [] 0)) env σ o := R.intoU hn (same_upd hn) upd_same
  obtain ⟨trs, pp, pq⟩ := h p (dHO p [] 0) (fx_U F)
  refine wpAny_bind (thn (pp.run pins _ σ (upd H p (dHO p [] 0)) (fun ps H2 => ∃ t, Same (upd H p (dHO p [] 0)) H2 ∧ RpE X.K H2 (Ex (blkU b p (dHO p [] 0)) env o) ps t ∧ Pz X.K b (putAll false [] t) fun r => ∀ a H', Same H H' → H a = none → Cn X.K H' (fun c => Ex b (frees [] env) o c ∨ c = a) a (dkM r.1 r.2) → Q (.ref a) H') I1 (pq _ _ _ ⟨env, o, hR, q.bind.calm.imp fun t _ q ps H' s1 r => ⟨t, s1, r, q⟩⟩)) fun us s2 ⟨ps, H2, I2, rel, t, s1, r1, q⟩ => ?_)
  refine wpAny_holding ?_
  refine wpAny_bind (store_all (O := Ex (blkU b p (dHO p [] 0)) env o) F.un1 (ex_blkU.mpr (.inr rfl)) I2 rel r1 (.dct (s1 _ _ upd_same) (dsOk_nil low) .nil .nil) q fun r H' s' hq I' c' k => wpAny_pure (wpAny_pure (wpAny_pure ⟨.ref p, H', I', rfl, hq p H' (fun a u e => k a u (fun z => by rw [z, hn] at e; cases e) (s1 _ _ (same_upd hn a u e))) hn (c'.less fun a z => ex_blkU.mpr z)⟩)))⟩
end
end DL
/-! What tables are equal; folds of stores. -/
namespace DL
open PySem PySem.Spec PyProof.Rows L2
mutual
/-- no dict within -/
def plainD : PyData → Bool
  | .list ds => plainDs ds
  | .tuple ds => plainDs ds
  | .dict _ => false
  | _ => true
def plainDs : List PyData → Bool
  | [] => true
  | d :: ds => plainD d && plainDs ds
end
@[simp] theorem plainD_int (i : Int) : plainD (.int i) = true := by simp [plainD]
@[simp] theorem plainD_str (i : Str) : plainD (.str i) = true := by simp [plainD]
@[simp] theorem plainD_bool (i : Bool) : plainD (.bool i) = true := by simp [plainD]
@[simp] theorem plainD_none : plainD .none = true := by simp [plainD]
@[simp] theorem plainD_tuple (ds : List PyData) : plainD (.tuple ds) = plainDs ds := by simp [plainD]
@[simp] theorem plainD_list (ds : List PyData) : plainD (.list ds) = plainDs ds := by simp [plainD]
@[simp] theorem plainDs_nil : plainDs [] = true := by simp [plainDs]
@[simp] theorem plainDs_cons (d : PyData) (ds : List PyData) : plainDs (d :: ds) = (plainD d && plainDs ds) := by simp [plainDs]
mutual
theorem eqv_refl : ∀ d : PyData, plainD d = true → PyData.eqv d d = true
  | .none, _ => by simp
  | .bool b, _ => by simp
  | .int i, _ => by simp
  | .str s, _ => by simp
  | .list ds, h => by rw [eqv_ll]; exact eqvAll_refl ds (by simpa using h)
  | .tuple ds, h => by rw [eqv_tt]; exact eqvAll_refl ds (by simpa using h)
  | .dict _, h => by simp [plainD] at h
theorem eqvAll_refl : ∀ ds : List PyData, plainDs ds = true → PyData.eqvAll ds ds = true
  | [], _ => by simp
  | d :: ds, h => by
    rw [plainDs_cons, Bool.and_eq_true] at h
    rw [eqvA_cc, eqv_refl d h.1, eqvAll_refl ds h.2]
    rfl
end
theorem dlk_of_mem {t : Tb} (nd : (t.map (·.1)).Nodup) : ∀ {p : PyData × PyData}, p ∈ t → dlk t p.1 = some p.2 := by
  induction t with
  | nil => intro p h; cases h
  | cons q r ih =>
    intro p h
    rw [List.map_cons, List.nodup_cons] at nd
    unfold dlk
    rcases List.mem_cons.mp h with e | h
    · rw [e, if_pos rfl]
    · rw [if_neg (fun z => nd.1 (by rw [z]; exact List.mem_map.mpr ⟨p, h, rfl⟩)), ih nd.2 h]
theorem dlk_mem' {t : Tb} {k : PyData} : k ∈ t.map (·.1) ↔ ∃ d, dlk t k = some d := by
  constructor
  · intro h
    cases q : dlk t k with
    | none => exact absurd h (dlk_none.mp q)
    | some d => exact ⟨d, rfl⟩
  · rintro ⟨d, h⟩
    exact List.mem_map.mpr ⟨_, dlk_mem h, rfl⟩
theorem nodup_len {l : List PyData} : ∀ {l' : List PyData}, l.Nodup → (∀ k, k ∈ l → k ∈ l') → l.length ≤ l'.length := by
  induction l with
  | nil => intro l' _ _; exact Nat.zero_le _
  | cons a l ih =>
    intro l' nd h
    rw [List.nodup_cons] at nd
    have ha := h a (List.mem_cons_self ..)
    have := ih (l' := l'.erase a) nd.2 fun k hk => (List.mem_erase_of_ne (fun z : k = a => nd.1 (by rw [← z]; exact hk))).mpr (h k (List.mem_cons_of_mem _ hk))
    rw [List.length_erase_of_mem ha] at this
    have := List.length_pos_of_mem ha
    rw [List.length_cons]
    omega
theorem len_of_keys {a b : Tb} (na : (a.map (·.1)).Nodup) (nb : (b.map (·.1)).Nodup) (h : ∀ k, k ∈ a.map (·.1) ↔ k ∈ b.map (·.1)) : a.length = b.length := by
  have h1 := nodup_len na fun k hk => (h k).mp hk
  have h2 := nodup_len nb fun k hk => (h k).mpr hk
  rw [List.length_map, List.length_map] at h1 h2
  omega
theorem dsub_of {b : Tb} : ∀ {r : Tb}, (∀ p ∈ r, ∃ d, dlk b p.1 = some d ∧ PyData.eqv p.2 d = true) → dsub r b = true
  | [], _ => rfl
  | p :: r, h => by
    obtain ⟨d, e1, e2⟩ := h p (List.mem_cons_self ..)
    unfold dsub
    rw [e1]
    dsimp only
    rw [e2, dsub_of fun q hq => h q (List.mem_cons_of_mem _ hq)]
    rfl
theorem deq_of {a b : Tb} (na : (a.map (·.1)).Nodup) (nb : (b.map (·.1)).Nodup) (h : ∀ k, dlk a k = dlk b k) (pl : ∀ p ∈ a, plainD p.2 = true) : deq a b = true := by
  unfold deq
  have hl : a.length = b.length := len_of_keys na nb fun k => by rw [dlk_mem', dlk_mem', h k]
  rw [hl, dsub_of fun p hp => ⟨p.2, by rw [← h]; exact dlk_of_mem na hp, eqv_refl _ (pl p hp)⟩]
  simp
theorem ite_cg {α : Type} {c c' : Prop} [Decidable c] [Decidable c'] (h : c ↔ c') {a b : α} : (if c then a else b) = if c' then a else b := by
  by_cases q : c
  · rw [if_pos q, if_pos (h.mp q)]
  · rw [if_neg q, if_neg fun z => q (h.mpr z)]
/-- folds of stores -/
def putF {α : Type} (key val : α → PyData) (xs : List α) (t : Tb) : Tb := xs.foldl (fun t x => dput t (key x) (val x)) t
section
variable {α : Type} {key val : α → PyData}
@[simp] theorem putF_nil (t : Tb) : putF key val [] t = t := rfl
@[simp] theorem putF_cons (x : α) (xs : List α) (t : Tb) : putF key val (x :: xs) t = putF key val xs (dput t (key x) (val x)) := rfl
open Classical in
theorem dlk_putF (F : PyData → PyData) : ∀ (xs : List α) (t : Tb), (∀ x ∈ xs, val x = F (key x)) → ∀ j, dlk (putF key val xs t) j = if ∃ x ∈ xs, key x = j then some (F j) else dlk t j
  | [], t, _, j => by rw [putF_nil, if_neg (by rintro ⟨x, h, _⟩; cases h)]
  | x :: xs, t, h, j => by
    rw [putF_cons, dlk_putF F xs _ (fun y hy => h y (List.mem_cons_of_mem _ hy)) j, dlk_put]
    by_cases h1 : ∃ y ∈ xs, key y = j
    · obtain ⟨y, hy, e⟩ := h1
      rw [if_pos ⟨y, hy, e⟩, if_pos ⟨y, List.mem_cons_of_mem _ hy, e⟩]
    · rw [if_neg h1]
      by_cases h2 : key x = j
      · rw [if_pos h2, if_pos ⟨x, List.mem_cons_self .., h2⟩, h x (List.mem_cons_self ..), h2]
      · rw [if_neg h2, if_neg]
        rintro ⟨y, hy, e⟩
        rcases List.mem_cons.mp hy with q | q
        · subst q; exact h2 e
        · exact h1 ⟨y, q, e⟩
theorem putF_nodup : ∀ (xs : List α) (t : Tb), (t.map (·.1)).Nodup → ((putF key val xs t).map (·.1)).Nodup
  | [], _, h => h
  | x :: xs, t, h => by rw [putF_cons]; exact putF_nodup xs _ (dput_nodup h)
theorem putF_length : ∀ (xs : List α) (t : Tb), (putF key val xs t).length ≤ t.length + xs.length
  | [], t => Nat.le_add_right ..
  | x :: xs, t => by
    rw [putF_cons, List.length_cons]
    have := putF_length xs (dput t (key x) (val x))
    have := dput_length (t := t) (k := key x) (d := val x)
    omega
end
/-- all values (and keys) of a table -/
theorem dput_all {P : PyData → Prop} {t : Tb} {k d : PyData} (h : ∀ p ∈ t, P p.2) (hd : P d) : ∀ p ∈ dput t k d, P p.2 := by
  induction t with
  | nil => intro p hp; cases List.mem_singleton.mp hp; exact hd
  | cons q r ih =>
    unfold dput
    split
    · intro p hp
      rcases List.mem_cons.mp hp with e | hp
      · rw [e]; exact hd
      · exact h p (List.mem_cons_of_mem _ hp)
    · intro p hp
      rcases List.mem_cons.mp hp with e | hp
      · rw [e]; exact h _ (List.mem_cons_self ..)
      · exact ih (fun p hp => h p (List.mem_cons_of_mem _ hp)) p hp
theorem putF_all {α : Type} {key val : α → PyData} {P : PyData → Prop} : ∀ (xs : List α) (t : Tb), (∀ p ∈ t, P p.2) → (∀ x ∈ xs, P (val x)) → ∀ p ∈ putF key val xs t, P p.2
  | [], _, h, _ => h
  | x :: xs, t, h, g => by rw [putF_cons]; exact putF_all xs _ (dput_all h (g x (List.mem_cons_self ..))) fun y hy => g y (List.mem_cons_of_mem _ hy)
theorem eqOk_of {t : Tb} (h : ∀ p ∈ t, SeqAt.shaped p.2 = true) : eqOk false t = true := by
  unfold eqOk
  simp only [Bool.not_false, Bool.true_or, Bool.true_and]
  exact List.all_eq_true.mpr h
/-- what is walked by numbers -/
def rg (lo : Int) (n : Nat) : List Int := (List.range n).map fun i => lo + (i : Nat)
theorem intsD_rg (lo : Int) (n : Nat) : intsD lo n = (rg lo n).map .int := by simp [intsD, rg]
theorem mem_rg {lo x : Int} {n : Nat} : x ∈ rg lo n ↔ lo ≤ x ∧ x < lo + n := by
  simp only [rg, List.mem_map, List.mem_range]
  constructor
  · rintro ⟨i, hi, rfl⟩; omega
  · rintro ⟨h1, h2⟩; exact ⟨(x - lo).toNat, by omega, by omega⟩
theorem len_rg (lo : Int) (n : Nat) : (rg lo n).length = n := by simp [rg]
theorem lcD_map {α : Type} {i : Nat} {fe : FE} {env : En} (a : α → PyData) (g : α → PyData) : ∀ xs : List α, (∀ x ∈ xs, fe (env.set i (Sl.val (a x))) = .ok (g x)) → lcD i tYesD fe env (xs.map a) = .ok (xs.map g)
  | [], _ => rfl
  | x :: xs, h => by
    rw [List.map_cons, lcD, h x (List.mem_cons_self ..), lcD_map a g xs fun y hy => h y (List.mem_cons_of_mem _ hy)]
    rfl
/-- a dict comprehension's stores -/
theorem dcG_map {α : Type} {t : En → PyData → Rz En} {fk fv : FE} {env : En} (a key val : α → PyData) (e : α → En) : ∀ (xs : List α) (m : Bool) (kvs : Tb), (∀ x ∈ xs, t env (a x) = .ok (e x) ∧ fk (e x) = .ok (key x) ∧ fv (e x) = .ok (val x) ∧ tupKey (key x) = true) → (m = false ∨ kvs = []) → kvs.length + xs.length ≤ 1000000 →
    dcG t tYesD fk fv env m kvs (xs.map a) = .ok (if xs = [] then m else false, putF key val xs kvs)
  | [], m, kvs, _, _, _ => rfl
  | x :: xs, m, kvs, h, hm, hz => by
    obtain ⟨h1, h2, h3, h4⟩ := h x (List.mem_cons_self ..)
    rw [List.length_cons] at hz
    have hd := dput_length (t := kvs) (k := key x) (d := val x)
    have ih := dcG_map a key val e xs false (dput kvs (key x) (val x)) (fun y hy => h y (List.mem_cons_of_mem _ hy)) (.inl rfl) (by omega)
    have ok : okR m kvs (key x) = true ∧ kvs.length < 1000000 := by
      refine ⟨?_, by omega⟩
      cases m with
      | false => simp [okR, h4]
      | true =>
        rcases hm with hm | hm
        · cases hm
        · simp [okR, hm, h4]
    rw [List.map_cons, dcG, h1]
    simp only [Rz.calm_ok, Rz.bind_ok, tYesD, h2, h3]
    rw [if_pos ok, h4, Bool.not_true, ih, putF_cons]
    simp
end DL
/-! A def whose last argument is a list that it may change and the caller keeps: its slots are those of a def with the list as second argument. -/
namespace DL
open PySem PySem.Spec PyProof.Rows L2
section
variable {kindOf : Str → Option NameKind}
theorem bindL_swap {n m : Str} {v w : Value} (h : n ≠ m) (r : List (Str × Value)) (g : Str → Option Value) : bindL kindOf ((n, v) :: (m, w) :: r) g = bindL kindOf ((m, w) :: (n, v) :: r) g := by
  simp only [bindL]
  congr 1
  by_cases h1 : kindOf n = some .local
  · by_cases h2 : kindOf m = some .local
    · rw [if_pos h1, if_pos h2, if_pos h1, if_pos h2]
      funext y
      by_cases a : y = n
      · rw [if_neg (fun z => h (a.symm.trans z)), if_pos a, if_pos a]
      · by_cases b : y = m
        · rw [if_pos b, if_neg a, if_pos b]
        · rw [if_neg b, if_neg a, if_neg a, if_neg b]
    · simp [h1, h2]
  · by_cases h2 : kindOf m = some .local
    · simp [h1, h2]
    · simp [h1, h2]
theorem bindC_swap {n m : Str} {v w : Value} (h : n ≠ m) (r : List (Str × Value)) (g : Str → Option Value) : bindC kindOf ((n, v) :: (m, w) :: r) g = bindC kindOf ((m, w) :: (n, v) :: r) g := by
  simp only [bindC]
  congr 1
  by_cases h1 : kindOf n = some .local
  · by_cases h2 : kindOf m = some .local
    · simp [h1, h2]
    · simp [h1, h2]
  · by_cases h2 : kindOf m = some .local
    · simp [h1, h2]
    · rw [if_neg h1, if_neg h2, if_neg h1, if_neg h2]
      funext y
      by_cases a : y = n
      · rw [if_neg (fun z => h (a.symm.trans z)), if_pos a, if_pos a]
      · by_cases b : y = m
        · rw [if_pos b, if_neg a, if_pos b]
        · rw [if_neg b, if_neg a, if_neg a, if_neg b]
theorem bindL_last {e : Str} {u : Value} : ∀ (l : List (Str × Value)) (g : Str → Option Value), (∀ x ∈ l, x.1 ≠ e) → bindL kindOf (l ++ [(e, u)]) g = bindL kindOf ((e, u) :: l) g
  | [], _, _ => rfl
  | (n, v) :: l, g, h => by
    rw [← bindL_swap (h _ (List.mem_cons_self ..)), List.cons_append]
    show bindL kindOf (l ++ [(e, u)]) _ = bindL kindOf ((e, u) :: l) _
    exact bindL_last l _ fun x hx => h x (List.mem_cons_of_mem _ hx)
theorem bindC_last {e : Str} {u : Value} : ∀ (l : List (Str × Value)) (g : Str → Option Value), (∀ x ∈ l, x.1 ≠ e) → bindC kindOf (l ++ [(e, u)]) g = bindC kindOf ((e, u) :: l) g
  | [], _, _ => rfl
  | (n, v) :: l, g, h => by
    rw [← bindC_swap (h _ (List.mem_cons_self ..)), List.cons_append]
    show bindC kindOf (l ++ [(e, u)]) _ = bindC kindOf ((e, u) :: l) _
    exact bindC_last l _ fun x hx => h x (List.mem_cons_of_mem _ hx)
end
/-- the last argument comes second -/
def lastSp (sp : Sp) : Sp := fun vs H Q E => ∃ (v0 va : V) (vs' : List V), vs = v0 :: (vs' ++ [va]) ∧ sp (v0 :: va :: vs') H Q E
section
variable {P : Program} {w : World} {K : PySem.W.Frag} {mg : Str → Option Value} {base : Heap}
theorem okL {x qual : Str} {st : Stmt} {f : Addr} {fd : FuncData} {N rest : List Str} {n0 e : Str} {k : Nat} {sp : Sp} (F : Fun K x qual st f fd) (S : FnScope N (n0 :: e :: rest) (defScope st)) (he : e ∉ rest) (len : ∀ vs H Q E, sp vs H Q E → vs.length = rest.length + 2)
    (hbody : ∀ (cdv : Value) (A : Around) (outer : List Env) (s : Shared) (H : Hp) (vs : List V) (Q : VK) (E : XK), Room k (A.deeper (envOfC qual (defScope st) s.heap.objs.size f cdv)) → sp vs H Q E →
      ∃ t, PSs (cxOf (L2.CX P w) P w K mg base N qual (defScope st) f cdv A outer s H E) (defBody st) t ∧ t { nx := fun _ H' => Q .non H', rt := Q } (start N vs) H) : FnOk P w K mg base (L2.CX P w) (k + 1) f fd (n0 :: (rest ++ [e])) (lastSp sp) := by
  obtain ⟨oc, od, kV, doc, pm, an, cdv, ct, osl, rfl, lk, hcd⟩ := F.ex
  refine ⟨fun vs H Q E ⟨v0, va, vs', ev, h⟩ => ?_, fun A outer s H args us vs Q E hr e0 hb r ⟨v0, va, vs', ev, hsp⟩ => ?_⟩
  · have := len _ _ _ _ h
    rw [ev]
    simp only [List.length_cons, List.length_append, List.length_nil] at this ⊢
    omega
  have hl := len _ _ _ _ hsp
  subst ev
  obtain ⟨u0, us', ua, rfl, q0, q1, q2⟩ : ∃ u0 us' ua, us = u0 :: (us' ++ [ua]) ∧ RelV v0 u0 ∧ Vals vs' us' ∧ RelV va ua := by
    cases r with
    | cons h0 hr =>
      rename_i u0 us1
      clear hb
      have : ∀ {vs : List V} {us : List Value}, Vals (vs ++ [va]) us → ∃ us' ua, us = us' ++ [ua] ∧ Vals vs us' ∧ RelV va ua := by
        intro vs
        induction vs with
        | nil =>
          intro us h
          cases h with
          | cons h1 h2 => cases h2; exact ⟨[], _, rfl, .nil, h1⟩
        | cons v vs ih =>
          intro us h
          cases h with
          | cons h1 h2 =>
            obtain ⟨us', ua, rfl, a, b⟩ := ih h2
            exact ⟨_ :: us', ua, rfl, .cons h1 a, b⟩
      obtain ⟨us', ua, rfl, a, b⟩ := this hr
      exact ⟨u0, us', ua, rfl, h0, a, b⟩
  have l1 : rest.length = us'.length := by
    have := q1.length
    simp only [List.length_cons] at hl
    omega
  have ez : (n0 :: (rest ++ [e])).zip (u0 :: (us' ++ [ua])) = (n0, u0) :: (rest.zip us' ++ [(e, ua)]) := by
    rw [List.zip_cons_cons, List.zip_append l1]
    rfl
  have ez2 : (n0 :: e :: rest).zip (u0 :: ua :: us') = (n0, u0) :: (e, ua) :: rest.zip us' := rfl
  have nm : ∀ x ∈ rest.zip us', x.1 ≠ e := fun x hx z => he (z ▸ (List.of_mem_zip (show (x.1, x.2) ∈ _ from hx)).1)
  have KX : K.In s.heap := e0.mod.kin.keeps fun b o e => (e0.bs b o e).1
  have lim : s.heap.NoLimit := e0.mod.nolimit.keeps fun b o e => (e0.bs b o e).1
  have hkind : ∀ y ∈ (n0 :: (rest ++ [e])).zip (u0 :: (us' ++ [ua])), (defScope st).names.lookup y.1 = some .local ∨ ((defScope st).names.lookup y.1 = some .cell ∧ ((cellsFrom (s.heap.objs.size + 1) (defScope st).names []).lookup y.1).isSome = true) := fun ⟨n, v⟩ hy => by
    have hm : n ∈ n0 :: e :: rest := by
      have := (List.of_mem_zip hy).1
      simp only [List.mem_cons, List.mem_append, List.not_mem_nil, or_false] at this ⊢
      rcases this with a | a | a
      · exact .inl a
      · exact .inr (.inr a)
      · exact .inr (.inl a)
    rcases S.par n hm with q | q
    · exact .inl q
    · exact .inr ⟨q, PySem.W.cellsFrom_some _ _ _ (.inl q)⟩
  refine codeAny_call_function hr.depth (KX _ _ lk) rfl S.co S.gen rfl (PySem.W.codeRec_of KX hcd) (hb _ _ _ _ ?_)
  refine wpAny_newFunctionEnv_cells S.kind hkind fun env hv s1 x => ?_
  subst hv
  refine ⟨lim.keeps x.toInCall.keep, codeAny_func ?_⟩
  obtain ⟨t, ht, hq⟩ := hbody cdv A outer s H (v0 :: va :: vs') Q E (hr.deeper _) hsp
  rw [ez] at x
  have x2 : InCallC s s.heap.objs.size (bindL (envOfC qual (defScope st) s.heap.objs.size f cdv).kindOf ((n0 :: e :: rest).zip (u0 :: ua :: us')) fun _ => none) (cellsFrom (s.heap.objs.size + 1) (defScope st).names []) (bindC (envOfC qual (defScope st) s.heap.objs.size f cdv).kindOf ((n0 :: e :: rest).zip (u0 :: ua :: us')) fun _ => none) s1 := by
    rw [ez2]
    have b1 : ∀ g, bindL (envOfC qual (defScope st) s.heap.objs.size f cdv).kindOf ((n0, u0) :: (rest.zip us' ++ [(e, ua)])) g = bindL (envOfC qual (defScope st) s.heap.objs.size f cdv).kindOf ((n0, u0) :: (e, ua) :: rest.zip us') g := fun g => bindL_last _ _ nm
    have b2 : ∀ g, bindC (envOfC qual (defScope st) s.heap.objs.size f cdv).kindOf ((n0, u0) :: (rest.zip us' ++ [(e, ua)])) g = bindC (envOfC qual (defScope st) s.heap.objs.size f cdv).kindOf ((n0, u0) :: (e, ua) :: rest.zip us') g := fun g => bindC_last _ _ nm
    rw [← b1, ← b2]
    exact x
  have I : Inv (cxOf (L2.CX P w) P w K mg base N qual (defScope st) f cdv A outer s H E) [] (start N (v0 :: va :: vs')) H s1 := inv_start S hr.hd e0 (by simpa using hl) (.cons q0 (.cons q2 q1)) x2
  refine wpAny_mono (ht.run [] s1 _ H _ I hq) (fun fl s' hs => ?_) fun e s' hs => hs
  have fin : ∀ {σ' : L2.St} {H' : Hp} {v : V} {u : Value}, Inv (cxOf (L2.CX P w) P w K mg base N qual (defScope st) f cdv A outer s H E) [] σ' H' s' → RelV v u → Q v H' → CE outer P w H s Q u s' :=
    fun {σ' H' v u} J rv q => ⟨v, H', J.os, J.bare, J.base, J.hok, rv, q⟩
  cases fl with
  | ret u =>
    obtain ⟨v, σ', H', J, rv, q⟩ := hs
    exact fin J rv q
  | next =>
    obtain ⟨σ', H', J, q⟩ := hs
    exact fin (v := V.non) (u := Value.none) J rfl q
  | brk =>
    obtain ⟨_, _, _, q⟩ := hs
    exact False.elim q
  | cont =>
    obtain ⟨_, _, _, q⟩ := hs
    exact False.elim q
end
end DL
/-! FnXL: a def whose last argument is a list that it may change and the caller keeps; its call with four arguments before the list. -/
namespace DL
open PySem PySem.Spec PyProof.Rows L2
section
variable {P : Program} {w : World} {K : PySem.W.Frag} {mg : Str → Option Value} {base : Heap}
theorem fn_XL {cls : Str → Value} {x qual : Str} {st : Stmt} {f : Addr} {fd : FuncData} {N rest : List Str} {n0 e : Str} {k : Nat} {body : FS} (F : Fun K x qual st f fd) (S : FnScope N (n0 :: e :: rest) (defScope st)) (he : e ∉ rest) (hn : rest.length + 2 ≤ N.length)
    (hbody : ∀ (cdv : Value) (A : Around) (outer : List Env) (s : Shared) (H H0 : Hp) (E : XK) (O : Addr → Prop) (a : Addr), Room k (A.deeper (envOfC qual (defScope st) s.heap.objs.size f cdv)) →
      Fx (cxOf (L2.CX P w) P w K mg base N qual (defScope st) f cdv A outer s H E) (xB H0 O E cls a) →
      DSs (cxOf (L2.CX P w) P w K mg base N qual (defScope st) f cdv A outer s H E) (xB H0 O E cls a) (defBody st) body) {nN : Nat} (eN : N.length = nN := by rfl) :
    FnOk P w K mg base (L2.CX P w) (k + 1) f fd (n0 :: (rest ++ [e])) (lastSp (spX K cls (rest.length + 2) (runX nN body))) := by
  subst eN
  refine okL F S he (fun vs H Q E h => ?_) (fun cdv A outer s H vs Q E hr h => ?_)
  · obtain ⟨O, a, v0, vs0, vs', d0, es, ds, e, _, _, hl, _, _, r, _⟩ := h
    rw [e, List.length_cons, List.length_cons, r.length, hl]
  · obtain ⟨O, a, v0, vs0, vs', d0, es, ds, e, ha, ho, hl, r0, r1, r, h⟩ := h
    subst e
    refine ⟨_, hbody cdv A outer s H H E O a hr ⟨rfl, takes_of rfl rfl rfl rfl, passes_of rfl, by have := hr.un; show (A.deeper (envOfC qual (defScope st) s.heap.objs.size f cdv)).units + 100 < cLine; omega⟩, ?_⟩
    have R : RS K (xB H O E cls a) H (initX N.length d0 es ds) (start N (v0 :: .ref a :: vs')) (fun j => if j = 1 then fun _ => a else o00 j) := init_rsX (b := xB H O E cls a) (by omega) ha rfl rfl r0 r1 r ho (fun _ _ z => z.elim)
    have fin : ∀ {d : PyData} {e : En}, Pz K (xB H O E cls a) (outX d e) (fun r => ∀ v H' vs1, Same (lessA H a) H' → H' a = some (.lst vs1) → RpA K H' (fun c => O c ∨ c = a) vs1 r.2 → Rp K H' (fun c => O c ∨ c = a) v r.1 → Q v H') →
        ∀ v σ' H' o', RS K (xB H O E cls a) H' e σ' o' → Rp K H' (Ex (xB H O E cls a) e o') v d → Q v H' := by
      intro d e h v σ' H' o' R' r'
      unfold outX at h
      split at h
      · rename_i es1 q
        obtain ⟨vs1, k1, k2, k3, k4⟩ := R'.own 1 _ q
        have ea := R'.pin a rfl _ q
        rw [ea] at k2
        have le : ∀ c, (O c ∨ c = a) → Ex (xB H O E cls a) e o' c := fun c z => by
          rcases z with z | z
          · exact .inl z
          · exact .inr ⟨1, _, [], q, rfl, by rw [ea, z]⟩
        exact h v H' vs1 R'.ext k2 (k3.less le) (r'.less le)
      · exact False.elim h
    refine ⟨_, _, R, (Pz.bind h).imp fun r _ h => ?_⟩
    cases r with
    | nx e => exact fun σ' H' o' R' p => fin h .non σ' H' o' R' .non
    | rtx d e => exact fun v σ' H' o' R' p r' => fin h v σ' H' o' R' r'
    | rt d => exact False.elim h
    | rto es => exact False.elim h
    | rtn d => exact False.elim h
    | bk e => exact False.elim h
    | ct e => exact False.elim h
def FnXL (P : Program) (w : World) (K : PySem.W.Frag) (mg : Str → Option Value) (base : Heap) (cls : Str → Value) (x : Str) (k : Nat) (ps : List Str) (g : FG) : Prop :=
  ∃ f fd, mg x = some (.ref f) ∧ FnOk P w K mg base (L2.CX P w) k f fd ps (lastSp (spX K cls ps.length g)) ∧ PySem.W.keepIn K (.ref f) = true ∧ ∀ us : List Value, us.length = ps.length → bindArgs fd ⟨us, []⟩ = pure (ps.zip us)
theorem FnXL.mk {cls : Str → Value} {x : Str} {st : Stmt} {N rest ps : List Str} {n0 e : Str} {k : Nat} {body : FS} (S : FnScope N (n0 :: e :: rest) (defScope st)) (ep : ps = n0 :: (rest ++ [e])) (he : e ∉ rest) (At : FnAt K mg x st)
    (hbody : ∀ (cdv : Value) (A : Around) (outer : List Env) (s : Shared) (H H0 : Hp) (E : XK) (O : Addr → Prop) (f a : Addr), Room k (A.deeper (envOfC x (defScope st) s.heap.objs.size f cdv)) →
      Fx (cxOf (L2.CX P w) P w K mg base N x (defScope st) f cdv A outer s H E) (xB H0 O E cls a) →
      DSs (cxOf (L2.CX P w) P w K mg base N x (defScope st) f cdv A outer s H E) (xB H0 O E cls a) (defBody st) body)
    (hb : ∀ (kV doc pm : Value) (an : Option Addr) (cdv ct : Value) (us : List Value), us.length = ps.length → bindArgs (PySem.W.fnOf x x (defArgs st) (defBody st) (defScope st) .none kV doc pm an cdv ct) ⟨us, []⟩ = pure (ps.zip us))
    {nN : Nat} (eN : N.length = nN := by rfl) (hn : rest.length + 2 ≤ N.length := by decide) : FnXL P w K mg base cls x (k + 1) ps (runX nN body) := by
  subst eN ep
  obtain ⟨f, fd, hm, F⟩ := At
  have q := fn_XL (cls := cls) F S he hn fun cdv A outer s H H0 E O a hr hF => hbody cdv A outer s H H0 E O f a hr hF
  have l : (n0 :: (rest ++ [e])).length = rest.length + 2 := by simp
  refine ⟨f, fd, hm, by rw [l]; exact q, F.kp, ?_⟩
  obtain ⟨oc, od, kV, doc, pm, an, cdv, ct, osl, rfl, lk, hcd⟩ := F.ex
  exact hb kV doc pm an cdv ct
end
section
variable {X : Cx} {b : Bs} {e0 e1 e2 e3 : Expr} {f0 f1 f2 f3 : FE} {L0 L1 L2 L3 : List Nat} {pos p py : Pos}
@[simp] def xCallXL (g : FG) (j : Nat) (f0 f1 f2 f3 : FE) (L : List Nat) (env : En) : Rz (PyData × En) := match (frees L env)[j]? with
  | some (Sl.own es) => (f0 env).bind fun d0 => (f1 env).bind fun d1 => (f2 env).bind fun d2 => (f3 env).bind fun d3 => (g d0 es [d1, d2, d3]).bind fun r => .ok (r.1, (frees L env).set j (Sl.own r.2))
  | _ => .st
theorem dx_fnXL {j k : Nat} {ps : List Str} {g : FG} {x y : Str} (F : Fx X b) (G : FnXL X.prog X.w X.K X.mg X.base b.cls x k ps g) (hr : Room k X.A) (hg : Gl X x) (h0 : DE X b e0 f0 L0) (h1 : DE X b e1 f1 L1) (h2 : DE X b e2 f2 L2) (h3 : DE X b e3 f3 L3) (hl : ps.length = 5 := by rfl)
    (hN : X.N[j]? = some y := by rfl) (hv : Vis X.env.scope y := by first | exact Or.inl rfl | exact Or.inr (Or.inl rfl) | exact Or.inr (Or.inr rfl)) (hdy : (y == ("__debug__" : Str)) = false := by decide) (hcd : (y == ("__classdict__" : Str)) = false := by decide)
    (hdb : (x == ("__debug__" : Str)) = false := by decide)
    (s0 : starEach [e0, e1, e2, e3, .Name y py] X.env = (false, eval e0 X.env) :: starEach [e1, e2, e3, .Name y py] X.env := by rfl) (s1 : starEach [e1, e2, e3, .Name y py] X.env = (false, eval e1 X.env) :: starEach [e2, e3, .Name y py] X.env := by rfl)
    (s2 : starEach [e2, e3, .Name y py] X.env = (false, eval e2 X.env) :: starEach [e3, .Name y py] X.env := by rfl) (s3 : starEach [e3, .Name y py] X.env = (false, eval e3 X.env) :: starEach [.Name y py] X.env := by rfl)
    (s4 : starEach [.Name y py] X.env = (false, eval (.Name y py) X.env) :: starEach [] X.env := by rfl)
    (hpl : (backTo pos (starEach [e1, e2, e3, .Name y py] X.env)).any (·.1) = false := by rfl) :
    DX X b (.Call (.Name x p) [e0, e1, e2, e3, .Name y py] [] pos) (xCallXL g j f0 f1 f2 f3 (L0 ++ (L1 ++ (L2 ++ L3)))) := by
  obtain ⟨f, fd, hm, G, hk, hb⟩ := G
  refine PE.wk (pe_callS G hr hg hm hk (.all hb) (fun σ => passAt (W := fun c d _ H => b.xw c d H) F.tk σ) (pa_cons h0 (pa_cons h1 (pa_cons h2 (pa_cons h3 (pa_cons (pe_var hN hv hdy hcd) pa_nil s4) s3) s2) s1) s0) hdb s0 hpl) fun σ H Q ⟨env, o, R, h⟩ => ?_
  unfold xCallXL at h
  split at h
  case h_2 => exact False.elim h
  rename_i es0 q
  refine ⟨env, o, R, h.bind.imp fun d0 q0 h v0 H1 s1 r0 => ?_⟩
  refine ⟨env, o, R.same s1, h.bind.imp fun d1 q1 h v1 H2 s2 r1 => ?_⟩
  refine ⟨env, o, (R.same s1).same s2, h.bind.imp fun d2 q2 h v2 H3 s3 r2 => ?_⟩
  refine ⟨env, o, ((R.same s1).same s2).same s3, h.bind.imp fun d3 q3 h v3 H4 s4 r3 => ?_⟩
  have sA : Same H H4 := ((s1.trans s2).trans s3).trans s4
  have R2 := (R.frees (L0 ++ (L1 ++ (L2 ++ L3)))).same sA
  obtain ⟨vs0, k1, k2, k3, k4⟩ := R2.own j es0 q
  have hD : H4 (o j []) = some (.lst vs0) := k2
  generalize hE : frees (L0 ++ (L1 ++ (L2 ++ L3))) env = env1 at *
  have exa : Ex b env1 o (o j []) := .ow q
  have exl : ∀ c, Ex b env1 o c → Ex b (frees L0 env) o c ∧ Ex b (frees L1 env) o c ∧ Ex b (frees L2 env) o c ∧ Ex b (frees L3 env) o c := fun c z => by
    rw [← hE] at z
    have a0 := ex_frees_app z
    have a1 := ex_frees_app a0.2
    have a2 := ex_frees_app a1.2
    exact ⟨a0.1, a1.1, a2.1, a2.2⟩
  refine ⟨_, k1, v0, .ref (o j []), [v1, v2, v3], rfl, ?_⟩
  have dom : ∀ c, (Ex b env1 o c ∧ c ≠ o j []) → ∃ u, lessA H4 (o j []) c = some u := fun c z => by
    obtain ⟨u, hu⟩ := R2.dom z.1
    refine ⟨u, ?_⟩
    unfold lessA
    rw [if_neg z.2]; exact hu
  have b0 : b.H0 (o j []) = none := k4
  have sB : Same b.H0 (lessA H4 (o j [])) := lessA_of b0 R2.ext
  refine ⟨fun c => Ex b env1 o c ∧ c ≠ o j [], o j [], v0, vs0, [v1, v2, v3], d0, es0, [d1, d2, d3], rfl, hD, dom, by rw [hl]; rfl, ?_, ?_, ?_, ?_⟩
  · exact Rp.moveA (keep_cut hD exa) (fun c z => .inl z.1) _ _ k3
  · exact Rp.move (keep_cut hD (exl _ exa).1) (fun c z => .inl (exl _ z.1).1) _ _ (((r0.same s2).same s3).same s4)
  · exact .cons (Rp.move (keep_cut hD (exl _ exa).2.1) (fun c z => .inl (exl _ z.1).2.1) _ _ ((r1.same s3).same s4)) (.cons (Rp.move (keep_cut hD (exl _ exa).2.2.1) (fun c z => .inl (exl _ z.1).2.2.1) _ _ (r2.same s4)) (.cons (Rp.move (keep_cut hD (exl _ exa).2.2.2) (fun c z => .inl (exl _ z.1).2.2.2) _ _ r3) .nil))
  · refine pz_pin (pz_call sB (fun _ _ _ z => z) h.bind fun r h v H' vs1 s5 hD3 r5 rv => ?_)
    have s23 : Same H4 (upd H' (o j []) (.lst vs0)) := fun c u e => by
      by_cases hc : c = o j []
      · rw [hc] at e ⊢
        rw [upd_same]; rw [hD] at e; exact e
      · rw [upd_ne hc]
        refine s5 _ _ ?_
        unfold lessA
        rw [if_neg hc]; exact e
    have kp : Keep (fun c => (Ex b env1 o c ∧ c ≠ o j []) ∨ c = o j []) H' (upd H' (o j []) (.lst vs0)) := fun c u e z => by
      by_cases hc : c = o j []
      · subst hc
        rw [hD3] at e; cases e
        rcases z with z | z
        · exact absurd True.intro z
        · exact absurd (.inr rfl) z
      · rw [upd_ne hc]; exact e
    have le : ∀ c, Ex b env1 o c → ((Ex b env1 o c ∧ c ≠ o j []) ∨ c = o j []) := fun c z => by
      by_cases hc : c = o j []
      · exact .inr hc
      · exact .inl ⟨z, hc⟩
    have R3 := R2.same s23
    obtain ⟨R4, kp4, le4⟩ := R3.updOwn q (Rp.moveA kp (fun c z => .inl (le c z)) _ _ r5)
    have eH : upd (upd H' (o j []) (.lst vs0)) (o j []) (.lst vs1) = H' := by
      funext c
      by_cases hc : c = o j []
      · rw [hc, upd_same, hD3]
      · rw [upd_ne hc, upd_ne hc]
    rw [eH] at R4 kp4
    refine h v H' o R4 ?_ (rv.less fun c z => le c (le4 c z))
    have p1 : Per X.K H (Ex b env o) H4 (Ex b env1 o) := .same sA fun c z => .inl (by rw [← hE] at z; exact ex_frees z)
    exact p1.trans ((Per.same s23 fun c z => .inl z).trans (.keep kp4 le4))
end
end DL
/-! xs[i] = v and a[i], where v (i) changes slots on the way. -/
namespace DL
open PySem PySem.Spec PyProof.Rows L2
section
variable {X : Cx} {b : Bs} {e e1 e2 : Expr} {x1 x2 fx : FX} {pos : Pos}
theorem dx_ixA (F : Fx X b) (h1 : DX X b e1 x1) (h2 : DX X b e2 x2) (hs : PlainIx e2 := by exact fun _ _ => rfl) : DX X b (.Subscript e1 e2 pos) (x2D gIxA x1 x2) :=
  PE.wk (pe_ix (ix_seq.or (ix_dct F.un1)) h1 h2 hs) fun σ H Q ⟨env, o, R, h⟩ => ⟨env, o, R, h.bind.imp fun r1 _ h v1 H1 o1 R1 p1 q1 => ⟨r1.2, o1, R1, h.bind.imp fun r2 _ h v2 H2 o2 R2 p2 q2 => by
    obtain ⟨d, e, h⟩ := h.bind.of
    exact opb_ixA H2 (Ex b r2.2 o2) v1 v2 _ _ d Q (fun a z => R2.dom z) (.inl (p2 _ _ q1)) (.inl q2) e fun v H' s r => h v H' o2 (R2.same s) ((p1.trans p2).trans (.same s fun a z => .inl z)) r⟩⟩
@[simp] def sSetIxX (i : Nat) (fi : FE) (f : FX) (env : En) : Rz Rs := (f env).bind fun r => match r.2[i]? with
  | some (.own ds) => (fi r.2).bind fun k => match k with
    | .int k => match ixN ds.length k with
      | some j => .ok (.nx (r.2.set i (Sl.own (ds.set j r.1))))
      | none => .st
    | _ => .st
  | _ => .st
theorem ds_setIxX {i : Nat} {x : Str} {pn p2 : Pos} {fi : FE} {ei : Expr} (he : DX X b e fx) (hx : DE X b ei fi []) (hN : X.N[i]? = some x := by rfl) (hv : Vis X.env.scope x := by first | exact Or.inl rfl | exact Or.inr (Or.inl rfl) | exact Or.inr (Or.inr rfl)) (hd : (x == ("__debug__" : Str)) = false := by decide) (hcd : (x == ("__classdict__" : Str)) = false := by decide)
    (ha : ∀ v, assign (.Subscript (.Name x pn) ei p2) X.env v = (do
      let ov ← holding [v] (eval (.Name x pn) X.env)
      let iv ← holding [v, ov] (eval ei X.env)
      standAt p2
      holding [v, ov, iv] (setItem ov iv v)
      release [v, ov, iv] []) := by intro _; rfl)
    (hs : swapsWithSole [.Subscript (.Name x pn) ei p2] e pos.line X.env = pure false := by rfl) (hw : swappedStores [.Subscript (.Name x pn) ei p2] e X.env = pure none := by rfl)
    (h1 : (assignEach [.Subscript (.Name x pn) ei p2] X.env).map (·.2) = [assign (.Subscript (.Name x pn) ei p2) X.env] := by rfl) :
    DS X b (.Assign [.Subscript (.Name x pn) ei p2] e pos) (sSetIxX i fi fx) :=
  PS.wk (ps_asg he (pg_sub (pe_var hN hv hd hcd) hx set_list ha) hs hw h1) fun D σ H ⟨env, o, R, h⟩ => ⟨env, o, R, h.bind.imp fun r _ h v H1 o1 R1 p1 r1 => by
  split at h
  · rename_i ds q
    obtain ⟨ws, k1, k2, k3, k4⟩ := R1.own i ds q
    refine ⟨.ref (o1 i []), k1, r.2, o1, R1, h.bind.imp fun k _ h w H2 s2 r2 => ?_⟩
    cases k with
    | int kk =>
      replace h : Pz X.K b (match ixN ds.length kk with | some j => Rz.ok (Rs.nx (r.2.set i (Sl.own (ds.set j r.1)))) | none => Rz.st) (Post X.K b H (Ex b env o) D) := h
      split at h
      · rename_i j qj
        have R2 := R1.same s2
        obtain ⟨xs, m1, m2, m3, m4⟩ := R2.own i ds q
        obtain ⟨R3, kp, le⟩ := R2.updOwn q (m3.set (r1.same s2) j)
        refine ⟨o1 i [], xs, kk, j, rfl, r2.int_of, m2, by rw [m3.length]; exact qj, h _ _ o1 R3 ((p1.trans (.same s2 fun a z => .inl z)).trans (.keep kp le))⟩
      · exact False.elim h
    | _ => exact False.elim h
  · exact False.elim h⟩
end
end DL
/-! try .. except X, without a name; what is the def's own is frozen before; the suite returns and reads no slot. -/
namespace DL
open PySem PySem.Spec PyProof.Rows L2
def sTryO (N : Nat) (L : List Nat) (g : FS) (cat : Str → Option Bool) (sx : FS) (env : En) : Rz Rs :=
  if noOwns (frees L env) = true then match g (frees L env) with
    | .ok r => .ok r
    | .st => .st
    | .ex x => match x.2, cat x.1 with
      | none, some true => match sx (List.replicate N Sl.no) with
        | .ok (.rt d) => .ok (.rt d)
        | _ => .st
      | none, some false => .ex x
      | _, _ => .st
  else .st
section
variable {X : Cx} {b : Bs}
theorem ds_tryO {xc : Str} {cat : Str → Option Bool} {body suite : List Stmt} {b₀ : Stmt} {g sx : FS} {np pos pos' : Pos} {L : List Nat} (F : Fx X b) (hs : X.stack = X.env :: X.outer) (hf : X.env.frame = some X.env.locals)
    (E : ∃ c, X.mg xc = some c ∧ ∀ y v, cat y = some v → PySem.W.exmOne X.K (b.cls y) c = some v) (hgx : Gl X xc)
    (hb : ∀ (pn : List (Addr × Obj)) (xe : Value → Shared → Prop) (b' : Bs), b'.cls = b.cls → Fx (X.tr pn xe) b' → DSs (X.tr pn xe) b' body g)
    (hsu : ∀ (a : Addr) (oe : Obj) (pn : List (Addr × Obj)) (b2 : Bs), (∃ vs, oe.data = .fields vs) → DSs (X.suite a ((a, oe) :: pn)) b2 (b₀ :: suite) sx)
    (hdb : (xc == ("__debug__" : Str)) = false := by decide) {N : Nat} (eN : X.N.length = N := by rfl) :
    DS X b (.Try body [.ExceptHandler (some (.Name xc np)) none (b₀ :: suite) pos'] [] [] pos) (sTryO N L g cat sx) := by
  obtain ⟨c, hm, hcat⟩ := E
  subst eN
  refine PS.wk (ps_try_only (tb := fun W D σ H => ∃ b' : Bs, b'.cls = b.cls ∧ (∀ c d σ H, σ.length = X.N.length → b'.xw c d H → W c d σ H) ∧ tDS X.K b' g D σ H)
    (ts := fun a cls d D σ H => ∃ (b2 : Bs), d = none ∧ tDS X.K b2 sx D σ H)
    (Wout := fun c d _ H => b.xw c d H) hs hf ⟨hgx, hdb, .inl hm⟩ F.tk
    (fun W pn xe tk hp => ⟨fun pins s σ H Q I ⟨b', e, hW, q⟩ => (hb pn xe b' e ⟨F.calm, Takes.len tk hW, hp, F.u⟩).run pins s σ H Q I q⟩)
    (fun a oe cls d pn hz hd => ⟨fun pins s σ H Q I ⟨b2, ed, q⟩ => (hsu a oe pn b2 hd).run pins s σ H Q I q⟩)) fun D σ H ⟨env0, o, R0, h⟩ => ?_
  unfold sTryO at h
  have p1 : Per X.K H (Ex b env0 o) H (Ex b (frees L env0) o) := per_frees (.refl H) fun a z => z
  have R := R0.frees L
  replace h := h.imp fun r _ q => Post.chain p1 q
  generalize frees L env0 = env at *
  split at h
  case isFalse => exact False.elim h
  rename_i hno
  refine ⟨tryB b H fun c' d H' => ∀ σ', σ'.length = X.N.length → wOnly X.K c (fun a cls d D σ H => ∃ (b2 : Bs), d = none ∧ tDS X.K b2 sx D σ H) (fun c d _ H => b.xw c d H) D c' d σ' H', rfl, fun c d σ H hl q => q σ hl, env, o, R.tryIn hno, ?_⟩
  cases q : g env with
  | st => rw [q] at h; exact False.elim h
  | ok r =>
    rw [q] at h
    replace h : Post X.K b H (Ex b env o) D r := h
    show Post X.K (tryB b H _) H (Ex b env o) D r
    have co : ∀ {Nn : L2.St → Hp → Prop} {e' : En}, Cont X.K b H (Ex b env o) Nn e' → Cont X.K (tryB b H fun c' d H' => ∀ σ', σ'.length = X.N.length → wOnly X.K c (fun a cls d D σ H => ∃ (b2 : Bs), d = none ∧ tDS X.K b2 sx D σ H) (fun c d _ H => b.xw c d H) D c' d σ' H') H (Ex b env o) Nn e' :=
      fun k σ' H' o' R' p => k σ' H' o' (R.tryOut R') p
    cases r with
    | nx e => exact co h
    | bk e => exact co h
    | ct e => exact co h
    | rt d => exact fun v H' s r => h v H' (R.ext.trans s) r
    | rto ds => exact fun a vs H' s hn ha r => h a vs H' (R.ext.trans s) (R.ext.free hn) ha r
    | rtn d => exact fun a H' s hn c => h a H' (R.ext.trans s) (R.ext.free hn) c
    | rtx d e => exact fun v σ' H' o' R' p r => h v σ' H' o' (R.tryOut R') p r
  | ex x =>
    rw [q] at h
    obtain ⟨y, pl⟩ := x
    cases pl with
    | some fd => exact False.elim (by cases qc : cat y with | none => simpa [qc, Pz] using h | some v => cases v <;> simpa [qc, Pz] using h)
    | none =>
      show ∀ H', Same H H' → _
      intro H' s' σ' hl
      cases qc : cat y with
      | none => exact False.elim (by simpa [qc, Pz] using h)
      | some v =>
        refine ⟨v, hcat y v qc, fun hv a ha => ?_, fun hv => ?_⟩
        · subst hv
          have R0 : RS X.K (⟨H', b.O0, fun _ _ _ => False, b.cls, none, noBq⟩ : Bs) H' (List.replicate X.N.length Sl.no) σ' o00 := RS.base (b := ⟨H', b.O0, fun _ _ _ => False, b.cls, none, noBq⟩) (by rw [List.length_replicate]; exact hl.symm) (fun c z => by
              obtain ⟨u, hu⟩ := R.dom (.inl z)
              exact ⟨u, s' _ _ hu⟩) (fun _ _ z => z.elim) (fun j z e => by
              rw [List.getElem?_replicate] at e
              split at e
              · cases e; exact .inl rfl
              · cases e)
          refine ⟨⟨H', b.O0, fun _ _ _ => False, b.cls, none, noBq⟩, rfl, List.replicate X.N.length Sl.no, o00, R0, ?_⟩
          have h' : Pz X.K b (match sx (List.replicate X.N.length Sl.no) with | .ok (.rt d) => .ok (.rt d) | _ => .st) (Post X.K b H (Ex b env o) D) := by simpa [qc] using h
          cases q3 : sx (List.replicate X.N.length Sl.no) with
          | st => rw [q3] at h'; exact False.elim h'
          | ex z => rw [q3] at h'; exact False.elim h'
          | ok r =>
            rw [q3] at h'
            cases r with
            | rt d => exact fun v H'' s'' r => h' v H'' ((R.ext.trans s').trans s'') r
            | nx e => exact False.elim h'
            | bk e => exact False.elim h'
            | ct e => exact False.elim h'
            | rto ds => exact False.elim h'
            | rtn d => exact False.elim h'
            | rtx d e => exact False.elim h'
        · subst hv
          have h' : Pz X.K b (.ex (y, none) : Rz Rs) (Post X.K b H (Ex b env o) D) := by simpa [qc] using h
          exact h' H' (R.ext.trans s')
end
end DL
namespace My
open PySem PySem.Spec PyProof.Rows L2 DL
def top (i : Nat) : Stmt := PySem.Challenge.pw_ramet_k15_words_that_tell_apart.main.body.getD i (.Pass ⟨0, 0, 0, 0⟩)

/-- where the classes stand -/
class Cs where
  Machine : Nat
section
variable [Cs]
def tc_BadMachine (y : Str) : Option Bool := List.lookup y [("BadMachine", true), ("BadWord", false)]
noncomputable def nb_in60 : FS := sIf (tAndD (c2t (gCmp fun i j => decide (j < i)) (cV 4) (cC (.int 0))) (c2t (gCmp fun i j => decide (i < j)) (c1 gLenA (cL 2)) (cV 1))) (sSeq (sApp 2 (c2 (gI kMod) (cV 4) (cC (.int 1000))) [])
    (sSet 4 (c2 (gI kDiv) (cV 4) (cC (.int 1000))) [])) sNil
noncomputable def nb_in5 : FS := sSeq (sSet 6 (c2 (gI kMod) (c1 gInt (c2 gAddE (c2 gAddE (c2 gAddE (c2 gMulZ (cV 4) (cC (.int 48271))) (c2 gMulZ (cV 3) (cC (.int 69621)))) (c2 gMulZ (cV 5) (cC (.int 16807)))) (cC (.int 11)))) (cC (.int 2147483647))) [])
    (sSeq (sSet 6 (c2 (gI kMod) (c1 gInt (c2 gAddE (c2 gMulZ (cV 6) (cV 6)) (cV 5))) (cC (.int 2147483629))) [])
    (sApp 2 (c2 (gI kMod) (c2 (gI kDiv) (cV 6) (cC (.int 7))) (cC (.int 1000))) []))
noncomputable def nb_out : FS := sSeq (sSet 4 (c1 gAbs (c2 gIxA (cV 0) (cV 3))) [])
    (sIf (c2t (gCmp fun i j => decide (j ≤ i)) (cV 4) (c2 (gI kPow) (cC (.int 10)) (cC (.int 18)))) (sFor (gNm 5) (iR1 (cC (.int 60))) [] nb_in60) (sFor (gNm 5) (iR1 (cC (.int 5))) [] nb_in5))
noncomputable abbrev _law_numbers_b : FS := sSeq (sSetO 2 (cLst aNil) [])
    (sSeq (sFor (gNm 3) (iR1 (c1 gLenA (cV 0))) [] nb_out)
    (sRetO (oSl (cL 2) pNo (pSo (cV 1)))))
noncomputable def _law_numbers_f : FF := runF 7 _law_numbers_b
noncomputable abbrev _law_take_b : FS := sSeq (sIf (c2t (gCmp fun i j => decide (i < j)) (c2 gIxA (cL 1) (cC (.int 0))) (c1 gLenA (cV 0))) (sSeq (sSetM 1 (cC (.int 0)) (c2 gAddE (c2 gIxA (cL 1) (cC (.int 0))) (cC (.int 1))) [])
    (sRetX (xOf (c2 gIxA (cV 0) (c2 (gI kSub) (c2 gIxA (cL 1) (cC (.int 0))) (cC (.int 1)))) []))) sNil)
    (sRetX (xOf (cC (.int 0)) []))
noncomputable def _law_take_f : FG := runX 2 _law_take_b
noncomputable abbrev _law_word_b : FS := sSeq (sSet 2 (cTup aNil) [])
    (sSeq (sFor (gNm 3) (iR1 (cV 1)) [] (sSeq (sSet 2 (c2 gAddE (cTup (aCons (c2 (gI kMod) (cV 0) (cC (.int 2))) aNil)) (cV 2)) [])
    (sSet 0 (c2 (gI kDiv) (cV 0) (cC (.int 2))) [])))
    (sRet (cV 2)))
noncomputable def _law_word_f : FF := runF 4 _law_word_b
noncomputable abbrev _law_words_b : FS := sSeq (sSet 1 (fun env => ((cLst (aCons (cTup aNil) aNil)) env).bind fun ds => .ok (.list ds)) [])
    (sSeq (sFor (gNm 2) (iR1 (cV 0)) [] (sSeq (sSetO 3 (cLst aNil) [])
    (sSeq (sFor (gNm 4) (iAny (cV 1)) [] (sSeq (sApp 3 (c2 gAddE (cV 4) (cTup (aCons (cC (.int 0)) aNil))) [])
    (sApp 3 (c2 gAddE (cV 4) (cTup (aCons (cC (.int 1)) aNil))) [])))
    (sSet 1 (cL 3) [3]))))
    (sRet (cV 1)))
noncomputable def _law_words_f : FF := runF 5 _law_words_b
noncomputable def rw_in : FS := sSeq (sSetX 8 (x2D gAddE (xCallX _law_take_f 1 (cV 0) [] aNil []) (xOf (c2 gMulZ (c2 gMulZ (cC (.int 7)) (cV 7)) (c2 (gI kMod) (cV 6) (cC (.int 2)))) [])))
    (sSeq (sSet 9 (c2 (gI kMod) (cV 8) (cV 2)) [])
    (sSeq (sSet 10 (cCall _law_word_f (aCons (c2 (gI kMod) (c2 (gI kDiv) (cV 8) (cC (.int 8))) (c1 gLenA (cCall _law_words_f (aCons (cV 4) aNil)))) (aCons (cV 4) aNil))) [])
    (sSeq (sIf (tAndD (c2t gEqA (cV 6) (cC (.int 2))) (c2t gEqA (c2 (gI kMod) (c2 (gI kDiv) (cV 8) (cC (.int 64))) (cC (.int 2))) (cC (.int 0)))) (sSeq (sSet 10 (c2 gMulZ (cTup (aCons (cC (.int 0)) aNil)) (cV 4)) [])
    (sSet 9 (cC (.int 0)) [])) sNil)
    (sApp 5 (cTup (aCons (cV 9) (aCons (cV 10) aNil))) []))))
noncomputable def rw_b : FS := sIf (c2t (gCmp fun i j => decide (i < j)) (cV 7) (c2 gMulZ (cV 2) (c1 gLenA (cCall _law_words_f (aCons (cV 3) aNil))))) rw_in sNil
noncomputable abbrev _law_rows_b : FS := sSeq (sSetO 5 (cLst aNil) [])
    (sSeq (sSetX 6 (x2D (gI kMod) (xCallX _law_take_f 1 (cV 0) [] aNil []) (xOf (cC (.int 4)) [])))
    (sSeq (sFor (gNm 7) (iR1 (c2 gMulZ (cV 2) (c2 (gI kPow) (cC (.int 2)) (cC (.int 3))))) [] rw_b)
    (sRetX (xOf (cL 5) [5]))))
noncomputable def _law_rows_f : FG := runX 11 _law_rows_b
noncomputable def ch_b : FS := sSeq (sSetX 8 (x2D (gI kMod) (xCallX _law_take_f 1 (cV 4) [] aNil []) (xOf (c1 gLenA (cV 0)) [])))
    (sSetIxX 6 (cV 8) (xTup (xaCons (x2D (gI kMod) (xCallX _law_take_f 1 (cV 4) [] aNil []) (xOf (cV 2) [])) (xaCons (x2D gIxA (x2D gIxA (xOf (cV 0) []) (x2D (gI kMod) (xCallX _law_take_f 1 (cV 4) [] aNil []) (xOf (c1 gLenA (cV 0)) []))) (xOf (cC (.int 1)) [])) xaNil))))
noncomputable def ch_c : FS := sSeq (sSet 11 (c2 gIxA (cV 0) (c2 gAddE (c2 gMulZ (cV 10) (cV 3)) (cV 7))) [])
    (sSetM 6 (c2 gAddE (c2 gMulZ (c2 gIxA (cV 9) (cV 10)) (cV 3)) (cV 7)) (cTup (aCons (c2 gIxA (cV 9) (c2 gIxA (cV 11) (cC (.int 0)))) (aCons (c2 gIxA (cV 11) (cC (.int 1))) aNil))) [])
noncomputable def ch_3 : FS := sFor (gNm 10) (iR1 (cV 2)) [] (sFor (gNm 7) (iR1 (cV 3)) [] ch_c)
noncomputable def ch_2 : FS := sSeq (sSet 9 (c2 gAddE (fun env => ((cLst (aCons (cC (.int 0)) aNil)) env).bind fun ds => .ok (.list ds)) (fun env => ((oLc 7 (iR1 (c2 (gI kSub) (cV 2) (cC (.int 1)))) [] tYesD (c2 gAddE (cC (.int 1)) (c2 (gI kMod) (c2 gAddE (cV 7) (cC (.int 1))) (c2 (gI kSub) (cV 2) (cC (.int 1)))))) env).bind fun ds => .ok (.list ds))) [])
    ch_3
noncomputable def ch_1 : FS := sSeq (sSetO 6 (oList (cV 0)) [])
    (sSeq (sIf (c2t gEqA (cV 5) (cC (.int 0))) (sForX (gNm 7) (iX1 (x2D (gI kMod) (xCallX _law_take_f 1 (cV 4) [] aNil []) (xOf (cC (.int 3)) []))) ch_b) (sIf (tAndD (c2t gEqA (cV 5) (cC (.int 1))) (c2t (gCmp fun i j => decide (j < i)) (cV 2) (cC (.int 2)))) ch_2 sNil))
    (sRetX (xOf (cL 6) [6])))
noncomputable abbrev _law_changed_b : FS := sSeq (sSetX 5 (x2D (gI kMod) (xCallX _law_take_f 1 (cV 4) [] aNil []) (xOf (cC (.int 4)) [])))
    ch_1
noncomputable def _law_changed_f : FG := runX 12 _law_changed_b
noncomputable abbrev is_integer_b : FS := sRet (cAndD (cIsiA "int" (cV 0)) (c1 gNot (cIsiA "bool" (cV 0))))
noncomputable def is_integer_f : FF := runF 1 is_integer_b
noncomputable abbrev is_between_b : FS := sRet (cAndD (cCall is_integer_f (aCons (cV 0) aNil)) (fun env => (tCh (gCmp fun i j => decide (i ≤ j)) (gCmp fun i j => decide (i ≤ j)) (cV 1) (cV 0) (cV 2) env).bind fun c => .ok (.bool c)))
noncomputable def is_between_f : FF := runF 3 is_between_b
noncomputable def iw_b : FS := sIf (tNotD (tTru (cCall is_between_f (aCons (cV 2) (aCons (cC (.int 0)) (aCons (cC (.int 1)) aNil)))))) (sRet (cC (.bool false))) sNil
noncomputable abbrev is_word_b : FS := sSeq (sIf (tOrD (tNotD (tTru (cIsiA "tuple" (cV 0)))) (c2t gNeA (c1 gLenA (cV 0)) (cV 1))) (sRet (cC (.bool false))) sNil)
    (sSeq (sFor (gNm 2) (iAny (cV 0)) [] iw_b)
    (sRet (cC (.bool true))))
noncomputable def is_word_f : FF := runF 3 is_word_b
noncomputable abbrev _is_row_b : FS := sSeq (sIf (tOrD (tNotD (tTru (cIsiA "tuple" (cV 0)))) (c2t gNeA (c1 gLenA (cV 0)) (cC (.int 2)))) (sRet (cC (.bool false))) sNil)
    (sRet (cAndD (cCall is_between_f (aCons (c2 gIxA (cV 0) (cC (.int 0))) (aCons (cC (.int 0)) (aCons (c2 (gI kSub) (cV 1) (cC (.int 1))) aNil)))) (cCall is_word_f (aCons (c2 gIxA (cV 0) (cC (.int 1))) (aCons (cV 2) aNil)))))
noncomputable def _is_row_f : FF := runF 3 _is_row_b
noncomputable def init_b : FS := sIf (tNotD (tTru (cCall _is_row_f (aCons (cV 5) (aCons (cV 1) (aCons (cV 3) aNil)))))) (sRaise "BadMachine" (uOf (cC (.str "a row is not a pair of a state and an output word")))) sNil
noncomputable abbrev Machine_init_b : FI := gSeqI (sIf (tNotD (tTru (cCall is_between_f (aCons (cV 1) (aCons (cC (.int 1)) (aCons (cC (.int 8)) aNil)))))) (sRaise "BadMachine" (uOf (cC (.str "the number of states is out of range")))) sNil)
    (gSeqI (sIf (tNotD (tTru (cCall is_between_f (aCons (cV 2) (aCons (cC (.int 0)) (aCons (cC (.int 3)) aNil)))))) (sRaise "BadMachine" (uOf (cC (.str "the number of input bits is out of range")))) sNil)
    (gSeqI (sIf (tNotD (tTru (cCall is_between_f (aCons (cV 3) (aCons (cC (.int 1)) (aCons (cC (.int 3)) aNil)))))) (sRaise "BadMachine" (uOf (cC (.str "the number of output bits is out of range")))) sNil)
    (gSeqI (sIf (c2t gNeA (c1 gLenA (cBo 4)) (c2 (gI kShl) (cV 1) (cV 2))) (sRaise "BadMachine" (uOf (cC (.str "the table does not have one row for each state and input word")))) sNil)
    (gSeqI (sForB (gNm 5) 4 init_b)
    (gSt "states" (cV 1) []
    (gSt "inputs" (cV 2) []
    (gSt "outputs" (cV 3) []
    (gSt "_rows" (fun env => ((oList (cBo 4)) env).bind fun ds => .ok (.list ds)) []
    gI0))))))))
noncomputable def Machine_init_f : FMk := runI 6 [false, false, false, true] Machine_init_b
noncomputable abbrev _law_value_b : FS := sSeq (sSet 1 (cC (.int 0)) [])
    (sSeq (sFor (gNm 2) (iAny (cV 0)) [] (sSet 1 (c2 gAddE (c2 gMulZ (cC (.int 2)) (cV 1)) (cV 2)) []))
    (sRet (cV 1)))
noncomputable def _law_value_f : FF := runF 3 _law_value_b
noncomputable abbrev _law_step_b : FS := sRet (c2 gIxA (cV 0) (c2 gAddE (c2 gMulZ (cV 2) (c1 gLenA (cCall _law_words_f (aCons (cV 1) aNil)))) (cCall _law_value_f (aCons (cV 3) aNil))))
noncomputable def _law_step_f : FF := runF 4 _law_step_b
noncomputable def ll_e : FS := sSet 4 (cL 11) [11]
noncomputable def ll_c : FS := sSeq (sSet 12 (cTup (aCons (c2 gIxA (cCall _law_step_f (aCons (cV 0) (aCons (cV 2) (aCons (c2 gIxA (c2 gIxA (cV 7) (cC (.int 0))) (cC (.int 0))) (aCons (cV 8) aNil))))) (cC (.int 0))) (aCons (c2 gIxA (cCall _law_step_f (aCons (cV 1) (aCons (cV 2) (aCons (c2 gIxA (c2 gIxA (cV 7) (cC (.int 0))) (cC (.int 1))) (aCons (cV 8) aNil))))) (cC (.int 0))) aNil))) [])
    (sIf (c2t gNinA (cV 12) (cL 5)) (sSeq (sApp 5 (cV 12) [])
    (sApp 11 (cTup (aCons (cV 12) (aCons (c2 gAddE (c2 gIxA (cV 7) (cC (.int 1))) (cTup (aCons (cV 8) aNil))) aNil))) [])) sNil)
noncomputable def ll_w : FS := sSeq (sFor (gNm 7) (iAny (cV 4)) [] (sFor (gNm 8) (iAny (cV 3)) [] ll_c))
    ll_e
noncomputable def ll_2 : FS := sSeq (sSetO 11 (cLst aNil) [])
    ll_w
noncomputable def ll_b : FS := sSeq (sSet 9 (cCall _law_step_f (aCons (cV 0) (aCons (cV 2) (aCons (c2 gIxA (c2 gIxA (cV 7) (cC (.int 0))) (cC (.int 0))) (aCons (cV 8) aNil))))) [])
    (sSeq (sSet 10 (cCall _law_step_f (aCons (cV 1) (aCons (cV 2) (aCons (c2 gIxA (c2 gIxA (cV 7) (cC (.int 0))) (cC (.int 1))) (aCons (cV 8) aNil))))) [])
    (sIf (c2t gNeA (c2 gIxA (cV 9) (cC (.int 1))) (c2 gIxA (cV 10) (cC (.int 1)))) (sRet (c2 gAddE (c2 gIxA (cV 7) (cC (.int 1))) (cTup (aCons (cV 8) aNil)))) sNil))
noncomputable def ll_1 : FS := sSeq (sFor (gNm 6) (iR1 (cC (.int 65))) [] (sSeq (sFor (gNm 7) (iAny (cV 4)) [] (sFor (gNm 8) (iAny (cV 3)) [] ll_b))
    ll_2))
    (sRet (cC .none))
noncomputable abbrev _law_least_b : FS := sSeq (sSet 3 (cCall _law_words_f (aCons (cV 2) aNil)) [])
    (sSeq (sSet 4 (fun env => ((cLst (aCons (cTup (aCons (cTup (aCons (cC (.int 0)) (aCons (cC (.int 0)) aNil))) (aCons (cTup aNil) aNil))) aNil)) env).bind fun ds => .ok (.list ds)) [])
    (sSeq (sSetO 5 (cLst (aCons (cTup (aCons (cC (.int 0)) (aCons (cC (.int 0)) aNil))) aNil)) [])
    ll_1))
noncomputable def _law_least_f : FF := runF 13 _law_least_b
noncomputable abbrev all_words_b : FS := sSeq (sSet 1 (fun env => ((cLst (aCons (cTup aNil) aNil)) env).bind fun ds => .ok (.list ds)) [])
    (sSeq (sFor (gNm 2) (iR1 (cV 0)) [] (sSet 1 (fun env => ((oLc2 [3, 4] (gNw 3) (iAny (cV 1)) [] tYesD [4] (gNw 4) (iAny (cTup (aCons (cC (.int 0)) (aCons (cC (.int 1)) aNil)))) tYesD (c2 gAddE (cV 3) (cTup (aCons (cV 4) aNil)))) env).bind fun ds => .ok (.list ds)) []))
    (sRet (cV 1)))
noncomputable def all_words_f : FF := runF 5 all_words_b
noncomputable abbrev word_number_b : FS := sSeq (sSet 1 (cC (.int 0)) [])
    (sSeq (sFor (gNm 2) (iAny (cV 0)) [] (sSet 1 (c2 gAddE (c2 gMulZ (cC (.int 2)) (cV 1)) (cV 2)) []))
    (sRet (cV 1)))
noncomputable def word_number_f : FF := runF 3 word_number_b
noncomputable abbrev Machine_row_b : FS := sSeq (sIf (tNotD (tTru (cCall is_between_f (aCons (cV 1) (aCons (cC (.int 0)) (aCons (c2 (gI kSub) (c1 (gFld Cs.Machine "states") (cV 0)) (cC (.int 1))) aNil)))))) (sRaise "BadMachine" (uOf (cC (.str "there is no such state")))) sNil)
    (sSeq (sIf (tNotD (tTru (cCall is_word_f (aCons (cV 2) (aCons (c1 (gFld Cs.Machine "inputs") (cV 0)) aNil))))) (sRaise "BadWord" (uOf (cC (.str "an input word does not have the bits of the machine")))) sNil)
    (sRet (c2 gIxA (c1 (gFld Cs.Machine "_rows") (cV 0)) (c2 gAddE (c2 (gI kShl) (cV 1) (c1 (gFld Cs.Machine "inputs") (cV 0))) (cCall word_number_f (aCons (cV 2) aNil))))))
noncomputable def Machine_row_f : FF := runF 3 Machine_row_b
noncomputable def ea_e : FS := sSet 4 (cL 5) [5]
noncomputable def ea_b : FS := sSeq (sAsg (gTp 2 (gsCons (gNm 10) (gsCons (gNm 11) gsNil))) (cMeth Cs.Machine "row" Machine_row_f (cV 0) (aCons (cV 6) (aCons (cV 9) aNil))) [])
    (sSeq (sAsg (gTp 2 (gsCons (gNm 12) (gsCons (gNm 13) gsNil))) (cMeth Cs.Machine "row" Machine_row_f (cV 1) (aCons (cV 7) (aCons (cV 9) aNil))) [])
    (sSeq (sIf (c2t gNeA (cV 11) (cV 13)) (sRet (c2 gAddE (cV 8) (fun env => ((cLst (aCons (cV 9) aNil)) env).bind fun ds => .ok (.list ds)))) sNil)
    (sIf (c2t gNinA (cTup (aCons (cV 10) (aCons (cV 12) aNil))) (cL 3)) (sSeq (sSetM 3 (cTup (aCons (cV 10) (aCons (cV 12) aNil))) (cC (.bool true)) [])
    (sApp 5 (cTup (aCons (cV 10) (aCons (cV 12) (aCons (c2 gAddE (cV 8) (fun env => ((cLst (aCons (cV 9) aNil)) env).bind fun ds => .ok (.list ds))) aNil)))) [])) sNil)))
noncomputable def ea_f : FS := sFor (gNm 9) (iAny (cV 2)) [] ea_b
noncomputable def ea_w : FS := sSeq (sSetO 5 (cLst aNil) [])
    (sSeq (sFor (gTp 3 (gsCons (gNm 6) (gsCons (gNm 7) (gsCons (gNm 8) gsNil)))) (iAny (cV 4)) [] ea_f)
    ea_e)
noncomputable def ea_1 : FS := sSeq (sWhile (c2t (gCmp fun i j => decide (j < i)) (c1 gLenA (cV 4)) (cC (.int 0))) ea_w)
    (sRet (cC .none))
noncomputable def ea_0 : FS := sSeq (sSet 2 (cCall all_words_f (aCons (c1 (gFld Cs.Machine "inputs") (cV 0)) aNil)) [])
    (sSeq (sSetC 3 (cDisp (pCons (cTup (aCons (cC (.int 0)) (aCons (cC (.int 0)) aNil))) (cC (.bool true)) pNil)) [])
    (sSeq (sSet 4 (fun env => ((cLst (aCons (cTup (aCons (cC (.int 0)) (aCons (cC (.int 0)) (aCons (fun env => ((cLst aNil) env).bind fun ds => .ok (.list ds)) aNil)))) aNil)) env).bind fun ds => .ok (.list ds)) [])
    ea_1))
noncomputable abbrev equal_answers_b : FS := sSeq (sIf (tOrD (c2t gNeA (c1 (gFld Cs.Machine "inputs") (cV 0)) (c1 (gFld Cs.Machine "inputs") (cV 1))) (c2t gNeA (c1 (gFld Cs.Machine "outputs") (cV 0)) (c1 (gFld Cs.Machine "outputs") (cV 1)))) (sRaise "BadMachine" (uOf (cC (.str "the machines do not have the same numbers of bits")))) sNil)
    ea_0
noncomputable def equal_answers_f : FF := runF 14 equal_answers_b
noncomputable abbrev _law_same_b (_law_same_f : FF) : FS := sSeq (sIf (tTru (cIsiA "tuple" (cV 1))) (sSeq (sIf (tOrD (tNotD (tTru (cIsiA "tuple" (cV 0)))) (c2t gNeA (c1 gLenA (cV 0)) (c1 gLenA (cV 1)))) (sRet (cC (.bool false))) sNil)
    (sSeq (sFor (gNm 2) (iR1 (c1 gLenA (cV 1))) [] (sIf (tNotD (tTru (cCall _law_same_f (aCons (c2 gIxA (cV 0) (cV 2)) (aCons (c2 gIxA (cV 1) (cV 2)) aNil))))) (sRet (cC (.bool false))) sNil))
    (sRet (cC (.bool true))))) sNil)
    (sSeq (sIf (tTru (cIsiA "str" (cV 1))) (sRet (cAndD (cIsiA "str" (cV 0)) (c2 (bo gEqA) (cV 0) (cV 1)))) sNil)
    (sRet (cAndD (cIsiA "int" (cV 0)) (cAndD (c1 gNot (cIsiA "bool" (cV 0))) (c2 (bo gEqA) (cV 0) (cV 1))))))
noncomputable def _law_same_fr : Nat → FF
  | 0 => runF 3 sNever
  | n + 1 => runF 3 (_law_same_b (_law_same_fr n))
noncomputable abbrev _law_same_f : FF := _law_same_fr 3
noncomputable def lw_7 : FS := sSeq (sIf (c2t gIsN (cV 14) (cC .none)) (sRet (cAndD (c2 (bo gIsN) (cV 15) (cC .none)) (c2 (bo gIsN) (cCall equal_answers_f (aCons (cV 12) (aCons (cV 11) aNil))) (cC .none)))) sNil)
    (sRet (cAndD (cIsiA "list" (cV 15)) (cAndD (cCall _law_same_f (aCons (c1 gTuple (cV 15)) (aCons (cV 14) aNil))) (c2 (bo gEqA) (cCall equal_answers_f (aCons (cV 12) (aCons (cV 11) aNil))) (cV 15)))))
noncomputable def lw_6 : FS := sSeq (sSet 15 (cCall equal_answers_f (aCons (cV 11) (aCons (cV 12) aNil))) [])
    lw_7
noncomputable def lw_5 : FS := sSeq (sSet 14 (cCall _law_least_f (aCons (cL 7) (aCons (cV 8) (aCons (cV 4) aNil)))) [7])
    lw_6
noncomputable def lw_4 : FS := sSeq (sIf (c2t gEqA (c2 (gI kMod) (cV 6) (cC (.int 9))) (cC (.int 8))) (sSeq (sSet 13 (cMake Cs.Machine Machine_init_f (aCons (cC (.int 1)) (aCons (c2 gAddE (cV 4) (cC (.int 1))) (aCons (cV 5) (aCons (fun env => ((oRep (cLst (aCons (cTup (aCons (cC (.int 0)) (aCons (c2 gMulZ (cTup (aCons (cC (.int 0)) aNil)) (cV 5)) aNil))) aNil)) (c1 gLenA (cCall _law_words_f (aCons (c2 gAddE (cV 4) (cC (.int 1))) aNil)))) env).bind fun ds => .ok (.list ds)) aNil))))) [])
    (sSeq (sTryO 16 [2, 7] (sDrop (cCall equal_answers_f (aCons (cV 11) (aCons (cV 13) aNil))) []) tc_BadMachine (sRet (cC (.bool true))))
    (sRet (cC (.bool false))))) sNil)
    lw_5
noncomputable def lw_3 : FS := sSeq (sSet 11 (cMake Cs.Machine Machine_init_f (aCons (cV 3) (aCons (cV 4) (aCons (cV 5) (aCons (cL 7) aNil))))) [])
    (sSeq (sSet 12 (cMake Cs.Machine Machine_init_f (aCons (cV 3) (aCons (cV 4) (aCons (cV 5) (aCons (cV 8) aNil))))) [])
    lw_4)
noncomputable def lw_d : FS := sSeq (sSet 10 (c2 (gI kSub) (c2 (gI kSub) (c2 gMulZ (cC (.int 2)) (cV 3)) (cC (.int 1))) (c2 (gI kMod) (c2 (gI kDiv) (cV 6) (cC (.int 20))) (cC (.int 4)))) [])
    (sSet 8 (c2 gAddE (c2 gAddE (fun env => ((oSl (cL 7) pNo (pSo (cV 10))) env).bind fun ds => .ok (.list ds)) (fun env => ((cLst (aCons (cTup (aCons (c2 gIxA (c2 gIxA (cL 7) (cV 10)) (cC (.int 0))) (aCons (c2 gMulZ (cTup (aCons (c2 (gI kSub) (cC (.int 1)) (c2 gIxA (c2 gIxA (c2 gIxA (cL 7) (cV 10)) (cC (.int 1))) (cC (.int 0)))) aNil)) (cV 5)) aNil))) aNil)) env).bind fun ds => .ok (.list ds))) (fun env => ((oSl (cL 7) (pSo (c2 gAddE (cV 10) (cC (.int 1)))) pNo) env).bind fun ds => .ok (.list ds))) [])
noncomputable def lw_c : FS := sApp 7 (cTup (aCons (c2 (gI kMod) (c2 gAddE (c2 (gI kDiv) (cV 9) (cC (.int 2))) (c2 (gI kMod) (cV 9) (cC (.int 2)))) (cV 3)) (aCons (c2 gMulZ (cTup (aCons (c2 (gI kMod) (c2 (gI kDiv) (c2 gMulZ (c2 (gI kDiv) (cV 9) (cC (.int 2))) (cV 6)) (cC (.int 40))) (cC (.int 2))) aNil)) (cV 5)) aNil))) []
noncomputable def lw_b : FS := sSeq (sSet 3 (c2 gAddE (cC (.int 5)) (c2 (gI kMod) (c2 (gI kDiv) (cV 6) (cC (.int 5))) (cC (.int 4)))) [])
    (sSeq (sSet 4 (cC (.int 1)) [])
    (sSeq (sSetO 7 (cLst aNil) [])
    (sSeq (sFor (gNm 9) (iR1 (c2 gMulZ (cC (.int 2)) (cV 3))) [] lw_c)
    lw_d)))
noncomputable def lw_2 : FS := sSeq (sIf (c2t gEqA (c2 (gI kMod) (cV 6) (cC (.int 5))) (cC (.int 4))) lw_b sNil)
    lw_3
noncomputable def lw_1 : FS := sSeq (sIf (c2t gEqA (c2 (gI kMod) (cV 6) (cC (.int 5))) (cC (.int 0))) (sSetX 8 (xCallX _law_rows_f 2 (cV 1) [] (aCons (cV 3) (aCons (cV 4) (aCons (cV 5) aNil))) [])) sNil)
    lw_2
noncomputable abbrev law_b : FS := sSeq (sSet 1 (fun env => ((oCall _law_numbers_f (aCons (cV 0) (aCons (cC (.int 120)) aNil))) env).bind fun ds => .ok (.list ds)) [])
    (sSeq (sSetO 2 (cLst (aCons (cC (.int 0)) aNil)) [])
    (sSeq (sSetX 3 (x2D gAddE (xOf (cC (.int 1)) []) (x2D (gI kMod) (xCallX _law_take_f 2 (cV 1) [] aNil []) (xOf (cC (.int 4)) []))))
    (sSeq (sSetX 4 (x2D (gI kMod) (xCallX _law_take_f 2 (cV 1) [] aNil []) (xOf (cC (.int 3)) [])))
    (sSeq (sSetX 5 (x2D gAddE (xOf (cC (.int 1)) []) (x2D (gI kMod) (xCallX _law_take_f 2 (cV 1) [] aNil []) (xOf (cC (.int 2)) []))))
    (sSeq (sSetX 6 (xCallX _law_take_f 2 (cV 1) [] aNil []))
    (sSeq (sSetX 7 (xCallX _law_rows_f 2 (cV 1) [] (aCons (cV 3) (aCons (cV 4) (aCons (cV 5) aNil))) []))
    (sSeq (sSetX 8 (xCallXL _law_changed_f 2 (cL 7) (cV 3) (c1 gLenA (cCall _law_words_f (aCons (cV 4) aNil))) (cV 1) [7]))
    lw_1)))))))
noncomputable def law_f : FF := runF 16 law_b
/-- what the top has made -/
structure Txt (P : Program) (w : World) (K : PySem.W.Frag) (mg : Str → Option Value) (cls : Str → Value) : Prop where
  b_abs : mg "abs" = none
  b_bool : mg "bool" = none
  b_int : mg "int" = none
  b_isinstance : mg "isinstance" = none
  b_len : mg "len" = none
  b_list : mg "list" = none
  b_range : mg "range" = none
  b_str : mg "str" = none
  b_tuple : mg "tuple" = none
  g_MOST_INPUTS : ∃ t, mg "MOST_INPUTS" = some (.int 3 t)
  g_MOST_OUTPUTS : ∃ t, mg "MOST_OUTPUTS" = some (.int 3 t)
  g_MOST_STATES : ∃ t, mg "MOST_STATES" = some (.int 8 t)
  c_BadMachine : ∃ c, mg "BadMachine" = some c ∧ ∀ y v, tc_BadMachine y = some v → PySem.W.exmOne K (cls y) c = some v
  r_BadMachine : ErrAt K mg cls "BadMachine"
  r_BadWord : ErrAt K mg cls "BadWord"
  mg_Machine : mg "Machine" = some (.ref Cs.Machine)
  cl_Machine : Cls K Cs.Machine
  na_Machine__rows : NoAttr K Cs.Machine "_rows"
  na_Machine_inputs : NoAttr K Cs.Machine "inputs"
  na_Machine_outputs : NoAttr K Cs.Machine "outputs"
  na_Machine_states : NoAttr K Cs.Machine "states"
section
variable {P : Program} {w : World} {K : PySem.W.Frag} {mg : Str → Option Value} {base : Heap} {cls : Str → Value}
abbrev s__law_numbers : Stmt := top 20
theorem sc__law_numbers : FnScope ["script", "many", "numbers", "k", "cell", "j", "mixed"] ["script", "many"] (defScope s__law_numbers) := ⟨rfl, rfl, rfl, by decide +kernel, rfl, by decide +kernel, by decide +kernel⟩
theorem ok__law_numbers (T : Txt P w K mg cls) (At : FnAt K mg "_law_numbers" s__law_numbers) : Fn P w K mg base cls "_law_numbers" 1 ["script", "many"] _law_numbers_f := by
  refine Fn.mk (body := _law_numbers_b) sc__law_numbers At (fun cdv A outer s H E O f hr F => ?_) (fun _ _ _ _ _ _ us hl => match us, hl with | [_, _], _ => rfl)
  have sc := sc__law_numbers
  exact (dss_cons (ds_setO (i := 2) sc.nd (do_lst da_nil))
    (dss_cons (ds_for F (di_r1 (by rfl) T.b_range (de_b1 cad_lenA (call_len.or call_lenM) (by rfl) T.b_len bb_len (db_of (de_v 0)))) (dg_nm (i := 3) sc.nd) (dss_cons (ds_set (i := 4) sc.nd (de_b1 cad_abs call_abs (by rfl) T.b_abs bb_abs (db_of (de_ixA F (db_of (de_v 0)) (db_of (de_v 3))))))
    (dss_one (ds_if (dt_cmp op_ge opb_cmp rfl (db_of (de_v 4)) (db_of (de_op op_pow opd_pow de_int de_int))) (dss_one (ds_for F (di_r1 (by rfl) T.b_range de_int) (dg_nm (i := 5) sc.nd) (dss_one (ds_if (dt_w (dw_and (dt_cmp op_gt opb_cmp rfl (db_of (de_v 4)) (db_of de_int)) (dw_and1 (dt_cmp op_lt opb_cmp rfl (db_of (de_b1 cad_lenA (call_len.or call_lenM) (by rfl) T.b_len bb_len (db_v 2))) (db_of (de_v 1)))))) (dss_cons (ds_app (i := 2) (de_op op_mod opd_mod (de_v 4) de_int))
    (dss_one (ds_set (i := 4) sc.nd (de_op op_fdiv opd_div (de_v 4) de_int)))) dss_nil)))) (dss_one (ds_for F (di_r1 (by rfl) T.b_range de_int) (dg_nm (i := 5) sc.nd) (dss_cons (ds_set (i := 6) sc.nd (de_op op_mod opd_mod (de_t1 cad_int call_int1 (by rfl) T.b_int bb_int (db_of (de_op opr_addE opd_addE (de_op opr_addE opd_addE (de_op opr_addE opd_addE (de_op opr_mulZ opd_mulZ (de_v 4) de_int) (de_op opr_mulZ opd_mulZ (de_v 3) de_int)) (de_op opr_mulZ opd_mulZ (de_v 5) de_int)) de_int))) de_int))
    (dss_cons (ds_set (i := 6) sc.nd (de_op op_mod opd_mod (de_t1 cad_int call_int1 (by rfl) T.b_int bb_int (db_of (de_op opr_addE opd_addE (de_op opr_mulZ opd_mulZ (de_v 6) (de_v 6)) (de_v 5)))) de_int))
    (dss_one (ds_app (i := 2) (de_op op_mod opd_mod (de_op op_fdiv opd_div (de_v 6) de_int) de_int)))))))))))
    (dss_one (ds_retO (do_sl (db_v 2) dp_no (dp_so (de_v 1)))))))
abbrev s__law_take : Stmt := top 21
theorem sc__law_take : FnScope ["numbers", "place"] ["numbers", "place"] (defScope s__law_take) := ⟨rfl, rfl, rfl, by decide +kernel, rfl, by decide +kernel, by decide +kernel⟩
theorem ok__law_take (T : Txt P w K mg cls) (At : FnAt K mg "_law_take" s__law_take) : FnX P w K mg base cls "_law_take" 1 ["numbers", "place"] _law_take_f := by
  refine FnX.mk (body := _law_take_b) sc__law_take At (fun cdv A outer s H H0 E O f a hr F => ?_) (fun _ _ _ _ _ _ us hl => match us, hl with | [_, _], _ => rfl)
  have sc := sc__law_take
  exact (dss_cons (ds_if (dt_cmp op_lt opb_cmp rfl (db_of (de_ixA F (db_v 1) (db_of de_int))) (db_of (de_b1 cad_lenA (call_len.or call_lenM) (by rfl) T.b_len bb_len (db_of (de_v 0))))) (dss_cons (ds_setM (i := 1) F (de_op opr_addE opd_addE (de_ixA F (db_v 1) (db_of de_int)) de_int) de_int)
    (dss_one (ds_retX (dx_of (de_ixA F (db_of (de_v 0)) (db_of (de_op op_sub opd_sub (de_ixA F (db_v 1) (db_of de_int)) de_int))))))) dss_nil)
    (dss_one (ds_retX (dx_of de_int))))
abbrev s__law_word : Stmt := top 24
theorem sc__law_word : FnScope ["value", "bits", "word", "k"] ["value", "bits"] (defScope s__law_word) := ⟨rfl, rfl, rfl, by decide +kernel, rfl, by decide +kernel, by decide +kernel⟩
theorem ok__law_word (T : Txt P w K mg cls) (At : FnAt K mg "_law_word" s__law_word) : Fn P w K mg base cls "_law_word" 1 ["value", "bits"] _law_word_f := by
  refine Fn.mk (body := _law_word_b) sc__law_word At (fun cdv A outer s H E O f hr F => ?_) (fun _ _ _ _ _ _ us hl => match us, hl with | [_, _], _ => rfl)
  have sc := sc__law_word
  exact (dss_cons (ds_set (i := 2) sc.nd (de_tup da_nil))
    (dss_cons (ds_for F (di_r1 (by rfl) T.b_range (de_v 1)) (dg_nm (i := 3) sc.nd) (dss_cons (ds_set (i := 2) sc.nd (de_op opr_addE opd_addE (de_tup (da_cons (de_op op_mod opd_mod (de_v 0) de_int) da_nil)) (de_v 2)))
    (dss_one (ds_set (i := 0) sc.nd (de_op op_fdiv opd_div (de_v 0) de_int)))))
    (dss_one (ds_ret (de_v 2)))))
abbrev s__law_words : Stmt := top 22
theorem sc__law_words : FnScope ["bits", "found", "k", "longer", "word"] ["bits"] (defScope s__law_words) := ⟨rfl, rfl, rfl, by decide +kernel, rfl, by decide +kernel, by decide +kernel⟩
theorem ok__law_words (T : Txt P w K mg cls) (At : FnAt K mg "_law_words" s__law_words) : Fn P w K mg base cls "_law_words" 1 ["bits"] _law_words_f := by
  refine Fn.mk (body := _law_words_b) sc__law_words At (fun cdv A outer s H E O f hr F => ?_) (fun _ _ _ _ _ _ us hl => match us, hl with | [_], _ => rfl)
  have sc := sc__law_words
  exact (dss_cons (ds_set (i := 1) sc.nd (de_of (do_lst (da_cons (de_tup da_nil) da_nil))))
    (dss_cons (ds_for F (di_r1 (by rfl) T.b_range (de_v 0)) (dg_nm (i := 2) sc.nd) (dss_cons (ds_setO (i := 3) sc.nd (do_lst da_nil))
    (dss_cons (ds_for F (di_any (de_v 1)) (dg_nm (i := 4) sc.nd) (dss_cons (ds_app (i := 3) (de_op opr_addE opd_addE (de_v 4) (de_tup (da_cons de_int da_nil))))
    (dss_one (ds_app (i := 3) (de_op opr_addE opd_addE (de_v 4) (de_tup (da_cons de_int da_nil)))))))
    (dss_one (ds_set (i := 1) sc.nd (de_l 3))))))
    (dss_one (ds_ret (de_v 1)))))
abbrev s__law_rows : Stmt := top 25
theorem sc__law_rows : FnScope ["numbers", "place", "states", "inputs", "outputs", "rows", "style", "k", "number", "after", "output"] ["numbers", "place", "states", "inputs", "outputs"] (defScope s__law_rows) := ⟨rfl, rfl, rfl, by decide +kernel, rfl, by decide +kernel, by decide +kernel⟩
theorem ok__law_rows (T : Txt P w K mg cls) (At : FnAt K mg "_law_rows" s__law_rows) (G__law_take : FnX P w K mg base cls "_law_take" 1 ["numbers", "place"] _law_take_f) (G__law_word : Fn P w K mg base cls "_law_word" 1 ["value", "bits"] _law_word_f) (G__law_words : Fn P w K mg base cls "_law_words" 1 ["bits"] _law_words_f) : FnX P w K mg base cls "_law_rows" 2 ["numbers", "place", "states", "inputs", "outputs"] _law_rows_f := by
  refine FnX.mk (body := _law_rows_b) sc__law_rows At (fun cdv A outer s H H0 E O f a hr F => ?_) (fun _ _ _ _ _ _ us hl => match us, hl with | [_, _, _, _, _], _ => rfl)
  have sc := sc__law_rows
  exact (dss_cons (ds_setO (i := 5) sc.nd (do_lst da_nil))
    (dss_cons (ds_setX (i := 6) sc.nd (dx_op op_mod opd_mod (dx_fnX (j := 1) F G__law_take (hr.mono (by decide)) (by rfl) (de_v 0) da_nil len_nil) (dx_of de_int)))
    (dss_cons (ds_for F (di_r1 (by rfl) T.b_range (de_op opr_mulZ opd_mulZ (de_v 2) (de_op op_pow opd_pow de_int de_int))) (dg_nm (i := 7) sc.nd) (dss_one (ds_if (dt_cmp op_lt opb_cmp rfl (db_of (de_v 7)) (db_of (de_op opr_mulZ opd_mulZ (de_v 2) (de_b1 cad_lenA (call_len.or call_lenM) (by rfl) T.b_len bb_len (db_of (de_fn F G__law_words (hr.mono (by decide)) (by rfl) (da_cons (de_v 3) da_nil) (len_cons len_nil))))))) (dss_cons (ds_setX (i := 8) sc.nd (dx_op opr_addE opd_addE (dx_fnX (j := 1) F G__law_take (hr.mono (by decide)) (by rfl) (de_v 0) da_nil len_nil) (dx_of (de_op opr_mulZ opd_mulZ (de_op opr_mulZ opd_mulZ de_int (de_v 7)) (de_op op_mod opd_mod (de_v 6) de_int)))))
    (dss_cons (ds_set (i := 9) sc.nd (de_op op_mod opd_mod (de_v 8) (de_v 2)))
    (dss_cons (ds_set (i := 10) sc.nd (de_fn F G__law_word (hr.mono (by decide)) (by rfl) (da_cons (de_op op_mod opd_mod (de_op op_fdiv opd_div (de_v 8) de_int) (de_b1 cad_lenA (call_len.or call_lenM) (by rfl) T.b_len bb_len (db_of (de_fn F G__law_words (hr.mono (by decide)) (by rfl) (da_cons (de_v 4) da_nil) (len_cons len_nil))))) (da_cons (de_v 4) da_nil)) (len_cons (len_cons len_nil))))
    (dss_cons (ds_if (dt_w (dw_and (dt_cmp ((op_eqD F.un).or (op_eqM F.un1)) opb_eqA rfl (db_of (de_v 6)) (db_of de_int)) (dw_and1 (dt_cmp ((op_eqD F.un).or (op_eqM F.un1)) opb_eqA rfl (db_of (de_op op_mod opd_mod (de_op op_fdiv opd_div (de_v 8) de_int) de_int)) (db_of de_int))))) (dss_cons (ds_set (i := 10) sc.nd (de_op opr_mulZ opd_mulZ (de_tup (da_cons de_int da_nil)) (de_v 4)))
    (dss_one (ds_set (i := 9) sc.nd de_int))) dss_nil)
    (dss_one (ds_app (i := 5) (de_tup (da_cons (de_v 9) (da_cons (de_v 10) da_nil))))))))) dss_nil)))
    (dss_one (ds_retX (dx_of (de_l 5)))))))
abbrev s__law_changed : Stmt := top 30
theorem sc__law_changed : FnScope ["rows", "place", "states", "words", "numbers", "kind", "found", "k", "at", "order", "state", "row"] ["rows", "place", "states", "words", "numbers"] (defScope s__law_changed) := ⟨rfl, rfl, rfl, by decide +kernel, rfl, by decide +kernel, by decide +kernel⟩
theorem ok__law_changed (T : Txt P w K mg cls) (At : FnAt K mg "_law_changed" s__law_changed) (G__law_take : FnX P w K mg base cls "_law_take" 1 ["numbers", "place"] _law_take_f) : FnXL P w K mg base cls "_law_changed" 2 ["rows", "states", "words", "numbers", "place"] _law_changed_f := by
  refine FnXL.mk (body := _law_changed_b) sc__law_changed rfl (by decide +kernel) At (fun cdv A outer s H H0 E O f a hr F => ?_) (fun _ _ _ _ _ _ us hl => match us, hl with | [_, _, _, _, _], _ => rfl)
  have sc := sc__law_changed
  exact (dss_cons (ds_setX (i := 5) sc.nd (dx_op op_mod opd_mod (dx_fnX (j := 1) F G__law_take (hr.mono (by decide)) (by rfl) (de_v 4) da_nil len_nil) (dx_of de_int)))
    (dss_cons (ds_setO (i := 6) sc.nd (do_list (by rfl) T.b_list bb_list (db_of (de_v 0))))
    (dss_cons (ds_if (dt_cmp ((op_eqD F.un).or (op_eqM F.un1)) opb_eqA rfl (db_of (de_v 5)) (db_of de_int)) (dss_one (ds_forX F (dix_r1 (by rfl) T.b_range (dx_op op_mod opd_mod (dx_fnX (j := 1) F G__law_take (hr.mono (by decide)) (by rfl) (de_v 4) da_nil len_nil) (dx_of de_int))) (dg_nm (i := 7) sc.nd) (dss_cons (ds_setX (i := 8) sc.nd (dx_op op_mod opd_mod (dx_fnX (j := 1) F G__law_take (hr.mono (by decide)) (by rfl) (de_v 4) da_nil len_nil) (dx_of (de_b1 cad_lenA (call_len.or call_lenM) (by rfl) T.b_len bb_len (db_of (de_v 0))))))
    (dss_one (ds_setIxX (i := 6) (dx_tup (dxa_cons (dx_op op_mod opd_mod (dx_fnX (j := 1) F G__law_take (hr.mono (by decide)) (by rfl) (de_v 4) da_nil len_nil) (dx_of (de_v 2))) (dxa_cons (dx_ixA F (dx_ixA F (dx_of (de_v 0)) (dx_op op_mod opd_mod (dx_fnX (j := 1) F G__law_take (hr.mono (by decide)) (by rfl) (de_v 4) da_nil len_nil) (dx_of (de_b1 cad_lenA (call_len.or call_lenM) (by rfl) T.b_len bb_len (db_of (de_v 0)))))) (dx_of de_int)) dxa_nil))) (de_v 8)))))) (dss_one (ds_if (dt_w (dw_and (dt_cmp ((op_eqD F.un).or (op_eqM F.un1)) opb_eqA rfl (db_of (de_v 5)) (db_of de_int)) (dw_and1 (dt_cmp op_gt opb_cmp rfl (db_of (de_v 2)) (db_of de_int))))) (dss_cons (ds_set (i := 9) sc.nd (de_op opr_addE opd_addE (de_of (do_lst (da_cons de_int da_nil))) (de_of (do_lc (i := 7) F sc.nd (di_r1 (by rfl) T.b_range (de_op op_sub opd_sub (de_v 2) de_int)) lt_nil (fun _ _ _ _ _ _ _ F => (de_op opr_addE opd_addE de_int (de_op op_mod opd_mod (de_op opr_addE opd_addE (de_v 7) de_int) (de_op op_sub opd_sub (de_v 2) de_int)))) (by rfl) (fun _ _ _ _ _ => pg_name sc.nd (by rfl) (by first | exact .inl rfl | exact .inr rfl)) (by intro _; rfl)))))
    (dss_one (ds_for F (di_r1 (by rfl) T.b_range (de_v 2)) (dg_nm (i := 10) sc.nd) (dss_one (ds_for F (di_r1 (by rfl) T.b_range (de_v 3)) (dg_nm (i := 7) sc.nd) (dss_cons (ds_set (i := 11) sc.nd (de_ixA F (db_of (de_v 0)) (db_of (de_op opr_addE opd_addE (de_op opr_mulZ opd_mulZ (de_v 10) (de_v 3)) (de_v 7)))))
    (dss_one (ds_setM (i := 6) F (de_tup (da_cons (de_ixA F (db_of (de_v 9)) (db_of (de_ixA F (db_of (de_v 11)) (db_of de_int)))) (da_cons (de_ixA F (db_of (de_v 11)) (db_of de_int)) da_nil))) (de_op opr_addE opd_addE (de_op opr_mulZ opd_mulZ (de_ixA F (db_of (de_v 9)) (db_of (de_v 10))) (de_v 3)) (de_v 7)))))))))) dss_nil)))
    (dss_one (ds_retX (dx_of (de_l 6)))))))
abbrev s_is_integer : Stmt := top 6
theorem sc_is_integer : FnScope ["value"] ["value"] (defScope s_is_integer) := ⟨rfl, rfl, rfl, by decide +kernel, rfl, by decide +kernel, by decide +kernel⟩
theorem ok_is_integer (T : Txt P w K mg cls) (At : FnAt K mg "is_integer" s_is_integer) : Fn P w K mg base cls "is_integer" 1 ["value"] is_integer_f := by
  refine Fn.mk (body := is_integer_b) sc_is_integer At (fun cdv A outer s H E O f hr F => ?_) (fun _ _ _ _ _ _ us hl => match us, hl with | [_], _ => rfl)
  have sc := sc_is_integer
  exact (dss_one (ds_ret (de_and (de_isiA isiA_int (by rfl) T.b_isinstance bb_isinstance (by rfl) T.b_int bb_int (db_of (de_v 0))) (de_one (de_not (de_isiA isiA_bool (by rfl) T.b_isinstance bb_isinstance (by rfl) T.b_bool bb_bool (db_of (de_v 0))))))))
abbrev s_is_between : Stmt := top 7
theorem sc_is_between : FnScope ["value", "least", "most"] ["value", "least", "most"] (defScope s_is_between) := ⟨rfl, rfl, rfl, by decide +kernel, rfl, by decide +kernel, by decide +kernel⟩
theorem ok_is_between (T : Txt P w K mg cls) (At : FnAt K mg "is_between" s_is_between) (G_is_integer : Fn P w K mg base cls "is_integer" 1 ["value"] is_integer_f) : Fn P w K mg base cls "is_between" 2 ["value", "least", "most"] is_between_f := by
  refine Fn.mk (body := is_between_b) sc_is_between At (fun cdv A outer s H E O f hr F => ?_) (fun _ _ _ _ _ _ us hl => match us, hl with | [_, _, _], _ => rfl)
  have sc := sc_is_between
  exact (dss_one (ds_ret (de_and (de_fn F G_is_integer (hr.mono (by decide)) (by rfl) (da_cons (de_v 0) da_nil) (len_cons len_nil)) (de_one (de_ch op_le op_le opb_cmp opb_cmp (db_of (de_v 1)) (db_of (de_v 0)) (db_of (de_v 2)))))))
abbrev s_is_word : Stmt := top 9
theorem sc_is_word : FnScope ["value", "bits", "bit"] ["value", "bits"] (defScope s_is_word) := ⟨rfl, rfl, rfl, by decide +kernel, rfl, by decide +kernel, by decide +kernel⟩
theorem ok_is_word (T : Txt P w K mg cls) (At : FnAt K mg "is_word" s_is_word) (G_is_between : Fn P w K mg base cls "is_between" 2 ["value", "least", "most"] is_between_f) : Fn P w K mg base cls "is_word" 3 ["value", "bits"] is_word_f := by
  refine Fn.mk (body := is_word_b) sc_is_word At (fun cdv A outer s H E O f hr F => ?_) (fun _ _ _ _ _ _ us hl => match us, hl with | [_, _], _ => rfl)
  have sc := sc_is_word
  exact (dss_cons (ds_if (dt_w (dw_or (dt_not (dt_tru (db_of (de_isiA isiA_tuple (by rfl) T.b_isinstance bb_isinstance (by rfl) T.b_tuple bb_tuple (db_of (de_v 0)))))) (dw_or1 (dt_cmp ((op_neD F.un).or (op_neM F.un1)) opb_neA rfl (db_of (de_b1 cad_lenA (call_len.or call_lenM) (by rfl) T.b_len bb_len (db_of (de_v 0)))) (db_of (de_v 1)))))) (dss_one (ds_ret de_bl)) dss_nil)
    (dss_cons (ds_for F (di_any (de_v 0)) (dg_nm (i := 2) sc.nd) (dss_one (ds_if (dt_not (dt_tru (db_of (de_fn F G_is_between (hr.mono (by decide)) (by rfl) (da_cons (de_v 2) (da_cons de_int (da_cons de_int da_nil))) (len_cons (len_cons (len_cons len_nil))))))) (dss_one (ds_ret de_bl)) dss_nil)))
    (dss_one (ds_ret de_bl))))
abbrev s__is_row : Stmt := top 17
theorem sc__is_row : FnScope ["row", "states", "outputs"] ["row", "states", "outputs"] (defScope s__is_row) := ⟨rfl, rfl, rfl, by decide +kernel, rfl, by decide +kernel, by decide +kernel⟩
theorem ok__is_row (T : Txt P w K mg cls) (At : FnAt K mg "_is_row" s__is_row) (G_is_between : Fn P w K mg base cls "is_between" 2 ["value", "least", "most"] is_between_f) (G_is_word : Fn P w K mg base cls "is_word" 3 ["value", "bits"] is_word_f) : Fn P w K mg base cls "_is_row" 4 ["row", "states", "outputs"] _is_row_f := by
  refine Fn.mk (body := _is_row_b) sc__is_row At (fun cdv A outer s H E O f hr F => ?_) (fun _ _ _ _ _ _ us hl => match us, hl with | [_, _, _], _ => rfl)
  have sc := sc__is_row
  exact (dss_cons (ds_if (dt_w (dw_or (dt_not (dt_tru (db_of (de_isiA isiA_tuple (by rfl) T.b_isinstance bb_isinstance (by rfl) T.b_tuple bb_tuple (db_of (de_v 0)))))) (dw_or1 (dt_cmp ((op_neD F.un).or (op_neM F.un1)) opb_neA rfl (db_of (de_b1 cad_lenA (call_len.or call_lenM) (by rfl) T.b_len bb_len (db_of (de_v 0)))) (db_of de_int))))) (dss_one (ds_ret de_bl)) dss_nil)
    (dss_one (ds_ret (de_and (de_fn F G_is_between (hr.mono (by decide)) (by rfl) (da_cons (de_ixA F (db_of (de_v 0)) (db_of de_int)) (da_cons de_int (da_cons (de_op op_sub opd_sub (de_v 1) de_int) da_nil))) (len_cons (len_cons (len_cons len_nil)))) (de_one (de_fn F G_is_word (hr.mono (by decide)) (by rfl) (da_cons (de_ixA F (db_of (de_v 0)) (db_of de_int)) (da_cons (de_v 2) da_nil)) (len_cons (len_cons len_nil))))))))
abbrev s_Machine_init : Stmt := inClass (top 16) 0
theorem sc_Machine_init : FnScope ["self", "states", "inputs", "outputs", "rows", "row"] ["self", "states", "inputs", "outputs", "rows"] (defScope s_Machine_init) := ⟨rfl, rfl, rfl, by decide +kernel, rfl, by decide +kernel, by decide +kernel⟩
theorem ok_Machine_init (T : Txt P w K mg cls) (At : InAt K Cs.Machine "Machine.__init__" s_Machine_init) (G_is_between : Fn P w K mg base cls "is_between" 2 ["value", "least", "most"] is_between_f) (G__is_row : Fn P w K mg base cls "_is_row" 4 ["row", "states", "outputs"] _is_row_f) : FnI P w K mg base cls "Machine" Cs.Machine [false, false, false, true] 5 ["self", "states", "inputs", "outputs", "rows"] Machine_init_f := by
  refine FnI.mk (g := Machine_init_b) sc_Machine_init T.mg_Machine At (fun cdv A outer s H H0 E O f a hr hx FF => ?_) (fun _ _ _ _ _ _ us hl => match us, hl with | [_, _, _, _, _], _ => rfl)
  have sc := sc_Machine_init
  exact (dis_cons hx (fun u => (have F := FF u; (ds_if (dt_not (dt_tru (db_of (de_fn F G_is_between (hr.mono (by decide)) (by rfl) (da_cons (de_v 1) (da_cons de_int (da_cons (de_gI T.g_MOST_STATES (by rfl)) da_nil))) (len_cons (len_cons (len_cons len_nil))))))) (dss_one (ds_raise F T.r_BadMachine (by rfl) (du_of de_str))) dss_nil)))
    (dis_cons hx (fun u => (have F := FF u; (ds_if (dt_not (dt_tru (db_of (de_fn F G_is_between (hr.mono (by decide)) (by rfl) (da_cons (de_v 2) (da_cons de_int (da_cons (de_gI T.g_MOST_INPUTS (by rfl)) da_nil))) (len_cons (len_cons (len_cons len_nil))))))) (dss_one (ds_raise F T.r_BadMachine (by rfl) (du_of de_str))) dss_nil)))
    (dis_cons hx (fun u => (have F := FF u; (ds_if (dt_not (dt_tru (db_of (de_fn F G_is_between (hr.mono (by decide)) (by rfl) (da_cons (de_v 3) (da_cons de_int (da_cons (de_gI T.g_MOST_OUTPUTS (by rfl)) da_nil))) (len_cons (len_cons (len_cons len_nil))))))) (dss_one (ds_raise F T.r_BadMachine (by rfl) (du_of de_str))) dss_nil)))
    (dis_cons hx (fun u => (have F := FF u; (ds_if (dt_cmp ((op_neD F.un).or (op_neM F.un1)) opb_neA rfl (db_of (de_b1 cad_lenA (call_len.or call_lenM) (by rfl) T.b_len bb_len (db_b 4))) (db_of (de_op op_shl opd_shl (de_v 1) (de_v 2)))) (dss_one (ds_raise F T.r_BadMachine (by rfl) (du_of de_str))) dss_nil)))
    (dis_cons hx (fun u => (have F := FF u; (ds_forB (i := 4) F (dg_nm (i := 5) sc.nd) (dss_one (ds_if (dt_not (dt_tru (db_of (de_fn F G__is_row (hr.mono (by decide)) (by rfl) (da_cons (de_v 5) (da_cons (de_v 1) (da_cons (de_v 3) da_nil))) (len_cons (len_cons (len_cons len_nil))))))) (dss_one (ds_raise F T.r_BadMachine (by rfl) (du_of de_str))) dss_nil)))))
    (dis_st hx T.cl_Machine T.na_Machine_states (fun u => (have F := FF u; (de_v 1)))
    (dis_st hx T.cl_Machine T.na_Machine_inputs (fun u => (have F := FF u; (de_v 2)))
    (dis_st hx T.cl_Machine T.na_Machine_outputs (fun u => (have F := FF u; (de_v 3)))
    (dis_st hx T.cl_Machine T.na_Machine__rows (fun u => (have F := FF u; (de_of (do_list (by rfl) T.b_list bb_list (db_b 4)))))
    dis_nil)))))))))
abbrev s__law_value : Stmt := top 23
theorem sc__law_value : FnScope ["word", "value", "bit"] ["word"] (defScope s__law_value) := ⟨rfl, rfl, rfl, by decide +kernel, rfl, by decide +kernel, by decide +kernel⟩
theorem ok__law_value (T : Txt P w K mg cls) (At : FnAt K mg "_law_value" s__law_value) : Fn P w K mg base cls "_law_value" 1 ["word"] _law_value_f := by
  refine Fn.mk (body := _law_value_b) sc__law_value At (fun cdv A outer s H E O f hr F => ?_) (fun _ _ _ _ _ _ us hl => match us, hl with | [_], _ => rfl)
  have sc := sc__law_value
  exact (dss_cons (ds_set (i := 1) sc.nd de_int)
    (dss_cons (ds_for F (di_any (de_v 0)) (dg_nm (i := 2) sc.nd) (dss_one (ds_set (i := 1) sc.nd (de_op opr_addE opd_addE (de_op opr_mulZ opd_mulZ de_int (de_v 1)) (de_v 2)))))
    (dss_one (ds_ret (de_v 1)))))
abbrev s__law_step : Stmt := top 26
theorem sc__law_step : FnScope ["table", "inputs", "state", "word"] ["table", "inputs", "state", "word"] (defScope s__law_step) := ⟨rfl, rfl, rfl, by decide +kernel, rfl, by decide +kernel, by decide +kernel⟩
theorem ok__law_step (T : Txt P w K mg cls) (At : FnAt K mg "_law_step" s__law_step) (G__law_words : Fn P w K mg base cls "_law_words" 1 ["bits"] _law_words_f) (G__law_value : Fn P w K mg base cls "_law_value" 1 ["word"] _law_value_f) : Fn P w K mg base cls "_law_step" 2 ["table", "inputs", "state", "word"] _law_step_f := by
  refine Fn.mk (body := _law_step_b) sc__law_step At (fun cdv A outer s H E O f hr F => ?_) (fun _ _ _ _ _ _ us hl => match us, hl with | [_, _, _, _], _ => rfl)
  have sc := sc__law_step
  exact (dss_one (ds_ret (de_ixA F (db_of (de_v 0)) (db_of (de_op opr_addE opd_addE (de_op opr_mulZ opd_mulZ (de_v 2) (de_b1 cad_lenA (call_len.or call_lenM) (by rfl) T.b_len bb_len (db_of (de_fn F G__law_words (hr.mono (by decide)) (by rfl) (da_cons (de_v 1) da_nil) (len_cons len_nil))))) (de_fn F G__law_value (hr.mono (by decide)) (by rfl) (da_cons (de_v 3) da_nil) (len_cons len_nil)))))))
abbrev s__law_least : Stmt := top 31
theorem sc__law_least : FnScope ["first", "second", "inputs", "alphabet", "layer", "seen", "k", "entry", "word", "one", "two", "below", "pair"] ["first", "second", "inputs"] (defScope s__law_least) := ⟨rfl, rfl, rfl, by decide +kernel, rfl, by decide +kernel, by decide +kernel⟩
theorem ok__law_least (T : Txt P w K mg cls) (At : FnAt K mg "_law_least" s__law_least) (G__law_words : Fn P w K mg base cls "_law_words" 1 ["bits"] _law_words_f) (G__law_step : Fn P w K mg base cls "_law_step" 2 ["table", "inputs", "state", "word"] _law_step_f) : Fn P w K mg base cls "_law_least" 3 ["first", "second", "inputs"] _law_least_f := by
  refine Fn.mk (body := _law_least_b) sc__law_least At (fun cdv A outer s H E O f hr F => ?_) (fun _ _ _ _ _ _ us hl => match us, hl with | [_, _, _], _ => rfl)
  have sc := sc__law_least
  exact (dss_cons (ds_set (i := 3) sc.nd (de_fn F G__law_words (hr.mono (by decide)) (by rfl) (da_cons (de_v 2) da_nil) (len_cons len_nil)))
    (dss_cons (ds_set (i := 4) sc.nd (de_of (do_lst (da_cons (de_tup (da_cons (de_tup (da_cons de_int (da_cons de_int da_nil))) (da_cons (de_tup da_nil) da_nil))) da_nil))))
    (dss_cons (ds_setO (i := 5) sc.nd (do_lst (da_cons (de_tup (da_cons de_int (da_cons de_int da_nil))) da_nil)))
    (dss_cons (ds_for F (di_r1 (by rfl) T.b_range de_int) (dg_nm (i := 6) sc.nd) (dss_cons (ds_for F (di_any (de_v 4)) (dg_nm (i := 7) sc.nd) (dss_one (ds_for F (di_any (de_v 3)) (dg_nm (i := 8) sc.nd) (dss_cons (ds_set (i := 9) sc.nd (de_fn F G__law_step (hr.mono (by decide)) (by rfl) (da_cons (de_v 0) (da_cons (de_v 2) (da_cons (de_ixA F (db_of (de_ixA F (db_of (de_v 7)) (db_of de_int))) (db_of de_int)) (da_cons (de_v 8) da_nil)))) (len_cons (len_cons (len_cons (len_cons len_nil))))))
    (dss_cons (ds_set (i := 10) sc.nd (de_fn F G__law_step (hr.mono (by decide)) (by rfl) (da_cons (de_v 1) (da_cons (de_v 2) (da_cons (de_ixA F (db_of (de_ixA F (db_of (de_v 7)) (db_of de_int))) (db_of de_int)) (da_cons (de_v 8) da_nil)))) (len_cons (len_cons (len_cons (len_cons len_nil))))))
    (dss_one (ds_if (dt_cmp ((op_neD F.un).or (op_neM F.un1)) opb_neA rfl (db_of (de_ixA F (db_of (de_v 9)) (db_of de_int))) (db_of (de_ixA F (db_of (de_v 10)) (db_of de_int)))) (dss_one (ds_ret (de_op opr_addE opd_addE (de_ixA F (db_of (de_v 7)) (db_of de_int)) (de_tup (da_cons (de_v 8) da_nil))))) dss_nil)))))))
    (dss_cons (ds_setO (i := 11) sc.nd (do_lst da_nil))
    (dss_cons (ds_for F (di_any (de_v 4)) (dg_nm (i := 7) sc.nd) (dss_one (ds_for F (di_any (de_v 3)) (dg_nm (i := 8) sc.nd) (dss_cons (ds_set (i := 12) sc.nd (de_tup (da_cons (de_ixA F (db_of (de_fn F G__law_step (hr.mono (by decide)) (by rfl) (da_cons (de_v 0) (da_cons (de_v 2) (da_cons (de_ixA F (db_of (de_ixA F (db_of (de_v 7)) (db_of de_int))) (db_of de_int)) (da_cons (de_v 8) da_nil)))) (len_cons (len_cons (len_cons (len_cons len_nil)))))) (db_of de_int)) (da_cons (de_ixA F (db_of (de_fn F G__law_step (hr.mono (by decide)) (by rfl) (da_cons (de_v 1) (da_cons (de_v 2) (da_cons (de_ixA F (db_of (de_ixA F (db_of (de_v 7)) (db_of de_int))) (db_of de_int)) (da_cons (de_v 8) da_nil)))) (len_cons (len_cons (len_cons (len_cons len_nil)))))) (db_of de_int)) da_nil))))
    (dss_one (ds_if (dt_cmp (((op_notInD F.un1).or (op_ninT F.un1)).or (op_ninM F.un1)) opb_ninA rfl (db_of (de_v 12)) (db_v 5)) (dss_cons (ds_app (i := 5) (de_v 12))
    (dss_one (ds_app (i := 11) (de_tup (da_cons (de_v 12) (da_cons (de_op opr_addE opd_addE (de_ixA F (db_of (de_v 7)) (db_of de_int)) (de_tup (da_cons (de_v 8) da_nil))) da_nil)))))) dss_nil))))))
    (dss_one (ds_set (i := 4) sc.nd (de_l 11)))))))
    (dss_one (ds_ret de_non))))))
abbrev s_all_words : Stmt := top 11
theorem sc_all_words : FnScope ["bits", "words", "_", "word", "bit"] ["bits"] (defScope s_all_words) := ⟨rfl, rfl, rfl, by decide +kernel, rfl, by decide +kernel, by decide +kernel⟩
theorem ok_all_words (T : Txt P w K mg cls) (At : FnAt K mg "all_words" s_all_words) : Fn P w K mg base cls "all_words" 1 ["bits"] all_words_f := by
  refine Fn.mk (body := all_words_b) sc_all_words At (fun cdv A outer s H E O f hr F => ?_) (fun _ _ _ _ _ _ us hl => match us, hl with | [_], _ => rfl)
  have sc := sc_all_words
  exact (dss_cons (ds_set (i := 1) sc.nd (de_of (do_lst (da_cons (de_tup da_nil) da_nil))))
    (dss_cons (ds_for F (di_r1 (by rfl) T.b_range (de_v 0)) (dg_nm (i := 2) sc.nd) (dss_one (ds_setLc2 (own := [("word", 3), ("bit", 4)]) F sc.nd (di_any (de_v 1)) (fun _ _ _ _ _ _ _ F => (dgw_nm (i := 3) sc.nd (by decide))) lt_nil (fun _ _ _ _ _ _ _ F => (di_any (de_tup (da_cons de_int (da_cons de_int da_nil))))) (fun _ _ _ _ _ _ _ F => (dgw_nm (i := 4) sc.nd (by decide))) lt_nil (fun _ _ _ _ _ _ _ F => (de_op opr_addE opd_addE (de_v 3) (de_tup (da_cons (de_v 4) da_nil)))) (by rfl) rfl (by decide) (by intro _; rfl) (by intro _ _; rfl) (j := 1) (by rfl) (by rfl) (sw_true (by rfl) (by rfl) (by rfl) (by rfl)))))
    (dss_one (ds_ret (de_v 1)))))
abbrev s_word_number : Stmt := top 10
theorem sc_word_number : FnScope ["word", "number", "bit"] ["word"] (defScope s_word_number) := ⟨rfl, rfl, rfl, by decide +kernel, rfl, by decide +kernel, by decide +kernel⟩
theorem ok_word_number (T : Txt P w K mg cls) (At : FnAt K mg "word_number" s_word_number) : Fn P w K mg base cls "word_number" 1 ["word"] word_number_f := by
  refine Fn.mk (body := word_number_b) sc_word_number At (fun cdv A outer s H E O f hr F => ?_) (fun _ _ _ _ _ _ us hl => match us, hl with | [_], _ => rfl)
  have sc := sc_word_number
  exact (dss_cons (ds_set (i := 1) sc.nd de_int)
    (dss_cons (ds_for F (di_any (de_v 0)) (dg_nm (i := 2) sc.nd) (dss_one (ds_set (i := 1) sc.nd (de_op opr_addE opd_addE (de_op opr_mulZ opd_mulZ de_int (de_v 1)) (de_v 2)))))
    (dss_one (ds_ret (de_v 1)))))
abbrev s_Machine_row : Stmt := inClass (top 16) 1
theorem sc_Machine_row : FnScope ["self", "state", "word"] ["self", "state", "word"] (defScope s_Machine_row) := ⟨rfl, rfl, rfl, by decide +kernel, rfl, by decide +kernel, by decide +kernel⟩
theorem ok_Machine_row (T : Txt P w K mg cls) (At : MtAt K Cs.Machine "row" "Machine.row" s_Machine_row) (G_is_between : Fn P w K mg base cls "is_between" 2 ["value", "least", "most"] is_between_f) (G_is_word : Fn P w K mg base cls "is_word" 3 ["value", "bits"] is_word_f) (G_word_number : Fn P w K mg base cls "word_number" 1 ["word"] word_number_f) : FnM P w K mg base cls Cs.Machine "row" 4 ["self", "state", "word"] Machine_row_f := by
  refine FnM.mk (body := Machine_row_b) sc_Machine_row At (fun cdv A outer s H E O f hr F => ?_) (fun _ _ _ _ _ _ us hl => match us, hl with | [_, _, _], _ => rfl)
  have sc := sc_Machine_row
  exact (dss_cons (ds_if (dt_not (dt_tru (db_of (de_fn F G_is_between (hr.mono (by decide)) (by rfl) (da_cons (de_v 1) (da_cons de_int (da_cons (de_op op_sub opd_sub (de_fld T.cl_Machine T.na_Machine_states (de_v 0)) de_int) da_nil))) (len_cons (len_cons (len_cons len_nil))))))) (dss_one (ds_raise F T.r_BadMachine (by rfl) (du_of de_str))) dss_nil)
    (dss_cons (ds_if (dt_not (dt_tru (db_of (de_fn F G_is_word (hr.mono (by decide)) (by rfl) (da_cons (de_v 2) (da_cons (de_fld T.cl_Machine T.na_Machine_inputs (de_v 0)) da_nil)) (len_cons (len_cons len_nil)))))) (dss_one (ds_raise F T.r_BadWord (by rfl) (du_of de_str))) dss_nil)
    (dss_one (ds_ret (de_ixA F (db_of (de_fld T.cl_Machine T.na_Machine__rows (de_v 0))) (db_of (de_op opr_addE opd_addE (de_op op_shl opd_shl (de_v 1) (de_fld T.cl_Machine T.na_Machine_inputs (de_v 0))) (de_fn F G_word_number (hr.mono (by decide)) (by rfl) (da_cons (de_v 2) da_nil) (len_cons len_nil)))))))))
abbrev s_equal_answers : Stmt := top 18
theorem sc_equal_answers : FnScope ["first", "second", "words", "met", "level", "following", "one", "two", "path", "word", "next_one", "answer_one", "next_two", "answer_two"] ["first", "second"] (defScope s_equal_answers) := ⟨rfl, rfl, rfl, by decide +kernel, rfl, by decide +kernel, by decide +kernel⟩
theorem ok_equal_answers (T : Txt P w K mg cls) (At : FnAt K mg "equal_answers" s_equal_answers) (G_all_words : Fn P w K mg base cls "all_words" 1 ["bits"] all_words_f) (G_Machine_row : FnM P w K mg base cls Cs.Machine "row" 4 ["self", "state", "word"] Machine_row_f) : Fn P w K mg base cls "equal_answers" 5 ["first", "second"] equal_answers_f := by
  refine Fn.mk (body := equal_answers_b) sc_equal_answers At (fun cdv A outer s H E O f hr F => ?_) (fun _ _ _ _ _ _ us hl => match us, hl with | [_, _], _ => rfl)
  have sc := sc_equal_answers
  exact (dss_cons (ds_if (dt_w (dw_or (dt_cmp ((op_neD F.un).or (op_neM F.un1)) opb_neA rfl (db_of (de_fld T.cl_Machine T.na_Machine_inputs (de_v 0))) (db_of (de_fld T.cl_Machine T.na_Machine_inputs (de_v 1)))) (dw_or1 (dt_cmp ((op_neD F.un).or (op_neM F.un1)) opb_neA rfl (db_of (de_fld T.cl_Machine T.na_Machine_outputs (de_v 0))) (db_of (de_fld T.cl_Machine T.na_Machine_outputs (de_v 1))))))) (dss_one (ds_raise F T.r_BadMachine (by rfl) (du_of de_str))) dss_nil)
    (dss_cons (ds_set (i := 2) sc.nd (de_fn F G_all_words (hr.mono (by decide)) (by rfl) (da_cons (de_fld T.cl_Machine T.na_Machine_inputs (de_v 0)) da_nil) (len_cons len_nil)))
    (dss_cons (ds_setC (i := 3) sc.nd (dc_disp F (fun _ _ F => (dps_cons (de_tup (da_cons de_int (da_cons de_int da_nil))) de_bl dps_nil))))
    (dss_cons (ds_set (i := 4) sc.nd (de_of (do_lst (da_cons (de_tup (da_cons de_int (da_cons de_int (da_cons (de_of (do_lst da_nil)) da_nil)))) da_nil))))
    (dss_cons (ds_wh F (dt_cmp op_gt opb_cmp rfl (db_of (de_b1 cad_lenA (call_len.or call_lenM) (by rfl) T.b_len bb_len (db_of (de_v 4)))) (db_of de_int)) (dss_cons (ds_setO (i := 5) sc.nd (do_lst da_nil))
    (dss_cons (ds_for F (di_any (de_v 4)) (dg_tp F (dgs_cons (dg_nm (i := 6) sc.nd) (dgs_cons (dg_nm (i := 7) sc.nd) (dgs_cons (dg_nm (i := 8) sc.nd) dgs_nil)))) (dss_one (ds_for F (di_any (de_v 2)) (dg_nm (i := 9) sc.nd) (dss_cons (ds_asg (de_meth F G_Machine_row T.cl_Machine (hr.mono (by decide)) (de_v 0) (da_cons (de_v 6) (da_cons (de_v 9) da_nil)) (len_cons (len_cons len_nil))) (dg_tp F (dgs_cons (dg_nm (i := 10) sc.nd) (dgs_cons (dg_nm (i := 11) sc.nd) dgs_nil))))
    (dss_cons (ds_asg (de_meth F G_Machine_row T.cl_Machine (hr.mono (by decide)) (de_v 1) (da_cons (de_v 7) (da_cons (de_v 9) da_nil)) (len_cons (len_cons len_nil))) (dg_tp F (dgs_cons (dg_nm (i := 12) sc.nd) (dgs_cons (dg_nm (i := 13) sc.nd) dgs_nil))))
    (dss_cons (ds_if (dt_cmp ((op_neD F.un).or (op_neM F.un1)) opb_neA rfl (db_of (de_v 11)) (db_of (de_v 13))) (dss_one (ds_ret (de_op opr_addE opd_addE (de_v 8) (de_of (do_lst (da_cons (de_v 9) da_nil)))))) dss_nil)
    (dss_one (ds_if (dt_cmp (((op_notInD F.un1).or (op_ninT F.un1)).or (op_ninM F.un1)) opb_ninA rfl (db_of (de_tup (da_cons (de_v 10) (da_cons (de_v 12) da_nil)))) (db_v 3)) (dss_cons (ds_setM (i := 3) F de_bl (de_tup (da_cons (de_v 10) (da_cons (de_v 12) da_nil))))
    (dss_one (ds_app (i := 5) (de_tup (da_cons (de_v 10) (da_cons (de_v 12) (da_cons (de_op opr_addE opd_addE (de_v 8) (de_of (do_lst (da_cons (de_v 9) da_nil)))) da_nil))))))) dss_nil))))))))
    (dss_one (ds_set (i := 4) sc.nd (de_l 5))))))
    (dss_one (ds_ret de_non)))))))
abbrev s__law_same : Stmt := top 29
theorem sc__law_same : FnScope ["actual", "expected", "k"] ["actual", "expected"] (defScope s__law_same) := ⟨rfl, rfl, rfl, by decide +kernel, rfl, by decide +kernel, by decide +kernel⟩
theorem okr__law_same (T : Txt P w K mg cls) (At : FnAt K mg "_law_same" s__law_same) : ∀ n : Nat, Fn P w K mg base cls "_law_same" (0 + n + 1) ["actual", "expected"] (_law_same_fr n)
  | 0 => Fn.mk (k := 0 + 0) (body := sNever) sc__law_same At (fun cdv A outer s H E O f hr F => dss_never) (fun _ _ _ _ _ _ us hl => match us, hl with | [_, _], _ => rfl)
  | n + 1 => by
    have G__law_same := okr__law_same T At n
    refine Fn.mk (k := 0 + (n + 1)) (body := _law_same_b (_law_same_fr n)) sc__law_same At (fun cdv A outer s H E O f hr F => ?_) (fun _ _ _ _ _ _ us hl => match us, hl with | [_, _], _ => rfl)
    have sc := sc__law_same
    exact (dss_cons (ds_if (dt_tru (db_of (de_isiA isiA_tuple (by rfl) T.b_isinstance bb_isinstance (by rfl) T.b_tuple bb_tuple (db_of (de_v 1))))) (dss_cons (ds_if (dt_w (dw_or (dt_not (dt_tru (db_of (de_isiA isiA_tuple (by rfl) T.b_isinstance bb_isinstance (by rfl) T.b_tuple bb_tuple (db_of (de_v 0)))))) (dw_or1 (dt_cmp ((op_neD F.un).or (op_neM F.un1)) opb_neA rfl (db_of (de_b1 cad_lenA (call_len.or call_lenM) (by rfl) T.b_len bb_len (db_of (de_v 0)))) (db_of (de_b1 cad_lenA (call_len.or call_lenM) (by rfl) T.b_len bb_len (db_of (de_v 1)))))))) (dss_one (ds_ret de_bl)) dss_nil)
    (dss_cons (ds_for F (di_r1 (by rfl) T.b_range (de_b1 cad_lenA (call_len.or call_lenM) (by rfl) T.b_len bb_len (db_of (de_v 1)))) (dg_nm (i := 2) sc.nd) (dss_one (ds_if (dt_not (dt_tru (db_of (de_fn F G__law_same (hr.mono (by omega)) (by rfl) (da_cons (de_ixA F (db_of (de_v 0)) (db_of (de_v 2))) (da_cons (de_ixA F (db_of (de_v 1)) (db_of (de_v 2))) da_nil)) (len_cons (len_cons len_nil)))))) (dss_one (ds_ret de_bl)) dss_nil)))
    (dss_one (ds_ret de_bl)))) dss_nil)
    (dss_cons (ds_if (dt_tru (db_of (de_isiA isiA_str (by rfl) T.b_isinstance bb_isinstance (by rfl) T.b_str bb_str (db_of (de_v 1))))) (dss_one (ds_ret (de_and (de_isiA isiA_str (by rfl) T.b_isinstance bb_isinstance (by rfl) T.b_str bb_str (db_of (de_v 0))) (de_one (de_cmp ((op_eqD F.un).or (op_eqM F.un1)) opb_eqA rfl (db_of (de_v 0)) (db_of (de_v 1))))))) dss_nil)
    (dss_one (ds_ret (de_and (de_isiA isiA_int (by rfl) T.b_isinstance bb_isinstance (by rfl) T.b_int bb_int (db_of (de_v 0))) (de_and (de_not (de_isiA isiA_bool (by rfl) T.b_isinstance bb_isinstance (by rfl) T.b_bool bb_bool (db_of (de_v 0)))) (de_one (de_cmp ((op_eqD F.un).or (op_eqM F.un1)) opb_eqA rfl (db_of (de_v 0)) (db_of (de_v 1))))))))))
theorem ok__law_same (T : Txt P w K mg cls) (At : FnAt K mg "_law_same" s__law_same) : Fn P w K mg base cls "_law_same" 4 ["actual", "expected"] _law_same_f := okr__law_same T At 3
abbrev s_law : Stmt := top 32
theorem sc_law : FnScope ["script", "numbers", "place", "states", "inputs", "outputs", "other", "rows", "second", "k", "at", "one", "two", "three", "expected", "actual"] ["script"] (defScope s_law) := ⟨rfl, rfl, rfl, by decide +kernel, rfl, by decide +kernel, by decide +kernel⟩
theorem ok_law {f : Addr} {fd : FuncData} (T : Txt P w K mg cls) (F0 : Fun K "law" "law" s_law f fd) (G__law_numbers : Fn P w K mg base cls "_law_numbers" 1 ["script", "many"] _law_numbers_f) (G__law_take : FnX P w K mg base cls "_law_take" 1 ["numbers", "place"] _law_take_f) (G__law_words : Fn P w K mg base cls "_law_words" 1 ["bits"] _law_words_f) (G__law_rows : FnX P w K mg base cls "_law_rows" 2 ["numbers", "place", "states", "inputs", "outputs"] _law_rows_f) (G__law_changed : FnXL P w K mg base cls "_law_changed" 2 ["rows", "states", "words", "numbers", "place"] _law_changed_f) (G_Machine_init : FnI P w K mg base cls "Machine" Cs.Machine [false, false, false, true] 5 ["self", "states", "inputs", "outputs", "rows"] Machine_init_f) (G__law_least : Fn P w K mg base cls "_law_least" 3 ["first", "second", "inputs"] _law_least_f) (G_equal_answers : Fn P w K mg base cls "equal_answers" 5 ["first", "second"] equal_answers_f) (G__law_same : Fn P w K mg base cls "_law_same" 4 ["actual", "expected"] _law_same_f) : FnOk P w K mg base (L2.CX P w) 7 f fd ["script"] (spD K cls 1 law_f) := by
  refine fn_D (body := law_b) F0 sc_law (by decide) (fun cdv A outer s H E O hr F => ?_)
  have sc := sc_law
  exact (dss_cons (ds_set (i := 1) sc.nd (de_of (do_fn F G__law_numbers (hr.mono (by decide)) (by rfl) (da_cons (de_v 0) (da_cons de_int da_nil)) (len_cons (len_cons len_nil)))))
    (dss_cons (ds_setO (i := 2) sc.nd (do_lst (da_cons de_int da_nil)))
    (dss_cons (ds_setX (i := 3) sc.nd (dx_op opr_addE opd_addE (dx_of de_int) (dx_op op_mod opd_mod (dx_fnX (j := 2) F G__law_take (hr.mono (by decide)) (by rfl) (de_v 1) da_nil len_nil) (dx_of de_int))))
    (dss_cons (ds_setX (i := 4) sc.nd (dx_op op_mod opd_mod (dx_fnX (j := 2) F G__law_take (hr.mono (by decide)) (by rfl) (de_v 1) da_nil len_nil) (dx_of de_int)))
    (dss_cons (ds_setX (i := 5) sc.nd (dx_op opr_addE opd_addE (dx_of de_int) (dx_op op_mod opd_mod (dx_fnX (j := 2) F G__law_take (hr.mono (by decide)) (by rfl) (de_v 1) da_nil len_nil) (dx_of de_int))))
    (dss_cons (ds_setX (i := 6) sc.nd (dx_fnX (j := 2) F G__law_take (hr.mono (by decide)) (by rfl) (de_v 1) da_nil len_nil))
    (dss_cons (ds_setX (i := 7) sc.nd (dx_fnX (j := 2) F G__law_rows (hr.mono (by decide)) (by rfl) (de_v 1) (da_cons (de_v 3) (da_cons (de_v 4) (da_cons (de_v 5) da_nil))) (len_cons (len_cons (len_cons len_nil)))))
    (dss_cons (ds_setX (i := 8) sc.nd (dx_fnXL (j := 2) F G__law_changed (hr.mono (by decide)) (by rfl) (de_l 7) (de_v 3) (de_b1 cad_lenA (call_len.or call_lenM) (by rfl) T.b_len bb_len (db_of (de_fn F G__law_words (hr.mono (by decide)) (by rfl) (da_cons (de_v 4) da_nil) (len_cons len_nil)))) (de_v 1)))
    (dss_cons (ds_if (dt_cmp ((op_eqD F.un).or (op_eqM F.un1)) opb_eqA rfl (db_of (de_op op_mod opd_mod (de_v 6) de_int)) (db_of de_int)) (dss_one (ds_setX (i := 8) sc.nd (dx_fnX (j := 2) F G__law_rows (hr.mono (by decide)) (by rfl) (de_v 1) (da_cons (de_v 3) (da_cons (de_v 4) (da_cons (de_v 5) da_nil))) (len_cons (len_cons (len_cons len_nil)))))) dss_nil)
    (dss_cons (ds_if (dt_cmp ((op_eqD F.un).or (op_eqM F.un1)) opb_eqA rfl (db_of (de_op op_mod opd_mod (de_v 6) de_int)) (db_of de_int)) (dss_cons (ds_set (i := 3) sc.nd (de_op opr_addE opd_addE de_int (de_op op_mod opd_mod (de_op op_fdiv opd_div (de_v 6) de_int) de_int)))
    (dss_cons (ds_set (i := 4) sc.nd de_int)
    (dss_cons (ds_setO (i := 7) sc.nd (do_lst da_nil))
    (dss_cons (ds_for F (di_r1 (by rfl) T.b_range (de_op opr_mulZ opd_mulZ de_int (de_v 3))) (dg_nm (i := 9) sc.nd) (dss_one (ds_app (i := 7) (de_tup (da_cons (de_op op_mod opd_mod (de_op opr_addE opd_addE (de_op op_fdiv opd_div (de_v 9) de_int) (de_op op_mod opd_mod (de_v 9) de_int)) (de_v 3)) (da_cons (de_op opr_mulZ opd_mulZ (de_tup (da_cons (de_op op_mod opd_mod (de_op op_fdiv opd_div (de_op opr_mulZ opd_mulZ (de_op op_fdiv opd_div (de_v 9) de_int) (de_v 6)) de_int) de_int) da_nil)) (de_v 5)) da_nil))))))
    (dss_cons (ds_set (i := 10) sc.nd (de_op op_sub opd_sub (de_op op_sub opd_sub (de_op opr_mulZ opd_mulZ de_int (de_v 3)) de_int) (de_op op_mod opd_mod (de_op op_fdiv opd_div (de_v 6) de_int) de_int)))
    (dss_one (ds_set (i := 8) sc.nd (de_op opr_addE opd_addE (de_op opr_addE opd_addE (de_of (do_sl (db_v 7) dp_no (dp_so (de_v 10)))) (de_of (do_lst (da_cons (de_tup (da_cons (de_ixA F (db_of (de_ixA F (db_v 7) (db_of (de_v 10)))) (db_of de_int)) (da_cons (de_op opr_mulZ opd_mulZ (de_tup (da_cons (de_op op_sub opd_sub de_int (de_ixA F (db_of (de_ixA F (db_of (de_ixA F (db_v 7) (db_of (de_v 10)))) (db_of de_int))) (db_of de_int))) da_nil)) (de_v 5)) da_nil))) da_nil)))) (de_of (do_sl (db_v 7) (dp_so (de_op opr_addE opd_addE (de_v 10) de_int)) dp_no)))))))))) dss_nil)
    (dss_cons (ds_set (i := 11) sc.nd (de_make F G_Machine_init (hr.mono (by decide)) (by rfl) (dm_v (de_v 3) (dm_v (de_v 4) (dm_v (de_v 5) (dm_b (db_v 7) dm_nil)))) (len_cons (len_cons (len_cons (len_cons len_nil))))))
    (dss_cons (ds_set (i := 12) sc.nd (de_make F G_Machine_init (hr.mono (by decide)) (by rfl) (dm_v (de_v 3) (dm_v (de_v 4) (dm_v (de_v 5) (dm_b (db_of (de_v 8)) dm_nil)))) (len_cons (len_cons (len_cons (len_cons len_nil))))))
    (dss_cons (ds_if (dt_cmp ((op_eqD F.un).or (op_eqM F.un1)) opb_eqA rfl (db_of (de_op op_mod opd_mod (de_v 6) de_int)) (db_of de_int)) (dss_cons (ds_set (i := 13) sc.nd (de_make F G_Machine_init (hr.mono (by decide)) (by rfl) (dm_v de_int (dm_v (de_op opr_addE opd_addE (de_v 4) de_int) (dm_v (de_v 5) (dm_b (db_of (de_of (do_rep (do_lst (da_cons (de_tup (da_cons de_int (da_cons (de_op opr_mulZ opd_mulZ (de_tup (da_cons de_int da_nil)) (de_v 5)) da_nil))) da_nil)) (de_b1 cad_lenA (call_len.or call_lenM) (by rfl) T.b_len bb_len (db_of (de_fn F G__law_words (hr.mono (by decide)) (by rfl) (da_cons (de_op opr_addE opd_addE (de_v 4) de_int) da_nil) (len_cons len_nil))))))) dm_nil)))) (len_cons (len_cons (len_cons (len_cons len_nil))))))
    (dss_cons (ds_tryO (L := [2, 7]) F rfl rfl T.c_BadMachine (by rfl) (fun pn xe b' ec F => (dss_one (ds_drop (de_fn F (by rw [ec]; exact G_equal_answers) (hr.mono (by decide)) (by rfl) (da_cons (de_v 11) (da_cons (de_v 13) da_nil)) (len_cons (len_cons len_nil)))))) (fun a oe pn b2 hd => (dss_one (ds_ret de_bl))))
    (dss_one (ds_ret de_bl)))) dss_nil)
    (dss_cons (ds_set (i := 14) sc.nd (de_fn F G__law_least (hr.mono (by decide)) (by rfl) (da_cons (de_l 7) (da_cons (de_v 8) (da_cons (de_v 4) da_nil))) (len_cons (len_cons (len_cons len_nil)))))
    (dss_cons (ds_set (i := 15) sc.nd (de_fn F G_equal_answers (hr.mono (by decide)) (by rfl) (da_cons (de_v 11) (da_cons (de_v 12) da_nil)) (len_cons (len_cons len_nil))))
    (dss_cons (ds_if (dt_cmp op_isN opb_isN rfl (db_of (de_v 14)) (db_of de_non)) (dss_one (ds_ret (de_and (de_cmp op_isN opb_isN rfl (db_of (de_v 15)) (db_of de_non)) (de_one (de_cmp op_isN opb_isN rfl (db_of (de_fn F G_equal_answers (hr.mono (by decide)) (by rfl) (da_cons (de_v 12) (da_cons (de_v 11) da_nil)) (len_cons (len_cons len_nil)))) (db_of de_non)))))) dss_nil)
    (dss_one (ds_ret (de_and (de_isiA isiA_list (by rfl) T.b_isinstance bb_isinstance (by rfl) T.b_list bb_list (db_of (de_v 15))) (de_and (de_fn F G__law_same (hr.mono (by decide)) (by rfl) (da_cons (de_t1 cad_tuple call_tuple_of (by rfl) T.b_tuple bb_tuple (db_of (de_v 15))) (da_cons (de_v 14) da_nil)) (len_cons (len_cons len_nil))) (de_one (de_cmp ((op_eqD F.un).or (op_eqM F.un1)) opb_eqA rfl (db_of (de_fn F G_equal_answers (hr.mono (by decide)) (by rfl) (da_cons (de_v 12) (da_cons (de_v 11) da_nil)) (len_cons (len_cons len_nil)))) (db_of (de_v 15))))))))))))))))))))))))
end
end
end My
namespace My
open PySem PySem.Spec PyProof.Rows L2 DL
abbrev okI (i : Int) : Rz Rv := .ok (.val (.int i))
abbrev okB (b : Bool) : Rz Rv := .ok (.val (.bool b))
@[simp] theorem initE_0 (n : Nat) : initE n [] = List.replicate n Sl.no := rfl
@[simp] theorem initE_1 (a : PyData) (n : Nat) : initE (n + 1) [a] = Sl.val a :: List.replicate n Sl.no := rfl
@[simp] theorem initE_2 (a b : PyData) (n : Nat) : initE (n + 2) [a, b] = Sl.val a :: Sl.val b :: List.replicate n Sl.no := rfl
@[simp] theorem initE_3 (a b c : PyData) (n : Nat) : initE (n + 3) [a, b, c] = Sl.val a :: Sl.val b :: Sl.val c :: List.replicate n Sl.no := rfl
@[simp] theorem initE_4 (a b c d : PyData) (n : Nat) : initE (n + 4) [a, b, c, d] = Sl.val a :: Sl.val b :: Sl.val c :: Sl.val d :: List.replicate n Sl.no := rfl
/-- numbers below 1000 -/
def Nb (ds : List Int) : Prop := ∀ d ∈ ds, 0 ≤ d ∧ d < 1000
theorem Nb.app {ds : List Int} (h : Nb ds) {x : Int} (h0 : 0 ≤ x) (h1 : x < 1000) : Nb (ds ++ [x]) := fun d hd => by
  rcases List.mem_append.mp hd with q | q
  · exact h d q
  · simp at q; subst q; exact ⟨h0, h1⟩
theorem nb_60 (s : PyData) : ∀ (ks : List PyData) (ds : List Int) (n : Int) (a3 a5 a6 : Sl), Nb ds → ds.length + ks.length < 1000000 → ∃ ds' n' a5', Nb ds' ∧ ds'.length ≤ ds.length + ks.length ∧
    forD (gNm 5) nb_in60 ks [.val s, .val (.int 120), .own (ds.map .int), a3, .val (.int n), a5, a6] = .ok (.nx [.val s, .val (.int 120), .own (ds'.map .int), a3, .val (.int n'), a5', a6]) := by
  intro ks
  induction ks with
  | nil => intro ds n a3 a5 a6 h _; exact ⟨ds, n, a5, h, Nat.le_add_right .., by simp⟩
  | cons k ks ih =>
    intro ds n a3 a5 a6 h hz
    rw [List.length_cons] at hz
    by_cases hn : 0 < n
    · by_cases hm : (ds.length : Int) < 120
      · obtain ⟨ds', n', a5', g, gl, e⟩ := ih (ds ++ [n % 1000]) (n / 1000) a3 (.val k) a6 (h.app (by omega) (by omega)) (by rw [List.length_append, List.length_singleton]; omega)
        refine ⟨ds', n', a5', g, by rw [List.length_append, List.length_singleton] at gl; rw [List.length_cons]; omega, ?_⟩
        rw [← e]
        have hl : ds.length < 1000000 := by omega
        simp -dsimp -implicitDefEqProofs [nb_in60, hn, hl, hm]
      · obtain ⟨ds', n', a5', g, gl, e⟩ := ih ds n a3 (.val k) a6 h (by omega)
        refine ⟨ds', n', a5', g, by rw [List.length_cons]; omega, ?_⟩
        rw [← e]
        simp -dsimp -implicitDefEqProofs [nb_in60, hn, hm]
    · obtain ⟨ds', n', a5', g, gl, e⟩ := ih ds n a3 (.val k) a6 h (by omega)
      refine ⟨ds', n', a5', g, by rw [List.length_cons]; omega, ?_⟩
      rw [← e]
      simp -dsimp -implicitDefEqProofs [nb_in60, hn]
theorem kMul_m (e : Int) : kMul (e % 2147483647) (e % 2147483647) = some (e % 2147483647 * (e % 2147483647)) := by
  unfold kMul
  rw [if_pos (.inl ⟨by omega, by omega⟩)]
theorem kMul_r (i j : Int) (h : -(2 ^ 64) < j ∧ j < 2 ^ 64) : kMul i j = some (i * j) := by
  unfold kMul
  rw [if_pos (.inr h)]
theorem nb_5 (s : PyData) : ∀ (js : List Int) (ds : List Int) (n t : Int) (a5 a6 : Sl), Nb ds → ds.length + js.length < 1000000 → ∃ ds' a5' a6', Nb ds' ∧ ds'.length ≤ ds.length + js.length ∧
    forD (gNm 5) nb_in5 (js.map .int) [.val s, .val (.int 120), .own (ds.map .int), .val (.int t), .val (.int n), a5, a6] = .ok (.nx [.val s, .val (.int 120), .own (ds'.map .int), .val (.int t), .val (.int n), a5', a6']) := by
  intro js
  induction js with
  | nil => intro ds n t a5 a6 h _; exact ⟨ds, a5, a6, h, Nat.le_add_right .., by simp⟩
  | cons j js ih =>
    intro ds n t a5 a6 h hz
    rw [List.length_cons] at hz
    obtain ⟨w, hw⟩ : ∃ w, (n * 48271 + t * 69621 + j * 16807 + 11) % 2147483647 = w := ⟨_, rfl⟩
    have h1 : kMul w w = some (w * w) := by rw [← hw]; exact kMul_m _
    obtain ⟨u, hu⟩ : ∃ u, (w * w + j) % 2147483629 = u := ⟨_, rfl⟩
    obtain ⟨ds', a5', a6', g, gl, e⟩ := ih (ds ++ [u / 7 % 1000]) n t (.val (.int j)) (.val (.int u)) (h.app (by omega) (by omega)) (by rw [List.length_append, List.length_singleton]; omega)
    refine ⟨ds', a5', a6', g, by rw [List.length_append, List.length_singleton] at gl; rw [List.length_cons]; omega, ?_⟩
    rw [← e]
    have hl : ds.length < 1000000 := by omega
    simp -dsimp -implicitDefEqProofs [nb_in5, -kMul, kMul_r, hw, h1, hu, hl]
theorem nb_o (s : List Int) : ∀ (ks : List Int) (ds : List Int) (a4 a5 a3 a6 : Sl), (∀ k ∈ ks, 0 ≤ k ∧ k < s.length) → Nb ds → ds.length + 60 * ks.length < 1000000 → ∃ ds' a3' a4' a5' a6', Nb ds' ∧ ds'.length ≤ ds.length + 60 * ks.length ∧
    forD (gNm 3) nb_out (ks.map .int) [.val (.list (s.map .int)), .val (.int 120), .own (ds.map .int), a3, a4, a5, a6] = .ok (.nx [.val (.list (s.map .int)), .val (.int 120), .own (ds'.map .int), a3', a4', a5', a6']) := by
  intro ks
  induction ks with
  | nil => intro ds a4 a5 a3 a6 _ h _; exact ⟨ds, a3, a4, a5, a6, h, Nat.le_add_right .., by simp⟩
  | cons k ks ih =>
    intro ds a4 a5 a3 a6 hk h hz
    rw [List.length_cons] at hz
    obtain ⟨k0, k1⟩ := hk k (List.mem_cons_self ..)
    have hk' : ∀ q ∈ ks, 0 ≤ q ∧ q < s.length := fun q hq => hk q (List.mem_cons_of_mem _ hq)
    obtain ⟨x, hx⟩ : ∃ x, atI (s.map PyData.int) k = some (.int x) := by
      obtain ⟨j, rfl⟩ := Int.eq_ofNat_of_zero_le k0
      have hj : j < s.length := by omega
      refine ⟨s[j], ?_⟩
      unfold atI
      rw [show ixN (s.map PyData.int).length (j : Int) = some j by unfold ixN; simp [hj]]
      simp [hj]
    generalize hu : (if x < 0 then -x else x) = u
    by_cases hn : 1000000000000000000 ≤ u
    · have l60 : (intsD 0 60).length = 60 := rfl
      obtain ⟨ds1, n1, a51, g1, gl1, e1⟩ := nb_60 (.list (s.map .int)) (intsD 0 60) ds u (.val (.int k)) a5 a6 h (by rw [l60]; omega)
      rw [l60] at gl1
      obtain ⟨ds', a3', a4', a5', a6', g, gl, e⟩ := ih ds1 (.val (.int n1)) a51 (.val (.int k)) a6 hk' g1 (by omega)
      refine ⟨ds', a3', a4', a5', a6', g, by rw [List.length_cons]; omega, ?_⟩
      rw [← e, List.map_cons, forD]
      simp -dsimp -implicitDefEqProofs [nb_out, hx, hu, hn, -forD]
      rw [e1]
      simp -dsimp -implicitDefEqProofs [-forD]
      rfl
    · obtain ⟨ds1, a51, a61, g1, gl1, e1⟩ := nb_5 (.list (s.map .int)) [0, 1, 2, 3, 4] ds u k a5 a6 h (by show _ + 5 < _; omega)
      replace gl1 : ds1.length ≤ ds.length + 5 := gl1
      obtain ⟨ds', a3', a4', a5', a6', g, gl, e⟩ := ih ds1 (.val (.int u)) a51 (.val (.int k)) a61 hk' g1 (by omega)
      refine ⟨ds', a3', a4', a5', a6', g, by rw [List.length_cons]; omega, ?_⟩
      rw [← e, List.map_cons, forD]
      have i5 : intsD 0 5 = [(0 : Int), 1, 2, 3, 4].map .int := rfl
      simp -dsimp -implicitDefEqProofs [nb_out, hx, hu, hn, i5, -forD, -List.map_cons, -List.map_nil]
      rw [e1]
      simp -dsimp -implicitDefEqProofs [-forD]
      rfl
theorem intsD_map (n : Nat) : intsD 0 n = ((List.range n).map fun (i : Nat) => (i : Int)).map PyData.int := by
  unfold intsD
  rw [List.map_map]
  refine List.map_congr_left fun i _ => ?_
  show PyData.int (0 + (i : Int)) = PyData.int i
  rw [Int.zero_add]
theorem Nb.take {ds : List Int} (h : Nb ds) (n : Nat) : Nb (ds.take n) := fun d hd => h d (List.mem_of_mem_take hd)
theorem numbers (s : List Int) (h : s.length ≤ 63) : ∃ L, Nb L ∧ _law_numbers_f [.list (s.map .int), .int 120] = .ok (.own (L.map .int)) := by
  obtain ⟨ds', a3', a4', a5', a6', g, gl, e⟩ := nb_o s ((List.range s.length).map fun (i : Nat) => (i : Int)) [] .no .no .no .no (fun k hk => by
    obtain ⟨i, hi, rfl⟩ := List.mem_map.mp hk
    have := List.mem_range.mp hi
    omega) (fun _ q => nomatch q) (by simp; omega)
  refine ⟨ds'.take 120, g.take 120, ?_⟩
  have hl : ((s.length : Nat) : Int) < 4611686018427387904 := by omega
  have hl0 : -4611686018427387904 ≤ ((s.length : Nat) : Int) := by omega
  simp -dsimp -implicitDefEqProofs [_law_numbers_f, intsD_map, hl, hl0, -forD, -List.map_map]
  rw [List.map_nil] at e
  rw [e]
  simp -dsimp -implicitDefEqProofs [cutA, sIx_nn]
  have z : HT.sIx ds'.length 0 none = 0 := rfl
  rw [z, Nat.sub_zero, List.drop_zero, ← List.map_take, ← List.map_take]
  congr 1
  by_cases q : ds'.length ≤ 120
  · rw [Nat.min_eq_right q, List.take_of_length_le (Nat.le_refl _), List.take_of_length_le q]
  · rw [Nat.min_eq_left (by omega)]
end My
namespace My
open PySem PySem.Spec PyProof.Rows L2 DL
theorem Nb.at {L : List Int} (h : Nb L) {i : Int} (h0 : 0 ≤ i) (h1 : i < L.length) : ∃ x, atI (L.map PyData.int) i = some (.int x) ∧ 0 ≤ x ∧ x < 1000 := by
  obtain ⟨j, rfl⟩ := Int.eq_ofNat_of_zero_le h0
  have hj : j < L.length := by omega
  refine ⟨L[j], ?_, h _ (List.getElem_mem hj)⟩
  unfold atI
  rw [show ixN (L.map PyData.int).length (j : Int) = some j by unfold ixN; simp [hj]]
  simp [hj]
/-- one number taken -/
theorem take {L : List Int} (h : Nb L) (p : Int) (hp : 0 ≤ p) : ∃ x p', 0 ≤ x ∧ x < 1000 ∧ 0 ≤ p' ∧ _law_take_f (.list (L.map .int)) [.int p] [] = .ok (.int x, [.int p']) := by
  have i0 : ixN 1 0 = some 0 := rfl
  have a0 : ∀ p : Int, atI [PyData.int p] 0 = some (.int p) := fun _ => rfl
  by_cases hl : p < L.length
  · obtain ⟨x, hx, x0, x1⟩ := h.at hp hl
    refine ⟨x, p + 1, x0, x1, by omega, ?_⟩
    have e : p + 1 - 1 = p := by omega
    simp -dsimp -implicitDefEqProofs [_law_take_f, hl, i0, a0, hx, e, frees]
  · refine ⟨0, p, by omega, by omega, hp, ?_⟩
    simp -dsimp -implicitDefEqProofs [_law_take_f, hl, i0, a0, frees]
/-- a word of n bits -/
def Wd (n : Nat) (w : List Int) : Prop := w.length = n ∧ ∀ b ∈ w, 0 ≤ b ∧ b ≤ 1
abbrev wdD (w : List Int) : PyData := .tuple (w.map .int)
def wsI : Nat → List (List Int)
  | 0 => [[]]
  | n + 1 => (wsI n).flatMap fun w => [w ++ [0], w ++ [1]]
theorem words (n : Nat) (h : n ≤ 3) : ∃ W : List PyData, _law_words_f [.int n] = .ok (.val (.list W)) ∧ (W.length : Int) = 2 ^ n := by
  match n, h with
  | 0, _ => exact ⟨(wsI 0).map wdD, by kernel_rfl, by rfl⟩
  | 1, _ => exact ⟨(wsI 1).map wdD, by kernel_rfl, by rfl⟩
  | 2, _ => exact ⟨(wsI 2).map wdD, by kernel_rfl, by rfl⟩
  | 3, _ => exact ⟨(wsI 3).map wdD, by kernel_rfl, by rfl⟩
theorem word (v : Int) (n : Nat) (h : n ≤ 3) : ∃ w, Wd n w ∧ _law_word_f [.int v, .int n] = .ok (.val (wdD w)) := by
  match n, h with
  | 0, _ => exact ⟨[], ⟨rfl, fun _ q => nomatch q⟩, by simp -dsimp -implicitDefEqProofs [_law_word_f, intsD]⟩
  | 1, _ => exact ⟨[v % 2], ⟨rfl, fun b q => by simp at q; omega⟩, by simp -dsimp -implicitDefEqProofs [_law_word_f, intsD, List.range, List.range.loop]⟩
  | 2, _ => exact ⟨[v / 2 % 2, v % 2], ⟨rfl, fun b q => by simp at q; omega⟩, by simp -dsimp -implicitDefEqProofs [_law_word_f, intsD, List.range, List.range.loop]⟩
  | 3, _ => exact ⟨[v / 2 / 2 % 2, v / 2 % 2, v % 2], ⟨rfl, fun b q => by simp at q; omega⟩, by simp -dsimp -implicitDefEqProofs [_law_word_f, intsD, List.range, List.range.loop]⟩
theorem betw (i lo hi : Int) : is_between_f [.int i, .int lo, .int hi] = okB (decide (lo ≤ i) && decide (i ≤ hi)) := by
  by_cases h1 : lo ≤ i
  · by_cases h2 : i ≤ hi
    · simp -dsimp -implicitDefEqProofs [is_between_f, is_integer_f, h1, h2]
    · simp -dsimp -implicitDefEqProofs [is_between_f, is_integer_f, h1, h2]
  · simp -dsimp -implicitDefEqProofs [is_between_f, is_integer_f, h1]
theorem betw_t {i lo hi : Int} (h1 : lo ≤ i) (h2 : i ≤ hi) : is_between_f [.int i, .int lo, .int hi] = okB true := by rw [betw]; simp [h1, h2]
def valI (a : Int) : List Int → Int
  | [] => a
  | b :: w => valI (2 * a + b) w
theorem valI_bd : ∀ (w : List Int) (a : Int) (n : Nat), (∀ b ∈ w, 0 ≤ b ∧ b ≤ 1) → 0 ≤ a → a < 2 ^ n → 0 ≤ valI a w ∧ valI a w < 2 ^ (n + w.length)
  | [], a, n, _, h0, h1 => ⟨h0, h1⟩
  | b :: w, a, n, hb, h0, h1 => by
    obtain ⟨b0, b1⟩ := hb b (List.mem_cons_self ..)
    have := valI_bd w (2 * a + b) (n + 1) (fun q hq => hb q (List.mem_cons_of_mem _ hq)) (by omega) (by rw [Int.pow_succ]; omega)
    rw [List.length_cons, show n + (w.length + 1) = n + 1 + w.length by omega]
    exact this
theorem Wd.val {n : Nat} {w : List Int} (h : Wd n w) : 0 ≤ valI 0 w ∧ valI 0 w < 2 ^ n := by
  have := valI_bd w 0 0 h.2 (by omega) (by decide)
  rw [Nat.zero_add, h.1] at this
  exact this
theorem num_loop : ∀ (w : List Int) (a : Int) (s a2 : Sl), ∃ a2', forD (gNm 2) (sSet 1 (c2 gAddE (c2 gMulZ (cC (.int 2)) (cV 1)) (cV 2)) []) (w.map .int) [s, .val (.int a), a2] = .ok (.nx [s, .val (.int (valI a w)), a2'])
  | [], a, s, a2 => ⟨a2, by simp [valI]⟩
  | b :: w, a, s, a2 => by
    obtain ⟨a2', e⟩ := num_loop w (2 * a + b) s (.val (.int b))
    refine ⟨a2', ?_⟩
    rw [valI, ← e, List.map_cons, forD]
    simp -dsimp -implicitDefEqProofs [-forD, frees]
theorem isw_loop (n : PyData) (s : Sl) : ∀ (w : List Int) (a2 : Sl), (∀ b ∈ w, 0 ≤ b ∧ b ≤ 1) → ∃ a2', forD (gNm 2) iw_b (w.map .int) [s, .val n, a2] = .ok (.nx [s, .val n, a2'])
  | [], a2, _ => ⟨a2, by simp⟩
  | b :: w, a2, h => by
    obtain ⟨a2', e⟩ := isw_loop n s w (.val (.int b)) (fun q hq => h q (List.mem_cons_of_mem _ hq))
    obtain ⟨b0, b1⟩ := h b (List.mem_cons_self ..)
    refine ⟨a2', ?_⟩
    rw [← e, List.map_cons, forD]
    simp -dsimp -implicitDefEqProofs [iw_b, betw_t b0 b1, -forD]
theorem is_word {n : Nat} {w : List Int} (h : Wd n w) : is_word_f [wdD w, .int n] = okB true := by
  obtain ⟨a2', e⟩ := isw_loop (.int n) (.val (wdD w)) w .no h.2
  have hl := h.1
  simp -dsimp -implicitDefEqProofs [is_word_f, -forD, hl]
  rw [e]
  simp
/-- a row -/
abbrev rowD (r : Int × List Int) : PyData := .tuple [.int r.1, wdD r.2]
def Rw (S : Int) (n : Nat) (r : Int × List Int) : Prop := 0 ≤ r.1 ∧ r.1 < S ∧ Wd n r.2
theorem is_row {S : Int} {n : Nat} {r : Int × List Int} (h : Rw S n r) : _is_row_f [rowD r, .int S, .int n] = okB true := by
  have e1 := betw_t h.1 (show r.1 ≤ S - 1 by have := h.2.1; omega)
  have e2 := is_word h.2.2
  simp -dsimp -implicitDefEqProofs [_is_row_f, e1, e2, atI, ixN]
end My
namespace My
open PySem PySem.Spec PyProof.Rows L2 DL
/-- the machines' sizes -/
structure Sz (S : Int) (n m : Nat) : Prop where
  s0 : 1 ≤ S
  s1 : S ≤ 8
  n1 : n ≤ 3
  m0 : 1 ≤ m
  m1 : m ≤ 3
def Rws (S : Int) (m : Nat) (R : List (Int × List Int)) : Prop := ∀ r ∈ R, Rw S m r
theorem Rws.app {S : Int} {m : Nat} {R : List (Int × List Int)} (h : Rws S m R) {r : Int × List Int} (hr : Rw S m r) : Rws S m (R ++ [r]) := fun q hq => by
  rcases List.mem_append.mp hq with z | z
  · exact h q z
  · simp at z; subst z; exact hr
theorem zeros (m : Nat) : Wd m (List.replicate m 0) := ⟨by simp, fun b hb => by have := List.eq_of_mem_replicate hb; omega⟩
theorem rep_z (m : Nat) (h0 : 1 ≤ m) (h1 : m ≤ 3) : gMulZ (.tuple [.int 0]) (.int m) = some (wdD (List.replicate m 0)) := by
  match m, h0, h1 with
  | 1, _, _ => rfl
  | 2, _, _ => rfl
  | 3, _, _ => rfl
@[simp] theorem gMul_i (i j : Int) : gMulZ (.int i) (.int j) = (kMul i j).map .int := rfl
theorem kMul_l (i j : Int) (h : -(2 ^ 64) < i ∧ i < 2 ^ 64) : kMul i j = some (i * j) := by
  unfold kMul
  rw [if_pos (.inl h)]
theorem rows_loop {L : List Int} (hL : Nb L) {S : Int} {n m : Nat} (z : Sz S n m) (st : Int) (hst : 0 ≤ st ∧ st < 4) : ∀ (ks : List Int) (R : List (Int × List Int)) (p : Int) (a7 a8 a9 a10 : Sl), Rws S m R → 0 ≤ p → (∀ k ∈ ks, 0 ≤ k ∧ k < 64) → R.length + ks.length < 1000000 → ∃ R' p' a7' a8' a9' a10', Rws S m R' ∧ 0 ≤ p' ∧ (R'.length : Int) = R.length + ((ks.filter fun k => decide (k < S * 2 ^ n)).length : Nat) ∧
    forD (gNm 7) rw_b (ks.map .int) [.val (.list (L.map .int)), .own [.int p], .val (.int S), .val (.int n), .val (.int m), .own (R.map rowD), .val (.int st), a7, a8, a9, a10] = .ok (.nx [.val (.list (L.map .int)), .own [.int p'], .val (.int S), .val (.int n), .val (.int m), .own (R'.map rowD), .val (.int st), a7', a8', a9', a10']) := by
  obtain ⟨Wn, en, ln⟩ := words n z.n1
  obtain ⟨Wm, em, lm⟩ := words m z.m1
  have h2m : (0 : Int) < 2 ^ m := Int.pow_pos (by decide)
  have h2n : (0 : Int) < 2 ^ n := Int.pow_pos (by decide)
  have m1 : kMul S (2 ^ n) = some (S * 2 ^ n) := kMul_l _ _ ⟨by have := z.s0; omega, by have := z.s1; omega⟩
  intro ks
  induction ks with
  | nil => intro R p a7 a8 a9 a10 h hp _ _; exact ⟨R, p, a7, a8, a9, a10, h, hp, by simp, by simp⟩
  | cons k ks ih =>
    intro R p a7 a8 a9 a10 h hp hk hz
    rw [List.length_cons] at hz
    have hk' : ∀ q ∈ ks, 0 ≤ q ∧ q < 64 := fun q hq => hk q (List.mem_cons_of_mem _ hq)
    by_cases hlt : k < S * 2 ^ n
    · obtain ⟨x, p1, x0, x1, hp1, et⟩ := take hL p hp
      have hs0 : 0 < S := by have := z.s0; omega
      obtain ⟨s2, hs2⟩ : ∃ s2, st % 2 = s2 := ⟨_, rfl⟩
      have m2 : kMul (7 * k) s2 = some (7 * k * s2) := kMul_r _ _ ⟨by omega, by omega⟩
      obtain ⟨nu, hnu⟩ : ∃ nu, x + 7 * k * s2 = nu := ⟨_, rfl⟩
      obtain ⟨w, hw, ew⟩ := word (nu / 8 % 2 ^ m) m z.m1
      have m3 : kMul 7 k = some (7 * k) := kMul_l _ _ ⟨by decide, by decide⟩
      have hl : R.length < 1000000 := by omega
      have rz := rep_z m z.m0 z.m1
      obtain ⟨c, hc⟩ : ∃ c, gEq (.int st) (.int 2) = some c := ⟨_, rfl⟩
      obtain ⟨c2, hc2⟩ : ∃ c2, gEq (.int (nu / 64 % 2)) (.int 0) = some c2 := ⟨_, rfl⟩
      have go : ∀ (r : Int × List Int) (b9 b10 : Sl), Rw S m r → forD (gNm 7) rw_b ((k :: ks).map .int) [.val (.list (L.map .int)), .own [.int p], .val (.int S), .val (.int n), .val (.int m), .own (R.map rowD), .val (.int st), a7, a8, a9, a10] = forD (gNm 7) rw_b (ks.map .int) [.val (.list (L.map .int)), .own [.int p1], .val (.int S), .val (.int n), .val (.int m), .own ((R ++ [r]).map rowD), .val (.int st), .val (.int k), .val (.int nu), b9, b10] →
          ∃ R' p' a7' a8' a9' a10', Rws S m R' ∧ 0 ≤ p' ∧ (R'.length : Int) = R.length + (((k :: ks).filter fun k => decide (k < S * 2 ^ n)).length : Nat) ∧
          forD (gNm 7) rw_b ((k :: ks).map .int) [.val (.list (L.map .int)), .own [.int p], .val (.int S), .val (.int n), .val (.int m), .own (R.map rowD), .val (.int st), a7, a8, a9, a10] = .ok (.nx [.val (.list (L.map .int)), .own [.int p'], .val (.int S), .val (.int n), .val (.int m), .own (R'.map rowD), .val (.int st), a7', a8', a9', a10']) := fun r b9 b10 hr e1 => by
        obtain ⟨R', p', a7', a8', a9', a10', g1, g2, g3, e⟩ := ih (R ++ [r]) p1 (.val (.int k)) (.val (.int nu)) b9 b10 (h.app hr) hp1 hk' (by rw [List.length_append, List.length_singleton]; omega)
        refine ⟨R', p', a7', a8', a9', a10', g1, g2, ?_, by rw [e1, e]⟩
        rw [g3, List.filter_cons, if_pos (by simpa using hlt), List.length_append, List.length_singleton, List.length_cons]
        omega
      have mo : 0 ≤ nu % S ∧ nu % S < S := ⟨Int.emod_nonneg _ (by omega), Int.emod_lt_of_pos _ hs0⟩
      cases c with
      | true =>
        cases c2 with
        | true =>
          refine go (0, List.replicate m 0) (.val (.int 0)) (.val (wdD (List.replicate m 0))) ⟨by show (0:Int) ≤ 0; omega, hs0, zeros m⟩ ?_
          rw [List.map_cons, forD]
          simp -dsimp -implicitDefEqProofs [rw_b, rw_in, en, em, ln, lm, m1, m2, m3, hlt, et, hs2, hnu, hs0, h2m, ew, hc, hc2, hl, rz, -forD, -kMul, -gMulZ, -gEq, frees]
        | false =>
          refine go (nu % S, w) (.val (.int (nu % S))) (.val (wdD w)) ⟨mo.1, mo.2, hw⟩ ?_
          rw [List.map_cons, forD]
          simp -dsimp -implicitDefEqProofs [rw_b, rw_in, en, em, ln, lm, m1, m2, m3, hlt, et, hs2, hnu, hs0, h2m, ew, hc, hc2, hl, rz, -forD, -kMul, -gMulZ, -gEq, frees]
      | false =>
        refine go (nu % S, w) (.val (.int (nu % S))) (.val (wdD w)) ⟨mo.1, mo.2, hw⟩ ?_
        rw [List.map_cons, forD]
        simp -dsimp -implicitDefEqProofs [rw_b, rw_in, en, em, ln, lm, m1, m2, m3, hlt, et, hs2, hnu, hs0, h2m, ew, hc, hc2, hl, rz, -forD, -kMul, -gMulZ, -gEq, frees]
    · obtain ⟨R', p', a7', a8', a9', a10', g1, g2, g3, e⟩ := ih R p (.val (.int k)) a8 a9 a10 h hp hk' (by omega)
      refine ⟨R', p', a7', a8', a9', a10', g1, g2, by rw [g3, List.filter_cons, if_neg (by simpa using hlt)], ?_⟩
      rw [← e, List.map_cons, forD]
      simp -dsimp -implicitDefEqProofs [rw_b, en, ln, m1, hlt, -forD, -kMul, -gMulZ, -gEq, frees]
theorem cnt (M : Nat) : ∀ N : Nat, (((List.range N).map fun (i : Nat) => (i : Int)).filter fun k => decide (k < (M : Int))).length = min N M
  | 0 => by simp
  | N + 1 => by
    rw [List.range_succ, List.map_append, List.filter_append, List.length_append, cnt M N]
    by_cases h : N < M
    · have : ([N].map fun (i : Nat) => (i : Int)).filter (fun k => decide (k < (M : Int))) = [(N : Int)] := by simp [h]
      rw [this, List.length_singleton]
      omega
    · have : ([N].map fun (i : Nat) => (i : Int)).filter (fun k => decide (k < (M : Int))) = [] := by simp; omega
      rw [this, List.length_nil]
      omega
theorem pow_le8 (n : Nat) (h : n ≤ 3) : (2 : Int) ^ n ≤ 8 ∧ 1 ≤ (2 : Int) ^ n := by
  match n, h with
  | 0, _ => decide
  | 1, _ => decide
  | 2, _ => decide
  | 3, _ => decide
theorem rows {L : List Int} (hL : Nb L) {S : Int} {n m : Nat} (z : Sz S n m) (p : Int) (hp : 0 ≤ p) : ∃ R p', Rws S m R ∧ 0 ≤ p' ∧ (R.length : Int) = S * 2 ^ n ∧
    _law_rows_f (.list (L.map .int)) [.int p] [.int S, .int n, .int m] = .ok (.list (R.map rowD), [.int p']) := by
  obtain ⟨x, p1, x0, x1, hp1, et⟩ := take hL p hp
  have h8 := pow_le8 n z.n1
  have s0 := z.s0
  have s1 := z.s1
  obtain ⟨M, hM⟩ : ∃ M : Nat, S * 2 ^ n = M := Int.eq_ofNat_of_zero_le (Int.mul_nonneg (by omega) (by omega))
  have hM8 : M ≤ (S * 8).toNat := by
    have : S * 2 ^ n ≤ S * 8 := Int.mul_le_mul_of_nonneg_left h8.1 (by omega)
    omega
  obtain ⟨st, hst⟩ : ∃ st, x % 4 = st := ⟨_, rfl⟩
  obtain ⟨R, p', a7', a8', a9', a10', g1, g2, g3, e⟩ := rows_loop hL z st (by omega) ((List.range (S * 8).toNat).map fun (i : Nat) => (i : Int)) [] p1 .no .no .no .no (fun _ q => nomatch q) hp1 (fun k hk => by
    obtain ⟨i, hi, rfl⟩ := List.mem_map.mp hk
    have := List.mem_range.mp hi
    omega) (by simp; omega)
  refine ⟨R, p', g1, g2, ?_, ?_⟩
  · rw [g3, hM, cnt, List.length_nil, Nat.min_eq_right hM8]
    simp
  · have m8 : kMul S 8 = some (S * 8) := kMul_r _ _ ⟨by decide, by decide⟩
    have b1 : -4611686018427387904 ≤ S * 8 := by omega
    have b2 : S * 8 < 4611686018427387904 := by omega
    have p3 : kPow 2 3 = some 8 := rfl
    rw [List.map_nil] at e
    simp -dsimp -implicitDefEqProofs [_law_rows_f, et, hst, m8, b1, b2, p3, intsD_map, -kPow, -forD, -kMul, -gMulZ, -gEq, -List.map_map, frees]
    rw [e]
    simp -dsimp -implicitDefEqProofs [freeze, frees]
end My
namespace My
open PySem PySem.Spec PyProof.Rows L2 DL
section
variable [Cs]
theorem init_loop {S : Int} {m : Nat} : ∀ (R : List (Int × List Int)) (a0 a2 a4 a5 : Sl), Rws S m R → ∃ a5', forD (gNm 5) init_b (R.map rowD) [a0, .val (.int S), a2, .val (.int m), a4, a5] = .ok (.nx [a0, .val (.int S), a2, .val (.int m), a4, a5'])
  | [], a0, a2, a4, a5, _ => ⟨a5, by simp⟩
  | r :: R, a0, a2, a4, a5, h => by
    obtain ⟨a5', e⟩ := init_loop R a0 a2 a4 (.val (rowD r)) (fun q hq => h q (List.mem_cons_of_mem _ hq))
    refine ⟨a5', ?_⟩
    rw [← e, List.map_cons, forD]
    simp -dsimp -implicitDefEqProofs [init_b, is_row (h r (List.mem_cons_self ..)), -forD, frees]
abbrev mach (S : Int) (n m : Nat) (R : List (Int × List Int)) : PyData := insD Cs.Machine ["states", "inputs", "outputs", "_rows"] [.int S, .int n, .int m, .list (R.map rowD)]
theorem shl (S : Int) (n : Nat) (h0 : 1 ≤ S) (h1 : S ≤ 8) (hn : n ≤ 3) : kShl S n = some (S * 2 ^ n) := by
  unfold kShl
  rw [if_pos ⟨by omega, by omega, by omega⟩]
  rfl
theorem init {S : Int} {n m : Nat} (z : Sz S n m) {R : List (Int × List Int)} (hR : Rws S m R) (hl : (R.length : Int) = S * 2 ^ n) : Machine_init_f [.int S, .int n, .int m, .list (R.map rowD)] = .ok (["states", "inputs", "outputs", "_rows"], [.int S, .int n, .int m, .list (R.map rowD)]) := by
  obtain ⟨a5', e⟩ := init_loop R .exn (.val (.int n)) (.bor (R.map rowD)) .no hR
  have s0 := z.s0
  have s1 := z.s1
  have n1 := z.n1
  have m0 := z.m0
  have m1 := z.m1
  have b1 : is_between_f [.int S, .int 1, .int 8] = okB true := betw_t s0 s1
  have b2 : is_between_f [.int n, .int 0, .int 3] = okB true := betw_t (by omega) (by omega)
  have b3 : is_between_f [.int m, .int 1, .int 3] = okB true := betw_t (by omega) (by omega)
  have sh := shl S n s0 s1 n1
  have ne : gNe (.int R.length) (.int (S * 2 ^ n)) = some false := by rw [hl]; simp [SeqAt.shaped, PyData.eqv]; exact ⟨rfl, Nat.le_of_ble_eq_true rfl⟩
  simp -dsimp -implicitDefEqProofs [Machine_init_f, b1, b2, b3, sh, ne, -kShl, -gNe, -forD, frees]
  rw [e]
  simp -dsimp -implicitDefEqProofs [frees, ofString_inj]
end
end My
namespace My
open PySem PySem.Spec PyProof.Rows L2 DL
/-! same -/
theorem sm_int (k : Nat) (i : Int) : _law_same_fr (k + 1) [.int i, .int i] = okB true := by
  have e : gEqA (.int i) (.int i) = some true := by simp [SeqAt.shaped, PyData.eqv]; exact ⟨rfl, Nat.le_of_ble_eq_true rfl⟩
  simp -dsimp -implicitDefEqProofs [_law_same_fr, e, -gEqA, frees]
theorem atI_mem {ds : List PyData} {i : Int} (h0 : 0 ≤ i) (h1 : i < ds.length) : ∃ d ∈ ds, atI ds i = some d := by
  obtain ⟨j, rfl⟩ := Int.eq_ofNat_of_zero_le h0
  have hj : j < ds.length := by omega
  refine ⟨ds[j], List.getElem_mem hj, ?_⟩
  unfold atI
  rw [show ixN ds.length (j : Int) = some j by unfold ixN; simp [hj]]
  simp [hj]
theorem sm_loop (g : FF) (ds : List PyData) (hg : ∀ d ∈ ds, g [d, d] = okB true) : ∀ (ks : List Int) (a2 : Sl), (∀ k ∈ ks, 0 ≤ k ∧ k < ds.length) → ∃ a2', forD (gNm 2) (sIf (tNotD (tTru (cCall g (aCons (c2 gIxA (cV 0) (cV 2)) (aCons (c2 gIxA (cV 1) (cV 2)) aNil))))) (sRet (cC (.bool false))) sNil) (ks.map .int) [.val (.tuple ds), .val (.tuple ds), a2] = .ok (.nx [.val (.tuple ds), .val (.tuple ds), a2'])
  | [], a2, _ => ⟨a2, by simp⟩
  | k :: ks, a2, h => by
    obtain ⟨k0, k1⟩ := h k (List.mem_cons_self ..)
    obtain ⟨d, hd, e1⟩ := atI_mem k0 k1
    obtain ⟨a2', e⟩ := sm_loop g ds hg ks (.val (.int k)) (fun q hq => h q (List.mem_cons_of_mem _ hq))
    refine ⟨a2', ?_⟩
    rw [← e, List.map_cons, forD]
    simp -dsimp -implicitDefEqProofs [e1, hg d hd, -forD, frees]
theorem sm_tup (k : Nat) (ds : List PyData) (h : ∀ d ∈ ds, _law_same_fr k [d, d] = okB true) (hl : ds.length < 1000000) : _law_same_fr (k + 1) [.tuple ds, .tuple ds] = okB true := by
  obtain ⟨a2', e⟩ := sm_loop (_law_same_fr k) ds h ((List.range ds.length).map fun (i : Nat) => (i : Int)) .no (fun k hk => by
    obtain ⟨i, hi, rfl⟩ := List.mem_map.mp hk
    have := List.mem_range.mp hi
    omega)
  have b1 : -4611686018427387904 ≤ (ds.length : Int) := by omega
  have b2 : (ds.length : Int) < 4611686018427387904 := by omega
  have ne : gNeA (.int ds.length) (.int ds.length) = some false := by simp [SeqAt.shaped, PyData.eqv]; exact ⟨rfl, Nat.le_of_ble_eq_true rfl⟩
  rw [_law_same_fr]
  simp -dsimp -implicitDefEqProofs [b1, b2, ne, intsD_map, -gNeA, -gEqA, -forD, -List.map_map, frees]
  rw [e]
  simp
theorem sm_wd (k : Nat) (w : List Int) (hl : w.length < 1000000) : _law_same_fr (k + 2) [wdD w, wdD w] = okB true :=
  sm_tup (k + 1) _ (fun d hd => by obtain ⟨i, _, rfl⟩ := List.mem_map.mp hd; exact sm_int k i) (by simpa using hl)
theorem sm_row (k : Nat) (r : Int × List Int) (hl : r.2.length < 1000000) : _law_same_fr (k + 3) [rowD r, rowD r] = okB true :=
  sm_tup (k + 2) _ (fun d hd => by
    simp at hd
    rcases hd with rfl | rfl
    · exact sm_int (k + 1) r.1
    · exact sm_wd k r.2 hl) (by simp)
theorem num_loopZ : ∀ (w : List Int) (a : Int) (s a2 : Sl), ∃ a2', forD (gNm 2) (sSet 1 (c2 gAddE (c2 gMulZ (cC (.int 2)) (cV 1)) (cV 2)) []) (w.map .int) [s, .val (.int a), a2] = .ok (.nx [s, .val (.int (valI a w)), a2'])
  | [], a, s, a2 => ⟨a2, by simp [valI]⟩
  | b :: w, a, s, a2 => by
    obtain ⟨a2', e⟩ := num_loopZ w (2 * a + b) s (.val (.int b))
    refine ⟨a2', ?_⟩
    rw [valI, ← e, List.map_cons, forD]
    have mk : kMul 2 a = some (2 * a) := kMul_l _ _ ⟨by decide, by decide⟩
    simp -dsimp -implicitDefEqProofs [-forD, frees, mk, -kMul]
theorem number (w : List Int) : word_number_f [wdD w] = okI (valI 0 w) := by
  obtain ⟨a2', e⟩ := num_loopZ w 0 (.val (wdD w)) .no
  simp -dsimp -implicitDefEqProofs [word_number_f, -forD, frees]
  rw [e]
  simp
theorem value (w : List Int) : _law_value_f [wdD w] = okI (valI 0 w) := number w
/-! one step -/
section
variable [Cs]
def stp (R : List (Int × List Int)) (n : Nat) (s : Int) (w : List Int) : Int × List Int := R.getD (s * 2 ^ n + valI 0 w).toNat (0, [])
theorem stp_ok {S : Int} {n m : Nat} (z : Sz S n m) {R : List (Int × List Int)} (hR : Rws S m R) (hl : (R.length : Int) = S * 2 ^ n) {s : Int} (s0 : 0 ≤ s) (s1 : s < S) {w : List Int} (hw : Wd n w) :
    Rw S m (stp R n s w) ∧ atI (R.map rowD) (s * 2 ^ n + valI 0 w) = some (rowD (stp R n s w)) := by
  obtain ⟨v0, v1⟩ := hw.val
  have h8 := pow_le8 n z.n1
  have q0 : 0 ≤ s * 2 ^ n := Int.mul_nonneg s0 (by omega)
  have q1 : (s + 1) * 2 ^ n ≤ S * 2 ^ n := Int.mul_le_mul_of_nonneg_right (by omega) (by omega)
  rw [Int.add_mul, Int.one_mul] at q1
  obtain ⟨j, hj⟩ : ∃ j : Nat, s * 2 ^ n + valI 0 w = j := Int.eq_ofNat_of_zero_le (by omega)
  have hjl : j < R.length := by omega
  unfold stp
  rw [hj, Int.toNat_natCast, List.getD_eq_getElem?_getD, List.getElem?_eq_getElem hjl]
  refine ⟨hR _ (List.getElem_mem hjl), ?_⟩
  unfold atI
  rw [show ixN (R.map rowD).length (j : Int) = some j by unfold ixN; simp [hjl]]
  simp [hjl]
theorem row {S : Int} {n m : Nat} (z : Sz S n m) {R : List (Int × List Int)} (hR : Rws S m R) (hl : (R.length : Int) = S * 2 ^ n) {s : Int} (s0 : 0 ≤ s) (s1 : s < S) {w : List Int} (hw : Wd n w) :
    Machine_row_f [mach S n m R, .int s, wdD w] = .ok (.val (rowD (stp R n s w))) := by
  obtain ⟨_, e⟩ := stp_ok z hR hl s0 s1 hw
  have b1 : is_between_f [.int s, .int 0, .int (S - 1)] = okB true := betw_t s0 (by omega)
  have b2 := is_word hw
  have sh : kShl s n = some (s * 2 ^ n) := by
    have := z.s1
    have := z.n1
    unfold kShl
    rw [if_pos ⟨by omega, by omega, by omega⟩]
    rfl
  have nu := number w
  simp -dsimp -implicitDefEqProofs [Machine_row_f, b1, b2, sh, nu, e, ofString_inj, -kShl, frees]
theorem step {S : Int} {n m : Nat} (z : Sz S n m) {R : List (Int × List Int)} (hR : Rws S m R) (hl : (R.length : Int) = S * 2 ^ n) {s : Int} (s0 : 0 ≤ s) (s1 : s < S) {w : List Int} (hw : Wd n w) :
    _law_step_f [.list (R.map rowD), .int n, .int s, wdD w] = .ok (.val (rowD (stp R n s w))) := by
  obtain ⟨_, e⟩ := stp_ok z hR hl s0 s1 hw
  obtain ⟨Wn, en, ln⟩ := words n z.n1
  have h8 := pow_le8 n z.n1
  have m1 : kMul s (2 ^ n) = some (s * 2 ^ n) := kMul_r _ _ ⟨by omega, by omega⟩
  have nu := value w
  simp -dsimp -implicitDefEqProofs [_law_step_f, en, ln, m1, nu, e, -kMul, -gMulZ, frees]
end
end My
namespace My
open PySem PySem.Spec PyProof.Rows L2 DL
/-! a table changed -/
theorem ixN_nn {n : Nat} {i : Int} (h0 : 0 ≤ i) (h1 : i < n) : ixN n i = some i.toNat := by
  obtain ⟨j, rfl⟩ := Int.eq_ofNat_of_zero_le h0
  have hj : j < n := by omega
  unfold ixN
  simp [hj]
theorem at_rows {S : Int} {m : Nat} {R : List (Int × List Int)} (h : Rws S m R) {i : Int} (h0 : 0 ≤ i) (h1 : i < R.length) : ∃ r, atI (R.map rowD) i = some (rowD r) ∧ Rw S m r := by
  have hi : i.toNat < R.length := by omega
  refine ⟨R[i.toNat], ?_, h _ (List.getElem_mem hi)⟩
  rw [atI_nn _ _ h0]
  simp [hi]
theorem Rws.set {S : Int} {m : Nat} {R : List (Int × List Int)} (h : Rws S m R) (j : Nat) {r : Int × List Int} (hr : Rw S m r) : Rws S m (R.set j r) := fun q hq => by
  rcases List.mem_or_eq_of_mem_set hq with z | z
  · exact h q z
  · rw [z]; exact hr
theorem map_set {R : List (Int × List Int)} (j : Nat) (r : Int × List Int) : (R.set j r).map rowD = (R.map rowD).set j (rowD r) := List.map_set ..
variable [Cs]
theorem ch_loop {L : List Int} (hL : Nb L) {S : Int} {m : Nat} {R : List (Int × List Int)} (hR : Rws S m R) (s0 : 1 ≤ S) (r0 : 1 ≤ R.length) (hz : R.length ≤ 1000) (a3 a5 a9 a10 a11 : Sl) : ∀ (ks : List PyData) (F : List (Int × List Int)) (p : Int) (a7 a8 : Sl), Rws S m F → F.length = R.length → 0 ≤ p →
    ∃ F' p' a7' a8', Rws S m F' ∧ F'.length = R.length ∧ 0 ≤ p' ∧ forD (gNm 7) ch_b ks [.val (.list (R.map rowD)), .own [.int p], .val (.int S), a3, .val (.list (L.map .int)), a5, .own (F.map rowD), a7, a8, a9, a10, a11] = .ok (.nx [.val (.list (R.map rowD)), .own [.int p'], .val (.int S), a3, .val (.list (L.map .int)), a5, .own (F'.map rowD), a7', a8', a9, a10, a11])
  | [], F, p, a7, a8, h, hl, hp => ⟨F, p, a7, a8, h, hl, hp, rfl⟩
  | k :: ks, F, p, a7, a8, h, hl, hp => by
    obtain ⟨x1, p1, x10, x11, hp1, e1⟩ := take hL p hp
    obtain ⟨x2, p2, x20, x21, hp2, e2⟩ := take hL p1 hp1
    obtain ⟨x3, p3, x30, x31, hp3, e3⟩ := take hL p2 hp2
    have rl : (0 : Int) < R.length := by omega
    have rn : 0 < R.length := by omega
    have a0 : 0 ≤ x1 % R.length := Int.emod_nonneg _ (by omega)
    have a1 : x1 % R.length < R.length := Int.emod_lt_of_pos _ rl
    have b0 : 0 ≤ x3 % R.length := Int.emod_nonneg _ (by omega)
    have b1 : x3 % R.length < R.length := Int.emod_lt_of_pos _ rl
    have c0 : 0 ≤ x2 % S := Int.emod_nonneg _ (by omega)
    have c1 : x2 % S < S := Int.emod_lt_of_pos _ (by omega)
    obtain ⟨r, er, hr⟩ := at_rows hR b0 b1
    have ei := ixN_nn (n := F.length) a0 (by omega)
    have s0' : 0 < S := by omega
    obtain ⟨F', p', a7', a8', g1, g2, g3, e⟩ := ch_loop hL hR s0 r0 hz a3 a5 a9 a10 a11 ks (F.set (x1 % R.length).toNat (x2 % S, r.2)) p3 (.val k) (.val (.int (x1 % R.length))) (h.set _ ⟨c0, c1, hr.2.2⟩) (by rw [List.length_set]; exact hl) hp3
    refine ⟨F', p', a7', a8', g1, g2, g3, ?_⟩
    rw [← e, forD, map_set]
    have lr : (R.map rowD).length = R.length := List.length_map ..
    have lf : (F.map rowD).length = F.length := List.length_map ..
    generalize F.map rowD = FF at *
    generalize R.map rowD = RR at *
    simp -dsimp -implicitDefEqProofs [ch_b, e1, e2, e3, lr, lf, rl, rn, er, ei, s0', -forD, frees]
    done
end My
namespace My
open PySem PySem.Spec PyProof.Rows L2 DL
def Od (S : Int) (O : List Int) : Prop := (O.length : Int) = S ∧ ∀ x ∈ O, 0 ≤ x ∧ x < S
theorem Od.at {S : Int} {O : List Int} (h : Od S O) {i : Int} (h0 : 0 ≤ i) (h1 : i < S) : ∃ x, atI (O.map PyData.int) i = some (.int x) ∧ 0 ≤ x ∧ x < S := by
  have hi : i.toNat < O.length := by have := h.1; omega
  refine ⟨O[i.toNat], ?_, h.2 _ (List.getElem_mem hi)⟩
  rw [atI_nn _ _ h0]
  simp [hi]
theorem mulW {S W s : Int} (s0 : 0 ≤ s) (s1 : s < S) (w0 : 0 ≤ W) : 0 ≤ s * W ∧ s * W + W ≤ S * W := by
  have q0 : 0 ≤ s * W := Int.mul_nonneg s0 w0
  have q1 : (s + 1) * W ≤ S * W := Int.mul_le_mul_of_nonneg_right (by omega) w0
  rw [Int.add_mul, Int.one_mul] at q1
  exact ⟨q0, q1⟩
variable [Cs]
theorem ch_in {S W : Int} {m : Nat} {R : List (Int × List Int)} (hR : Rws S m R) (hlen : (R.length : Int) = S * W) (w0 : 1 ≤ W) (w1 : W ≤ 8) {O : List Int} (hO : Od S O) (st : Int) (t0 : 0 ≤ st) (t1 : st < S) (a1 a4 a5 a8 : Sl) : ∀ (ks : List Int) (F : List (Int × List Int)) (a7 a11 : Sl), (∀ k ∈ ks, 0 ≤ k ∧ k < W) → Rws S m F → F.length = R.length →
    ∃ F' a7' a11', Rws S m F' ∧ F'.length = R.length ∧ forD (gNm 7) ch_c (ks.map .int) [.val (.list (R.map rowD)), a1, .val (.int S), .val (.int W), a4, a5, .own (F.map rowD), a7, a8, .val (.list (O.map .int)), .val (.int st), a11] = .ok (.nx [.val (.list (R.map rowD)), a1, .val (.int S), .val (.int W), a4, a5, .own (F'.map rowD), a7', a8, .val (.list (O.map .int)), .val (.int st), a11'])
  | [], F, a7, a11, _, h, hl => ⟨F, a7, a11, h, hl, rfl⟩
  | k :: ks, F, a7, a11, hk, h, hl => by
    obtain ⟨k0, k1⟩ := hk k (List.mem_cons_self ..)
    obtain ⟨q0, q1⟩ := mulW t0 t1 (W := W) (by omega)
    obtain ⟨r, er, hr⟩ := at_rows hR (i := st * W + k) (by omega) (by omega)
    obtain ⟨x, ex, x0, x1⟩ := hO.at t0 t1
    obtain ⟨y, ey, y0, y1⟩ := hO.at hr.1 hr.2.1
    obtain ⟨p0, p1⟩ := mulW x0 x1 (W := W) (by omega)
    have ei := ixN_nn (n := F.length) (i := x * W + k) (by omega) (by omega)
    have m1 : kMul st W = some (st * W) := kMul_r _ _ ⟨by omega, by omega⟩
    have m2 : kMul x W = some (x * W) := kMul_r _ _ ⟨by omega, by omega⟩
    obtain ⟨F', a7', a11', g1, g2, e⟩ := ch_in hR hlen w0 w1 hO st t0 t1 a1 a4 a5 a8 ks (F.set (x * W + k).toNat (y, r.2)) (.val (.int k)) (.val (rowD r)) (fun z hz => hk z (List.mem_cons_of_mem _ hz)) (h.set _ ⟨y0, y1, hr.2.2⟩) (by rw [List.length_set]; exact hl)
    refine ⟨F', a7', a11', g1, g2, ?_⟩
    rw [← e, List.map_cons, forD, map_set]
    have lf : (F.map rowD).length = F.length := List.length_map ..
    generalize F.map rowD = FF at *
    generalize R.map rowD = RR at *
    generalize O.map PyData.int = OO at *
    simp -dsimp -implicitDefEqProofs [ch_c, m1, m2, -kMul, er, ex, ey, lf, ei, -forD, frees]
    done
theorem ch_out {S W : Int} {m : Nat} {R : List (Int × List Int)} (hR : Rws S m R) (hlen : (R.length : Int) = S * W) (w0 : 1 ≤ W) (w1 : W ≤ 8) {O : List Int} (hO : Od S O) (a1 a4 a5 a8 : Sl) : ∀ (ks : List Int) (F : List (Int × List Int)) (a7 a10 a11 : Sl), (∀ k ∈ ks, 0 ≤ k ∧ k < S) → Rws S m F → F.length = R.length →
    ∃ F' a7' a10' a11', Rws S m F' ∧ F'.length = R.length ∧ forD (gNm 10) (sFor (gNm 7) (iR1 (cV 3)) [] ch_c) (ks.map .int) [.val (.list (R.map rowD)), a1, .val (.int S), .val (.int W), a4, a5, .own (F.map rowD), a7, a8, .val (.list (O.map .int)), a10, a11] = .ok (.nx [.val (.list (R.map rowD)), a1, .val (.int S), .val (.int W), a4, a5, .own (F'.map rowD), a7', a8, .val (.list (O.map .int)), a10', a11'])
  | [], F, a7, a10, a11, _, h, hl => ⟨F, a7, a10, a11, h, hl, rfl⟩
  | k :: ks, F, a7, a10, a11, hk, h, hl => by
    obtain ⟨k0, k1⟩ := hk k (List.mem_cons_self ..)
    obtain ⟨F1, a71, a111, g1, g2, e1⟩ := ch_in hR hlen w0 w1 hO k k0 k1 a1 a4 a5 a8 ((List.range W.toNat).map fun (i : Nat) => (i : Int)) F a7 a11 (fun z hz => by
      obtain ⟨i, hi, rfl⟩ := List.mem_map.mp hz
      have := List.mem_range.mp hi
      omega) h hl
    rw [← intsD_map] at e1
    obtain ⟨F', a7', a10', a11', g1', g2', e⟩ := ch_out hR hlen w0 w1 hO a1 a4 a5 a8 ks F1 a71 (.val (.int k)) a111 (fun z hz => hk z (List.mem_cons_of_mem _ hz)) g1 g2
    refine ⟨F', a7', a10', a11', g1', g2', ?_⟩
    have b : -4611686018427387904 ≤ W ∧ W < 4611686018427387904 := by omega
    rw [← e, List.map_cons, forD]
    generalize F.map rowD = FF at *
    generalize F1.map rowD = FF1 at *
    generalize R.map rowD = RR at *
    generalize O.map PyData.int = OO at *
    simp -dsimp -implicitDefEqProofs [b, e1, -forD, frees]
    done
theorem changed {L : List Int} (hL : Nb L) {S W : Int} {m : Nat} {R : List (Int × List Int)} (hR : Rws S m R) (hlen : (R.length : Int) = S * W) (s0 : 1 ≤ S) (s1 : S ≤ 8) (w0 : 1 ≤ W) (w1 : W ≤ 8) (p : Int) (hp : 0 ≤ p) :
    ∃ F p', Rws S m F ∧ F.length = R.length ∧ 0 ≤ p' ∧ _law_changed_f (.list (R.map rowD)) [.int p] [.int S, .int W, .list (L.map .int)] = .ok (.list (F.map rowD), [.int p']) := by
  obtain ⟨x, p1, x0, x1, hp1, et⟩ := take hL p hp
  obtain ⟨x2, p2, x20, x21, hp2, et2⟩ := take hL p1 hp1
  have rl : 1 ≤ R.length ∧ R.length ≤ 64 := by
    have q1 : 1 * 1 ≤ S * W := Int.mul_le_mul s0 w0 (by omega) (by omega)
    have q2 : S * W ≤ 8 * 8 := Int.mul_le_mul s1 w1 (by omega) (by omega)
    omega
  have lr : (R.map rowD).length ≤ 1000000 := by rw [List.length_map]; omega
  by_cases k0 : x % 4 = 0
  · obtain ⟨F, p', a7, a8, g1, g2, g3, e⟩ := ch_loop hL hR s0 rl.1 (by omega) (.val (.int W)) (.val (.int (x % 4))) .no .no .no (intsD 0 (x2 % 3).toNat) R p2 .no .no hR rfl hp2
    refine ⟨F, p', g1, g2, g3, ?_⟩
    rw [k0] at e
    have b : -4611686018427387904 ≤ x2 % 3 ∧ x2 % 3 < 4611686018427387904 := by omega
    generalize F.map rowD = FF at *
    generalize R.map rowD = RR at *
    simp -dsimp -implicitDefEqProofs [_law_changed_f, ch_1, et, k0, et2, b, e, lr, -forD, frees, freeze]
    done
  · have k0' : (x % 4 == 0) = false := beq_eq_false_iff_ne.mpr k0
    by_cases k1 : x % 4 = 1 ∧ 2 < S
    · obtain ⟨k1, k2⟩ := k1
      have cd := lcD_map (i := 7) (fe := c2 gAddE (cC (.int 1)) (c2 (gI kMod) (c2 gAddE (cV 7) (cC (.int 1))) (c2 (gI kSub) (cV 2) (cC (.int 1))))) (env := [.val (.list (R.map rowD)), .own [.int p1], .val (.int S), .val (.int W), .val (.list (L.map .int)), .val (.int 1), .own (R.map rowD), .no, .no, .no, .no, .no]) (α := Int) PyData.int (fun k => .int (1 + (k + 1) % (S - 1))) ((List.range (S - 1).toNat).map fun (i : Nat) => (i : Int)) (fun k _ => by
        have s2 : 1 < S := by omega
        simp -dsimp -implicitDefEqProofs [s2])
      have eo : (((List.range (S - 1).toNat).map fun (i : Nat) => (i : Int)).map fun k => PyData.int (1 + (k + 1) % (S - 1))) = ((((List.range (S - 1).toNat).map fun (i : Nat) => (i : Int)).map fun k => 1 + (k + 1) % (S - 1))).map PyData.int := by rw [List.map_map (g := PyData.int)]; rfl
      rw [eo, ← intsD_map] at cd
      obtain ⟨O1, hO1⟩ : ∃ O1, (((List.range (S - 1).toNat).map fun (i : Nat) => (i : Int)).map fun k => 1 + (k + 1) % (S - 1)) = O1 := ⟨_, rfl⟩
      have hO : Od S (0 :: O1) := by
        subst hO1
        refine ⟨by simp; omega, fun y hy => ?_⟩
        rcases List.mem_cons.mp hy with rfl | hy
        · omega
        · obtain ⟨k, _, rfl⟩ := List.mem_map.mp hy
          have a := Int.emod_nonneg (k + 1) (b := S - 1) (by omega)
          have b := Int.emod_lt_of_pos (k + 1) (b := S - 1) (by omega)
          omega
      rw [hO1, show (S - 1).toNat = S.toNat - 1 by omega] at cd
      have lo : O1.length + 1 ≤ 1000000 := by have := hO.1; simp at this; omega
      have lo2 : O1.length ≤ 1000000 := by omega
      obtain ⟨F, a7, a10, a11, g1, g2, e⟩ := ch_out hR hlen w0 w1 hO (.own [.int p1]) (.val (.list (L.map .int))) (.val (.int 1)) .no ((List.range S.toNat).map fun (i : Nat) => (i : Int)) R .no .no .no (fun z hz => by
        obtain ⟨i, hi, rfl⟩ := List.mem_map.mp hz
        have := List.mem_range.mp hi
        omega) hR rfl
      rw [← intsD_map] at e
      refine ⟨F, p1, g1, g2, hp1, ?_⟩
      have b : -4611686018427387904 ≤ S ∧ S < 4611686018427387904 := by omega
      have b2 : -4611686018427387904 ≤ S - 1 ∧ S - 1 < 4611686018427387904 := by omega
      have ez : (0 :: O1).map PyData.int = .int 0 :: O1.map .int := rfl
      rw [ez] at e
      have lo3 : (O1.map PyData.int).length ≤ 1000000 := by rw [List.length_map]; omega
      have lo4 : 1 + (O1.map PyData.int).length ≤ 1000000 := by rw [List.length_map]; omega
      generalize O1.map PyData.int = OO at *
      generalize F.map rowD = FF at *
      generalize R.map rowD = RR at *
      simp -dsimp -implicitDefEqProofs [_law_changed_f, ch_1, et, k1, k2, lr, ch_2, cd, -lcD, b2, lo3, lo4, -forD, frees, freeze]
      unfold ch_3
      simp -dsimp -implicitDefEqProofs [b, e, -forD, frees, freeze]
      done
    · refine ⟨R, p1, hR, rfl, hp1, ?_⟩
      generalize R.map rowD = RR at *
      by_cases k3 : x % 4 = 1
      · have k4 : ¬ 2 < S := fun z => k1 ⟨k3, z⟩
        simp -dsimp -implicitDefEqProofs [_law_changed_f, ch_1, et, k3, k4, lr, -forD, frees, freeze]
      · have k3' : (x % 4 == 1) = false := beq_eq_false_iff_ne.mpr k3
        simp -dsimp -implicitDefEqProofs [_law_changed_f, ch_1, et, k0', k3', lr, -forD, frees, freeze]
end My
namespace My
open PySem PySem.Spec PyProof.Rows L2 DL
/-! the shortest words, as the law and the program look for them -/
abbrev IP := Int × Int
abbrev dIP (p : IP) : PyData := .tuple [.int p.1, .int p.2]
abbrev Tab := List (Int × List Int)
abbrev Wo := List Int
structure En3 where
  s : Int
  t : Int
  pa : List Wo
section
variable (n : Nat) (R1 R2 : Tab)
def dif (e : En3) (w : Wo) : Bool := !decide ((stp R1 n e.s w).2 = (stp R2 n e.t w).2)
def nx2 (e : En3) (w : Wo) : IP := ((stp R1 n e.s w).1, (stp R2 n e.t w).1)
def put2 (st : List IP × List En3) (e : En3) (w : Wo) : List IP × List En3 := if nx2 n R1 R2 e w ∈ st.1 then st else (st.1 ++ [nx2 n R1 R2 e w], st.2 ++ [⟨(nx2 n R1 R2 e w).1, (nx2 n R1 R2 e w).2, e.pa ++ [w]⟩])
def fdW (e : En3) : List Wo → Option (List Wo)
  | [] => none
  | w :: ws => if dif n R1 R2 e w = true then some (e.pa ++ [w]) else fdW e ws
def putW (e : En3) : List Wo → List IP × List En3 → List IP × List En3
  | [], st => st
  | w :: ws, st => putW e ws (put2 n R1 R2 st e w)
def fdA : List En3 → Option (List Wo)
  | [] => none
  | e :: es => match fdW n R1 R2 e (wsI n) with
    | some p => some p
    | none => fdA es
def putA2 : List En3 → List IP × List En3 → List IP × List En3
  | [], st => st
  | e :: es, st => putA2 es (putW n R1 R2 e (wsI n) st)
def bfs : Nat → List IP → List En3 → Option (List Wo)
  | 0, _, _ => none
  | f + 1, seen, lev => match fdA n R1 R2 lev with
    | some p => some p
    | none => bfs f (putA2 n R1 R2 lev (seen, [])).1 (putA2 n R1 R2 lev (seen, [])).2
theorem bfs_nil : ∀ (f : Nat) (seen : List IP), bfs n R1 R2 f seen [] = none
  | 0, _ => rfl
  | f + 1, seen => bfs_nil f seen
end
/-! what is kept -/
def okP (S : Int) (q : IP) : Prop := (0 ≤ q.1 ∧ q.1 < S) ∧ 0 ≤ q.2 ∧ q.2 < S
structure Kp (S : Int) (n : Nat) (k : Nat) (st : List IP × List En3) : Prop where
  nd : st.1.Nodup
  ok : ∀ q ∈ st.1, okP S q
  ac : ∀ e ∈ st.2, okP S (e.s, e.t) ∧ (∀ w ∈ e.pa, Wd n w) ∧ e.pa.length ≤ k
theorem wsI_wd : ∀ n : Nat, ∀ w ∈ wsI n, Wd n w
  | 0, w, h => by cases List.mem_singleton.mp h; exact ⟨rfl, fun _ q => nomatch q⟩
  | n + 1, w, h => by
    obtain ⟨u, hu, hw⟩ := List.mem_flatMap.mp h
    obtain ⟨h1, h2⟩ := wsI_wd n u hu
    have key : ∀ b : Int, 0 ≤ b ∧ b ≤ 1 → Wd (n + 1) (u ++ [b]) := fun b hb => ⟨by simp [h1], fun c hc => by
      rcases List.mem_append.mp hc with q | q
      · exact h2 c q
      · cases List.mem_singleton.mp q; exact hb⟩
    rcases List.mem_cons.mp hw with rfl | hw
    · exact key 0 (by decide)
    · cases List.mem_singleton.mp hw; exact key 1 (by decide)
theorem pairs64 {S : Int} (s1 : S ≤ 8) {l : List IP} (nd : l.Nodup) (h : ∀ q ∈ l, okP S q) : l.length ≤ 64 := by
  have sub : l ⊆ ((List.range 8).flatMap fun i : Nat => (List.range 8).map fun j : Nat => (((i : Int), (j : Int)) : IP)) := fun q hq => by
    obtain ⟨⟨a, b⟩, c, d⟩ := h q hq
    refine List.mem_flatMap.mpr ⟨q.1.toNat, List.mem_range.mpr (by omega), List.mem_map.mpr ⟨q.2.toNat, List.mem_range.mpr (by omega), ?_⟩⟩
    exact Prod.ext (by show ((q.1.toNat : Nat) : Int) = q.1; omega) (by show ((q.2.toNat : Nat) : Int) = q.2; omega)
  have := nd.length_le_of_subset sub
  have e : ((List.range 8).flatMap fun i : Nat => (List.range 8).map fun j : Nat => (((i : Int), (j : Int)) : IP)).length = 64 := by decide
  omega
section
variable {n m : Nat} {S : Int} {R1 R2 : Tab}
theorem Kp.put [Cs] (z : Sz S n m) (h1 : Rws S m R1) (l1 : (R1.length : Int) = S * 2 ^ n) (h2 : Rws S m R2) (l2 : (R2.length : Int) = S * 2 ^ n) {k : Nat} {st : List IP × List En3} (h : Kp S n k st) {e : En3} (he : okP S (e.s, e.t) ∧ (∀ w ∈ e.pa, Wd n w) ∧ e.pa.length + 1 ≤ k) {w : Wo} (hw : Wd n w) : Kp S n k (put2 n R1 R2 st e w) := by
  unfold put2
  split
  · exact h
  · rename_i hn
    obtain ⟨a, _⟩ := stp_ok z h1 l1 he.1.1.1 he.1.1.2 hw
    obtain ⟨b, _⟩ := stp_ok z h2 l2 he.1.2.1 he.1.2.2 hw
    have o : okP S (nx2 n R1 R2 e w) := ⟨⟨a.1, a.2.1⟩, b.1, b.2.1⟩
    refine ⟨List.nodup_append.mpr ⟨h.nd, by simp, fun x hx y hy z => by cases List.mem_singleton.mp hy; exact hn (z ▸ hx)⟩, fun q hq => ?_, fun x hx => ?_⟩
    · rcases List.mem_append.mp hq with c | c
      · exact h.ok q c
      · cases List.mem_singleton.mp c; exact o
    · rcases List.mem_append.mp hx with c | c
      · exact h.ac x c
      · cases List.mem_singleton.mp c
        refine ⟨o, fun u hu => ?_, by show (e.pa ++ [w]).length ≤ k; rw [List.length_append, List.length_singleton]; exact he.2.2⟩
        rcases List.mem_append.mp hu with d | d
        · exact he.2.1 u d
        · cases List.mem_singleton.mp d; exact hw
theorem Kp.putW [Cs] (z : Sz S n m) (h1 : Rws S m R1) (l1 : (R1.length : Int) = S * 2 ^ n) (h2 : Rws S m R2) (l2 : (R2.length : Int) = S * 2 ^ n) {k : Nat} {e : En3} (he : okP S (e.s, e.t) ∧ (∀ w ∈ e.pa, Wd n w) ∧ e.pa.length + 1 ≤ k) : ∀ (ws : List Wo) {st : List IP × List En3}, (∀ w ∈ ws, Wd n w) → Kp S n k st → Kp S n k (putW n R1 R2 e ws st)
  | [], st, _, h => h
  | w :: ws, st, hw, h => Kp.putW z h1 l1 h2 l2 he ws (fun x hx => hw x (List.mem_cons_of_mem _ hx)) (h.put z h1 l1 h2 l2 he (hw w (List.mem_cons_self ..)))
theorem Kp.putA [Cs] (z : Sz S n m) (h1 : Rws S m R1) (l1 : (R1.length : Int) = S * 2 ^ n) (h2 : Rws S m R2) (l2 : (R2.length : Int) = S * 2 ^ n) {k : Nat} : ∀ (es : List En3) {st : List IP × List En3}, (∀ e ∈ es, okP S (e.s, e.t) ∧ (∀ w ∈ e.pa, Wd n w) ∧ e.pa.length + 1 ≤ k) → Kp S n k st → Kp S n k (putA2 n R1 R2 es st)
  | [], st, _, h => h
  | e :: es, st, he, h => Kp.putA z h1 l1 h2 l2 es (fun x hx => he x (List.mem_cons_of_mem _ hx)) (Kp.putW z h1 l1 h2 l2 (he e (List.mem_cons_self ..)) (wsI n) (wsI_wd n) h)
end
section
variable (n : Nat) (R1 R2 : Tab)
/-- as many seen as kept -/
theorem put_len (st : List IP × List En3) (e : En3) (w : Wo) : (put2 n R1 R2 st e w).1.length + st.2.length = st.1.length + (put2 n R1 R2 st e w).2.length := by
  unfold put2
  split
  · omega
  · simp only [List.length_append, List.length_singleton]; omega
theorem putW_len (e : En3) : ∀ (ws : List Wo) (st : List IP × List En3), (putW n R1 R2 e ws st).1.length + st.2.length = st.1.length + (putW n R1 R2 e ws st).2.length
  | [], st => by simp [putW]
  | w :: ws, st => by
    have a := put_len n R1 R2 st e w
    have b := putW_len e ws (put2 n R1 R2 st e w)
    unfold putW
    omega
theorem putA_len : ∀ (es : List En3) (st : List IP × List En3), (putA2 n R1 R2 es st).1.length + st.2.length = st.1.length + (putA2 n R1 R2 es st).2.length
  | [], st => by simp [putA2]
  | e :: es, st => by
    have a := putW_len n R1 R2 e (wsI n) st
    have b := putA_len es (putW n R1 R2 e (wsI n) st)
    unfold putA2
    omega
/-! the other way round -/
def swE (e : En3) : En3 := ⟨e.t, e.s, e.pa⟩
def swP (q : IP) : IP := (q.2, q.1)
def swS (st : List IP × List En3) : List IP × List En3 := (st.1.map swP, st.2.map swE)
theorem dif_sw (e : En3) (w : Wo) : dif n R2 R1 (swE e) w = dif n R1 R2 e w := by
  unfold dif swE
  simp only [eq_comm]
theorem nx_sw (e : En3) (w : Wo) : nx2 n R2 R1 (swE e) w = swP (nx2 n R1 R2 e w) := rfl
theorem mem_sw (q : IP) (l : List IP) : swP q ∈ l.map swP ↔ q ∈ l := by
  constructor
  · intro h
    obtain ⟨x, hx, e⟩ := List.mem_map.mp h
    have : x = q := by
      obtain ⟨a, b⟩ := x
      obtain ⟨c, d⟩ := q
      simp only [swP, Prod.mk.injEq] at e
      rw [e.1, e.2]
    rw [← this]; exact hx
  · exact fun h => List.mem_map.mpr ⟨q, h, rfl⟩
theorem put_sw (st : List IP × List En3) (e : En3) (w : Wo) : put2 n R2 R1 (swS st) (swE e) w = swS (put2 n R1 R2 st e w) := by
  unfold put2
  have e0 : (swS st).1 = st.1.map swP := rfl
  rw [nx_sw, e0]
  by_cases h : nx2 n R1 R2 e w ∈ st.1
  · rw [if_pos h, if_pos ((mem_sw _ _).mpr h)]
  · rw [if_neg h, if_neg (fun z => h ((mem_sw _ _).mp z))]
    unfold swS
    simp only [List.map_append, List.map_cons, List.map_nil]
    rfl
theorem putW_sw (e : En3) : ∀ (ws : List Wo) (st : List IP × List En3), putW n R2 R1 (swE e) ws (swS st) = swS (putW n R1 R2 e ws st)
  | [], st => rfl
  | w :: ws, st => by
    unfold putW
    rw [put_sw, putW_sw e ws]
theorem putA_sw : ∀ (es : List En3) (st : List IP × List En3), putA2 n R2 R1 (es.map swE) (swS st) = swS (putA2 n R1 R2 es st)
  | [], st => rfl
  | e :: es, st => by
    rw [List.map_cons]
    unfold putA2
    rw [putW_sw, putA_sw es]
theorem fdW_sw (e : En3) : ∀ ws : List Wo, fdW n R2 R1 (swE e) ws = fdW n R1 R2 e ws
  | [] => rfl
  | w :: ws => by
    unfold fdW
    rw [dif_sw, fdW_sw e ws]
    rfl
theorem fdA_sw : ∀ es : List En3, fdA n R2 R1 (es.map swE) = fdA n R1 R2 es
  | [] => rfl
  | e :: es => by
    rw [List.map_cons]
    unfold fdA
    rw [fdW_sw, fdA_sw es]
theorem bfs_sw : ∀ (f : Nat) (seen : List IP) (lev : List En3), bfs n R2 R1 f (seen.map swP) (lev.map swE) = bfs n R1 R2 f seen lev
  | 0, _, _ => rfl
  | f + 1, seen, lev => by
    unfold bfs
    rw [fdA_sw]
    have e := putA_sw n R1 R2 lev (seen, [])
    have e2 : swS (seen, []) = (seen.map swP, []) := rfl
    rw [e2] at e
    rw [e]
    unfold swS
    rw [bfs_sw f]
end
end My
namespace My
open PySem PySem.Spec PyProof.Rows L2 DL
/-- a value that == may compare with itself -/
def Pn (k : Nat) (d : PyData) : Prop := plainD d = true ∧ d.canLay0 = true ∧ d.depth ≤ k
theorem Pn.int (i : Int) (k : Nat) : Pn k (.int i) := ⟨by simp, rfl, Nat.zero_le _⟩
theorem Pn.str {x : Str} (h : PyData.strOk x = true) (k : Nat) : Pn k (.str x) := ⟨by simp, h, Nat.zero_le _⟩
theorem Pn.all {k : Nat} : ∀ {ds : List PyData}, (∀ d ∈ ds, Pn k d) → plainDs ds = true ∧ PyData.canLayAll0 ds = true ∧ PyData.depthAll ds ≤ k
  | [], _ => ⟨by simp, rfl, Nat.zero_le _⟩
  | d :: ds, h => by
    obtain ⟨a, b, c⟩ := h d (List.mem_cons_self ..)
    obtain ⟨a', b', c'⟩ := Pn.all (ds := ds) fun x hx => h x (List.mem_cons_of_mem _ hx)
    refine ⟨by rw [plainDs_cons, a, a']; rfl, ?_, ?_⟩
    · show (d.canLay0 && PyData.canLayAll0 ds) = true
      rw [b, b']; rfl
    · show max d.depth (PyData.depthAll ds) ≤ k
      omega
theorem Pn.tup {k : Nat} {ds : List PyData} (h : ∀ d ∈ ds, Pn k d) : Pn (k + 1) (.tuple ds) := by
  obtain ⟨a, b, c⟩ := Pn.all h
  refine ⟨by rw [plainD_tuple]; exact a, b, ?_⟩
  show PyData.depthAll ds + 1 ≤ k + 1
  omega
theorem Pn.shaped {k : Nat} {d : PyData} (h : Pn k d) (hk : k ≤ 64) : SeqAt.shaped d = true := by
  unfold SeqAt.shaped
  rw [h.2.1, decide_eq_true (Nat.le_trans h.2.2 hk)]
  rfl
theorem Pn.eq {k : Nat} {d : PyData} (h : Pn k d) (hk : k ≤ 64) : gEqA d d = some true ∧ gNeA d d = some false := by
  have s := h.shaped hk
  have e := eqv_refl d h.1
  cases d with
  | dict kvs => have := h.1; simp [plainD] at this
  | _ => exact ⟨by simp only [gEqA, gEq, s, e, Bool.and_self, if_true], by simp only [gNeA, gNe, s, e, Bool.and_self, if_true, Bool.not_true]⟩
theorem Pn.mono {k m : Nat} {d : PyData} (h : Pn k d) (hk : k ≤ m) : Pn m d := ⟨h.1, h.2.1, Nat.le_trans h.2.2 hk⟩
theorem Pn.wd (w : Wo) : Pn 1 (wdD w) := Pn.tup (k := 0) fun d hd => by
  obtain ⟨i, _, rfl⟩ := List.mem_map.mp hd
  exact Pn.int i 0
theorem Pn.lst {k : Nat} {ds : List PyData} (h : ∀ d ∈ ds, Pn k d) : Pn (k + 1) (.list ds) := by
  obtain ⟨a, b, c⟩ := Pn.all h
  refine ⟨by rw [plainD_list]; exact a, b, ?_⟩
  show PyData.depthAll ds + 1 ≤ k + 1
  omega
theorem Pn.path (p : List Wo) : Pn 2 (.list (p.map wdD)) := Pn.lst fun d hd => by
  obtain ⟨w, _, rfl⟩ := List.mem_map.mp hd
  exact Pn.wd w
theorem Pn.ip (q : IP) : Pn 1 (dIP q) := Pn.tup (k := 0) fun d hd => by
  rcases List.mem_cons.mp hd with e | hd
  · subst e; exact Pn.int _ 0
  · cases List.mem_singleton.mp hd; exact Pn.int _ 0
theorem Pn.seen (l : List IP) : Pn 2 (.list (l.map dIP)) := Pn.lst fun d hd => by
  obtain ⟨q, _, rfl⟩ := List.mem_map.mp hd
  exact Pn.ip q
theorem eqv_ints : ∀ a b : List Int, PyData.eqvAll (a.map .int) (b.map .int) = decide (a = b)
  | [], [] => rfl
  | [], _ :: _ => rfl
  | _ :: _, [] => rfl
  | x :: a, y :: b => by
    show ((x == y) && PyData.eqvAll (a.map .int) (b.map .int)) = _
    rw [eqv_ints a b]
    by_cases h : x = y <;> by_cases h2 : a = b <;> simp [h, h2]
theorem ne_wd (a b : Wo) : gNeA (wdD a) (wdD b) = some (!decide (a = b)) := by
  have s1 := (Pn.wd a).shaped (by decide)
  have s2 := (Pn.wd b).shaped (by decide)
  show (if (SeqAt.shaped (wdD a) && SeqAt.shaped (wdD b)) = true then some (!PyData.eqvAll (a.map .int) (b.map .int)) else none) = _
  rw [s1, s2, eqv_ints]
  rfl
theorem eqv_ip (p q : IP) : PyData.eqv (dIP p) (dIP q) = decide (p = q) := by
  obtain ⟨a, b⟩ := p
  obtain ⟨c, d⟩ := q
  show ((a == c) && ((b == d) && true)) = _
  by_cases h : a = c <;> by_cases h2 : b = d <;> simp [h, h2]
theorem nin_seen (l : List IP) (q : IP) : gNinA (dIP q) (.list (l.map dIP)) = some (!decide (q ∈ l)) := by
  have s1 := (Pn.ip q).shaped (by decide)
  have s2 := (Pn.seen l).shaped (by decide)
  have a : ((l.map dIP).any fun z => PyData.eqv z (dIP q)) = decide (q ∈ l) := by
    rw [List.any_map]
    induction l with
    | nil => rfl
    | cons x l ih =>
      rw [List.any_cons, ih ((Pn.seen l).shaped (by decide))]
      show (PyData.eqv (dIP x) (dIP q) || _) = _
      rw [eqv_ip]
      by_cases h : x = q
      · simp [h]
      · simp [h, show ¬ q = x from fun z => h z.symm]
  show ((if (SeqAt.shaped (dIP q) && SeqAt.shaped (.list (l.map dIP))) = true then some ((l.map dIP).any fun z => PyData.eqv z (dIP q)) else none).map not) = _
  rw [s1, s2, a]
  rfl
/-- what is met -/
def mt (l : List IP) : Tb := l.map fun q => (dIP q, .bool true)
theorem mt_len (l : List IP) : (mt l).length = l.length := List.length_map ..
theorem dIP_inj {p q : IP} : dIP p = dIP q ↔ p = q := by
  constructor
  · intro h
    injection h with h
    injection h with h1 h2
    injection h2 with h2 _
    injection h1 with h1
    injection h2 with h2
    exact Prod.ext h1 h2
  · exact fun h => by rw [h]
theorem mt_at (l : List IP) (q : IP) : (dlk (mt l) (dIP q)).isSome = decide (q ∈ l) := by
  induction l with
  | nil => rfl
  | cons x l ih =>
    have e0 : mt (x :: l) = (dIP x, .bool true) :: mt l := rfl
    rw [e0, dlk]
    by_cases h : x = q
    · rw [if_pos (dIP_inj.mpr h)]; simp [h]
    · rw [if_neg (fun z => h (dIP_inj.mp z)), ih]; simp [show ¬ q = x from fun z => h z.symm]
theorem mt_put {l : List IP} {q : IP} (h : q ∉ l) : dput (mt l) (dIP q) (.bool true) = mt (l ++ [q]) := by
  induction l with
  | nil => rfl
  | cons x l ih =>
    have e0 : mt (x :: l) = (dIP x, .bool true) :: mt l := rfl
    rw [List.mem_cons, not_or] at h
    rw [e0, dput, if_neg (fun z => h.1 (dIP_inj.mp z).symm), ih h.2]
    rfl
def enP (e : En3) : PyData := .tuple [.int e.s, .int e.t, .list (e.pa.map wdD)]
def enL (e : En3) : PyData := .tuple [dIP (e.s, e.t), .tuple (e.pa.map wdD)]
theorem tk_ip (a b : Int) : DL.tupKey (.tuple [.int a, .int b]) = true := by simp [DL.tupKey, tkeys, tkey]
variable [Cs]
section
variable {S : Int} {n m : Nat} {R1 R2 : Tab}
theorem ea_in (z : Sz S n m) (h1 : Rws S m R1) (l1 : (R1.length : Int) = S * 2 ^ n) (h2 : Rws S m R2) (l2 : (R2.length : Int) = S * 2 ^ n) {k : Nat} (hk : k ≤ 1000) (e : En3) (he : okP S (e.s, e.t) ∧ (∀ w ∈ e.pa, Wd n w) ∧ e.pa.length + 1 ≤ k) (a2 a4 : Sl) : ∀ (ws : List Wo) (st : List IP × List En3) (a9 a10 a11 a12 a13 : Sl), (∀ w ∈ ws, Wd n w) → Kp S n k st → st.1.length + ws.length < 900000 → st.2.length + ws.length < 900000 →
    ∃ a9' a10' a11' a12' a13', forD (gNm 9) ea_b (ws.map wdD) [.val (mach S n m R1), .val (mach S n m R2), a2, .ob (.di false (mt st.1)), a4, .own (st.2.map enP), .val (.int e.s), .val (.int e.t), .val (.list (e.pa.map wdD)), a9, a10, a11, a12, a13] = match fdW n R1 R2 e ws with
      | some p => .ok (.rt (.list (p.map wdD)))
      | none => .ok (.nx [.val (mach S n m R1), .val (mach S n m R2), a2, .ob (.di false (mt (putW n R1 R2 e ws st).1)), a4, .own ((putW n R1 R2 e ws st).2.map enP), .val (.int e.s), .val (.int e.t), .val (.list (e.pa.map wdD)), a9', a10', a11', a12', a13'])
  | [], st, a9, a10, a11, a12, a13, _, _, _, _ => ⟨a9, a10, a11, a12, a13, rfl⟩
  | w :: ws, st, a9, a10, a11, a12, a13, hw, hst, hz1, hz2 => by
    rw [List.length_cons] at hz1 hz2
    have hw1 := hw w (List.mem_cons_self ..)
    have r1 := row z h1 l1 he.1.1.1 he.1.1.2 hw1
    have r2 := row z h2 l2 he.1.2.1 he.1.2.2 hw1
    have ne := ne_wd (stp R1 n e.s w).2 (stp R2 n e.t w).2
    have ap : (e.pa ++ [w]).map wdD = e.pa.map wdD ++ [wdD w] := by rw [List.map_append]; rfl
    have lp : (e.pa.map wdD).length + 1 ≤ 1000000 := by rw [List.length_map]; have := he.2.2; omega
    have gd : isI Cs.Machine "row" (mach S n m R1) = true ∧ isI Cs.Machine "row" (mach S n m R2) = true := by constructor <;> simp -dsimp -implicitDefEqProofs [ofString_inj, noFA]
    by_cases hd : (stp R1 n e.s w).2 = (stp R2 n e.t w).2
    · have df : dif n R1 R2 e w = false := by unfold dif; simp [hd]
      obtain ⟨b9, b10, b11, b12, b13, ih⟩ := ea_in z h1 l1 h2 l2 hk e he a2 a4 ws (put2 n R1 R2 st e w) (.val (wdD w)) (.val (.int (stp R1 n e.s w).1)) (.val (wdD (stp R1 n e.s w).2)) (.val (.int (stp R2 n e.t w).1)) (.val (wdD (stp R2 n e.t w).2)) (fun x hx => hw x (List.mem_cons_of_mem _ hx)) (hst.put z h1 l1 h2 l2 he hw1) (by
          unfold put2
          split
          · omega
          · simp only [List.length_append, List.length_singleton]; omega) (by
          unfold put2
          split
          · omega
          · simp only [List.length_append, List.length_singleton]; omega)
      refine ⟨b9, b10, b11, b12, b13, ?_⟩
      have ef : fdW n R1 R2 e (w :: ws) = fdW n R1 R2 e ws := by
        rw [fdW, df]
        rfl
      rw [ef, putW, ← ih, List.map_cons, forD]
      have ne' : gNeA (wdD (stp R1 n e.s w).2) (wdD (stp R2 n e.t w).2) = some false := by rw [ne]; simp [hd]
      have at1 := mt_at st.1 (nx2 n R1 R2 e w)
      have tk := tk_ip (stp R1 n e.s w).1 (stp R2 n e.t w).1
      have lm : (mt st.1).length < 1000000 := by rw [mt_len]; omega
      have la : (st.2.map enP).length < 1000000 := by rw [List.length_map]; omega
      by_cases hq : nx2 n R1 R2 e w ∈ st.1
      · have ep : put2 n R1 R2 st e w = st := by unfold put2; rw [if_pos hq]
        rw [ep]
        have at1' : (dlk (mt st.1) (.tuple [.int (stp R1 n e.s w).1, .int (stp R2 n e.t w).1])).isSome = true := by
          have := at1
          rw [decide_eq_true hq] at this
          exact this
        generalize mach S n m R1 = M1 at *
        generalize mach S n m R2 = M2 at *
        generalize mt st.1 = TT at *
        generalize st.2.map enP = AA at *
        simp -dsimp -implicitDefEqProofs [ea_b, gd, -isI, r1, r2, ne', -gNeA, at1', tk, okR, -forD, frees]
        done
      · have ep : put2 n R1 R2 st e w = (st.1 ++ [nx2 n R1 R2 e w], st.2 ++ [⟨(nx2 n R1 R2 e w).1, (nx2 n R1 R2 e w).2, e.pa ++ [w]⟩]) := by unfold put2; rw [if_neg hq]
        rw [ep]
        have at1' : (dlk (mt st.1) (.tuple [.int (stp R1 n e.s w).1, .int (stp R2 n e.t w).1])).isSome = false := by
          have := at1
          rw [decide_eq_false hq] at this
          exact this
        have pu : dput (mt st.1) (.tuple [.int (stp R1 n e.s w).1, .int (stp R2 n e.t w).1]) (.bool true) = mt (st.1 ++ [nx2 n R1 R2 e w]) := mt_put hq
        have ea : (st.2 ++ [(⟨(nx2 n R1 R2 e w).1, (nx2 n R1 R2 e w).2, e.pa ++ [w]⟩ : En3)]).map enP = st.2.map enP ++ [.tuple [.int (stp R1 n e.s w).1, .int (stp R2 n e.t w).1, .list (e.pa.map wdD ++ [wdD w])]] := by
          rw [List.map_append, ← ap]
          rfl
        dsimp only
        rw [ea]
        generalize mach S n m R1 = M1 at *
        generalize mach S n m R2 = M2 at *
        generalize mt (st.1 ++ [nx2 n R1 R2 e w]) = TT2 at *
        generalize mt st.1 = TT at *
        generalize st.2.map enP = AA at *
        generalize e.pa.map wdD = PP at *
        simp -dsimp -implicitDefEqProofs [ea_b, gd, -isI, r1, r2, ne', -gNeA, at1', tk, okR, pu, lm, la, lp, -forD, frees]
        done
    · have df : dif n R1 R2 e w = true := by unfold dif; simp [hd]
      refine ⟨a9, a10, a11, a12, a13, ?_⟩
      have ef : fdW n R1 R2 e (w :: ws) = some (e.pa ++ [w]) := by rw [fdW, df]; rfl
      rw [ef, List.map_cons, forD]
      have ne' : gNeA (wdD (stp R1 n e.s w).2) (wdD (stp R2 n e.t w).2) = some true := by rw [ne]; simp [hd]
      dsimp only
      rw [ap]
      generalize mach S n m R1 = M1 at *
      generalize mach S n m R2 = M2 at *
      generalize e.pa.map wdD = PP at *
      simp -dsimp -implicitDefEqProofs [ea_b, gd, -isI, r1, r2, ne', -gNeA, lp, -forD, frees]
      done
end
end My
namespace My
open PySem PySem.Spec PyProof.Rows L2 DL
theorem ws_len (n : Nat) (h : n ≤ 3) : (wsI n).length ≤ 8 := by
  match n, h with
  | 0, _ => decide
  | 1, _ => decide
  | 2, _ => decide
  | 3, _ => decide
theorem Kp.len {S : Int} {n k : Nat} {st : List IP × List En3} (s1 : S ≤ 8) (h : Kp S n k st) : st.1.length ≤ 64 := pairs64 s1 h.nd h.ok
theorem Kp.up {S : Int} {n k j : Nat} {st : List IP × List En3} (h : Kp S n k st) (hj : k ≤ j) : Kp S n j st := ⟨h.nd, h.ok, fun e he => ⟨(h.ac e he).1, (h.ac e he).2.1, by have := (h.ac e he).2.2; omega⟩⟩
variable [Cs]
section
variable {S : Int} {n m : Nat} {R1 R2 : Tab}
theorem ea_out (z : Sz S n m) (h1 : Rws S m R1) (l1 : (R1.length : Int) = S * 2 ^ n) (h2 : Rws S m R2) (l2 : (R2.length : Int) = S * 2 ^ n) {k : Nat} (hk : k ≤ 1000) (a4 : Sl) : ∀ (es : List En3) (st : List IP × List En3) (a6 a7 a8 a9 a10 a11 a12 a13 : Sl), (∀ e ∈ es, okP S (e.s, e.t) ∧ (∀ w ∈ e.pa, Wd n w) ∧ e.pa.length + 1 ≤ k) → Kp S n k st → st.2.length ≤ st.1.length →
    ∃ a6' a7' a8' a9' a10' a11' a12' a13', forD (gTp 3 (gsCons (gNm 6) (gsCons (gNm 7) (gsCons (gNm 8) gsNil)))) ea_f (es.map enP) [.val (mach S n m R1), .val (mach S n m R2), .val (.list ((wsI n).map wdD)), .ob (.di false (mt st.1)), a4, .own (st.2.map enP), a6, a7, a8, a9, a10, a11, a12, a13] = match fdA n R1 R2 es with
      | some p => .ok (.rt (.list (p.map wdD)))
      | none => .ok (.nx [.val (mach S n m R1), .val (mach S n m R2), .val (.list ((wsI n).map wdD)), .ob (.di false (mt (putA2 n R1 R2 es st).1)), a4, .own ((putA2 n R1 R2 es st).2.map enP), a6', a7', a8', a9', a10', a11', a12', a13'])
  | [], st, a6, a7, a8, a9, a10, a11, a12, a13, _, _, _ => ⟨a6, a7, a8, a9, a10, a11, a12, a13, rfl⟩
  | e :: es, st, a6, a7, a8, a9, a10, a11, a12, a13, he, hst, hle => by
    have he1 := he e (List.mem_cons_self ..)
    have l64 := hst.len z.s1
    have lw := ws_len n z.n1
    obtain ⟨b9, b10, b11, b12, b13, ei⟩ := ea_in z h1 l1 h2 l2 hk e he1 (.val (.list ((wsI n).map wdD))) a4 (wsI n) st a9 a10 a11 a12 a13 (wsI_wd n) hst (by omega) (by omega)
    have kp := Kp.putW z h1 l1 h2 l2 he1 (wsI n) (wsI_wd n) hst
    have pl := putW_len n R1 R2 e (wsI n) st
    have en : enP e = .tuple [.int e.s, .int e.t, .list (e.pa.map wdD)] := rfl
    cases hf : fdW n R1 R2 e (wsI n) with
    | some p =>
      rw [hf] at ei
      refine ⟨a6, a7, a8, a9, a10, a11, a12, a13, ?_⟩
      rw [fdA, hf, List.map_cons, forD, en]
      dsimp only at ei ⊢
      generalize mach S n m R1 = M1 at *
      generalize mach S n m R2 = M2 at *
      unfold ea_f
      simp -dsimp -implicitDefEqProofs [ei, -forD, frees]
      done
    | none =>
      rw [hf] at ei
      obtain ⟨c6, c7, c8, c9, c10, c11, c12, c13, ih⟩ := ea_out z h1 l1 h2 l2 hk a4 es (putW n R1 R2 e (wsI n) st) (.val (.int e.s)) (.val (.int e.t)) (.val (.list (e.pa.map wdD))) b9 b10 b11 b12 b13 (fun x hx => he x (List.mem_cons_of_mem _ hx)) kp (by omega)
      refine ⟨c6, c7, c8, c9, c10, c11, c12, c13, ?_⟩
      rw [fdA, hf, putA2, List.map_cons, forD, en]
      dsimp only at ei ⊢
      rw [← ih]
      have ef : ea_f [.val (mach S n m R1), .val (mach S n m R2), .val (.list ((wsI n).map wdD)), .ob (.di false (mt st.1)), a4, .own (st.2.map enP), .val (.int e.s), .val (.int e.t), .val (.list (e.pa.map wdD)), a9, a10, a11, a12, a13] = .ok (.nx [.val (mach S n m R1), .val (mach S n m R2), .val (.list ((wsI n).map wdD)), .ob (.di false (mt (putW n R1 R2 e (wsI n) st).1)), a4, .own ((putW n R1 R2 e (wsI n) st).2.map enP), .val (.int e.s), .val (.int e.t), .val (.list (e.pa.map wdD)), b9, b10, b11, b12, b13]) := by
        generalize mach S n m R1 = M1 at *
        generalize mach S n m R2 = M2 at *
        unfold ea_f
        simp -dsimp -implicitDefEqProofs [ei, -forD, frees]
      generalize mach S n m R1 = M1 at *
      generalize mach S n m R2 = M2 at *
      simp -dsimp -implicitDefEqProofs [ef, -forD, frees]
      done
theorem ea_wh (z : Sz S n m) (h1 : Rws S m R1) (l1 : (R1.length : Int) = S * 2 ^ n) (h2 : Rws S m R2) (l2 : (R2.length : Int) = S * 2 ^ n) : ∀ (f k : Nat) (seen : List IP) (lev : List En3) (a5 a6 a7 a8 a9 a10 a11 a12 a13 : Sl), Kp S n k (seen, lev) → (lev = [] ∨ 65 ≤ f + seen.length) → k + f ≤ 900 → lev.length ≤ 64 → (a5 = .no ∨ ∃ d, a5 = .val d) →
    ∃ env', sWhile (c2t (gCmp fun i j => decide (j < i)) (c1 gLenA (cV 4)) (cC (.int 0))) ea_w [.val (mach S n m R1), .val (mach S n m R2), .val (.list ((wsI n).map wdD)), .ob (.di false (mt seen)), .val (.list (lev.map enP)), a5, a6, a7, a8, a9, a10, a11, a12, a13] = match bfs n R1 R2 f seen lev with
      | some p => .ok (.rt (.list (p.map wdD)))
      | none => .ok (.nx env')
  | f, k, seen, [], a5, a6, a7, a8, a9, a10, a11, a12, a13, hk, hf, hkf, hll, h5 => by
    rw [bfs_nil, sWhile_step]
    refine ⟨[.val (mach S n m R1), .val (mach S n m R2), .val (.list ((wsI n).map wdD)), .ob (.di false (mt seen)), .val (.list []), a5, a6, a7, a8, a9, a10, a11, a12, a13], ?_⟩
    generalize mach S n m R1 = M1 at *
    generalize mach S n m R2 = M2 at *
    simp -dsimp -implicitDefEqProofs [frees]
  | 0, k, seen, e :: lev, a5, a6, a7, a8, a9, a10, a11, a12, a13, hk, hf, hkf, hll, h5 => by
    have := hk.len z.s1
    rcases hf with hf | hf
    · cases hf
    · exfalso
      have t : seen.length ≤ 64 := this
      omega
  | f + 1, k, seen, e :: lev, a5, a6, a7, a8, a9, a10, a11, a12, a13, hk, hf, hkf, hll, h5 => by
    have he : ∀ x ∈ e :: lev, okP S (x.s, x.t) ∧ (∀ w ∈ x.pa, Wd n w) ∧ x.pa.length + 1 ≤ k + 1 := fun x hx => ⟨(hk.ac x hx).1, (hk.ac x hx).2.1, by have := (hk.ac x hx).2.2; omega⟩
    have k0 : Kp S n (k + 1) (seen, ([] : List En3)) := ⟨hk.nd, hk.ok, fun x hx => by cases hx⟩
    obtain ⟨c6, c7, c8, c9, c10, c11, c12, c13, eo⟩ := ea_out z h1 l1 h2 l2 (k := k + 1) (by omega) (.val (.list ((e :: lev).map enP))) (e :: lev) (seen, []) a6 a7 a8 a9 a10 a11 a12 a13 he k0 (Nat.zero_le _)
    have k1 := Kp.putA z h1 l1 h2 l2 (e :: lev) he k0
    have pl := putA_len n R1 R2 (e :: lev) (seen, [])
    have l64 := k1.len z.s1
    generalize hP : putA2 n R1 R2 (e :: lev) (seen, []) = P at *
    have hlev : 0 < ((e :: lev).map enP).length := by simp
    rw [sWhile_step]
    cases hfd : fdA n R1 R2 (e :: lev) with
    | some p =>
      rw [hfd] at eo
      refine ⟨[], ?_⟩
      rw [bfs, hfd]
      dsimp only at eo ⊢
      simp only [List.map_nil] at eo
      generalize (e :: lev).map enP = LV at *
      generalize mach S n m R1 = M1 at *
      generalize mach S n m R2 = M2 at *
      have ew : ea_w [.val M1, .val M2, .val (.list ((wsI n).map wdD)), .ob (.di false (mt seen)), .val (.list LV), a5, a6, a7, a8, a9, a10, a11, a12, a13] = .ok (.rt (.list (p.map wdD))) := by
        unfold ea_w
        rcases h5 with rfl | ⟨d, rfl⟩ <;> simp -dsimp -implicitDefEqProofs [eo, -forD, frees]
      simp -dsimp -implicitDefEqProofs [hlev, ew, frees]
      done
    | none =>
      rw [hfd] at eo
      have hnext : P.2 = [] ∨ 65 ≤ f + P.1.length := by
        by_cases h0 : P.2 = []
        · exact .inl h0
        · right
          have : 1 ≤ P.2.length := by
            cases hp2 : P.2 with
            | nil => exact absurd hp2 h0
            | cons x y => simp
          simp only [List.length_nil] at pl
          rcases hf with hf | hf
          · cases hf
          · omega
      obtain ⟨env', ih⟩ := ea_wh z h1 l1 h2 l2 f (k + 1) P.1 P.2 (.val (.list (P.2.map enP))) c6 c7 c8 c9 c10 c11 c12 c13 k1 hnext (by omega) (by simp only [List.length_nil] at pl; omega) (.inr ⟨_, rfl⟩)
      refine ⟨env', ?_⟩
      rw [bfs, hfd, hP]
      dsimp only at eo ⊢
      rw [← ih]
      simp only [List.map_nil] at eo
      generalize (e :: lev).map enP = LV at *
      generalize mach S n m R1 = M1 at *
      generalize mach S n m R2 = M2 at *
      generalize P.2.map enP = AA at *
      have ew : ea_w [.val M1, .val M2, .val (.list ((wsI n).map wdD)), .ob (.di false (mt seen)), .val (.list LV), a5, a6, a7, a8, a9, a10, a11, a12, a13] = .ok (.nx [.val M1, .val M2, .val (.list ((wsI n).map wdD)), .ob (.di false (mt P.1)), .val (.list AA), .val (.list AA), c6, c7, c8, c9, c10, c11, c12, c13]) := by
        unfold ea_w
        rcases h5 with rfl | ⟨d, rfl⟩ <;> simp -dsimp -implicitDefEqProofs [eo, ea_e, -forD, frees, freeze]
      simp -dsimp -implicitDefEqProofs [hlev, ew, frees]
      done
end
end My
namespace My
open PySem PySem.Spec PyProof.Rows L2 DL
def resD : Option (List Wo) → PyData
  | some p => .list (p.map wdD)
  | none => .none
def resL : Option (List Wo) → PyData
  | some p => .tuple (p.map wdD)
  | none => .none
variable [Cs]
theorem allw (n : Nat) (h : n ≤ 3) : all_words_f [.int n] = .ok (.val (.list ((wsI n).map wdD))) := by
  match n, h with
  | 0, _ => kernel_rfl
  | 1, _ => kernel_rfl
  | 2, _ => kernel_rfl
  | 3, _ => kernel_rfl
theorem lwords (n : Nat) (h : n ≤ 3) : _law_words_f [.int n] = .ok (.val (.list ((wsI n).map wdD))) := by
  match n, h with
  | 0, _ => kernel_rfl
  | 1, _ => kernel_rfl
  | 2, _ => kernel_rfl
  | 3, _ => kernel_rfl
theorem f_in (S : Int) (n m : Nat) (R : Tab) : gFld Cs.Machine "inputs" (mach S n m R) = some (.int n) := by simp -dsimp -implicitDefEqProofs [ofString_inj]
theorem f_out (S : Int) (n m : Nat) (R : Tab) : gFld Cs.Machine "outputs" (mach S n m R) = some (.int m) := by simp -dsimp -implicitDefEqProofs [ofString_inj]
theorem ne_same (i : Int) : gNeA (.int i) (.int i) = some false := (Pn.eq (Pn.int i 0) (by decide)).2
theorem equal_ok {S : Int} {n m : Nat} {R1 R2 : Tab} (z : Sz S n m) (h1 : Rws S m R1) (l1 : (R1.length : Int) = S * 2 ^ n) (h2 : Rws S m R2) (l2 : (R2.length : Int) = S * 2 ^ n) : equal_answers_f [mach S n m R1, mach S n m R2] = .ok (.val (resD (bfs n R1 R2 65 [(0, 0)] [⟨0, 0, []⟩]))) := by
  have s0 := z.s0
  have k0 : Kp S n 0 ([(0, 0)], [⟨0, 0, []⟩]) := ⟨by decide, fun q hq => by cases List.mem_singleton.mp hq; exact ⟨⟨by decide, by show (0 : Int) < S; omega⟩, by decide, by show (0 : Int) < S; omega⟩, fun e he => by cases List.mem_singleton.mp he; exact ⟨⟨⟨by decide, by show (0 : Int) < S; omega⟩, by decide, by show (0 : Int) < S; omega⟩, fun w hw => (by cases hw), by decide⟩⟩
  obtain ⟨env', ew⟩ := ea_wh z h1 l1 h2 l2 65 0 [(0, 0)] [⟨0, 0, []⟩] .no .no .no .no .no .no .no .no .no k0 (.inr (by decide)) (by decide) (by decide) (.inl rfl)
  have i1 := f_in S n m R1
  have i2 := f_in S n m R2
  have o1 := f_out S n m R1
  have o2 := f_out S n m R2
  have ne1 := ne_same (n : Int)
  have ne2 := ne_same (m : Int)
  have aw := allw n z.n1
  have em : mt [((0 : Int), (0 : Int))] = [(.tuple [.int 0, .int 0], .bool true)] := rfl
  have el : ([(⟨0, 0, []⟩ : En3)].map enP) = [.tuple [.int 0, .int 0, .list []]] := rfl
  rw [em, el] at ew
  have tk := tk_ip 0 0
  generalize mach S n m R1 = M1 at *
  generalize mach S n m R2 = M2 at *
  generalize (wsI n).map wdD = WL at *
  unfold equal_answers_f
  cases hb : bfs n R1 R2 65 [(0, 0)] [⟨0, 0, []⟩] with
  | some p =>
    rw [hb] at ew
    simp -dsimp -implicitDefEqProofs [i1, i2, o1, o2, -gFld, ne1, ne2, -gNeA, ea_0, aw, tk, dput, ea_1, ew, resD, frees]
    done
  | none =>
    rw [hb] at ew
    simp -dsimp -implicitDefEqProofs [i1, i2, o1, o2, -gFld, ne1, ne2, -gNeA, ea_0, aw, tk, dput, ea_1, ew, resD, frees]
    done
theorem equal_bad {S S2 : Int} {n m : Nat} {R1 R2 : Tab} (n0 : n ≤ 3) : equal_answers_f [mach S n m R1, mach S2 (n + 1) m R2] = .ex ("BadMachine", none) := by
  have i1 := f_in S n m R1
  have i2 := f_in S2 (n + 1) m R2
  have ne : gNeA (.int (n : Int)) (.int ((n + 1 : Nat) : Int)) = some true := by
    have e : ((n : Int) == ((n + 1 : Nat) : Int)) = false := beq_eq_false_iff_ne.mpr (by omega)
    have s1 := (Pn.int (n : Int) 0).shaped (by decide)
    have s2 := (Pn.int ((n + 1 : Nat) : Int) 0).shaped (by decide)
    show (if (SeqAt.shaped (.int (n : Int)) && SeqAt.shaped (.int ((n + 1 : Nat) : Int))) = true then some (!((n : Int) == ((n + 1 : Nat) : Int))) else none) = _
    rw [s1, s2, e]
    rfl
  generalize mach S n m R1 = M1 at *
  generalize mach S2 (n + 1) m R2 = M2 at *
  have ec : ((n + 1 : Nat) : Int) = (n : Int) + 1 := by omega
  rw [ec] at ne i2
  have fl : flatOk (.str "the machines do not have the same numbers of bits") = true := by decide +kernel
  simp -dsimp -implicitDefEqProofs [equal_answers_f, i1, i2, -gFld, ne, -gNeA, fl, frees]
/-! the law's search -/
section
variable {S : Int} {n m : Nat} {R1 R2 : Tab}
theorem e_0 (e : En3) : gIxA (enL e) (.int 0) = some (dIP (e.s, e.t)) := rfl
theorem e_1 (e : En3) : gIxA (enL e) (.int 1) = some (.tuple (e.pa.map wdD)) := rfl
theorem p_0 (q : IP) : gIxA (dIP q) (.int 0) = some (.int q.1) := rfl
theorem p_1 (q : IP) : gIxA (dIP q) (.int 1) = some (.int q.2) := rfl
theorem r_0 (r : Int × List Int) : gIxA (rowD r) (.int 0) = some (.int r.1) := rfl
theorem r_1 (r : Int × List Int) : gIxA (rowD r) (.int 1) = some (wdD r.2) := rfl
theorem lb_in (z : Sz S n m) (h1 : Rws S m R1) (l1 : (R1.length : Int) = S * 2 ^ n) (h2 : Rws S m R2) (l2 : (R2.length : Int) = S * 2 ^ n) {k : Nat} (hk : k ≤ 1000) (e : En3) (he : okP S (e.s, e.t) ∧ (∀ w ∈ e.pa, Wd n w) ∧ e.pa.length + 1 ≤ k) (a3 a4 a5 a6 a11 a12 : Sl) : ∀ (ws : List Wo) (a8 a9 a10 : Sl), (∀ w ∈ ws, Wd n w) →
    ∃ a8' a9' a10', forD (gNm 8) ll_b (ws.map wdD) [.val (.list (R1.map rowD)), .val (.list (R2.map rowD)), .val (.int n), a3, a4, a5, a6, .val (enL e), a8, a9, a10, a11, a12] = match fdW n R1 R2 e ws with
      | some p => .ok (.rt (.tuple (p.map wdD)))
      | none => .ok (.nx [.val (.list (R1.map rowD)), .val (.list (R2.map rowD)), .val (.int n), a3, a4, a5, a6, .val (enL e), a8', a9', a10', a11, a12])
  | [], a8, a9, a10, _ => ⟨a8, a9, a10, rfl⟩
  | w :: ws, a8, a9, a10, hw => by
    have hw1 := hw w (List.mem_cons_self ..)
    have r1 := step z h1 l1 he.1.1.1 he.1.1.2 hw1
    have r2 := step z h2 l2 he.1.2.1 he.1.2.2 hw1
    have ne := ne_wd (stp R1 n e.s w).2 (stp R2 n e.t w).2
    have ap : (e.pa ++ [w]).map wdD = e.pa.map wdD ++ [wdD w] := by rw [List.map_append]; rfl
    have lp : (e.pa.map wdD).length + 1 ≤ 1000000 := by rw [List.length_map]; have := he.2.2; omega
    have g0 := e_0 e
    have g1 := e_1 e
    have g2 := p_0 (e.s, e.t)
    have g3 := p_1 (e.s, e.t)
    have g4 := r_1 (stp R1 n e.s w)
    have g5 := r_1 (stp R2 n e.t w)
    dsimp only at g2 g3
    by_cases hd : (stp R1 n e.s w).2 = (stp R2 n e.t w).2
    · have df : dif n R1 R2 e w = false := by unfold dif; simp [hd]
      obtain ⟨b8, b9, b10, ih⟩ := lb_in z h1 l1 h2 l2 hk e he a3 a4 a5 a6 a11 a12 ws (.val (wdD w)) (.val (rowD (stp R1 n e.s w))) (.val (rowD (stp R2 n e.t w))) (fun x hx => hw x (List.mem_cons_of_mem _ hx))
      refine ⟨b8, b9, b10, ?_⟩
      have ef : fdW n R1 R2 e (w :: ws) = fdW n R1 R2 e ws := by
        rw [fdW, df]
        rfl
      rw [ef, ← ih, List.map_cons, forD]
      have ne' : gNeA (wdD (stp R1 n e.s w).2) (wdD (stp R2 n e.t w).2) = some false := by rw [ne]; simp [hd]
      generalize rowD (stp R1 n e.s w) = r1D at *
      generalize rowD (stp R2 n e.t w) = r2D at *
      generalize R1.map rowD = RR1 at *
      generalize R2.map rowD = RR2 at *
      generalize enL e = EE at *
      simp -dsimp -implicitDefEqProofs [ll_b, g0, g1, g2, g3, g4, g5, -gIxA, r1, r2, ne', -gNeA, -forD, frees]
      done
    · have df : dif n R1 R2 e w = true := by unfold dif; simp [hd]
      refine ⟨a8, a9, a10, ?_⟩
      have ef : fdW n R1 R2 e (w :: ws) = some (e.pa ++ [w]) := by rw [fdW, df]; rfl
      rw [ef, List.map_cons, forD]
      have ne' : gNeA (wdD (stp R1 n e.s w).2) (wdD (stp R2 n e.t w).2) = some true := by rw [ne]; simp [hd]
      dsimp only
      rw [ap]
      generalize rowD (stp R1 n e.s w) = r1D at *
      generalize rowD (stp R2 n e.t w) = r2D at *
      generalize R1.map rowD = RR1 at *
      generalize R2.map rowD = RR2 at *
      generalize enL e = EE at *
      generalize e.pa.map wdD = PP at *
      simp -dsimp -implicitDefEqProofs [ll_b, g0, g1, g2, g3, g4, g5, -gIxA, r1, r2, ne', -gNeA, lp, -forD, frees]
      done
theorem lb_out (z : Sz S n m) (h1 : Rws S m R1) (l1 : (R1.length : Int) = S * 2 ^ n) (h2 : Rws S m R2) (l2 : (R2.length : Int) = S * 2 ^ n) {k : Nat} (hk : k ≤ 1000) (a4 a5 a6 a11 a12 : Sl) : ∀ (es : List En3) (a7 a8 a9 a10 : Sl), (∀ e ∈ es, okP S (e.s, e.t) ∧ (∀ w ∈ e.pa, Wd n w) ∧ e.pa.length + 1 ≤ k) →
    ∃ a7' a8' a9' a10', forD (gNm 7) (sFor (gNm 8) (iAny (cV 3)) [] ll_b) (es.map enL) [.val (.list (R1.map rowD)), .val (.list (R2.map rowD)), .val (.int n), .val (.list ((wsI n).map wdD)), a4, a5, a6, a7, a8, a9, a10, a11, a12] = match fdA n R1 R2 es with
      | some p => .ok (.rt (.tuple (p.map wdD)))
      | none => .ok (.nx [.val (.list (R1.map rowD)), .val (.list (R2.map rowD)), .val (.int n), .val (.list ((wsI n).map wdD)), a4, a5, a6, a7', a8', a9', a10', a11, a12])
  | [], a7, a8, a9, a10, _ => ⟨a7, a8, a9, a10, rfl⟩
  | e :: es, a7, a8, a9, a10, he => by
    have he1 := he e (List.mem_cons_self ..)
    obtain ⟨b8, b9, b10, ei⟩ := lb_in z h1 l1 h2 l2 hk e he1 (.val (.list ((wsI n).map wdD))) a4 a5 a6 a11 a12 (wsI n) a8 a9 a10 (wsI_wd n)
    cases hf : fdW n R1 R2 e (wsI n) with
    | some p =>
      rw [hf] at ei
      refine ⟨a7, a8, a9, a10, ?_⟩
      rw [fdA, hf, List.map_cons, forD]
      dsimp only at ei ⊢
      generalize R1.map rowD = RR1 at *
      generalize R2.map rowD = RR2 at *
      generalize enL e = EE at *
      simp -dsimp -implicitDefEqProofs [ei, -forD, frees]
      done
    | none =>
      rw [hf] at ei
      obtain ⟨c7, c8, c9, c10, ih⟩ := lb_out z h1 l1 h2 l2 hk a4 a5 a6 a11 a12 es (.val (enL e)) b8 b9 b10 (fun x hx => he x (List.mem_cons_of_mem _ hx))
      refine ⟨c7, c8, c9, c10, ?_⟩
      rw [fdA, hf, List.map_cons, forD]
      dsimp only at ei ⊢
      rw [← ih]
      generalize R1.map rowD = RR1 at *
      generalize R2.map rowD = RR2 at *
      generalize enL e = EE at *
      simp -dsimp -implicitDefEqProofs [ei, -forD, frees]
      done
end
end My
namespace My
open PySem PySem.Spec PyProof.Rows L2 DL
variable [Cs]
section
variable {S : Int} {n m : Nat} {R1 R2 : Tab}
theorem lc_in (z : Sz S n m) (h1 : Rws S m R1) (l1 : (R1.length : Int) = S * 2 ^ n) (h2 : Rws S m R2) (l2 : (R2.length : Int) = S * 2 ^ n) {k : Nat} (hk : k ≤ 1000) (e : En3) (he : okP S (e.s, e.t) ∧ (∀ w ∈ e.pa, Wd n w) ∧ e.pa.length + 1 ≤ k) (a3 a4 a6 a9 a10 : Sl) : ∀ (ws : List Wo) (st : List IP × List En3) (a8 a12 : Sl), (∀ w ∈ ws, Wd n w) → Kp S n k st → st.1.length + ws.length < 900000 → st.2.length + ws.length < 900000 →
    ∃ a8' a12', forD (gNm 8) ll_c (ws.map wdD) [.val (.list (R1.map rowD)), .val (.list (R2.map rowD)), .val (.int n), a3, a4, .own (st.1.map dIP), a6, .val (enL e), a8, a9, a10, .own (st.2.map enL), a12] = .ok (.nx [.val (.list (R1.map rowD)), .val (.list (R2.map rowD)), .val (.int n), a3, a4, .own ((putW n R1 R2 e ws st).1.map dIP), a6, .val (enL e), a8', a9, a10, .own ((putW n R1 R2 e ws st).2.map enL), a12'])
  | [], st, a8, a12, _, _, _, _ => ⟨a8, a12, rfl⟩
  | w :: ws, st, a8, a12, hw, hst, hz1, hz2 => by
    rw [List.length_cons] at hz1 hz2
    have hw1 := hw w (List.mem_cons_self ..)
    have r1 := step z h1 l1 he.1.1.1 he.1.1.2 hw1
    have r2 := step z h2 l2 he.1.2.1 he.1.2.2 hw1
    have ap : (e.pa ++ [w]).map wdD = e.pa.map wdD ++ [wdD w] := by rw [List.map_append]; rfl
    have lp : (e.pa.map wdD).length + 1 ≤ 1000000 := by rw [List.length_map]; have := he.2.2; omega
    have g0 := e_0 e
    have g1 := e_1 e
    have g2 := p_0 (e.s, e.t)
    have g3 := p_1 (e.s, e.t)
    have g4 := r_0 (stp R1 n e.s w)
    have g5 := r_0 (stp R2 n e.t w)
    dsimp only at g2 g3
    have nn := nin_seen st.1 (nx2 n R1 R2 e w)
    have lm : (st.1.map dIP).length < 1000000 := by rw [List.length_map]; omega
    have la : (st.2.map enL).length < 1000000 := by rw [List.length_map]; omega
    obtain ⟨b8, b12, ih⟩ := lc_in z h1 l1 h2 l2 hk e he a3 a4 a6 a9 a10 ws (put2 n R1 R2 st e w) (.val (wdD w)) (.val (.tuple [.int (stp R1 n e.s w).1, .int (stp R2 n e.t w).1])) (fun x hx => hw x (List.mem_cons_of_mem _ hx)) (hst.put z h1 l1 h2 l2 he hw1) (by
          unfold put2
          split
          · omega
          · simp only [List.length_append, List.length_singleton]; omega) (by
          unfold put2
          split
          · omega
          · simp only [List.length_append, List.length_singleton]; omega)
    refine ⟨b8, b12, ?_⟩
    rw [putW, ← ih, List.map_cons, forD]
    by_cases hq : nx2 n R1 R2 e w ∈ st.1
    · have ep : put2 n R1 R2 st e w = st := by unfold put2; rw [if_pos hq]
      rw [ep]
      have nn' : gNinA (.tuple [.int (stp R1 n e.s w).1, .int (stp R2 n e.t w).1]) (.list (st.1.map dIP)) = some false := by
        have := nn
        rw [decide_eq_true hq] at this
        exact this
      generalize rowD (stp R1 n e.s w) = r1D at *
      generalize rowD (stp R2 n e.t w) = r2D at *
      generalize R1.map rowD = RR1 at *
      generalize R2.map rowD = RR2 at *
      generalize st.1.map dIP = TT at *
      generalize st.2.map enL = AA at *
      generalize enL e = EE at *
      simp -dsimp -implicitDefEqProofs [ll_c, g0, g1, g2, g3, g4, g5, -gIxA, r1, r2, nn', -gNinA, -forD, frees]
      done
    · have ep : put2 n R1 R2 st e w = (st.1 ++ [nx2 n R1 R2 e w], st.2 ++ [⟨(nx2 n R1 R2 e w).1, (nx2 n R1 R2 e w).2, e.pa ++ [w]⟩]) := by unfold put2; rw [if_neg hq]
      rw [ep]
      have nn' : gNinA (.tuple [.int (stp R1 n e.s w).1, .int (stp R2 n e.t w).1]) (.list (st.1.map dIP)) = some true := by
        have := nn
        rw [decide_eq_false hq] at this
        exact this
      have ea : (st.2 ++ [(⟨(nx2 n R1 R2 e w).1, (nx2 n R1 R2 e w).2, e.pa ++ [w]⟩ : En3)]).map enL = st.2.map enL ++ [.tuple [.tuple [.int (stp R1 n e.s w).1, .int (stp R2 n e.t w).1], .tuple (e.pa.map wdD ++ [wdD w])]] := by
        rw [List.map_append, ← ap]
        rfl
      have eb : (st.1 ++ [nx2 n R1 R2 e w]).map dIP = st.1.map dIP ++ [.tuple [.int (stp R1 n e.s w).1, .int (stp R2 n e.t w).1]] := by
        rw [List.map_append]
        rfl
      dsimp only
      rw [ea, eb]
      generalize rowD (stp R1 n e.s w) = r1D at *
      generalize rowD (stp R2 n e.t w) = r2D at *
      generalize R1.map rowD = RR1 at *
      generalize R2.map rowD = RR2 at *
      generalize st.1.map dIP = TT at *
      generalize st.2.map enL = AA at *
      generalize enL e = EE at *
      generalize e.pa.map wdD = PP at *
      simp -dsimp -implicitDefEqProofs [ll_c, g0, g1, g2, g3, g4, g5, -gIxA, r1, r2, nn', -gNinA, lm, la, lp, -forD, frees]
      done
theorem lc_out (z : Sz S n m) (h1 : Rws S m R1) (l1 : (R1.length : Int) = S * 2 ^ n) (h2 : Rws S m R2) (l2 : (R2.length : Int) = S * 2 ^ n) {k : Nat} (hk : k ≤ 1000) (a4 a6 a9 a10 : Sl) : ∀ (es : List En3) (st : List IP × List En3) (a7 a8 a12 : Sl), (∀ e ∈ es, okP S (e.s, e.t) ∧ (∀ w ∈ e.pa, Wd n w) ∧ e.pa.length + 1 ≤ k) → Kp S n k st → st.2.length ≤ st.1.length →
    ∃ a7' a8' a12', forD (gNm 7) (sFor (gNm 8) (iAny (cV 3)) [] ll_c) (es.map enL) [.val (.list (R1.map rowD)), .val (.list (R2.map rowD)), .val (.int n), .val (.list ((wsI n).map wdD)), a4, .own (st.1.map dIP), a6, a7, a8, a9, a10, .own (st.2.map enL), a12] = .ok (.nx [.val (.list (R1.map rowD)), .val (.list (R2.map rowD)), .val (.int n), .val (.list ((wsI n).map wdD)), a4, .own ((putA2 n R1 R2 es st).1.map dIP), a6, a7', a8', a9, a10, .own ((putA2 n R1 R2 es st).2.map enL), a12'])
  | [], st, a7, a8, a12, _, _, _ => ⟨a7, a8, a12, rfl⟩
  | e :: es, st, a7, a8, a12, he, hst, hle => by
    have he1 := he e (List.mem_cons_self ..)
    have l64 := hst.len z.s1
    have lw := ws_len n z.n1
    obtain ⟨b8, b12, ei⟩ := lc_in z h1 l1 h2 l2 hk e he1 (.val (.list ((wsI n).map wdD))) a4 a6 a9 a10 (wsI n) st a8 a12 (wsI_wd n) hst (by omega) (by omega)
    have kp := Kp.putW z h1 l1 h2 l2 he1 (wsI n) (wsI_wd n) hst
    have pl := putW_len n R1 R2 e (wsI n) st
    obtain ⟨c7, c8, c12, ih⟩ := lc_out z h1 l1 h2 l2 hk a4 a6 a9 a10 es (putW n R1 R2 e (wsI n) st) (.val (enL e)) b8 b12 (fun x hx => he x (List.mem_cons_of_mem _ hx)) kp (by omega)
    refine ⟨c7, c8, c12, ?_⟩
    rw [putA2, ← ih, List.map_cons, forD]
    generalize R1.map rowD = RR1 at *
    generalize R2.map rowD = RR2 at *
    generalize enL e = EE at *
    simp -dsimp -implicitDefEqProofs [ei, -forD, frees]
    done
theorem ll_loop (z : Sz S n m) (h1 : Rws S m R1) (l1 : (R1.length : Int) = S * 2 ^ n) (h2 : Rws S m R2) (l2 : (R2.length : Int) = S * 2 ^ n) : ∀ (ks : List PyData) (k : Nat) (seen : List IP) (lev : List En3) (a6 a7 a8 a9 a10 a11 a12 : Sl), Kp S n k (seen, lev) → k + ks.length ≤ 900 → (a11 = .no ∨ ∃ d, a11 = .val d) →
    ∃ env', forD (gNm 6) (sSeq (sFor (gNm 7) (iAny (cV 4)) [] (sFor (gNm 8) (iAny (cV 3)) [] ll_b)) ll_2) ks [.val (.list (R1.map rowD)), .val (.list (R2.map rowD)), .val (.int n), .val (.list ((wsI n).map wdD)), .val (.list (lev.map enL)), .own (seen.map dIP), a6, a7, a8, a9, a10, a11, a12] = match bfs n R1 R2 ks.length seen lev with
      | some p => .ok (.rt (.tuple (p.map wdD)))
      | none => .ok (.nx env')
  | [], k, seen, lev, a6, a7, a8, a9, a10, a11, a12, hk, hkf, h11 => ⟨_, rfl⟩
  | d :: ks, k, seen, lev, a6, a7, a8, a9, a10, a11, a12, hk, hkf, h11 => by
    rw [List.length_cons] at hkf
    have he : ∀ x ∈ lev, okP S (x.s, x.t) ∧ (∀ w ∈ x.pa, Wd n w) ∧ x.pa.length + 1 ≤ k + 1 := fun x hx => ⟨(hk.ac x hx).1, (hk.ac x hx).2.1, by have := (hk.ac x hx).2.2; omega⟩
    have k0 : Kp S n (k + 1) (seen, ([] : List En3)) := ⟨hk.nd, hk.ok, fun x hx => by cases hx⟩
    obtain ⟨c7, c8, c9, c10, eb⟩ := lb_out z h1 l1 h2 l2 (k := k + 1) (by omega) (.val (.list (lev.map enL))) (.own (seen.map dIP)) (.val d) a11 a12 lev a7 a8 a9 a10 he
    obtain ⟨d7, d8, d12, ec⟩ := lc_out z h1 l1 h2 l2 (k := k + 1) (by omega) (.val (.list (lev.map enL))) (.val d) c9 c10 lev (seen, []) c7 c8 a12 he k0 (Nat.zero_le _)
    have k1 := Kp.putA z h1 l1 h2 l2 lev he k0
    generalize hP : putA2 n R1 R2 lev (seen, []) = P at *
    rw [List.length_cons, bfs, hP]
    cases hfd : fdA n R1 R2 lev with
    | some p =>
      rw [hfd] at eb
      refine ⟨[], ?_⟩
      dsimp only at eb ⊢
      rw [forD]
      generalize lev.map enL = LV at *
      generalize R1.map rowD = RR1 at *
      generalize R2.map rowD = RR2 at *
      simp -dsimp -implicitDefEqProofs [eb, -forD, frees]
      done
    | none =>
      rw [hfd] at eb
      obtain ⟨env', ih⟩ := ll_loop z h1 l1 h2 l2 ks (k + 1) P.1 P.2 (.val d) d7 d8 c9 c10 (.val (.list (P.2.map enL))) d12 k1 (by omega) (.inr ⟨_, rfl⟩)
      refine ⟨env', ?_⟩
      dsimp only at eb ⊢
      rw [← ih, forD]
      simp only [List.map_nil] at ec
      generalize lev.map enL = LV at *
      generalize R1.map rowD = RR1 at *
      generalize R2.map rowD = RR2 at *
      generalize P.2.map enL = AA at *
      generalize P.1.map dIP = TT2 at *
      generalize seen.map dIP = TT at *
      have e2 : ll_2 [.val (.list RR1), .val (.list RR2), .val (.int n), .val (.list ((wsI n).map wdD)), .val (.list LV), .own TT, .val d, c7, c8, c9, c10, a11, a12] = .ok (.nx [.val (.list RR1), .val (.list RR2), .val (.int n), .val (.list ((wsI n).map wdD)), .val (.list AA), .own TT2, .val d, d7, d8, c9, c10, .val (.list AA), d12]) := by
        unfold ll_2
        rcases h11 with rfl | ⟨q, rfl⟩ <;> simp -dsimp -implicitDefEqProofs [ll_w, ll_e, ec, -forD, frees, freeze]
      simp -dsimp -implicitDefEqProofs [eb, e2, -forD, frees]
      done
theorem least_ok (z : Sz S n m) (h1 : Rws S m R1) (l1 : (R1.length : Int) = S * 2 ^ n) (h2 : Rws S m R2) (l2 : (R2.length : Int) = S * 2 ^ n) : _law_least_f [.list (R1.map rowD), .list (R2.map rowD), .int n] = .ok (.val (resL (bfs n R1 R2 65 [(0, 0)] [⟨0, 0, []⟩]))) := by
  have s0 := z.s0
  have k0 : Kp S n 0 ([(0, 0)], [⟨0, 0, []⟩]) := ⟨by decide, fun q hq => by cases List.mem_singleton.mp hq; exact ⟨⟨by decide, by show (0 : Int) < S; omega⟩, by decide, by show (0 : Int) < S; omega⟩, fun e he => by cases List.mem_singleton.mp he; exact ⟨⟨⟨by decide, by show (0 : Int) < S; omega⟩, by decide, by show (0 : Int) < S; omega⟩, fun w hw => (by cases hw), by decide⟩⟩
  have l65 : (intsD 0 65).length = 65 := rfl
  obtain ⟨env', ew⟩ := ll_loop z h1 l1 h2 l2 (intsD 0 65) 0 [(0, 0)] [⟨0, 0, []⟩] .no .no .no .no .no .no .no k0 (by rw [l65]; omega) (.inl rfl)
  rw [l65] at ew
  have aw := lwords n z.n1
  have em : ([((0 : Int), (0 : Int))] : List IP).map dIP = [.tuple [.int 0, .int 0]] := rfl
  have el : ([(⟨0, 0, []⟩ : En3)].map enL) = [.tuple [.tuple [.int 0, .int 0], .tuple []]] := rfl
  rw [em, el] at ew
  generalize R1.map rowD = RR1 at *
  generalize R2.map rowD = RR2 at *
  generalize (wsI n).map wdD = WL at *
  unfold _law_least_f
  cases hb : bfs n R1 R2 65 [(0, 0)] [⟨0, 0, []⟩] with
  | some p =>
    rw [hb] at ew
    simp -dsimp -implicitDefEqProofs [aw, ll_1, ew, resL, -forD, frees]
    done
  | none =>
    rw [hb] at ew
    simp -dsimp -implicitDefEqProofs [aw, ll_1, ew, resL, -forD, frees]
    done
end
end My
namespace My
open PySem PySem.Spec PyProof.Rows L2 DL
theorem fdW_some {n : Nat} {R1 R2 : Tab} {e : En3} {p : List Wo} : ∀ {ws : List Wo}, fdW n R1 R2 e ws = some p → ∃ w ∈ ws, p = e.pa ++ [w]
  | [], h => by cases h
  | w :: ws, h => by
    unfold fdW at h
    split at h
    · cases h; exact ⟨w, List.mem_cons_self .., rfl⟩
    · obtain ⟨u, hu, e⟩ := fdW_some h
      exact ⟨u, List.mem_cons_of_mem _ hu, e⟩
theorem fdA_some {n : Nat} {R1 R2 : Tab} {p : List Wo} : ∀ {es : List En3}, fdA n R1 R2 es = some p → ∃ e ∈ es, ∃ w ∈ wsI n, p = e.pa ++ [w]
  | [], h => by cases h
  | e :: es, h => by
    unfold fdA at h
    split at h
    · rename_i q
      cases h
      obtain ⟨w, hw, ep⟩ := fdW_some q
      exact ⟨e, List.mem_cons_self .., w, hw, ep⟩
    · obtain ⟨x, hx, y⟩ := fdA_some h
      exact ⟨x, List.mem_cons_of_mem _ hx, y⟩
variable [Cs]
section
variable {S : Int} {n m : Nat} {R1 R2 : Tab}
theorem bfs_len (z : Sz S n m) (h1 : Rws S m R1) (l1 : (R1.length : Int) = S * 2 ^ n) (h2 : Rws S m R2) (l2 : (R2.length : Int) = S * 2 ^ n) : ∀ (f k : Nat) (seen : List IP) (lev : List En3) {p : List Wo}, Kp S n k (seen, lev) → bfs n R1 R2 f seen lev = some p → p.length ≤ k + f ∧ ∀ w ∈ p, Wd n w
  | 0, _, _, _, _, _, h => by cases h
  | f + 1, k, seen, lev, p, hk, h => by
    unfold bfs at h
    split at h
    · rename_i q
      cases h
      obtain ⟨e, he, w, hw, rfl⟩ := fdA_some q
      have a := hk.ac e he
      refine ⟨by rw [List.length_append, List.length_singleton]; have := a.2.2; omega, fun u hu => ?_⟩
      rcases List.mem_append.mp hu with c | c
      · exact a.2.1 u c
      · cases List.mem_singleton.mp c; exact wsI_wd n w hw
    · have he : ∀ x ∈ lev, okP S (x.s, x.t) ∧ (∀ w ∈ x.pa, Wd n w) ∧ x.pa.length + 1 ≤ k + 1 := fun x hx => ⟨(hk.ac x hx).1, (hk.ac x hx).2.1, by have := (hk.ac x hx).2.2; omega⟩
      have k0 : Kp S n (k + 1) (seen, ([] : List En3)) := ⟨hk.nd, hk.ok, fun x hx => by cases hx⟩
      have k1 := Kp.putA z h1 l1 h2 l2 lev he k0
      have := bfs_len z h1 l1 h2 l2 f (k + 1) _ _ k1 h
      exact ⟨by omega, this.2⟩
theorem three_ok (n m : Nat) (hn : n ≤ 2) (m0 : 1 ≤ m) (m1 : m ≤ 3) : ∃ R3 : Tab, repA ((wsI (n + 1)).map wdD).length [.tuple [.int 0, wdD (List.replicate m 0)]] = R3.map rowD ∧ Rws 1 m R3 ∧ (R3.length : Int) = 1 * 2 ^ (n + 1) ∧ Sz 1 (n + 1) m := by
  have sz : Sz 1 (n + 1) m := ⟨by decide, by decide, by omega, m0, m1⟩
  have ok : ∀ c : Nat, Rws 1 m (List.replicate c (0, List.replicate m 0)) := fun c r hr => by
    rw [List.eq_of_mem_replicate hr]
    exact ⟨by show (0 : Int) ≤ 0; omega, by show (0 : Int) < 1; omega, zeros m⟩
  match n, hn with
  | 0, _ => exact ⟨List.replicate 2 (0, List.replicate m 0), rfl, ok 2, by simp, sz⟩
  | 1, _ => exact ⟨List.replicate 4 (0, List.replicate m 0), rfl, ok 4, by simp, sz⟩
  | 2, _ => exact ⟨List.replicate 8 (0, List.replicate m 0), rfl, ok 8, by simp, sz⟩
theorem lw5_ok (z : Sz S n m) (h1 : Rws S m R1) (l1 : (R1.length : Int) = S * 2 ^ n) (h2 : Rws S m R2) (l2 : (R2.length : Int) = S * 2 ^ n) (a0 a1 a2 a3 a5 a6 a7 a9 a10 a13 : Sl) (h7 : a7 = .val (.list (R1.map rowD)) ∨ a7 = .own (R1.map rowD)) :
    lw_5 [a0, a1, a2, a3, .val (.int n), a5, a6, a7, .val (.list (R2.map rowD)), a9, a10, .val (mach S n m R1), .val (mach S n m R2), a13, .no, .no] = .ok (.rt (.bool true)) := by
  have eq1 := equal_ok z h1 l1 h2 l2
  have eq2 := equal_ok z h2 l2 h1 l1
  have ll := least_ok z h1 l1 h2 l2
  have sw := bfs_sw n R1 R2 65 [(0, 0)] [⟨0, 0, []⟩]
  have e1 : ([((0 : Int), (0 : Int))] : List IP).map swP = [(0, 0)] := rfl
  have e2 : ([(⟨0, 0, []⟩ : En3)].map swE) = [⟨0, 0, []⟩] := rfl
  rw [e1, e2] at sw
  rw [sw] at eq2
  have s0 := z.s0
  have k0 : Kp S n 0 ([(0, 0)], [⟨0, 0, []⟩]) := ⟨by decide, fun q hq => by cases List.mem_singleton.mp hq; exact ⟨⟨by decide, by show (0 : Int) < S; omega⟩, by decide, by show (0 : Int) < S; omega⟩, fun e he => by cases List.mem_singleton.mp he; exact ⟨⟨⟨by decide, by show (0 : Int) < S; omega⟩, by decide, by show (0 : Int) < S; omega⟩, fun w hw => (by cases hw), by decide⟩⟩
  have bl := fun p => bfs_len z h1 l1 h2 l2 65 0 [(0, 0)] [⟨0, 0, []⟩] (p := p) k0
  generalize mach S n m R1 = M1 at *
  generalize mach S n m R2 = M2 at *
  generalize R1.map rowD = RR1 at *
  generalize R2.map rowD = RR2 at *
  cases hb : bfs n R1 R2 65 [(0, 0)] [⟨0, 0, []⟩] with
  | none =>
    rw [hb] at eq1 eq2 ll
    unfold lw_5
    rcases h7 with rfl | rfl <;> simp -dsimp -implicitDefEqProofs [ll, eq1, eq2, resD, resL, lw_6, lw_7, frees, freeze]
  | some p =>
    rw [hb] at eq1 eq2 ll
    obtain ⟨pl, pw⟩ := bl p hb
    have sm : _law_same_f [.tuple (p.map wdD), .tuple (p.map wdD)] = okB true := sm_tup 2 _ (fun d hd => by
      obtain ⟨w, hw, rfl⟩ := List.mem_map.mp hd
      exact sm_wd 0 w (by have := (pw w hw).1; have := z.n1; omega)) (by rw [List.length_map]; omega)
    have lp : (p.map wdD).length ≤ 1000000 := by rw [List.length_map]; omega
    have ge : gEqA (.list (p.map wdD)) (.list (p.map wdD)) = some true := ((Pn.path p).eq (by decide)).1
    unfold resD at eq1 eq2
    unfold resL at ll
    dsimp only at eq1 eq2 ll
    generalize p.map wdD = PP at *
    unfold lw_5
    rcases h7 with rfl | rfl <;> simp -dsimp -implicitDefEqProofs [ll, eq1, eq2, lw_6, lw_7, sm, lp, ge, -gEqA, -_law_same_fr, frees, freeze]
theorem end_ok (z : Sz S n m) (hn : n ≤ 2) (h1 : Rws S m R1) (l1 : (R1.length : Int) = S * 2 ^ n) (h2 : Rws S m R2) (l2 : (R2.length : Int) = S * 2 ^ n) (o : Int) (d0 d1 : PyData) (ps : List PyData) (a7 a9 a10 : Sl) (h7 : a7 = .val (.list (R1.map rowD)) ∨ a7 = .own (R1.map rowD)) (h9 : a9 = .no ∨ ∃ d, a9 = .val d) (h10 : a10 = .no ∨ ∃ d, a10 = .val d) :
    lw_3 [.val d0, .val d1, .own ps, .val (.int S), .val (.int n), .val (.int m), .val (.int o), a7, .val (.list (R2.map rowD)), a9, a10, .no, .no, .no, .no, .no] = .ok (.rt (.bool true)) := by
  have i1 := init z h1 l1
  have i2 := init z h2 l2
  obtain ⟨R3, er, h3, l3, z3⟩ := three_ok n m hn z.m0 z.m1
  have i3 := init z3 h3 l3
  have bad := equal_bad (S := S) (S2 := 1) (n := n) (m := m) (R1 := R1) (R2 := R3) z.n1
  have lw := lwords (n + 1) (by omega)
  have rz := rep_z m z.m0 z.m1
  have ec : ((n + 1 : Nat) : Int) = (n : Int) + 1 := by omega
  have bad2 : equal_answers_f [mach S n m R1, insD Cs.Machine ["states", "inputs", "outputs", "_rows"] [.int 1, .int ((n : Int) + 1), .int m, .list (R3.map rowD)]] = .ex ("BadMachine", none) := by rw [← ec]; exact bad
  rw [ec] at i3 lw
  have c1 : tc_BadMachine "BadMachine" = some true := by decide +kernel
  have w8 := ws_len (n + 1) (by omega)
  have wl : ((wsI (n + 1)).map wdD).length ≤ 8 := by rw [List.length_map]; exact w8
  have wl2 : ((wsI (n + 1)).map wdD).length ≤ 1000000 := by omega
  have wl3 : (((wsI (n + 1)).map wdD).length : Int) < 9223372036854775808 := by omega
  have r3l : (R3.map rowD).length ≤ 1000000 := by rw [List.length_map]; have := pow_le8 (n + 1) (by omega); omega
  have t5 := lw5_ok z h1 l1 h2 l2 (.val d0) (.val d1) (.own ps) (.val (.int S)) (.val (.int m)) (.val (.int o)) a7 a9 a10 .no h7
  have t4 : lw_4 [.val d0, .val d1, .own ps, .val (.int S), .val (.int n), .val (.int m), .val (.int o), a7, .val (.list (R2.map rowD)), a9, a10, .val (mach S n m R1), .val (mach S n m R2), .no, .no, .no] = .ok (.rt (.bool true)) := by
    by_cases q : o % 9 = 8
    · have q1 : gEqA (.int (o % 9)) (.int 8) = some true := by rw [q]; rfl
      generalize mach S n m R1 = M1 at *
      generalize mach S n m R2 = M2 at *
      generalize (wsI (n + 1)).map wdD = WL at *
      generalize R3.map rowD = RR3 at *
      generalize wdD (List.replicate m 0) = ZZ at *
      generalize R1.map rowD = RR1 at *
      generalize R2.map rowD = RR2 at *
      unfold lw_4
      rcases h7 with rfl | rfl <;> rcases h9 with rfl | ⟨x9, rfl⟩ <;> rcases h10 with rfl | ⟨x10, rfl⟩ <;> simp -dsimp -implicitDefEqProofs [q1, -gEqA, lw, rz, -gMulZ, er, wl, wl2, wl3, r3l, i3, bad2, sTryO, noOwns, c1, frees, freeze]
    · have q1 : gEqA (.int (o % 9)) (.int 8) = some false := by simp [beq_eq_false_iff_ne.mpr q]
      unfold lw_4
      simp -dsimp -implicitDefEqProofs [q1, -gEqA, t5, frees]
  unfold lw_3
  rcases h7 with rfl | rfl <;> simp -dsimp -implicitDefEqProofs [i1, i2, t4, frees, freeze]
end
end My
namespace My
open PySem PySem.Spec PyProof.Rows L2 DL
theorem rep_b (b : Int) (m : Nat) (h0 : 1 ≤ m) (h1 : m ≤ 3) : gMulZ (.tuple [.int b]) (.int m) = some (wdD (List.replicate m b)) := by
  match m, h0, h1 with
  | 1, _, _ => rfl
  | 2, _, _ => rfl
  | 3, _, _ => rfl
theorem wd_rep {b : Int} (hb : 0 ≤ b ∧ b ≤ 1) (m : Nat) : Wd m (List.replicate m b) := ⟨by simp, fun c hc => by rw [List.eq_of_mem_replicate hc]; exact hb⟩
theorem ws_pow (n : Nat) (h : n ≤ 3) : ((wsI n).length : Int) = 2 ^ n := by
  match n, h with
  | 0, _ => rfl
  | 1, _ => rfl
  | 2, _ => rfl
  | 3, _ => rfl
theorem take_cut (R : List PyData) (i : Int) (h0 : 0 ≤ i) (h1 : i ≤ R.length) : cutA R none (some i) = R.take i.toNat := by
  unfold cutA
  rw [sIx_nn _ _ _ h0]
  have e : HT.sIx R.length 0 none = 0 := rfl
  rw [e, List.drop_zero, Nat.sub_zero]
  congr 1
  omega
theorem drop_cut (R : List PyData) (i : Int) (h0 : 0 ≤ i) (h1 : i ≤ R.length) : cutA R (some i) none = R.drop i.toNat := by
  unfold cutA
  rw [sIx_nn _ _ _ h0]
  have e : HT.sIx R.length R.length none = R.length := rfl
  have e2 : min i.toNat R.length = i.toNat := by omega
  rw [e, e2]
  exact List.take_of_length_le (by rw [List.length_drop]; omega)
variable [Cs]
theorem lwc_loop (S : Int) (m : Nat) (o : Int) (s0 : 5 ≤ S) (s1 : S ≤ 8) (m0 : 1 ≤ m) (m1 : m ≤ 3) (o0 : 0 ≤ o) (o1 : o < 1000) (a0 a1 a2 a4 a8 a10 a11 a12 a13 a14 a15 : Sl) : ∀ (ks : List Int) (R : Tab) (a9 : Sl), (∀ k ∈ ks, 0 ≤ k ∧ k < 16) → Rws S m R → R.length + ks.length < 1000 →
    ∃ R' a9', Rws S m R' ∧ R'.length = R.length + ks.length ∧ forD (gNm 9) lw_c (ks.map .int) [a0, a1, a2, .val (.int S), a4, .val (.int m), .val (.int o), .own (R.map rowD), a8, a9, a10, a11, a12, a13, a14, a15] = .ok (.nx [a0, a1, a2, .val (.int S), a4, .val (.int m), .val (.int o), .own (R'.map rowD), a8, a9', a10, a11, a12, a13, a14, a15]) ∧ (a9 = .no ∨ (∃ d, a9 = .val d) → a9' = .no ∨ ∃ d, a9' = .val d)
  | [], R, a9, _, h, _ => ⟨R, a9, h, rfl, rfl, id⟩
  | k :: ks, R, a9, hk, h, hz => by
    rw [List.length_cons] at hz
    obtain ⟨k0, k1⟩ := hk k (List.mem_cons_self ..)
    have hs : 0 < S := by omega
    have c0 : 0 ≤ (k / 2 + k % 2) % S := Int.emod_nonneg _ (by omega)
    have c1 : (k / 2 + k % 2) % S < S := Int.emod_lt_of_pos _ hs
    have km : kMul (k / 2) o = some (k / 2 * o) := kMul_r _ _ ⟨by omega, by omega⟩
    generalize hb : k / 2 * o / 40 % 2 = b
    have b01 : 0 ≤ b ∧ b ≤ 1 := by omega
    have rb := rep_b b m m0 m1
    obtain ⟨R', a9', g1, g2, e, g3⟩ := lwc_loop S m o s0 s1 m0 m1 o0 o1 a0 a1 a2 a4 a8 a10 a11 a12 a13 a14 a15 ks (R ++ [((k / 2 + k % 2) % S, List.replicate m b)]) (.val (.int k)) (fun x hx => hk x (List.mem_cons_of_mem _ hx)) (h.app ⟨c0, c1, wd_rep b01 m⟩) (by rw [List.length_append, List.length_singleton]; omega)
    refine ⟨R', a9', g1, by rw [g2, List.length_append, List.length_singleton, List.length_cons]; omega, ?_, fun _ => g3 (.inr ⟨_, rfl⟩)⟩
    have ea : (R ++ [((k / 2 + k % 2) % S, List.replicate m b)]).map rowD = R.map rowD ++ [.tuple [.int ((k / 2 + k % 2) % S), wdD (List.replicate m b)]] := by rw [List.map_append]; rfl
    have la : (R.map rowD).length < 1000000 := by rw [List.length_map]; omega
    rw [← e, List.map_cons, forD, ea]
    generalize R.map rowD = RR at *
    generalize wdD (List.replicate m b) = ZZ at *
    simp -dsimp -implicitDefEqProofs [lw_c, hs, km, -kMul, hb, rb, gMul_i, -gMulZ, la, -forD, frees]
    done
theorem lwb_ok (m : Nat) (o : Int) (m0 : 1 ≤ m) (m1 : m ≤ 3) (o0 : 0 ≤ o) (o1 : o < 1000) (a0 a1 a2 a3 a4 a7 a8 : Sl) (h7 : a7 = .no ∨ ∃ d, a7 = .val d) :
    ∃ (S : Int) (R F : Tab) (a9 a10 : Sl), Sz S 1 m ∧ Rws S m R ∧ Rws S m F ∧ (R.length : Int) = S * 2 ^ 1 ∧ (F.length : Int) = S * 2 ^ 1 ∧ (a9 = .no ∨ ∃ d, a9 = .val d) ∧ (a10 = .no ∨ ∃ d, a10 = .val d) ∧
    lw_b [a0, a1, a2, a3, a4, .val (.int m), .val (.int o), a7, a8, .no, .no, .no, .no, .no, .no, .no] = .ok (.nx [a0, a1, a2, .val (.int S), .val (.int 1), .val (.int m), .val (.int o), .own (R.map rowD), .val (.list (F.map rowD)), a9, a10, .no, .no, .no, .no, .no]) := by
  obtain ⟨S, hS⟩ : ∃ S, 5 + o / 5 % 4 = S := ⟨_, rfl⟩
  have s0 : 5 ≤ S := by omega
  have s1 : S ≤ 8 := by omega
  obtain ⟨R, a9, hR, hl, e, h9⟩ := lwc_loop S m o s0 s1 m0 m1 o0 o1 a0 a1 a2 (.val (.int 1)) a8 .no .no .no .no .no .no ((List.range (2 * S).toNat).map fun (i : Nat) => (i : Int)) [] .no (fun k hk => by
    obtain ⟨i, hi, rfl⟩ := List.mem_map.mp hk
    have := List.mem_range.mp hi
    omega) (fun _ q => nomatch q) (by simp; omega)
  rw [← intsD_map] at e
  have hl2 : (R.length : Int) = 2 * S := by rw [hl]; simp; omega
  obtain ⟨at_, hat⟩ : ∃ i, 2 * S - 1 - o / 20 % 4 = i := ⟨_, rfl⟩
  have t0 : 0 ≤ at_ := by omega
  have t1 : at_ < R.length := by omega
  obtain ⟨r, er, hr⟩ := at_rows hR t0 t1
  obtain ⟨b, bs, hb⟩ : ∃ b bs, r.2 = b :: bs := by
    cases q : r.2 with
    | nil => have := hr.2.2.1; rw [q] at this; simp at this; omega
    | cons b bs => exact ⟨b, bs, rfl⟩
  have b01 : 0 ≤ b ∧ b ≤ 1 := hr.2.2.2 b (by rw [hb]; exact List.mem_cons_self ..)
  have rb := rep_b (1 - b) m m0 m1
  have c1 := take_cut (R.map rowD) at_ t0 (by rw [List.length_map]; omega)
  have c2 := drop_cut (R.map rowD) (at_ + 1) (by omega) (by rw [List.length_map]; omega)
  let F : Tab := R.take at_.toNat ++ [(r.1, List.replicate m (1 - b))] ++ R.drop (at_ + 1).toNat
  have hF : Rws S m F := fun q hq => by
    rcases List.mem_append.mp hq with c | c
    · rcases List.mem_append.mp c with d | d
      · exact hR q (List.mem_of_mem_take d)
      · cases List.mem_singleton.mp d
        exact ⟨hr.1, hr.2.1, wd_rep (by omega) m⟩
    · exact hR q (List.mem_of_mem_drop c)
  have lF : F.length = R.length := by
    show (R.take at_.toNat ++ [(r.1, List.replicate m (1 - b))] ++ R.drop (at_ + 1).toNat).length = _
    rw [List.length_append, List.length_append, List.length_take, List.length_drop, List.length_singleton]
    omega
  have eF : F.map rowD = (R.map rowD).take at_.toNat ++ [.tuple [.int r.1, wdD (List.replicate m (1 - b))]] ++ (R.map rowD).drop (at_ + 1).toNat := by
    show (R.take at_.toNat ++ [(r.1, List.replicate m (1 - b))] ++ R.drop (at_ + 1).toNat).map rowD = _
    rw [List.map_append, List.map_append, List.map_take, List.map_drop]
    rfl
  have sz : Sz S 1 m := ⟨by omega, s1, by omega, m0, m1⟩
  refine ⟨S, R, F, a9, .val (.int at_), sz, hR, hF, by rw [hl2]; omega, by rw [lF, hl2]; omega, h9 (.inl rfl), .inr ⟨_, rfl⟩, ?_⟩
  rw [eF]
  have g0 : gIxA (rowD r) (.int 0) = some (.int r.1) := rfl
  have g1 : gIxA (rowD r) (.int 1) = some (wdD r.2) := rfl
  have g2 : gIxA (wdD r.2) (.int 0) = some (.int b) := by
    rw [hb]
    show atI (PyData.int b :: bs.map .int) 0 = _
    rw [atI_nn _ _ (by decide)]
    rfl
  have g3 : gIxA (.list (R.map rowD)) (.int at_) = some (rowD r) := er
  have bd : -4611686018427387904 ≤ 2 * S ∧ 2 * S < 4611686018427387904 := by omega
  have km : kMul 2 S = some (2 * S) := kMul_r _ _ ⟨by omega, by omega⟩
  have lT : ((R.map rowD).take at_.toNat).length ≤ 100 := by rw [List.length_take]; omega
  have lD : ((R.map rowD).drop (at_ + 1).toNat).length ≤ 100 := by rw [List.length_drop, List.length_map]; omega
  have q1 : ((R.map rowD).take at_.toNat).length + 1 ≤ 1000000 := by omega
  have q2 : ((R.map rowD).take at_.toNat).length + 1 + ((R.map rowD).drop (at_ + 1).toNat).length ≤ 1000000 := by omega
  rw [List.map_nil] at e
  rw [← c1] at q1 q2 ⊢
  rw [← c2] at q2 ⊢
  generalize hA : cutA (R.map rowD) none (some at_) = A at *
  generalize hB : cutA (R.map rowD) (some (at_ + 1)) none = B at *
  generalize R.map rowD = RR at *
  generalize rowD r = rD at *
  generalize wdD (List.replicate m (1 - b)) = ZZ at *
  generalize wdD r.2 = r2D at *
  unfold lw_b
  rcases h7 with rfl | ⟨d, rfl⟩ <;> simp -dsimp -implicitDefEqProofs [hS, km, -kMul, gMul_i, bd, e, -forD, lw_d, hat, g3, g0, g1, g2, -gIxA, rb, -gMulZ, hA, hB, q1, q2, frees, freeze]
  all_goals done
theorem law_true (ns : List Int) (h : ns.length ≤ 63) : law_f [.list (ns.map .int)] = .ok (.val (.bool true)) := by
  obtain ⟨L, hL, eL⟩ := numbers ns h
  obtain ⟨x1, p1, x10, x11, hp1, e1⟩ := take hL 0 (by decide)
  obtain ⟨x2, p2, x20, x21, hp2, e2⟩ := take hL p1 hp1
  obtain ⟨x3, p3, x30, x31, hp3, e3⟩ := take hL p2 hp2
  obtain ⟨o, p4, o0, o1, hp4, e4⟩ := take hL p3 hp3
  obtain ⟨S, hS⟩ : ∃ S, 1 + x1 % 4 = S := ⟨_, rfl⟩
  obtain ⟨n, hn⟩ : ∃ n : Nat, x2 % 3 = n := Int.eq_ofNat_of_zero_le (by omega)
  obtain ⟨m, hm⟩ : ∃ m : Nat, 1 + x3 % 2 = m := Int.eq_ofNat_of_zero_le (by omega)
  have z : Sz S n m := ⟨by omega, by omega, by omega, by omega, by omega⟩
  have n2 : n ≤ 2 := by omega
  obtain ⟨R, p5, hR, hp5, lR, eR⟩ := rows hL z p4 hp4
  have h8 := pow_le8 n z.n1
  obtain ⟨F, p6, hF, lF, hp6, eF⟩ := changed hL hR lR z.s0 z.s1 h8.2 h8.1 p5 hp5
  have wn := lwords n z.n1
  have wp := ws_pow n z.n1
  obtain ⟨R2, p7, hR2, hp7, lR2, eR2⟩ := rows hL z p6 hp6
  have nz : ∀ i j : Int, i ≠ j → gEqA (.int i) (.int j) = some false := fun i j hi => by simp [beq_eq_false_iff_ne.mpr hi]
  have q0 : gEqA (.int 0) (.int 0) = some true := rfl
  have q4 : gEqA (.int 4) (.int 4) = some true := rfl
  obtain ⟨S2, Rb, Fb, c9, c10, zb, hRb, hFb, lRb, lFb, h9, h10, eb⟩ := lwb_ok m o z.m0 (by have := z.m1; omega) o0 o1 (.val (.list (ns.map .int))) (.val (.list (L.map .int))) (.own [.int p6]) (.val (.int S)) (.val (.int n)) (.val (.list (R.map rowD))) (.val (.list (F.map rowD))) (.inr ⟨_, rfl⟩)
  have k1 := end_ok z n2 hR lR hF (by rw [lF]; exact lR) o (.list (ns.map .int)) (.list (L.map .int)) [.int p6] (.val (.list (R.map rowD))) .no .no (.inl rfl) (.inl rfl) (.inl rfl)
  have k2 := end_ok z n2 hR lR hR2 lR2 o (.list (ns.map .int)) (.list (L.map .int)) [.int p7] (.val (.list (R.map rowD))) .no .no (.inl rfl) (.inl rfl) (.inl rfl)
  have k3 := end_ok zb (by decide) hRb lRb hFb lFb o (.list (ns.map .int)) (.list (L.map .int)) [.int p6] (.own (Rb.map rowD)) c9 c10 (.inr rfl) h9 h10
  rw [show ((1 : Nat) : Int) = 1 from rfl] at k3
  have wl : (((wsI n).map wdD).length : Int) = 2 ^ n := by rw [List.length_map]; exact wp
  generalize ns.map PyData.int = NN at *
  generalize L.map PyData.int = LL at *
  generalize R.map rowD = RR at *
  generalize F.map rowD = FF at *
  generalize R2.map rowD = RR2 at *
  generalize Rb.map rowD = RRb at *
  generalize Fb.map rowD = FFb at *
  generalize (wsI n).map wdD = WW at *
  unfold law_f
  by_cases c0 : o % 5 = 0
  · simp -dsimp -implicitDefEqProofs [eL, e1, e2, e3, e4, hS, hn, hm, eR, wn, wl, eF, lw_1, c0, q0, -gEqA, eR2, lw_2, nz 0 4 (by decide), k2, frees, freeze]
  · by_cases c4 : o % 5 = 4
    · simp -dsimp -implicitDefEqProofs [eL, e1, e2, e3, e4, hS, hn, hm, eR, wn, wl, eF, lw_1, c4, nz 4 0 (by decide), q4, -gEqA, lw_2, eb, k3, frees, freeze]
    · simp -dsimp -implicitDefEqProofs [eL, e1, e2, e3, e4, hS, hn, hm, eR, wn, wl, eF, lw_1, nz _ _ c0, -gEqA, lw_2, nz _ _ c4, k1, frees, freeze]
end My
namespace My
open PySem PySem.Spec PyProof.Rows L2 DL
theorem all_mk {P : Program} {w : World} {K : PySem.W.Frag} {h : Heap} {mg : Str → Option Value} (X : K.In h) (G : h.Ns mainGlobals mg) {o_Machine : Addr} {f0 : Addr} {od0 an0 : Option Addr} {sl0 : Array (Option Value)} {oc0 kV0 dc0 pm0 cd0 ct0 : Value} {f1 : Addr} {od1 an1 : Option Addr} {sl1 : Array (Option Value)} {oc1 kV1 dc1 pm1 cd1 ct1 : Value} {f2 : Addr} {od2 an2 : Option Addr} {sl2 : Array (Option Value)} {oc2 kV2 dc2 pm2 cd2 ct2 : Value} {f3 : Addr} {od3 an3 : Option Addr} {sl3 : Array (Option Value)} {oc3 kV3 dc3 pm3 cd3 ct3 : Value} {f4 : Addr} {od4 an4 : Option Addr} {sl4 : Array (Option Value)} {oc4 kV4 dc4 pm4 cd4 ct4 : Value} {f5 : Addr} {od5 an5 : Option Addr} {sl5 : Array (Option Value)} {oc5 kV5 dc5 pm5 cd5 ct5 : Value} {f6 : Addr} {od6 an6 : Option Addr} {sl6 : Array (Option Value)} {oc6 kV6 dc6 pm6 cd6 ct6 : Value} {f7 : Addr} {od7 an7 : Option Addr} {sl7 : Array (Option Value)} {oc7 kV7 dc7 pm7 cd7 ct7 : Value} {f8 : Addr} {od8 an8 : Option Addr} {sl8 : Array (Option Value)} {oc8 kV8 dc8 pm8 cd8 ct8 : Value} {f9 : Addr} {od9 an9 : Option Addr} {sl9 : Array (Option Value)} {oc9 kV9 dc9 pm9 cd9 ct9 : Value} {f10 : Addr} {od10 an10 : Option Addr} {sl10 : Array (Option Value)} {oc10 kV10 dc10 pm10 cd10 ct10 : Value} {f11 : Addr} {od11 an11 : Option Addr} {sl11 : Array (Option Value)} {oc11 kV11 dc11 pm11 cd11 ct11 : Value} {f12 : Addr} {od12 an12 : Option Addr} {sl12 : Array (Option Value)} {oc12 kV12 dc12 pm12 cd12 ct12 : Value} {f13 : Addr} {od13 an13 : Option Addr} {sl13 : Array (Option Value)} {oc13 kV13 dc13 pm13 cd13 ct13 : Value} {f14 : Addr} {od14 an14 : Option Addr} {sl14 : Array (Option Value)} {oc14 kV14 dc14 pm14 cd14 ct14 : Value} {f15 : Addr} {od15 an15 : Option Addr} {sl15 : Array (Option Value)} {oc15 kV15 dc15 pm15 cd15 ct15 : Value} {f16 : Addr} {od16 an16 : Option Addr} {sl16 : Array (Option Value)} {oc16 kV16 dc16 pm16 cd16 ct16 : Value} {f17 : Addr} {od17 an17 : Option Addr} {sl17 : Array (Option Value)} {oc17 kV17 dc17 pm17 cd17 ct17 : Value} {f18 : Addr} {od18 an18 : Option Addr} {sl18 : Array (Option Value)} {oc18 kV18 dc18 pm18 cd18 ct18 : Value} {f19 : Addr} {od19 an19 : Option Addr} {sl19 : Array (Option Value)} {oc19 kV19 dc19 pm19 cd19 ct19 : Value} {t_MOST_INPUTS : Tok} {t_MOST_OUTPUTS : Tok} {t_MOST_STATES : Tok} {e_BadMachine : Addr} {e_BadWord : Addr}
    (oa_Machine : PySem.W.nsIn K mainGlobals "Machine" = some (some (.ref o_Machine))) (og_Machine : PySem.W.plainGet K o_Machine Str.empty = true) (oh_Machine : PySem.W.hasDictIn K o_Machine = true) (oo_Machine : PySem.W.plainOver K o_Machine = true) (os_Machine : PySem.W.findIn K (.ref o_Machine) "__setattr__" = some (some (.builtin "object.__setattr__"))) (om_Machine : PySem.W.makesIn K o_Machine = true) (ok_Machine : PySem.W.keepIn K (.ref o_Machine) = true)
    (on_Machine__rows : PySem.W.findIn K (.ref o_Machine) "_rows" = some none)
    (on_Machine_inputs : PySem.W.findIn K (.ref o_Machine) "inputs" = some none)
    (on_Machine_outputs : PySem.W.findIn K (.ref o_Machine) "outputs" = some none)
    (on_Machine_states : PySem.W.findIn K (.ref o_Machine) "states" = some none)
    (a0 : PySem.W.nsIn K mainGlobals "_law_numbers" = some (some (.ref f0))) (l0 : K.lookup f0 = some ⟨oc0, od0, .func (PySem.W.fnOf "_law_numbers" "_law_numbers" (defArgs s__law_numbers) (defBody s__law_numbers) (defScope s__law_numbers) .none kV0 dc0 pm0 an0 cd0 ct0), sl0⟩) (c0 : PySem.W.codeIn K cd0 "_law_numbers" = true) (k0 : PySem.W.keepIn K (.ref f0) = true)
    (a1 : PySem.W.nsIn K mainGlobals "_law_take" = some (some (.ref f1))) (l1 : K.lookup f1 = some ⟨oc1, od1, .func (PySem.W.fnOf "_law_take" "_law_take" (defArgs s__law_take) (defBody s__law_take) (defScope s__law_take) .none kV1 dc1 pm1 an1 cd1 ct1), sl1⟩) (c1 : PySem.W.codeIn K cd1 "_law_take" = true) (k1 : PySem.W.keepIn K (.ref f1) = true)
    (a2 : PySem.W.nsIn K mainGlobals "_law_word" = some (some (.ref f2))) (l2 : K.lookup f2 = some ⟨oc2, od2, .func (PySem.W.fnOf "_law_word" "_law_word" (defArgs s__law_word) (defBody s__law_word) (defScope s__law_word) .none kV2 dc2 pm2 an2 cd2 ct2), sl2⟩) (c2 : PySem.W.codeIn K cd2 "_law_word" = true) (k2 : PySem.W.keepIn K (.ref f2) = true)
    (a3 : PySem.W.nsIn K mainGlobals "_law_words" = some (some (.ref f3))) (l3 : K.lookup f3 = some ⟨oc3, od3, .func (PySem.W.fnOf "_law_words" "_law_words" (defArgs s__law_words) (defBody s__law_words) (defScope s__law_words) .none kV3 dc3 pm3 an3 cd3 ct3), sl3⟩) (c3 : PySem.W.codeIn K cd3 "_law_words" = true) (k3 : PySem.W.keepIn K (.ref f3) = true)
    (a4 : PySem.W.nsIn K mainGlobals "_law_rows" = some (some (.ref f4))) (l4 : K.lookup f4 = some ⟨oc4, od4, .func (PySem.W.fnOf "_law_rows" "_law_rows" (defArgs s__law_rows) (defBody s__law_rows) (defScope s__law_rows) .none kV4 dc4 pm4 an4 cd4 ct4), sl4⟩) (c4 : PySem.W.codeIn K cd4 "_law_rows" = true) (k4 : PySem.W.keepIn K (.ref f4) = true)
    (a5 : PySem.W.nsIn K mainGlobals "_law_changed" = some (some (.ref f5))) (l5 : K.lookup f5 = some ⟨oc5, od5, .func (PySem.W.fnOf "_law_changed" "_law_changed" (defArgs s__law_changed) (defBody s__law_changed) (defScope s__law_changed) .none kV5 dc5 pm5 an5 cd5 ct5), sl5⟩) (c5 : PySem.W.codeIn K cd5 "_law_changed" = true) (k5 : PySem.W.keepIn K (.ref f5) = true)
    (a6 : PySem.W.nsIn K mainGlobals "is_integer" = some (some (.ref f6))) (l6 : K.lookup f6 = some ⟨oc6, od6, .func (PySem.W.fnOf "is_integer" "is_integer" (defArgs s_is_integer) (defBody s_is_integer) (defScope s_is_integer) .none kV6 dc6 pm6 an6 cd6 ct6), sl6⟩) (c6 : PySem.W.codeIn K cd6 "is_integer" = true) (k6 : PySem.W.keepIn K (.ref f6) = true)
    (a7 : PySem.W.nsIn K mainGlobals "is_between" = some (some (.ref f7))) (l7 : K.lookup f7 = some ⟨oc7, od7, .func (PySem.W.fnOf "is_between" "is_between" (defArgs s_is_between) (defBody s_is_between) (defScope s_is_between) .none kV7 dc7 pm7 an7 cd7 ct7), sl7⟩) (c7 : PySem.W.codeIn K cd7 "is_between" = true) (k7 : PySem.W.keepIn K (.ref f7) = true)
    (a8 : PySem.W.nsIn K mainGlobals "is_word" = some (some (.ref f8))) (l8 : K.lookup f8 = some ⟨oc8, od8, .func (PySem.W.fnOf "is_word" "is_word" (defArgs s_is_word) (defBody s_is_word) (defScope s_is_word) .none kV8 dc8 pm8 an8 cd8 ct8), sl8⟩) (c8 : PySem.W.codeIn K cd8 "is_word" = true) (k8 : PySem.W.keepIn K (.ref f8) = true)
    (a9 : PySem.W.nsIn K mainGlobals "_is_row" = some (some (.ref f9))) (l9 : K.lookup f9 = some ⟨oc9, od9, .func (PySem.W.fnOf "_is_row" "_is_row" (defArgs s__is_row) (defBody s__is_row) (defScope s__is_row) .none kV9 dc9 pm9 an9 cd9 ct9), sl9⟩) (c9 : PySem.W.codeIn K cd9 "_is_row" = true) (k9 : PySem.W.keepIn K (.ref f9) = true)
    (a10 : PySem.W.findIn K (.ref o_Machine) "__init__" = some (some (.ref f10))) (i10 : PySem.W.isFn K (.ref f10) = true) (l10 : K.lookup f10 = some ⟨oc10, od10, .func (PySem.W.fnOf "__init__" "Machine.__init__" (defArgs s_Machine_init) (defBody s_Machine_init) (defScope s_Machine_init) .none kV10 dc10 pm10 an10 cd10 ct10), sl10⟩) (c10 : PySem.W.codeIn K cd10 "Machine.__init__" = true) (k10 : PySem.W.keepIn K (.ref f10) = true)
    (a11 : PySem.W.nsIn K mainGlobals "_law_value" = some (some (.ref f11))) (l11 : K.lookup f11 = some ⟨oc11, od11, .func (PySem.W.fnOf "_law_value" "_law_value" (defArgs s__law_value) (defBody s__law_value) (defScope s__law_value) .none kV11 dc11 pm11 an11 cd11 ct11), sl11⟩) (c11 : PySem.W.codeIn K cd11 "_law_value" = true) (k11 : PySem.W.keepIn K (.ref f11) = true)
    (a12 : PySem.W.nsIn K mainGlobals "_law_step" = some (some (.ref f12))) (l12 : K.lookup f12 = some ⟨oc12, od12, .func (PySem.W.fnOf "_law_step" "_law_step" (defArgs s__law_step) (defBody s__law_step) (defScope s__law_step) .none kV12 dc12 pm12 an12 cd12 ct12), sl12⟩) (c12 : PySem.W.codeIn K cd12 "_law_step" = true) (k12 : PySem.W.keepIn K (.ref f12) = true)
    (a13 : PySem.W.nsIn K mainGlobals "_law_least" = some (some (.ref f13))) (l13 : K.lookup f13 = some ⟨oc13, od13, .func (PySem.W.fnOf "_law_least" "_law_least" (defArgs s__law_least) (defBody s__law_least) (defScope s__law_least) .none kV13 dc13 pm13 an13 cd13 ct13), sl13⟩) (c13 : PySem.W.codeIn K cd13 "_law_least" = true) (k13 : PySem.W.keepIn K (.ref f13) = true)
    (a14 : PySem.W.nsIn K mainGlobals "all_words" = some (some (.ref f14))) (l14 : K.lookup f14 = some ⟨oc14, od14, .func (PySem.W.fnOf "all_words" "all_words" (defArgs s_all_words) (defBody s_all_words) (defScope s_all_words) .none kV14 dc14 pm14 an14 cd14 ct14), sl14⟩) (c14 : PySem.W.codeIn K cd14 "all_words" = true) (k14 : PySem.W.keepIn K (.ref f14) = true)
    (a15 : PySem.W.nsIn K mainGlobals "word_number" = some (some (.ref f15))) (l15 : K.lookup f15 = some ⟨oc15, od15, .func (PySem.W.fnOf "word_number" "word_number" (defArgs s_word_number) (defBody s_word_number) (defScope s_word_number) .none kV15 dc15 pm15 an15 cd15 ct15), sl15⟩) (c15 : PySem.W.codeIn K cd15 "word_number" = true) (k15 : PySem.W.keepIn K (.ref f15) = true)
    (a16 : PySem.W.findIn K (.ref o_Machine) "row" = some (some (.ref f16))) (i16 : PySem.W.isFn K (.ref f16) = true) (l16 : K.lookup f16 = some ⟨oc16, od16, .func (PySem.W.fnOf "row" "Machine.row" (defArgs s_Machine_row) (defBody s_Machine_row) (defScope s_Machine_row) .none kV16 dc16 pm16 an16 cd16 ct16), sl16⟩) (c16 : PySem.W.codeIn K cd16 "Machine.row" = true) (k16 : PySem.W.keepIn K (.ref f16) = true)
    (a17 : PySem.W.nsIn K mainGlobals "equal_answers" = some (some (.ref f17))) (l17 : K.lookup f17 = some ⟨oc17, od17, .func (PySem.W.fnOf "equal_answers" "equal_answers" (defArgs s_equal_answers) (defBody s_equal_answers) (defScope s_equal_answers) .none kV17 dc17 pm17 an17 cd17 ct17), sl17⟩) (c17 : PySem.W.codeIn K cd17 "equal_answers" = true) (k17 : PySem.W.keepIn K (.ref f17) = true)
    (a18 : PySem.W.nsIn K mainGlobals "_law_same" = some (some (.ref f18))) (l18 : K.lookup f18 = some ⟨oc18, od18, .func (PySem.W.fnOf "_law_same" "_law_same" (defArgs s__law_same) (defBody s__law_same) (defScope s__law_same) .none kV18 dc18 pm18 an18 cd18 ct18), sl18⟩) (c18 : PySem.W.codeIn K cd18 "_law_same" = true) (k18 : PySem.W.keepIn K (.ref f18) = true)
    (a19 : PySem.W.nsIn K mainGlobals "law" = some (some (.ref f19))) (l19 : K.lookup f19 = some ⟨oc19, od19, .func (PySem.W.fnOf "law" "law" (defArgs s_law) (defBody s_law) (defScope s_law) .none kV19 dc19 pm19 an19 cd19 ct19), sl19⟩) (c19 : PySem.W.codeIn K cd19 "law" = true) (k19 : PySem.W.keepIn K (.ref f19) = true)
    (b_abs : PySem.W.nsIn K mainGlobals "abs" = some none)
    (b_bool : PySem.W.nsIn K mainGlobals "bool" = some none)
    (b_int : PySem.W.nsIn K mainGlobals "int" = some none)
    (b_isinstance : PySem.W.nsIn K mainGlobals "isinstance" = some none)
    (b_len : PySem.W.nsIn K mainGlobals "len" = some none)
    (b_list : PySem.W.nsIn K mainGlobals "list" = some none)
    (b_range : PySem.W.nsIn K mainGlobals "range" = some none)
    (b_str : PySem.W.nsIn K mainGlobals "str" = some none)
    (b_tuple : PySem.W.nsIn K mainGlobals "tuple" = some none)
    (g_MOST_INPUTS : PySem.W.nsIn K mainGlobals "MOST_INPUTS" = some (some (.int 3 t_MOST_INPUTS)))
    (g_MOST_OUTPUTS : PySem.W.nsIn K mainGlobals "MOST_OUTPUTS" = some (some (.int 3 t_MOST_OUTPUTS)))
    (g_MOST_STATES : PySem.W.nsIn K mainGlobals "MOST_STATES" = some (some (.int 8 t_MOST_STATES)))
    (ea_BadMachine : PySem.W.nsIn K mainGlobals "BadMachine" = some (some (.ref e_BadMachine))) (eb_BadMachine : PySem.W.subIn K (.ref e_BadMachine) (.type "BaseException") = some true) (et_BadMachine : PySem.W.typeIn K (.ref e_BadMachine) = some (.type "type")) (ei_BadMachine : PySem.W.isClsIn K e_BadMachine = true) (ed_BadMachine : PySem.W.hasDictIn K e_BadMachine = true)
    (ea_BadWord : PySem.W.nsIn K mainGlobals "BadWord" = some (some (.ref e_BadWord))) (eb_BadWord : PySem.W.subIn K (.ref e_BadWord) (.type "BaseException") = some true) (et_BadWord : PySem.W.typeIn K (.ref e_BadWord) = some (.type "type")) (ei_BadWord : PySem.W.isClsIn K e_BadWord = true) (ed_BadWord : PySem.W.hasDictIn K e_BadWord = true)
    (ex_BadMachine : PySem.W.excIn K e_BadMachine [.type "ValueError", .type "Exception", .type "BaseException", .type "object"] "ValueError.__new__" = true) (ek_BadMachine : PySem.W.keepIn K (.ref e_BadMachine) = true)
    (eg_BadMachine : PySem.W.findIn K (.ref e_BadMachine) "__getattribute__" = some (some (.builtin "BaseException.__getattribute__"))) (eh_BadMachine : PySem.W.findIn K (.ref e_BadMachine) "__getattr__" = some none) (ec_BadMachine : PySem.W.findIn K (.ref e_BadMachine) "__class__" = some (some (.builtin "object.__class__"))) (eo_BadMachine : PySem.W.mroIn K e_BadMachine (.type "object") = some true)
    (ex_BadWord : PySem.W.excIn K e_BadWord [.type "ValueError", .type "Exception", .type "BaseException", .type "object"] "ValueError.__new__" = true) (ek_BadWord : PySem.W.keepIn K (.ref e_BadWord) = true)
    (eg_BadWord : PySem.W.findIn K (.ref e_BadWord) "__getattribute__" = some (some (.builtin "BaseException.__getattribute__"))) (eh_BadWord : PySem.W.findIn K (.ref e_BadWord) "__getattr__" = some none) (ec_BadWord : PySem.W.findIn K (.ref e_BadWord) "__class__" = some (some (.builtin "object.__class__"))) (eo_BadWord : PySem.W.mroIn K e_BadWord (.type "object") = some true)
    (es_ : PySem.W.specialIn K (.builtin "object.__class__") "__get__" = some (some (.builtin "getset_descriptor.__get__"))) (eu_ : PySem.W.takesIn K (.builtin "object.__class__") = some true)
    (ej_BadMachine_BadMachine : PySem.W.subIn K (.ref e_BadMachine) (.ref e_BadMachine) = some true)
    (ej_BadWord_BadMachine : PySem.W.subIn K (.ref e_BadWord) (.ref e_BadMachine) = some false)
    (en_BadWord_BadMachine : (e_BadWord == e_BadMachine) = false) :
    ∃ f fd, mg "law" = some (.ref f) ∧ (∀ (s : Shared) (u : Value), BindsTo s fd ⟨[u], []⟩ [("script", u)]) ∧ ∀ base : Heap, K.In base → base.Ns mainGlobals mg → FnOk P w K mg base (L2.CX P w) 7 f fd ["script"] (spD K (clsK K) 1 lawG) := by
  letI I : Cs := ⟨o_Machine⟩
  have T : Txt P w K mg (clsK K) := ⟨PySem.W.mg_none_of X G b_abs, PySem.W.mg_none_of X G b_bool, PySem.W.mg_none_of X G b_int, PySem.W.mg_none_of X G b_isinstance, PySem.W.mg_none_of X G b_len, PySem.W.mg_none_of X G b_list, PySem.W.mg_none_of X G b_range, PySem.W.mg_none_of X G b_str, PySem.W.mg_none_of X G b_tuple, ⟨_, PySem.W.mg_of X G g_MOST_INPUTS⟩, ⟨_, PySem.W.mg_of X G g_MOST_OUTPUTS⟩, ⟨_, PySem.W.mg_of X G g_MOST_STATES⟩, ⟨_, PySem.W.mg_of X G ea_BadMachine, fun y v h => by
    rcases lk_cons h with ⟨rfl, rfl⟩ | h
    · rw [clsK_of ea_BadMachine]; exact PySem.W.exm_ref eb_BadMachine ed_BadMachine et_BadMachine ej_BadMachine_BadMachine
    rcases lk_cons h with ⟨rfl, rfl⟩ | h
    · rw [clsK_of ea_BadWord]; exact PySem.W.exm_ref eb_BadMachine ed_BadMachine et_BadMachine ej_BadWord_BadMachine
    exact (lk_nil h).elim⟩, ⟨_, PySem.W.mg_of X G ea_BadMachine, clsK_of ea_BadMachine, ex_BadMachine, ek_BadMachine, eb_BadMachine, et_BadMachine⟩, ⟨_, PySem.W.mg_of X G ea_BadWord, clsK_of ea_BadWord, ex_BadWord, ek_BadWord, eb_BadWord, et_BadWord⟩, PySem.W.mg_of X G oa_Machine, ⟨og_Machine, oh_Machine, oo_Machine, os_Machine⟩, on_Machine__rows, on_Machine_inputs, on_Machine_outputs, on_Machine_states⟩
  have A0 : FnAt K mg "_law_numbers" s__law_numbers := ⟨_, _, PySem.W.mg_of X G a0, fun_mk l0 c0 k0⟩
  have A1 : FnAt K mg "_law_take" s__law_take := ⟨_, _, PySem.W.mg_of X G a1, fun_mk l1 c1 k1⟩
  have A2 : FnAt K mg "_law_word" s__law_word := ⟨_, _, PySem.W.mg_of X G a2, fun_mk l2 c2 k2⟩
  have A3 : FnAt K mg "_law_words" s__law_words := ⟨_, _, PySem.W.mg_of X G a3, fun_mk l3 c3 k3⟩
  have A4 : FnAt K mg "_law_rows" s__law_rows := ⟨_, _, PySem.W.mg_of X G a4, fun_mk l4 c4 k4⟩
  have A5 : FnAt K mg "_law_changed" s__law_changed := ⟨_, _, PySem.W.mg_of X G a5, fun_mk l5 c5 k5⟩
  have A6 : FnAt K mg "is_integer" s_is_integer := ⟨_, _, PySem.W.mg_of X G a6, fun_mk l6 c6 k6⟩
  have A7 : FnAt K mg "is_between" s_is_between := ⟨_, _, PySem.W.mg_of X G a7, fun_mk l7 c7 k7⟩
  have A8 : FnAt K mg "is_word" s_is_word := ⟨_, _, PySem.W.mg_of X G a8, fun_mk l8 c8 k8⟩
  have A9 : FnAt K mg "_is_row" s__is_row := ⟨_, _, PySem.W.mg_of X G a9, fun_mk l9 c9 k9⟩
  have A10 : InAt K Cs.Machine "Machine.__init__" s_Machine_init := ⟨_, _, ⟨om_Machine, a10, i10, ok_Machine⟩, fun_mk l10 c10 k10⟩
  have A11 : FnAt K mg "_law_value" s__law_value := ⟨_, _, PySem.W.mg_of X G a11, fun_mk l11 c11 k11⟩
  have A12 : FnAt K mg "_law_step" s__law_step := ⟨_, _, PySem.W.mg_of X G a12, fun_mk l12 c12 k12⟩
  have A13 : FnAt K mg "_law_least" s__law_least := ⟨_, _, PySem.W.mg_of X G a13, fun_mk l13 c13 k13⟩
  have A14 : FnAt K mg "all_words" s_all_words := ⟨_, _, PySem.W.mg_of X G a14, fun_mk l14 c14 k14⟩
  have A15 : FnAt K mg "word_number" s_word_number := ⟨_, _, PySem.W.mg_of X G a15, fun_mk l15 c15 k15⟩
  have A16 : MtAt K Cs.Machine "row" "Machine.row" s_Machine_row := ⟨_, _, ⟨a16, i16, k16⟩, fun_mk l16 c16 k16⟩
  have A17 : FnAt K mg "equal_answers" s_equal_answers := ⟨_, _, PySem.W.mg_of X G a17, fun_mk l17 c17 k17⟩
  have A18 : FnAt K mg "_law_same" s__law_same := ⟨_, _, PySem.W.mg_of X G a18, fun_mk l18 c18 k18⟩
  have A19 : FnAt K mg "law" s_law := ⟨_, _, PySem.W.mg_of X G a19, fun_mk l19 c19 k19⟩
  obtain ⟨fd, FL, FB⟩ : ∃ fd, Fun K "law" "law" s_law f19 fd ∧ (∀ (s : Shared) (u : Value), BindsTo s fd ⟨[u], []⟩ [("script", u)]) := ⟨_, fun_mk (st := s_law) l19 c19 k19, fun s u => .of_eq rfl⟩
  refine ⟨f19, fd, PySem.W.mg_of X G a19, FB, fun base KB GB => ?M⟩
  case M =>
    have H__law_numbers := ok__law_numbers (base := base) T A0 
    have H__law_take := ok__law_take (base := base) T A1 
    have H__law_word := ok__law_word (base := base) T A2 
    have H__law_words := ok__law_words (base := base) T A3 
    have H__law_rows := ok__law_rows (base := base) T A4 H__law_take H__law_word H__law_words
    have H__law_changed := ok__law_changed (base := base) T A5 H__law_take
    have H_is_integer := ok_is_integer (base := base) T A6 
    have H_is_between := ok_is_between (base := base) T A7 H_is_integer
    have H_is_word := ok_is_word (base := base) T A8 H_is_between
    have H__is_row := ok__is_row (base := base) T A9 H_is_between H_is_word
    have H_Machine_init := ok_Machine_init (base := base) T A10 H_is_between H__is_row
    have H__law_value := ok__law_value (base := base) T A11 
    have H__law_step := ok__law_step (base := base) T A12 H__law_words H__law_value
    have H__law_least := ok__law_least (base := base) T A13 H__law_words H__law_step
    have H_all_words := ok_all_words (base := base) T A14 
    have H_word_number := ok_word_number (base := base) T A15 
    have H_Machine_row := ok_Machine_row (base := base) T A16 H_is_between H_is_word H_word_number
    have H_equal_answers := ok_equal_answers (base := base) T A17 H_all_words H_Machine_row
    have H__law_same := ok__law_same (base := base) T A18 
    exact fn_lawG (ok_law (base := base) T FL H__law_numbers H__law_take H__law_words H__law_rows H__law_changed H_Machine_init H__law_least H_equal_answers H__law_same) law_true
end My

open PySem PySem.W PyProof.Rows
set_option maxRecDepth 100000 in
set_option maxHeartbeats 0 in
theorem PySem.Challenge.cw_ramet_k15_words_that_tell_apart_holds : PySem.Challenge.rw_ramet_k15_words_that_tell_apart.Holds := by
  w_on; o_law; k_head; (case hw => w_witness2)
  k_fill
  refine' DL.law_end (l := PySem.Challenge.rw_ramet_k15_words_that_tell_apart) (g := DL.lawG) (k := 7) (cls := ?cls) rfl rfl rfl ⟨rfl, by decide, by decide⟩ (fun w h Y => PySem.W.kIn_of Y) ?F DL.lawG_true
  case F =>
    intro w mg h KX G
    refine' My.all_mk KX G ?oa_Machine ?og_Machine ?oh_Machine ?oo_Machine ?os_Machine ?om_Machine ?ok_Machine ?on_Machine__rows ?on_Machine_inputs ?on_Machine_outputs ?on_Machine_states ?a0 ?l0 ?c0 ?k0 ?a1 ?l1 ?c1 ?k1 ?a2 ?l2 ?c2 ?k2 ?a3 ?l3 ?c3 ?k3 ?a4 ?l4 ?c4 ?k4 ?a5 ?l5 ?c5 ?k5 ?a6 ?l6 ?c6 ?k6 ?a7 ?l7 ?c7 ?k7 ?a8 ?l8 ?c8 ?k8 ?a9 ?l9 ?c9 ?k9 ?i10 ?a10 ?l10 ?c10 ?k10 ?a11 ?l11 ?c11 ?k11 ?a12 ?l12 ?c12 ?k12 ?a13 ?l13 ?c13 ?k13 ?a14 ?l14 ?c14 ?k14 ?a15 ?l15 ?c15 ?k15 ?i16 ?a16 ?l16 ?c16 ?k16 ?a17 ?l17 ?c17 ?k17 ?a18 ?l18 ?c18 ?k18 ?a19 ?l19 ?c19 ?k19 ?b_abs ?b_bool ?b_int ?b_isinstance ?b_len ?b_list ?b_range ?b_str ?b_tuple ?g_MOST_INPUTS ?g_MOST_OUTPUTS ?g_MOST_STATES ?ea_BadMachine ?eb_BadMachine ?et_BadMachine ?ei_BadMachine ?ed_BadMachine ?ea_BadWord ?eb_BadWord ?et_BadWord ?ei_BadWord ?ed_BadWord ?ex_BadMachine ?ek_BadMachine ?eg_BadMachine ?eh_BadMachine ?ec_BadMachine ?eo_BadMachine ?ex_BadWord ?ek_BadWord ?eg_BadWord ?eh_BadWord ?ec_BadWord ?eo_BadWord ?es_ ?eu_ ?ej_BadMachine_BadMachine ?ej_BadWord_BadMachine ?en_BadWord_BadMachine
    (case ea_BadMachine => k_is); (case ea_BadWord => k_is); (case oa_Machine => k_is); (case og_Machine => k_is); (case oh_Machine => k_is); (case oo_Machine => k_is)
    (case os_Machine => k_is); (case om_Machine => k_is); (case ok_Machine => k_is); (case on_Machine__rows => k_is); (case on_Machine_inputs => k_is); (case on_Machine_outputs => k_is)
    (case on_Machine_states => k_is); (case a0 => k_is); (case l0 => k_is); (case c0 => k_is); (case k0 => k_is); (case a1 => k_is)
    (case l1 => k_is); (case c1 => k_is); (case k1 => k_is); (case a2 => k_is); (case l2 => k_is); (case c2 => k_is)
    (case k2 => k_is); (case a3 => k_is); (case l3 => k_is); (case c3 => k_is); (case k3 => k_is); (case a4 => k_is)
    (case l4 => k_is); (case c4 => k_is); (case k4 => k_is); (case a5 => k_is); (case l5 => k_is); (case c5 => k_is)
    (case k5 => k_is); (case a6 => k_is); (case l6 => k_is); (case c6 => k_is); (case k6 => k_is); (case a7 => k_is)
    (case l7 => k_is); (case c7 => k_is); (case k7 => k_is); (case a8 => k_is); (case l8 => k_is); (case c8 => k_is)
    (case k8 => k_is); (case a9 => k_is); (case l9 => k_is); (case c9 => k_is); (case k9 => k_is); (case i10 => k_is)
    (case a10 => k_is); (case l10 => k_is); (case c10 => k_is); (case k10 => k_is); (case a11 => k_is); (case l11 => k_is)
    (case c11 => k_is); (case k11 => k_is); (case a12 => k_is); (case l12 => k_is); (case c12 => k_is); (case k12 => k_is)
    (case a13 => k_is); (case l13 => k_is); (case c13 => k_is); (case k13 => k_is); (case a14 => k_is); (case l14 => k_is)
    (case c14 => k_is); (case k14 => k_is); (case a15 => k_is); (case l15 => k_is); (case c15 => k_is); (case k15 => k_is)
    (case i16 => k_is); (case a16 => k_is); (case l16 => k_is); (case c16 => k_is); (case k16 => k_is); (case a17 => k_is)
    (case l17 => k_is); (case c17 => k_is); (case k17 => k_is); (case a18 => k_is); (case l18 => k_is); (case c18 => k_is)
    (case k18 => k_is); (case a19 => k_is); (case l19 => k_is); (case c19 => k_is); (case k19 => k_is); (case b_abs => k_is)
    (case b_bool => k_is); (case b_int => k_is); (case b_isinstance => k_is); (case b_len => k_is); (case b_list => k_is); (case b_range => k_is)
    (case b_str => k_is); (case b_tuple => k_is); (case g_MOST_INPUTS => k_is); (case g_MOST_OUTPUTS => k_is); (case g_MOST_STATES => k_is); (case eb_BadMachine => k_is)
    (case et_BadMachine => k_is); (case ei_BadMachine => k_is); (case ed_BadMachine => k_is); (case eb_BadWord => k_is); (case et_BadWord => k_is); (case ei_BadWord => k_is)
    (case ed_BadWord => k_is); (case ex_BadMachine => k_exc); (case ek_BadMachine => k_is); (case eg_BadMachine => k_is); (case eh_BadMachine => k_is); (case ec_BadMachine => k_is)
    (case eo_BadMachine => k_is); (case ex_BadWord => k_exc); (case ek_BadWord => k_is); (case eg_BadWord => k_is); (case eh_BadWord => k_is); (case ec_BadWord => k_is)
    (case eo_BadWord => k_is); (case es_ => k_is); (case eu_ => k_is); (case ej_BadMachine_BadMachine => k_is); (case ej_BadWord_BadMachine => k_is); (case en_BadWord_BadMachine => rfl)
#print axioms PySem.Challenge.cw_ramet_k15_words_that_tell_apart_holds
