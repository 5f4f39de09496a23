import PyProof.Rows.All
import Wide.All
import OpenK.AllK
import Wide.FinOn
import HandS.ForMost
import HandS.ForExc
import HandS.IsInst
import HandS.Style
import HandS.TupAny
import HandS.Strs
import HandS.Deep
import HandS.Walk
import HandS.Zip
import HandS.RevTup
import HandS.FStr
import HandS.Small
import HandS.Comp
import HandS.Rev
import PySem.Challenge.RW_ramet_k30_what_is_a_tape
set_option Elab.async false
set_option linter.all false
set_option maxRecDepth 100000
/-! Data: Python values without the heap, names that own their lists, and the hand layer's judgements by functions on them. -/
namespace DL
open PySem PySem.Spec PyProof.Rows L2

/-! ### outcomes -/
/-- an exception: its class by name, and its one field (where it has one) -/
abbrev Xn := Str × Option (Str × PyData)
inductive Rz (α : Type) where
  | ok (a : α) | ex (x : Xn) | st
/-- a mark that keeps what follows a bind as it is until its head is known -/
inductive Lk {α β : Type} (f : α → Rz β) : Type where
  | mk
def Rz.bind {α β : Type} (x : Rz α) (f : α → Rz β) (l : Lk f := .mk) : Rz β :=
  match x with
  | .ok a => f a
  | .ex x => .ex x
  | .st => .st
@[simp] theorem Rz.bind_ok {α β : Type} (a : α) (f : α → Rz β) (l : Lk f) : Rz.bind (.ok a) f l = f a := rfl
@[simp] theorem Rz.bind_ex {α β : Type} (x : Xn) (f : α → Rz β) (l : Lk f) : Rz.bind (.ex x) f l = .ex x := rfl
@[simp] theorem Rz.bind_st {α β : Type} (f : α → Rz β) (l : Lk f) : Rz.bind .st f l = .st := rfl

/-! ### a list, a tuple of the written part -/
def KL (K : PySem.W.Frag) (a : Addr) (xs : List V) : Prop :=
  ∃ (its : Array Value) (n : Nat), K.lookup a = some { cls := .type "list", data := .seq its n } ∧ its.size ≤ sizeLine ∧ Vals xs its.toList
theorem KL.sq {K : PySem.W.Frag} {H : Hp} {a : Addr} {xs : List V} (h : KL K a xs) : SqL K H a xs :=
  let ⟨its, n, h1, h2, h3⟩ := h; .inr ⟨_, its, n, h1, rfl, rfl, rfl, h2, h3⟩
def KT (K : PySem.W.Frag) (a : Addr) (xs : List V) : Prop :=
  ∃ (o : Obj) (its : Array Value) (n : Nat), K.lookup a = some o ∧ o.cls = .type "tuple" ∧ o.data = .seq its n ∧ its.size ≤ sizeLine ∧ Vals xs its.toList

/-! ### what stands for what: O the addresses that are not met on the way -/
mutual
inductive Rp (K : PySem.W.Frag) (H : Hp) (O : Addr → Prop) : V → PyData → Prop
  | non : Rp K H O .non .none
  | bl (b : Bool) : Rp K H O (.bl b) (.bool b)
  | int (i : Int) : Rp K H O (.int i) (.int i)
  | str (x : Str) : Rp K H O (.str x) (.str x)
  | lst {a : Addr} {xs : List V} {ds : List PyData} : Rd H a (.lst xs) → ¬ O a → RpA K H O xs ds → Rp K H O (.ref a) (.list ds)
  | lstK {a : Addr} {xs : List V} {ds : List PyData} : KL K a xs → RpA K H O xs ds → Rp K H O (.ref a) (.list ds)
  | tup {a : Addr} {xs : List V} {ds : List PyData} : Rd H a (.tup xs) → RpA K H O xs ds → Rp K H O (.ref a) (.tuple ds)
  | tupK {a : Addr} {xs : List V} {ds : List PyData} : KT K a xs → RpA K H O xs ds → Rp K H O (.ref a) (.tuple ds)
inductive RpA (K : PySem.W.Frag) (H : Hp) (O : Addr → Prop) : List V → List PyData → Prop
  | nil : RpA K H O [] []
  | cons {v : V} {vs : List V} {d : PyData} {ds : List PyData} : Rp K H O v d → RpA K H O vs ds → RpA K H O (v :: vs) (d :: ds)
end
def Keep (O : Addr → Prop) (H H' : Hp) : Prop := ∀ a u, H a = some u → ((∀ xs, u ≠ .lst xs) ∨ ¬ O a) → H' a = some u
theorem Keep.of_same {O : Addr → Prop} {H H' : Hp} (s : Same H H') : Keep O H H' := fun a u e _ => s a u e
section
variable {K : PySem.W.Frag} {H H' : Hp} {O O' : Addr → Prop}
mutual
theorem Rp.move (k : Keep O H H') (m : ∀ a, O' a → O a ∨ H a = none) : ∀ (d : PyData) (v : V), Rp K H O v d → Rp K H' O' v d
  | .none, _, h => by cases h; exact .non
  | .bool b, _, h => by cases h; exact .bl b
  | .int i, _, h => by cases h; exact .int i
  | .str x, _, h => by cases h; exact .str x
  | .list ds, _, h => by
    cases h with
    | lst r n s =>
      refine .lst ?_ (fun z => ?_) (Rp.moveA k m ds _ s)
      · rcases r with r | ⟨o, r⟩
        · exact .inl (k _ _ r (.inr n))
        · exact .inr ⟨o, k _ _ r (.inl fun _ z => nomatch z)⟩
      · rcases m _ z with z | z
        · exact n z
        · rcases r with r | ⟨o, r⟩ <;> rw [r] at z <;> cases z
    | lstK r s => exact .lstK r (Rp.moveA k m ds _ s)
  | .tuple ds, _, h => by
    cases h with
    | tup r s =>
      refine .tup ?_ (Rp.moveA k m ds _ s)
      rcases r with r | ⟨o, r⟩
      · exact .inl (k _ _ r (.inl fun _ z => nomatch z))
      · exact .inr ⟨o, k _ _ r (.inl fun _ z => nomatch z)⟩
    | tupK r s => exact .tupK r (Rp.moveA k m ds _ s)
  | .dict _, _, h => by cases h
theorem Rp.moveA (k : Keep O H H') (m : ∀ a, O' a → O a ∨ H a = none) : ∀ (ds : List PyData) (vs : List V), RpA K H O vs ds → RpA K H' O' vs ds
  | [], _, h => by cases h; exact .nil
  | d :: ds, _, h => by
    cases h with
    | cons a b => exact .cons (Rp.move k m d _ a) (Rp.moveA k m ds _ b)
end
theorem Rp.same {v : V} {d : PyData} (s : Same H H') (h : Rp K H O v d) : Rp K H' O v d := Rp.move (.of_same s) (fun _ z => .inl z) d v h
theorem RpA.same {v : List V} {d : List PyData} (s : Same H H') (h : RpA K H O v d) : RpA K H' O v d := Rp.moveA (.of_same s) (fun _ z => .inl z) d v h
theorem Rp.less {v : V} {d : PyData} (m : ∀ a, O' a → O a) (h : Rp K H O v d) : Rp K H O' v d := Rp.move (.of_same (.refl H)) (fun _ z => .inl (m _ z)) d v h
theorem RpA.less {v : List V} {d : List PyData} (m : ∀ a, O' a → O a) (h : RpA K H O v d) : RpA K H O' v d := Rp.moveA (.of_same (.refl H)) (fun _ z => .inl (m _ z)) d v h
theorem RpA.length : ∀ {vs : List V} {ds : List PyData}, RpA K H O vs ds → vs.length = ds.length
  | _, _, .nil => rfl
  | _, _, .cons _ t => by rw [List.length_cons, List.length_cons, RpA.length t]
theorem RpA.get : ∀ {vs : List V} {ds : List PyData} {i : Nat} {d : PyData}, RpA K H O vs ds → ds[i]? = some d → ∃ v, vs[i]? = some v ∧ Rp K H O v d
  | _, _, _, _, .nil, e => by simp at e
  | _, _, 0, _, .cons r _, e => by simp at e; subst e; exact ⟨_, rfl, r⟩
  | _, _, i + 1, _, .cons _ t, e => by
    obtain ⟨v, h1, h2⟩ := RpA.get (i := i) t (by simpa using e)
    exact ⟨v, by simpa using h1, h2⟩
theorem RpA.get' : ∀ {vs : List V} {ds : List PyData} {i : Nat} {v : V}, RpA K H O vs ds → vs[i]? = some v → ∃ d, ds[i]? = some d ∧ Rp K H O v d
  | _, _, _, _, .nil, e => by simp at e
  | _, _, 0, _, .cons r _, e => by simp at e; subst e; exact ⟨_, rfl, r⟩
  | _, _, i + 1, _, .cons _ t, e => by
    obtain ⟨v, h1, h2⟩ := RpA.get' (i := i) t (by simpa using e)
    exact ⟨v, by simpa using h1, h2⟩
theorem RpA.append : ∀ {vs ws : List V} {ds es : List PyData}, RpA K H O vs ds → RpA K H O ws es → RpA K H O (vs ++ ws) (ds ++ es)
  | _, _, _, _, .nil, s => s
  | _, _, _, _, .cons r t, s => .cons r (RpA.append t s)
theorem RpA.take : ∀ {vs : List V} {ds : List PyData} (n : Nat), RpA K H O vs ds → RpA K H O (vs.take n) (ds.take n)
  | _, _, 0, _ => by simp; exact .nil
  | _, _, _ + 1, .nil => .nil
  | _, _, n + 1, .cons r t => .cons r (RpA.take n t)
theorem RpA.drop : ∀ {vs : List V} {ds : List PyData} (n : Nat), RpA K H O vs ds → RpA K H O (vs.drop n) (ds.drop n)
  | _, _, 0, r => r
  | _, _, _ + 1, .nil => .nil
  | _, _, n + 1, .cons _ t => RpA.drop n t
theorem RpA.set {v : V} {d : PyData} (r : Rp K H O v d) : ∀ {vs : List V} {ds : List PyData} (i : Nat), RpA K H O vs ds → RpA K H O (vs.set i v) (ds.set i d)
  | _, _, _, .nil => .nil
  | _, _, 0, .cons _ t => .cons r t
  | _, _, i + 1, .cons q t => .cons q (RpA.set r i t)
theorem RpA.one {v : V} {d : PyData} (r : Rp K H O v d) : RpA K H O [v] [d] := .cons r .nil
theorem RpA.reverse {vs : List V} {ds : List PyData} (h : RpA K H O vs ds) : RpA K H O vs.reverse ds.reverse := by
  induction vs generalizing ds with
  | nil => cases h; exact .nil
  | cons v vs ih =>
    cases h with
    | cons r t =>
      rw [List.reverse_cons, List.reverse_cons]
      exact RpA.append (ih t) (.one r)
/-- read as a list, a tuple -/
theorem Rp.sqL {v : V} {ds : List PyData} (h : Rp K H O v (.list ds)) : ∃ a xs, v = .ref a ∧ SqL K H a xs ∧ RpA K H O xs ds := by
  cases h with
  | lst r _ s => exact ⟨_, _, rfl, .inl r, s⟩
  | lstK r s => exact ⟨_, _, rfl, r.sq, s⟩
theorem Rp.sqT {v : V} {ds : List PyData} (h : Rp K H O v (.tuple ds)) : ∃ a xs, v = .ref a ∧ SqT K H a xs ∧ RpA K H O xs ds := by
  cases h with
  | tup r s => exact ⟨_, _, rfl, .inl r, s⟩
  | tupK r s => exact ⟨_, _, rfl, .inr r, s⟩
theorem Rp.int_of {v : V} {i : Int} (h : Rp K H O v (.int i)) : v = .int i := by cases h; rfl
theorem Rp.bl_of {v : V} {b : Bool} (h : Rp K H O v (.bool b)) : v = .bl b := by cases h; rfl
theorem Rp.str_of {v : V} {x : Str} (h : Rp K H O v (.str x)) : v = .str x := by cases h; rfl
theorem Rp.non_of {v : V} (h : Rp K H O v .none) : v = .non := by cases h; rfl
mutual
theorem Rp.dp : ∀ (d : PyData) (v : V), Rp K H O v d → Dp K H v d
  | .none, _, h => by cases h; exact .non
  | .bool b, _, h => by cases h; exact .bl b
  | .int i, _, h => by cases h; exact .int i
  | .str x, _, h => by cases h; exact .str x
  | .list ds, _, h => by
    cases h with
    | lst r _ s => exact .lst (.inl r) (Rp.dpA ds _ s)
    | lstK r s => exact .lst r.sq (Rp.dpA ds _ s)
  | .tuple ds, _, h => by
    cases h with
    | tup r s => exact .tup (.inl r) (Rp.dpA ds _ s)
    | tupK r s => exact .tup (.inr r) (Rp.dpA ds _ s)
  | .dict _, _, h => by cases h
theorem Rp.dpA : ∀ (ds : List PyData) (vs : List V), RpA K H O vs ds → DpAll K H vs ds
  | [], _, h => by cases h; exact .nil
  | d :: ds, _, h => by
    cases h with
    | cons a b => exact .cons (Rp.dp d _ a) (Rp.dpA ds _ b)
end
end

/-- read for a moment: as Rp, or a list that a name owns -/
def RpB (K : PySem.W.Frag) (H : Hp) (O : Addr → Prop) (v : V) (d : PyData) : Prop :=
  Rp K H O v d ∨ ∃ a vs ds, v = .ref a ∧ d = .list ds ∧ H a = some (.lst vs) ∧ RpA K H O vs ds
section
variable {K : PySem.W.Frag} {H H' : Hp} {O O' : Addr → Prop} {v : V}
theorem RpB.move {d : PyData} (s : Same H H') (m : ∀ a, O' a → O a) (h : RpB K H O v d) : RpB K H' O' v d := by
  rcases h with h | ⟨a, vs, ds, e, e2, h1, h2⟩
  · exact .inl ((h.same s).less m)
  · exact .inr ⟨a, vs, ds, e, e2, s _ _ h1, (h2.same s).less m⟩
theorem RpB.sqL {ds : List PyData} (h : RpB K H O v (.list ds)) : ∃ a xs, v = .ref a ∧ SqL K H a xs ∧ RpA K H O xs ds := by
  rcases h with h | ⟨a, vs, ds', e, e2, h1, h2⟩
  · exact h.sqL
  · cases e2; exact ⟨a, vs, e, .of h1, h2⟩
theorem RpB.rp {d : PyData} (h : RpB K H O v d) (hd : ∀ ds, d ≠ .list ds) : Rp K H O v d := by
  rcases h with h | ⟨a, vs, ds', e, e2, h1, h2⟩
  · exact h
  · exact absurd e2 (hd _)
theorem RpB.sqT {ds : List PyData} (h : RpB K H O v (.tuple ds)) : ∃ a xs, v = .ref a ∧ SqT K H a xs ∧ RpA K H O xs ds := (h.rp fun _ z => nomatch z).sqT
theorem RpB.dp {d : PyData} (h : RpB K H O v d) : Dp K H v d := by
  rcases h with h | ⟨a, vs, ds', rfl, rfl, h1, h2⟩
  · exact h.dp
  · exact .lst (.of h1) (Rp.dpA _ _ h2)
end

/-! ### the slots of a frame -/
inductive Sl where
  | no | val (d : PyData) | own (ds : List PyData)
abbrev En := List Sl
def freeze (i : Nat) (env : En) : En := match env[i]? with
  | some (Sl.own ds) => env.set i (Sl.val (.list ds))
  | _ => env
def frees : List Nat → En → En
  | [], env => env
  | i :: L, env => frees L (freeze i env)
/-- fixed through a body: the heap at its entry, what the caller owns, what is wanted of an exception, the classes' values -/
structure Bs where
  H0 : Hp
  O0 : Addr → Prop
  xw : Value → Option Addr → Hp → Prop
  cls : Str → Value
def Ex (b : Bs) (env : En) (o : Nat → Addr) : Addr → Prop := fun a => b.O0 a ∨ ∃ i ds, env[i]? = some (Sl.own ds) ∧ o i = a
structure RS (K : PySem.W.Frag) (b : Bs) (H : Hp) (env : En) (σ : L2.St) (o : Nat → Addr) : Prop where
  len : env.length = σ.length
  val : ∀ (i : Nat) (d : PyData), env[i]? = some (Sl.val d) → ∃ v, σ[i]? = some (some v) ∧ Rp K H (Ex b env o) v d
  own : ∀ (i : Nat) (ds : List PyData), env[i]? = some (Sl.own ds) → ∃ vs : List V, σ[i]? = some (some (.ref (o i))) ∧ H (o i) = some (.lst vs) ∧ RpA K H (Ex b env o) vs ds ∧ b.H0 (o i) = none
  inj : ∀ (i j : Nat) (ds es : List PyData), env[i]? = some (Sl.own ds) → env[j]? = some (Sl.own es) → o i = o j → i = j
  ext : Same b.H0 H
  o0 : ∀ a, b.O0 a → ∃ u, b.H0 a = some u
section
variable {K : PySem.W.Frag} {b : Bs} {H H' : Hp} {env : En} {σ : L2.St} {o : Nat → Addr}
theorem RS.dom (r : RS K b H env σ o) {a : Addr} (h : Ex b env o a) : ∃ u, H a = some u := by
  rcases h with h | ⟨i, ds, e, rfl⟩
  · obtain ⟨u, e⟩ := r.o0 a h
    exact ⟨u, r.ext _ _ e⟩
  · obtain ⟨vs, _, e2, _⟩ := r.own i ds e
    exact ⟨_, e2⟩
theorem RS.same (r : RS K b H env σ o) (s : Same H H') : RS K b H' env σ o :=
  ⟨r.len, fun i d e => let ⟨v, h1, h2⟩ := r.val i d e; ⟨v, h1, h2.same s⟩, fun i ds e => let ⟨vs, h1, h2, h3, h4⟩ := r.own i ds e; ⟨vs, h1, s _ _ h2, h3.same s, h4⟩, r.inj, r.ext.trans s, r.o0⟩
theorem ex_freeze {i : Nat} {a : Addr} (h : Ex b (freeze i env) o a) : Ex b env o a := by
  rcases h with h | ⟨j, ds, e, h⟩
  · exact .inl h
  · refine .inr ⟨j, ds, ?_, h⟩
    unfold freeze at e
    split at e
    · rename_i es q
      by_cases hj : j = i
      · subst hj
        have hl : j < env.length := (List.getElem?_eq_some_iff.mp q).1
        rw [List.getElem?_set_self hl] at e
        cases e
      · rw [List.getElem?_set_ne (Ne.symm hj)] at e
        exact e
    · exact e
theorem ex_frees : ∀ {L : List Nat} {env : En} {a : Addr}, Ex b (frees L env) o a → Ex b env o a
  | [], _, _, h => h
  | i :: L, env, a, h => ex_freeze (ex_frees (L := L) h)
theorem ex_frees_app : ∀ {L M : List Nat} {env : En} {a : Addr}, Ex b (frees (L ++ M) env) o a → Ex b (frees L env) o a ∧ Ex b (frees M env) o a
  | [], M, env, a, h => ⟨ex_frees h, h⟩
  | i :: L, M, env, a, h => by
    obtain ⟨h1, h2⟩ := ex_frees_app (L := L) (M := M) (env := freeze i env) h
    refine ⟨h1, ?_⟩
    have : ∀ {M : List Nat} {env : En}, Ex b (frees M (freeze i env)) o a → Ex b (frees M env) o a := by
      intro M
      induction M with
      | nil => intro env h; exact ex_freeze h
      | cons j M ih =>
        intro env h
        show Ex b (frees M (freeze j env)) o a
        refine ih (env := freeze j env) ?_
        have e : freeze j (freeze i env) = freeze i (freeze j env) := by
          by_cases hij : i = j
          · subst hij; rfl
          · have nij : ∀ (env : En) (i j : Nat), i ≠ j → (freeze i env)[j]? = env[j]? := by
              intro env i j hne
              unfold freeze
              split
              · rw [List.getElem?_set_ne hne]
              · rfl
            cases hi : env[i]? with
            | none =>
              have f1 : freeze i env = env := by unfold freeze; rw [hi]
              have f2 : freeze i (freeze j env) = freeze j env := by
                rw [freeze, nij env j i (Ne.symm hij), hi]
              rw [f1, f2]
            | some s =>
              cases s with
              | own ds =>
                have f1 : freeze i env = env.set i (Sl.val (.list ds)) := by unfold freeze; rw [hi]
                have f2 : freeze i (freeze j env) = (freeze j env).set i (Sl.val (.list ds)) := by
                  rw [freeze, nij env j i (Ne.symm hij), hi]
                rw [f1, f2]
                unfold freeze
                rw [List.getElem?_set_ne hij]
                cases env[j]? with
                | none => rfl
                | some s =>
                  cases s with
                  | no => rfl
                  | val d => rfl
                  | own es => exact List.set_comm _ _ hij
              | no =>
                have f1 : freeze i env = env := by unfold freeze; rw [hi]
                have f2 : freeze i (freeze j env) = freeze j env := by
                  rw [freeze, nij env j i (Ne.symm hij), hi]
                rw [f1, f2]
              | val d =>
                have f1 : freeze i env = env := by unfold freeze; rw [hi]
                have f2 : freeze i (freeze j env) = freeze j env := by
                  rw [freeze, nij env j i (Ne.symm hij), hi]
                rw [f1, f2]
        rw [← e]
        exact h
    exact this h2
theorem RS.freeze (r : RS K b H env σ o) (i : Nat) : RS K b H (freeze i env) σ o := by
  cases q : env[i]? with
  | none => rw [show DL.freeze i env = env by unfold DL.freeze; rw [q]]; exact r
  | some s =>
    cases s with
    | no => rw [show DL.freeze i env = env by unfold DL.freeze; rw [q]]; exact r
    | val d => rw [show DL.freeze i env = env by unfold DL.freeze; rw [q]]; exact r
    | own ds =>
      have le : ∀ a, Ex b (DL.freeze i env) o a → Ex b env o a := fun a => ex_freeze
      have e : DL.freeze i env = env.set i (Sl.val (.list ds)) := by unfold DL.freeze; rw [q]
      have hl : i < env.length := (List.getElem?_eq_some_iff.mp q).1
      have back : ∀ j es, (DL.freeze i env)[j]? = some (Sl.own es) → env[j]? = some (Sl.own es) ∧ j ≠ i := by
        intro j es h
        rw [e] at h
        by_cases hj : j = i
        · subst hj; rw [List.getElem?_set_self hl] at h; cases h
        · rw [List.getElem?_set_ne (Ne.symm hj)] at h; exact ⟨h, hj⟩
      refine ⟨by rw [e, List.length_set]; exact r.len, fun j d h => ?_, fun j es h => ?_, fun j k es fs h1 h2 => ?_, r.ext, r.o0⟩
      · by_cases hj : j = i
        · subst hj
          rw [e, List.getElem?_set_self hl] at h
          cases h
          obtain ⟨vs, h1, h2, h3, h4⟩ := r.own j ds q
          refine ⟨_, h1, .lst (.inl h2) (fun z => ?_) (h3.less le)⟩
          rcases z with z | ⟨k, es, z1, z2⟩
          · obtain ⟨u, hu⟩ := r.o0 _ z
            rw [h4] at hu; cases hu
          · obtain ⟨z3, z4⟩ := back k es z1
            exact z4 (r.inj k j es ds z3 q z2)
        · rw [e, List.getElem?_set_ne (Ne.symm hj)] at h
          obtain ⟨v, h1, h2⟩ := r.val j d h
          exact ⟨v, h1, h2.less le⟩
      · obtain ⟨vs, h1, h2, h3, h4⟩ := r.own j es (back j es h).1
        exact ⟨vs, h1, h2, h3.less le, h4⟩
      · exact r.inj j k es fs (back j es h1).1 (back k fs h2).1
theorem RS.frees : ∀ (L : List Nat) {env : En}, RS K b H env σ o → RS K b H (frees L env) σ o
  | [], _, r => r
  | i :: L, _, r => RS.frees L (r.freeze i)
/-- a name gets a value -/
theorem RS.set {i : Nat} {v : V} {d : PyData} (r : RS K b H env σ o) (h : Rp K H (Ex b env o) v d) : RS K b H (env.set i (Sl.val d)) (σ.set i (some v)) o := by
  have le : ∀ a, Ex b (env.set i (Sl.val d)) o a → Ex b env o a := by
    rintro a (z | ⟨j, es, z1, z2⟩)
    · exact .inl z
    · refine .inr ⟨j, es, ?_, z2⟩
      by_cases hj : j = i
      · subst hj
        by_cases hl : j < env.length
        · rw [List.getElem?_set_self hl] at z1; cases z1
        · rw [List.getElem?_eq_none (by rw [List.length_set]; omega)] at z1; cases z1
      · rw [List.getElem?_set_ne (Ne.symm hj)] at z1; exact z1
  have back : ∀ j es, (env.set i (Sl.val d))[j]? = some (Sl.own es) → env[j]? = some (Sl.own es) ∧ j ≠ i := by
    intro j es z1
    by_cases hj : j = i
    · subst hj
      by_cases hl : j < env.length
      · rw [List.getElem?_set_self hl] at z1; cases z1
      · rw [List.getElem?_eq_none (by rw [List.length_set]; omega)] at z1; cases z1
    · rw [List.getElem?_set_ne (Ne.symm hj)] at z1; exact ⟨z1, hj⟩
  refine ⟨by rw [List.length_set, List.length_set]; exact r.len, fun j e q => ?_, fun j es q => ?_, fun j k es fs h1 h2 => ?_, r.ext, r.o0⟩
  · by_cases hj : j = i
    · subst hj
      have hl : j < env.length := by
        have := (List.getElem?_eq_some_iff.mp q).1
        rwa [List.length_set] at this
      rw [List.getElem?_set_self hl] at q
      cases q
      exact ⟨v, by rw [List.getElem?_set_self (by rw [← r.len]; exact hl)], h.less le⟩
    · rw [List.getElem?_set_ne (Ne.symm hj)] at q
      obtain ⟨w, h1, h2⟩ := r.val j e q
      exact ⟨w, by rw [List.getElem?_set_ne (Ne.symm hj)]; exact h1, h2.less le⟩
  · obtain ⟨q', hj⟩ := back j es q
    obtain ⟨vs, h1, h2, h3, h4⟩ := r.own j es q'
    exact ⟨vs, by rw [List.getElem?_set_ne (Ne.symm hj)]; exact h1, h2, h3.less le, h4⟩
  · exact r.inj j k es fs (back j es h1).1 (back k fs h2).1
/-- the new exclusions of an own list at p -/
theorem ex_setOwn {i : Nat} {p : Addr} {ds : List PyData} {a : Addr} (z : Ex b (env.set i (Sl.own ds)) (fun j => if j = i then p else o j) a) : Ex b env o a ∨ a = p := by
  rcases z with z | ⟨j, es, z1, z2⟩
  · exact .inl (.inl z)
  · dsimp only at z2
    by_cases hj : j = i
    · subst hj
      rw [if_pos rfl] at z2
      exact .inr z2.symm
    · rw [if_neg hj] at z2
      rw [List.getElem?_set_ne (Ne.symm hj)] at z1
      exact .inl (.inr ⟨j, es, z1, z2⟩)
/-- a name gets a new list of its own -/
theorem RS.setOwn {H1 : Hp} {i : Nat} {p : Addr} {vs : List V} {ds : List PyData} (r : RS K b H env σ o) (s : Same H H1) (hn : H p = none) (hp : H1 p = some (.lst vs)) (h : RpA K H1 (fun a => Ex b env o a ∨ a = p) vs ds) :
    RS K b H1 (env.set i (Sl.own ds)) (σ.set i (some (.ref p))) (fun j => if j = i then p else o j) := by
  have le : ∀ a, Ex b (env.set i (Sl.own ds)) (fun j => if j = i then p else o j) a → Ex b env o a ∨ a = p := fun a => ex_setOwn
  have le' : ∀ a, Ex b (env.set i (Sl.own ds)) (fun j => if j = i then p else o j) a → Ex b env o a ∨ H a = none := fun a z => by
    rcases le a z with z | z
    · exact .inl z
    · subst z; exact .inr hn
  have kp : Keep (Ex b env o) H H1 := .of_same s
  refine ⟨by rw [List.length_set, List.length_set]; exact r.len, fun j e q => ?_, fun j es q => ?_, fun j k es fs h1 h2 h3 => ?_, r.ext.trans s, r.o0⟩
  · by_cases hj : j = i
    · subst hj
      have hl : j < env.length := by
        have := (List.getElem?_eq_some_iff.mp q).1
        rwa [List.length_set] at this
      rw [List.getElem?_set_self hl] at q
      cases q
    · rw [List.getElem?_set_ne (Ne.symm hj)] at q
      obtain ⟨w, h1, h2⟩ := r.val j e q
      exact ⟨w, by rw [List.getElem?_set_ne (Ne.symm hj)]; exact h1, Rp.move kp le' _ _ h2⟩
  · by_cases hj : j = i
    · subst hj
      have hl : j < env.length := by
        have := (List.getElem?_eq_some_iff.mp q).1
        rwa [List.length_set] at this
      rw [List.getElem?_set_self hl] at q
      cases q
      refine ⟨vs, by rw [if_pos rfl, List.getElem?_set_self (by rw [← r.len]; exact hl)], by rw [if_pos rfl]; exact hp, h.less le, ?_⟩
      rw [if_pos rfl]
      cases q2 : b.H0 p with
      | none => rfl
      | some u => rw [r.ext _ _ q2] at hn; cases hn
    · rw [List.getElem?_set_ne (Ne.symm hj)] at q
      obtain ⟨ws, h1, h2, h3, h4⟩ := r.own j es q
      refine ⟨ws, by rw [if_neg hj, List.getElem?_set_ne (Ne.symm hj)]; exact h1, by rw [if_neg hj]; exact s _ _ h2, Rp.moveA kp le' _ _ h3, by rw [if_neg hj]; exact h4⟩
  · have ne : ∀ {j : Nat} {es : List PyData}, j ≠ i → (env.set i (Sl.own ds))[j]? = some (Sl.own es) → o j ≠ p := fun {j es} hj q z => by
      rw [List.getElem?_set_ne (Ne.symm hj)] at q
      obtain ⟨ws, _, h2, _⟩ := r.own j es q
      rw [z, hn] at h2; cases h2
    by_cases hj : j = i
    · by_cases hk : k = i
      · rw [hj, hk]
      · rw [if_pos hj, if_neg hk] at h3
        exact absurd h3.symm (ne hk h2)
    · by_cases hk : k = i
      · rw [if_neg hj, if_pos hk] at h3
        exact absurd h3 (ne hj h1)
      · rw [if_neg hj, if_neg hk] at h3
        rw [List.getElem?_set_ne (Ne.symm hj)] at h1
        rw [List.getElem?_set_ne (Ne.symm hk)] at h2
        exact r.inj j k es fs h1 h2 h3
/-- an own list changes -/
theorem RS.updOwn {i : Nat} {vs : List V} {ds es : List PyData} (r : RS K b H env σ o) (q : env[i]? = some (Sl.own ds)) (h : RpA K H (Ex b env o) vs es) :
    RS K b (upd H (o i) (.lst vs)) (env.set i (Sl.own es)) σ o ∧ Keep (Ex b env o) H (upd H (o i) (.lst vs)) ∧ ∀ a, Ex b (env.set i (Sl.own es)) o a → Ex b env o a := by
  have hl : i < env.length := (List.getElem?_eq_some_iff.mp q).1
  obtain ⟨ws, w1, w2, w3, w4⟩ := r.own i ds q
  have exi : Ex b env o (o i) := .inr ⟨i, ds, q, rfl⟩
  have kp : Keep (Ex b env o) H (upd H (o i) (.lst vs)) := fun a u e z => by
    by_cases ha : a = o i
    · subst ha
      rw [w2] at e; cases e
      rcases z with z | z
      · exact absurd rfl (z ws)
      · exact absurd exi z
    · rw [upd_ne ha]; exact e
  have le : ∀ a, Ex b (env.set i (Sl.own es)) o a → Ex b env o a := by
    rintro a (z | ⟨j, fs, z1, z2⟩)
    · exact .inl z
    · by_cases hj : j = i
      · subst hj; exact .inr ⟨j, ds, q, z2⟩
      · rw [List.getElem?_set_ne (Ne.symm hj)] at z1
        exact .inr ⟨j, fs, z1, z2⟩
  refine ⟨⟨by rw [List.length_set]; exact r.len, fun j e z => ?_, fun j fs z => ?_, fun j k fs gs h1 h2 h3 => ?_, fun a u z => ?_, r.o0⟩, kp, le⟩
  · by_cases hj : j = i
    · subst hj; rw [List.getElem?_set_self hl] at z; cases z
    · rw [List.getElem?_set_ne (Ne.symm hj)] at z
      obtain ⟨w, h1, h2⟩ := r.val j e z
      exact ⟨w, h1, Rp.move kp (fun a z => .inl (le a z)) _ _ h2⟩
  · by_cases hj : j = i
    · subst hj
      rw [List.getElem?_set_self hl] at z
      cases z
      exact ⟨vs, w1, upd_same, Rp.moveA kp (fun a z => .inl (le a z)) _ _ h, w4⟩
    · rw [List.getElem?_set_ne (Ne.symm hj)] at z
      obtain ⟨xs, h1, h2, h3, h4⟩ := r.own j fs z
      have ne : o j ≠ o i := fun q2 => hj (r.inj j i fs ds z q q2)
      exact ⟨xs, h1, by rw [upd_ne ne]; exact h2, Rp.moveA kp (fun a z => .inl (le a z)) _ _ h3, h4⟩
  · have b1 : ∀ {j : Nat} {fs : List PyData}, (env.set i (Sl.own es))[j]? = some (Sl.own fs) → ∃ gs, env[j]? = some (Sl.own gs) := fun {j fs} z => by
      by_cases hj : j = i
      · subst hj; exact ⟨_, q⟩
      · rw [List.getElem?_set_ne (Ne.symm hj)] at z; exact ⟨_, z⟩
    obtain ⟨_, q1⟩ := b1 h1
    obtain ⟨_, q2⟩ := b1 h2
    exact r.inj j k _ _ q1 q2 h3
  · have ha : a ≠ o i := fun q2 => by rw [q2, w4] at z; cases z
    rw [upd_ne ha]
    exact r.ext _ _ z
end
end DL
namespace DL
open PySem PySem.Spec PyProof.Rows L2

/-! ### judgements -/
/-- what an exception asks -/
def XP (K : PySem.W.Frag) (b : Bs) (x : Xn) : Prop :=
  match x.2 with
  | none => ∀ H', Same b.H0 H' → b.xw (b.cls x.1) none H'
  | some fd => ∀ (H' : Hp) (a : Addr) (v : V), Same b.H0 H' → b.H0 a = none → H' a = some (.xd [(fd.1, v)]) → Rp K H' (fun _ => False) v fd.2 → b.xw (b.cls x.1) (some a) H'
def Pz {α : Type} (K : PySem.W.Frag) (b : Bs) (r : Rz α) (P : α → Prop) : Prop :=
  match r with
  | .ok a => P a
  | .ex x => XP K b x
  | .st => False
section
variable {K : PySem.W.Frag} {b : Bs} {α β : Type}
theorem Pz.imp {r : Rz α} {P P' : α → Prop} (h : Pz K b r P) (k : ∀ a, r = .ok a → P a → P' a) : Pz K b r P' := by
  cases r with
  | ok a => exact k a rfl h
  | ex x => exact h
  | st => exact h
theorem Pz.bind {r : Rz α} {f : α → Rz β} {P : β → Prop} (h : Pz K b (r.bind f) P) : Pz K b r (fun a => Pz K b (f a) P) := by
  cases r with
  | ok a => exact h
  | ex x => exact h
  | st => exact h
end
/-- an operation that raises nothing -/
def Rz.of {α : Type} : Option α → Rz α
  | some a => .ok a
  | none => .st
@[simp] theorem Rz.of_some {α : Type} (a : α) : Rz.of (some a) = .ok a := rfl
@[simp] theorem Rz.of_none {α : Type} : Rz.of (none : Option α) = .st := rfl
theorem Pz.of {α : Type} {K : PySem.W.Frag} {b : Bs} {r : Option α} {P : α → Prop} (h : Pz K b (Rz.of r) P) : ∃ a, r = some a ∧ P a := by
  cases r with
  | some a => exact ⟨a, rfl, h⟩
  | none => exact False.elim h
abbrev FE := En → Rz PyData
abbrev FA := En → Rz (List PyData)
abbrev FT := En → Rz Bool
abbrev FO := En → Rz (List PyData)
def tD (K : PySem.W.Frag) (b : Bs) (f : FE) (L : List Nat) : TE := fun σ H Q => ∃ env o, RS K b H env σ o ∧
  Pz K b (f env) fun d => ∀ v H', Same H H' → Rp K H' (Ex b (frees L env) o) v d → Q v H'
/-- read for a moment -/
def tDB (K : PySem.W.Frag) (b : Bs) (f : FE) (L : List Nat) : TE := fun σ H Q => ∃ env o, RS K b H env σ o ∧
  Pz K b (f env) fun d => ∀ v H', Same H H' → RpB K H' (Ex b (frees L env) o) v d → Q v H'
/-- a new list, nobody else's -/
def tDO (K : PySem.W.Frag) (b : Bs) (f : FO) (L : List Nat) : TE := fun σ H Q => ∃ env o, RS K b H env σ o ∧
  Pz K b (f env) fun ds => ∀ a vs H', Same H H' → H a = none → H' a = some (.lst vs) → RpA K H' (fun c => Ex b (frees L env) o c ∨ c = a) vs ds → Q (.ref a) H'
def tDT (K : PySem.W.Frag) (b : Bs) (f : FT) : TT := fun σ H Q => ∃ env o, RS K b H env σ o ∧
  Pz K b (f env) fun c => ∀ H', Same H H' → Q c H'
def tDA (K : PySem.W.Frag) (b : Bs) (f : FA) (L : List Nat) : TA := fun σ H Q => ∃ env o, RS K b H env σ o ∧
  Pz K b (f env) fun ds => ∀ vs H', Same H H' → RpA K H' (Ex b (frees L env) o) vs ds → Q vs H'
def DE (X : Cx) (b : Bs) (e : Expr) (f : FE) (L : List Nat) : Prop := PE X e (tD X.K b f L)
def DB (X : Cx) (b : Bs) (e : Expr) (f : FE) (L : List Nat) : Prop := PE X e (tDB X.K b f L)
def DO (X : Cx) (b : Bs) (e : Expr) (f : FO) (L : List Nat) : Prop := PE X e (tDO X.K b f L)
def DT (X : Cx) (b : Bs) (e : Expr) (f : FT) : Prop := PT X e (tDT X.K b f)
def DW (X : Cx) (b : Bs) (e : Expr) (f : FT) : Prop := PW X e (tDT X.K b f)
def DA (X : Cx) (b : Bs) (es : List Expr) (f : FA) (L : List Nat) : Prop := PA X es (tDA X.K b f L)
/-- what a body's rules lean on -/
structure Fx (X : Cx) (b : Bs) : Prop where
  calm : X.calm = true
  tk : Takes X (fun c d _ H => b.xw c d H)
  own : PassesOwn (model X.prog X.w) X.A X.env X.xe
  u : X.A.units + 100 < cLine
theorem Fx.un {X : Cx} {b : Bs} (F : Fx X b) : X.A.units + 64 < cLine := by have := F.u; omega
theorem Fx.un1 {X : Cx} {b : Bs} (F : Fx X b) : X.A.units + 65 < cLine := by have := F.u; omega

theorem PE.wk {X : Cx} {e : Expr} {t t' : TE} (h : PE X e t) (k : ∀ σ H Q, t' σ H Q → t σ H Q) : PE X e t' := ⟨fun pins s σ H Q I q => h.run pins s σ H Q I (k σ H Q q)⟩
theorem PT.wk {X : Cx} {e : Expr} {t t' : TT} (h : PT X e t) (k : ∀ σ H Q, t' σ H Q → t σ H Q) : PT X e t' := ⟨fun pins s σ H Q I q => h.run pins s σ H Q I (k σ H Q q)⟩
theorem PW.wk {X : Cx} {e : Expr} {t t' : TT} (h : PW X e t) (k : ∀ σ H Q, t' σ H Q → t σ H Q) : PW X e t' := ⟨fun wh pins s σ H Q I q => h.run wh pins s σ H Q I (k σ H Q q)⟩
theorem PA.wk {X : Cx} {e : List Expr} {t t' : TA} (h : PA X e t) (k : ∀ σ H Q, t' σ H Q → t σ H Q) : PA X e t' := ⟨fun pos pins s σ H Q I q => h.run pos pins s σ H Q I (k σ H Q q)⟩
theorem PS.wk {X : Cx} {e : Stmt} {t t' : TS} (h : PS X e t) (k : ∀ D σ H, t' D σ H → t D σ H) : PS X e t' := ⟨fun pins s σ H Q I q => h.run pins s σ H Q I (k Q σ H q)⟩
theorem PSs.wk {X : Cx} {e : List Stmt} {t t' : TS} (h : PSs X e t) (k : ∀ D σ H, t' D σ H → t D σ H) : PSs X e t' := ⟨fun pins s σ H Q I q => h.run pins s σ H Q I (k Q σ H q)⟩

section
variable {X : Cx} {b : Bs} {e e1 e2 : Expr} {es : List Expr} {f f1 f2 : FE} {fs : FA} {ft ft1 ft2 : FT} {L La Lb : List Nat} {pos : Pos}

theorem db_of (h : DE X b e f L) : DB X b e f L := PE.wk h fun σ H Q ⟨env, o, R, q⟩ => ⟨env, o, R, q.imp fun d _ q v H' s r => q v H' s (.inl r)⟩
theorem de_of (h : DO X b e fs L) : DE X b e (fun env => (fs env).bind fun ds => .ok (.list ds)) L := PE.wk h fun σ H Q ⟨env, o, R, q⟩ => by
  refine ⟨env, o, R, q.bind.imp fun ds _ q a vs H' s hn ha r => ?_⟩
  refine q _ _ s (.lst (.inl ha) (fun z => ?_) (r.less fun _ z => .inl z))
  obtain ⟨u, hu⟩ := (R.frees L).dom z
  rw [hn] at hu; cases hu

/-! ### constants and names -/
@[simp] def cC (d : PyData) (_ : En) : Rz PyData := .ok d
theorem de_int {i : Int} {j : Nat} : DE X b (.Constant (.int i) j pos) (cC (.int i)) [] := PE.wk pe_int fun _ H _ ⟨_, _, _, q⟩ => q _ _ (.refl H) (.int i)
theorem de_bl {i : Bool} {j : Nat} : DE X b (.Constant (.bool i) j pos) (cC (.bool i)) [] := PE.wk pe_bl fun _ H _ ⟨_, _, _, q⟩ => q _ _ (.refl H) (.bl i)
theorem de_non {j : Nat} : DE X b (.Constant .none j pos) (cC .none) [] := PE.wk pe_non fun _ H _ ⟨_, _, _, q⟩ => q _ _ (.refl H) .non
theorem de_str {x : Str} {j : Nat} : DE X b (.Constant (.str x) j pos) (cC (.str x)) [] := PE.wk pe_str fun _ H _ ⟨_, _, _, q⟩ => q _ _ (.refl H) (.str x)
/-- a module's constant: what it stands for whatever the heap -/
def RK (K : PySem.W.Frag) (v : V) (d : PyData) : Prop := ∀ H O, Rp K H O v d
theorem de_glob {x : Str} {v : V} {u : Value} {d : PyData} (hg : Gl X x) (hm : X.mg x = some u) (r : RelV v u) (k : RK X.K v d) (hd : (x == ("__debug__" : Str)) = false := by decide) : DE X b (.Name x pos) (cC d) [] :=
  PE.wk (pe_glob hg hm r hd) fun _ H _ ⟨_, _, _, q⟩ => q _ _ (.refl H) (k _ _)
/-- a name that owns nothing -/
@[simp] def cV (i : Nat) (env : En) : Rz PyData := match env[i]? with
  | some (.val d) => .ok d
  | _ => .st
theorem de_v (i : Nat) {x : Str} (hN : X.N[i]? = some x := by rfl) (hv : Vis X.env.scope x := by first | exact Or.inl rfl | exact Or.inr (Or.inl rfl) | exact Or.inr (Or.inr rfl)) (hd : (x == ("__debug__" : Str)) = false := by decide)
    (hcd : (x == ("__classdict__" : Str)) = false := by decide) : DE X b (.Name x pos) (cV i) [] := PE.wk (pe_var hN hv hd hcd) fun σ H Q ⟨env, o, R, q⟩ => by
  unfold cV at q
  split at q
  · rename_i d e
    obtain ⟨v, h1, h2⟩ := R.val i d e
    exact ⟨v, h1, q _ _ (.refl H) h2⟩
  · exact False.elim q
/-- a name that may own a list; the list is its own no more -/
@[simp] def cL (i : Nat) (env : En) : Rz PyData := match env[i]? with
  | some (.val d) => .ok d
  | some (.own ds) => .ok (.list ds)
  | _ => .st
theorem de_l (i : Nat) {x : Str} (hN : X.N[i]? = some x := by rfl) (hv : Vis X.env.scope x := by first | exact Or.inl rfl | exact Or.inr (Or.inl rfl) | exact Or.inr (Or.inr rfl)) (hd : (x == ("__debug__" : Str)) = false := by decide)
    (hcd : (x == ("__classdict__" : Str)) = false := by decide) : DE X b (.Name x pos) (cL i) [i] := PE.wk (pe_var hN hv hd hcd) fun σ H Q ⟨env, o, R, q⟩ => by
  unfold cL at q
  split at q
  · rename_i d e
    obtain ⟨v, h1, h2⟩ := R.val i d e
    exact ⟨v, h1, q _ _ (.refl H) (h2.less fun a z => ex_freeze (i := i) z)⟩
  · rename_i ds e
    obtain ⟨vs, h1, h2, h3, h4⟩ := R.own i ds e
    have R' := R.freeze i
    have hl : i < env.length := (List.getElem?_eq_some_iff.mp e).1
    have e' : (DL.freeze i env)[i]? = some (Sl.val (.list ds)) := by
      unfold DL.freeze
      rw [e]
      exact List.getElem?_set_self hl
    obtain ⟨v, k1, k2⟩ := R'.val i _ e'
    exact ⟨v, k1, q _ _ (.refl H) k2⟩
  · exact False.elim q
/-- .. read for a moment -/
theorem db_v (i : Nat) {x : Str} (hN : X.N[i]? = some x := by rfl) (hv : Vis X.env.scope x := by first | exact Or.inl rfl | exact Or.inr (Or.inl rfl) | exact Or.inr (Or.inr rfl)) (hd : (x == ("__debug__" : Str)) = false := by decide)
    (hcd : (x == ("__classdict__" : Str)) = false := by decide) : DB X b (.Name x pos) (cL i) [] := PE.wk (pe_var hN hv hd hcd) fun σ H Q ⟨env, o, R, q⟩ => by
  unfold cL at q
  split at q
  · rename_i d e
    obtain ⟨v, h1, h2⟩ := R.val i d e
    exact ⟨v, h1, q _ _ (.refl H) (.inl h2)⟩
  · rename_i ds e
    obtain ⟨vs, h1, h2, h3, h4⟩ := R.own i ds e
    exact ⟨_, h1, q _ _ (.refl H) (.inr ⟨_, vs, ds, rfl, rfl, h2, h3⟩)⟩
  · exact False.elim q

/-! ### operands -/
@[simp] def c1 (g : PyData → Option PyData) (f : FE) (env : En) : Rz PyData := (f env).bind fun x => Rz.of (g x)
@[simp] def c2 (g : PyData → PyData → Option PyData) (f1 f2 : FE) (env : En) : Rz PyData := (f1 env).bind fun x => (f2 env).bind fun y => Rz.of (g x y)
/-- two operands, one behind the other: at the second one's heap -/
theorem two {K : PySem.W.Frag} {g : PyData → PyData → Option PyData} {σ : L2.St} {H : Hp} {Q : VK} {r : R2} (h : tD K b (c2 g f1 f2) (La ++ Lb) σ H Q)
    (k : ∀ (H : Hp) (O : Addr → Prop) (x y : V) (dx dy d : PyData) (Q : VK), (∀ a, O a → ∃ u, H a = some u) → Rp K H O x dx → Rp K H O y dy → g dx dy = some d → (∀ v H', Same H H' → Rp K H' O v d → Q v H') → r x y H Q) :
    tD K b f1 La σ H fun x H1 => tD K b f2 Lb σ H1 fun y H2 => r x y H2 Q := by
  obtain ⟨env, o, R, h⟩ := h
  refine ⟨env, o, R, h.bind.imp fun dx _ h x H1 s1 r1 => ?_⟩
  refine ⟨env, o, R.same s1, h.bind.imp fun dy _ h y H2 s2 r2 => ?_⟩
  obtain ⟨d, e, h⟩ := h.of
  have R2 := (R.same s1).same s2
  exact k H2 (Ex b (frees (La ++ Lb) env) o) x y dx dy d Q (fun a z => (R2.frees _).dom z) ((r1.same s2).less fun a z => (ex_frees_app z).1) (r2.less fun a z => (ex_frees_app z).2) e
    fun v H' s => h v H' ((s1.trans s2).trans s)
theorem twoB {K : PySem.W.Frag} {g : PyData → PyData → Option PyData} {σ : L2.St} {H : Hp} {Q : VK} {r : R2} (h : tD K b (c2 g f1 f2) (La ++ Lb) σ H Q)
    (k : ∀ (H : Hp) (O : Addr → Prop) (x y : V) (dx dy d : PyData) (Q : VK), (∀ a, O a → ∃ u, H a = some u) → RpB K H O x dx → RpB K H O y dy → g dx dy = some d → (∀ v H', Same H H' → Rp K H' O v d → Q v H') → r x y H Q) :
    tDB K b f1 La σ H fun x H1 => tDB K b f2 Lb σ H1 fun y H2 => r x y H2 Q := by
  obtain ⟨env, o, R, h⟩ := h
  refine ⟨env, o, R, h.bind.imp fun dx _ h x H1 s1 r1 => ?_⟩
  refine ⟨env, o, R.same s1, h.bind.imp fun dy _ h y H2 s2 r2 => ?_⟩
  obtain ⟨d, e, h⟩ := h.of
  have R2 := (R.same s1).same s2
  exact k H2 (Ex b (frees (La ++ Lb) env) o) x y dx dy d Q (fun a z => (R2.frees _).dom z) (r1.move s2 fun a z => (ex_frees_app z).1) (r2.move (.refl _) fun a z => (ex_frees_app z).2) e
    fun v H' s => h v H' ((s1.trans s2).trans s)
/-- an operation on data, by the rule r of the values -/
def OpD (K : PySem.W.Frag) (r : R2) (g : PyData → PyData → Option PyData) : Prop :=
  ∀ (H : Hp) (O : Addr → Prop) (x y : V) (dx dy d : PyData) (Q : VK), (∀ a, O a → ∃ u, H a = some u) → Rp K H O x dx → Rp K H O y dy → g dx dy = some d → (∀ v H', Same H H' → Rp K H' O v d → Q v H') → r x y H Q
def OpB (K : PySem.W.Frag) (r : R2) (g : PyData → PyData → Option PyData) : Prop :=
  ∀ (H : Hp) (O : Addr → Prop) (x y : V) (dx dy d : PyData) (Q : VK), (∀ a, O a → ∃ u, H a = some u) → RpB K H O x dx → RpB K H O y dy → g dx dy = some d → (∀ v H', Same H H' → Rp K H' O v d → Q v H') → r x y H Q
theorem de_op {op : Operator} {r : R2} {g : PyData → PyData → Option PyData} (ho : OpR X (binaryOp op) r) (hd : OpD X.K r g) (h1 : DE X b e1 f1 La) (h2 : DE X b e2 f2 Lb) : DE X b (.BinOp e1 op e2 pos) (c2 g f1 f2) (La ++ Lb) :=
  PE.wk (pe_op ho h1 h2) fun _ _ _ h => two h hd
theorem de_un {op : UnaryOp} {r : V → Hp → VK → Prop} {g : PyData → Option PyData} (ho : UnR X (unaryOp op) r)
    (hd : ∀ (H : Hp) (O : Addr → Prop) (x : V) (dx d : PyData) (Q : VK), Rp X.K H O x dx → g dx = some d → (∀ v H', Same H H' → Rp X.K H' O v d → Q v H') → r x H Q) (h1 : DE X b e1 f1 La) :
    DE X b (.UnaryOp op e1 pos) (c1 g f1) La :=
  PE.wk (pe_un ho h1) fun σ H Q ⟨env, o, R, h⟩ => ⟨env, o, R, h.bind.imp fun dx _ h x H1 s1 r1 => let ⟨d, e, h⟩ := h.of; hd H1 _ x dx d Q r1 e fun v H' s => h v H' (s1.trans s)⟩
/-- a comparison as a value -/
theorem de_cmp {op : CmpOp} {r : R2} {g : PyData → PyData → Option PyData} (ho : OpR X (compareOp op) r) (hd : OpB X.K r g) (hm : behindInMarks op e2 = false) (h1 : DB X b e1 f1 La) (h2 : DB X b e2 f2 Lb) : DE X b (.Compare e1 [op] [e2] pos) (c2 g f1 f2) (La ++ Lb) :=
  PE.wk (pe_cmpR ho h1 h2 hm) fun _ _ _ h => twoB h hd
/-- as a test -/
@[simp] def c2t (g : PyData → PyData → Option Bool) (f1 f2 : FE) (env : En) : Rz Bool := (f1 env).bind fun x => (f2 env).bind fun y => Rz.of (g x y)
@[simp] def bo (g : PyData → PyData → Option Bool) : PyData → PyData → Option PyData := fun x y => (g x y).map .bool
theorem dt_cmp {op : CmpOp} {r : R2} {g : PyData → PyData → Option Bool} (ho : OpR X (compareOp op) r) (hd : OpB X.K r (bo g)) (hm : behindInMarks op e2 = false) (h1 : DB X b e1 f1 La) (h2 : DB X b e2 f2 Lb) : DT X b (.Compare e1 [op] [e2] pos) (c2t g f1 f2) :=
  PT.wk (pt_cmpR ho h1 h2 hm) fun σ H Q ⟨env, o, R, h⟩ => by
    refine twoB (Q := fun x H' => ∃ k, x = .bl k ∧ Q k H') (g := bo g) ⟨env, o, R, ?_⟩ hd
    unfold c2t at h
    unfold c2
    cases q1 : f1 env with
    | st => rw [q1] at h; exact h
    | ex x => rw [q1] at h; exact h
    | ok dx =>
      rw [q1] at h
      cases q2 : f2 env with
      | st => rw [Rz.bind_ok, q2] at h; rw [Rz.bind_ok]; exact h
      | ex x => rw [Rz.bind_ok, q2] at h; rw [Rz.bind_ok]; exact h
      | ok dy =>
        rw [Rz.bind_ok, q2, Rz.bind_ok] at h
        rw [Rz.bind_ok, Rz.bind_ok]
        obtain ⟨c, e, h⟩ := h.of
        have : bo g dx dy = some (.bool c) := by unfold bo; rw [e]; rfl
        rw [this]
        intro v H' s r
        cases r.bl_of
        exact ⟨c, rfl, h H' s⟩
end
/-! ### what the operations do to data -/
/-- + - * // % ** on ints -/
@[simp] def gI (k : Int → Int → Option Int) : PyData → PyData → Option PyData
  | .int i, .int j => (k i j).map .int
  | _, _ => none
theorem opd_I {K : PySem.W.Frag} {C : Int → Int → Prop} {g : Int → Int → Int} {k : Int → Int → Option Int} (h : ∀ i j z, k i j = some z → C i j ∧ z = g i j) : OpD K (rI C fun i j => .int (g i j)) (gI k) := by
  intro H O x y dx dy d Q ho rx ry e q
  unfold gI at e
  split at e
  · rename_i i j
    cases q2 : k i j with
    | none => rw [q2] at e; cases e
    | some z =>
      rw [q2] at e
      cases e
      obtain ⟨c, rfl⟩ := h i j z q2
      exact ⟨i, j, rx.int_of, ry.int_of, c, q _ _ (.refl H) (.int _)⟩
  · cases e
theorem opd_I0 {K : PySem.W.Frag} {g : Int → Int → Int} {k : Int → Int → Option Int} (h : ∀ i j z, k i j = some z → z = g i j) : OpD K (rI0 fun i j => .int (g i j)) (gI k) := by
  intro H O x y dx dy d Q ho rx ry e q
  unfold gI at e
  split at e
  · rename_i i j
    cases q2 : k i j with
    | none => rw [q2] at e; cases e
    | some z =>
      rw [q2] at e
      cases e
      obtain rfl := h i j z q2
      exact ⟨i, j, rx.int_of, ry.int_of, q _ _ (.refl H) (.int _)⟩
  · cases e
theorem opd_or {K : PySem.W.Frag} {r r' : R2} {g g' : PyData → PyData → Option PyData} (h : OpD K r g) (h' : OpD K r' g') : OpD K (fun x y H Q => r x y H Q ∨ r' x y H Q) (fun x y => (g x y).or (g' x y)) := by
  intro H O x y dx dy d Q ho rx ry e q
  replace e : (g dx dy).or (g' dx dy) = some d := e
  cases q1 : g dx dy with
  | some z => rw [q1] at e; cases e; exact .inl (h H O x y dx dy _ Q ho rx ry q1 q)
  | none => rw [q1] at e; exact .inr (h' H O x y dx dy _ Q ho rx ry e q)
@[simp] def kAdd (i j : Int) : Option Int := some (i + j)
@[simp] def kSub (i j : Int) : Option Int := some (i - j)
@[simp] def kMul (i j : Int) : Option Int := if (-(2 ^ 64) < i ∧ i < 2 ^ 64) ∨ (-(2 ^ 64) < j ∧ j < 2 ^ 64) then some (i * j) else none
@[simp] def kDiv (i j : Int) : Option Int := if 0 < j ∧ j < 1073741824 then some (i / j) else none
@[simp] def kMod (i j : Int) : Option Int := if 0 < j then some (i % j) else none
@[simp] def kPow (i j : Int) : Option Int := if 0 ≤ j ∧ j ≤ 1000000 ∧ i.natAbs < 2 ^ 64 then some (i ^ j.toNat) else none
@[simp] def kShl (i j : Int) : Option Int := if 0 ≤ j ∧ j ≤ 1000000 ∧ i.natAbs < 2 ^ 64 then some (i * 2 ^ j.toNat) else none
section
variable {K : PySem.W.Frag}
theorem opd_sub : OpD K (rI0 fun i j => .int (i - j)) (gI kSub) := opd_I0 fun i j z e => by cases e; rfl
theorem opd_mul : OpD K (rI CMul fun i j => .int (i * j)) (gI kMul) := opd_I fun i j z e => by
  unfold kMul at e; split at e
  · rename_i h; cases e; exact ⟨h, rfl⟩
  · cases e
theorem opd_div : OpD K (rI CDiv fun i j => .int (i / j)) (gI kDiv) := opd_I fun i j z e => by
  unfold kDiv at e; split at e
  · rename_i h; cases e; exact ⟨h, rfl⟩
  · cases e
theorem opd_mod : OpD K (rI (fun _ j => 0 < j) fun i j => .int (i % j)) (gI kMod) := opd_I fun i j z e => by
  unfold kMod at e; split at e
  · rename_i h; cases e; exact ⟨h, rfl⟩
  · cases e
theorem opd_pow : OpD K (rI CPow fun i j => .int (i ^ j.toNat)) (gI kPow) := opd_I fun i j z e => by
  unfold kPow at e; split at e
  · rename_i h; cases e; exact ⟨h, rfl⟩
  · cases e
theorem opd_shl : OpD K (rI CPow fun i j => .int (i * 2 ^ j.toNat)) (gI kShl) := opd_I fun i j z e => by
  unfold kShl at e; split at e
  · rename_i h; cases e; exact ⟨h, rfl⟩
  · cases e
/-- + : ints, tuples, texts -/
@[simp] def gAdd : PyData → PyData → Option PyData
  | .int i, .int j => some (.int (i + j))
  | .tuple xs, .tuple ys => if xs ≠ [] ∧ xs.length + ys.length ≤ 1000000 then some (.tuple (xs ++ ys)) else none
  | .str x, .str y => if x.length + y.length ≤ 1000000 then some (.str (x ++ y)) else none
  | .list xs, .list ys => if xs.length + ys.length ≤ 1000000 then some (.list (xs ++ ys)) else none
  | _, _ => none
/-- a list as it stands in the heap -/
def LsAt (K : PySem.W.Frag) (H : Hp) (a : Addr) (xs : List V) : Prop := Rd H a (.lst xs) ∨ KL K a xs
theorem LsAt.obj {X : Cx} {pins : List (Addr × Obj)} {σ : L2.St} {H : Hp} {s : Shared} {a : Addr} {xs : List V} (I : Inv X pins σ H s) (h : LsAt X.K H a xs) :
    xs.length ≤ sizeLine ∧ ∃ (its : List Value) (n : Nat), Vals xs its ∧ xs.length = its.length ∧ s.heap.get? a = some { cls := .type "list", data := .seq its.toArray n } := by
  rcases h with h | ⟨its, n, h1, h2, h3⟩
  · obtain ⟨z, its, n, r, e⟩ := h.ok I.hok
    exact ⟨z, its, n, r, r.length, e⟩
  · have e := h3.length
    refine ⟨by rw [e]; simpa using h2, its.toList, n, h3, e, ?_⟩
    simpa using I.kIn a _ h1
def rCatL (K : PySem.W.Frag) : R2 := fun x y H Q => ∃ l c xs zs, x = .ref l ∧ y = .ref c ∧ LsAt K H l xs ∧ LsAt K H c zs ∧ xs.length + zs.length ≤ sizeLine ∧ ∀ p, H p = none → Q (.ref p) (upd H p (.lst (xs ++ zs)))
theorem op_catL {X : Cx} : OpR X (binaryOp .Add) (rCatL X.K) := by
  intro pins s σ H x y v u Q I rx ry h
  obtain ⟨l, c, xs, zs, rfl, rfl, hH, hB, hz, q⟩ := h
  cases rx
  cases ry
  obtain ⟨z, its, n, r, hl, e⟩ := hH.obj I
  obtain ⟨z2, its2, n2, r2, hl2, e2⟩ := hB.obj I
  refine PySem.P.add_list e e2 ?_ (by rw [List.size_toArray, List.size_toArray]; omega)
  have ea : its.toArray ++ its2.toArray = (its ++ its2).toArray := by simp
  rw [ea]
  exact ⟨.ref _, _, I.lnew (t' := s.toks) (r.append r2) (by rw [List.length_append]; omega), rfl, q _ I.fresh⟩
theorem Rp.ls {K : PySem.W.Frag} {H : Hp} {O : Addr → Prop} {v : V} {ds : List PyData} (h : Rp K H O v (.list ds)) : ∃ a xs, v = .ref a ∧ LsAt K H a xs ∧ RpA K H O xs ds := by
  cases h with
  | lst r _ s => exact ⟨_, _, rfl, .inl r, s⟩
  | lstK r s => exact ⟨_, _, rfl, .inr r, s⟩
abbrev rAddAny (K : PySem.W.Frag) : R2 := fun x y H Q => (fun x y H Q => rI0 (fun i j => .int (i + j)) x y H Q ∨ rCatT K x y H Q) x y H Q ∨ (fun x y H Q => ∃ i j, x = .str i ∧ y = .str j ∧ i.length + j.length ≤ sizeLine ∧ Q (.str (i ++ j)) H) x y H Q ∨ rCatL K x y H Q
theorem opr_add {X : Cx} : OpR X (binaryOp .Add) (rAddAny X.K) := (op_add.or op_catT).or (op_add_str.or op_catL)
theorem million : (1000000 : Nat) ≤ sizeLine := by rw [sizeLine_eq]; decide
theorem opd_add : OpD K (rAddAny K) gAdd := by
  intro H O x y dx dy d Q ho rx ry e q
  unfold gAdd at e
  split at e
  · rename_i i j
    cases e
    exact .inl (.inl ⟨i, j, rx.int_of, ry.int_of, q _ _ (.refl H) (.int _)⟩)
  · rename_i xs ys
    split at e
    · rename_i hc
      cases e
      obtain ⟨a, vs, rfl, ha, ra⟩ := rx.sqT
      obtain ⟨c, ws, rfl, hc', rc⟩ := ry.sqT
      have l1 := ra.length
      have l2 := rc.length
      have hm := million
      refine .inl (.inr ⟨a, c, vs, ws, rfl, rfl, ha, hc', fun z => ?_, by omega, fun z => ?_, fun z p hp => ?_⟩)
      · subst z; exact hc.1 (List.length_eq_zero_iff.mp l1.symm)
      · subst z
        have : ys = [] := List.length_eq_zero_iff.mp l2.symm
        subst this
        rw [List.append_nil] at q
        exact q _ _ (.refl H) rx
      · have s : Same H (upd H p (.tup (vs ++ ws))) := fun a u e => by rw [upd_ne (ne_of_none e hp)]; exact e
        exact q _ _ s (.tup (.inl upd_same) ((ra.append rc).same s))
    · cases e
  · rename_i i j
    split at e
    · rename_i hc
      cases e
      have hm := million
      exact .inr (.inl ⟨i, j, rx.str_of, ry.str_of, by omega, q _ _ (.refl H) (.str _)⟩)
    · cases e
  · rename_i xs ys
    split at e
    · rename_i hc
      cases e
      obtain ⟨a, vs, rfl, ha, ra⟩ := rx.ls
      obtain ⟨c, ws, rfl, hc', rc⟩ := ry.ls
      have l1 := ra.length
      have l2 := rc.length
      have hm := million
      refine .inr (.inr ⟨a, c, vs, ws, rfl, rfl, ha, hc', by omega, fun p hp => ?_⟩)
      have s : Same H (upd H p (.lst (vs ++ ws))) := fun a u e => by rw [upd_ne (ne_of_none e hp)]; exact e
      refine q _ _ s (.lst (.inl upd_same) (fun z => ?_) ((ra.append rc).same s))
      obtain ⟨u, hu⟩ := ho _ z
      rw [hp] at hu; cases hu
    · cases e
  · cases e
theorem same_upd {H : Hp} {p : Addr} {u : HO} (hp : H p = none) : Same H (upd H p u) := fun a u e => by rw [upd_ne (ne_of_none e hp)]; exact e
/-! comparisons -/
@[simp] def gCmp (k : Int → Int → Bool) : PyData → PyData → Option Bool
  | .int i, .int j => some (k i j)
  | _, _ => none
theorem opb_cmp {k : Int → Int → Bool} : OpB K (rI0 fun i j => .bl (k i j)) (bo (gCmp k)) := by
  intro H O x y dx dy d Q ho rx ry e q
  unfold bo gCmp at e
  split at e
  · rename_i i j
    cases e
    exact ⟨i, j, (rx.rp fun _ z => nomatch z).int_of, (ry.rp fun _ z => nomatch z).int_of, q _ _ (.refl H) (.bl _)⟩
  · cases e
@[simp] def gEq (x y : PyData) : Option Bool := if (SeqAt.shaped x && SeqAt.shaped y) = true then some (PyData.eqv x y) else none
@[simp] def gNe (x y : PyData) : Option Bool := if (SeqAt.shaped x && SeqAt.shaped y) = true then some (!PyData.eqv x y) else none
theorem opb_eq : OpB K (rEqD K) (bo gEq) := by
  intro H O x y dx dy d Q ho rx ry e q
  unfold bo gEq at e
  split at e
  · rename_i h
    cases e
    rw [Bool.and_eq_true] at h
    exact ⟨dx, dy, rx.dp, ry.dp, h.1, h.2, q _ _ (.refl H) (.bl _)⟩
  · cases e
theorem opb_ne : OpB K (rNeD K) (bo gNe) := by
  intro H O x y dx dy d Q ho rx ry e q
  unfold bo gNe at e
  split at e
  · rename_i h
    cases e
    rw [Bool.and_eq_true] at h
    exact ⟨dx, dy, rx.dp, ry.dp, h.1, h.2, q _ _ (.refl H) (.bl _)⟩
  · cases e
@[simp] def isNon : PyData → Bool
  | .none => true
  | _ => false
@[simp] def gIsN (x y : PyData) : Option Bool := if isNon y = true then some (isNon x) else none
@[simp] def gNotN (x y : PyData) : Option Bool := if isNon y = true then some (!isNon x) else none
theorem isNon_iff {H : Hp} {O : Addr → Prop} {x : V} {d : PyData} (r : RpB K H O x d) : decide (x = .non) = isNon d := by
  rcases r with r | ⟨a, vs, ds, rfl, rfl, _, _⟩
  · cases r <;> rfl
  · rfl
theorem isNon_of {H : Hp} {O : Addr → Prop} {x : V} {d : PyData} (r : RpB K H O x d) (h : isNon d = true) : x = .non := by
  rw [← isNon_iff r] at h
  exact of_decide_eq_true h
theorem opb_isN : OpB K (fun x y H Q => y = .non ∧ Q (.bl (decide (x = .non))) H) (bo gIsN) := by
  intro H O x y dx dy d Q ho rx ry e q
  unfold bo gIsN at e
  split at e
  · rename_i h
    cases e
    refine ⟨isNon_of ry h, ?_⟩
    rw [isNon_iff rx]
    exact q _ _ (.refl H) (.bl _)
  · cases e
theorem opb_notN : OpB K (fun x y H Q => y = .non ∧ Q (.bl (!decide (x = .non))) H) (bo gNotN) := by
  intro H O x y dx dy d Q ho rx ry e q
  unfold bo gNotN at e
  split at e
  · rename_i h
    cases e
    refine ⟨isNon_of ry h, ?_⟩
    rw [isNon_iff rx]
    exact q _ _ (.refl H) (.bl _)
  · cases e
/-- x is True, x is False -/
@[simp] def gIsB (x y : PyData) : Option Bool := match x, y with
  | .bool c, .bool k => some (c == k)
  | _, _ => none
@[simp] def gNotB (x y : PyData) : Option Bool := match x, y with
  | .bool c, .bool k => some (!(c == k))
  | _, _ => none
theorem op_isB {X : Cx} : OpR X (compareOp .Is) (fun x y H Q => ∃ c k, x = .bl c ∧ y = .bl k ∧ Q (.bl (c == k)) H) := by
  intro pins s σ H x y v u Q I rx ry h
  obtain ⟨c, k, rfl, rfl, q⟩ := h
  cases rx
  cases ry
  exact is_bool (fin_bl I q rfl)
theorem op_notB {X : Cx} : OpR X (compareOp .IsNot) (fun x y H Q => ∃ c k, x = .bl c ∧ y = .bl k ∧ Q (.bl (!(c == k))) H) := by
  intro pins s σ H x y v u Q I rx ry h
  obtain ⟨c, k, rfl, rfl, q⟩ := h
  cases rx
  cases ry
  exact isnot_bool (fin_bl I q rfl)
theorem opb_isB : OpB K (fun x y H Q => ∃ c k, x = .bl c ∧ y = .bl k ∧ Q (.bl (c == k)) H) (bo gIsB) := by
  intro H O x y dx dy d Q ho rx ry e q
  unfold bo gIsB at e
  split at e
  · rename_i c k
    cases e
    exact ⟨c, k, (rx.rp fun _ z => nomatch z).bl_of, (ry.rp fun _ z => nomatch z).bl_of, q _ _ (.refl H) (.bl _)⟩
  · cases e
theorem opb_notB : OpB K (fun x y H Q => ∃ c k, x = .bl c ∧ y = .bl k ∧ Q (.bl (!(c == k))) H) (bo gNotB) := by
  intro H O x y dx dy d Q ho rx ry e q
  unfold bo gNotB at e
  split at e
  · rename_i c k
    cases e
    exact ⟨c, k, (rx.rp fun _ z => nomatch z).bl_of, (ry.rp fun _ z => nomatch z).bl_of, q _ _ (.refl H) (.bl _)⟩
  · cases e
end
end DL
namespace DL
open PySem PySem.Spec PyProof.Rows L2
section
variable {X : Cx} {b : Bs} {e e1 e2 e3 : Expr} {es rest : List Expr} {f f1 f2 f3 : FE} {fs : FA} {ft ft1 ft2 : FT} {L La Lb Lc : List Nat} {pos : Pos}

/-! ### tests -/
@[simp] def tAndD (f1 f2 : FT) (env : En) : Rz Bool := (f1 env).bind fun c => match c with | true => f2 env | false => .ok false
@[simp] def tOrD (f1 f2 : FT) (env : En) : Rz Bool := (f1 env).bind fun c => match c with | true => .ok true | false => f2 env
@[simp] def tNotD (f1 : FT) (env : En) : Rz Bool := (f1 env).bind fun c => .ok (!c)
theorem dw_and1 (h : DT X b e ft) : DW X b (.BoolOp .And [e] pos) ft := pw_and1 h
theorem dw_or1 (h : DT X b e ft) : DW X b (.BoolOp .Or [e] pos) ft := pw_or1 h
theorem dw_and (h1 : DT X b e1 ft1) (h2 : DW X b (.BoolOp .And (e2 :: rest) pos) ft2) : DW X b (.BoolOp .And (e1 :: e2 :: rest) pos) (tAndD ft1 ft2) :=
  PW.wk (pw_and h1 h2) fun σ H Q ⟨env, o, R, h⟩ => ⟨env, o, R, h.bind.imp fun c _ h H1 s1 => by
    cases c with
    | true => rw [if_pos rfl]; exact ⟨env, o, R.same s1, h.imp fun c _ h H2 s2 => h H2 (s1.trans s2)⟩
    | false => rw [if_neg Bool.false_ne_true]; exact h H1 s1⟩
theorem dw_or (h1 : DT X b e1 ft1) (h2 : DW X b (.BoolOp .Or (e2 :: rest) pos) ft2) : DW X b (.BoolOp .Or (e1 :: e2 :: rest) pos) (tOrD ft1 ft2) :=
  PW.wk (pw_or h1 h2) fun σ H Q ⟨env, o, R, h⟩ => ⟨env, o, R, h.bind.imp fun c _ h H1 s1 => by
    cases c with
    | false => rw [if_neg Bool.false_ne_true]; exact ⟨env, o, R.same s1, h.imp fun c _ h H2 s2 => h H2 (s1.trans s2)⟩
    | true => rw [if_pos rfl]; exact h H1 s1⟩
theorem dt_w (h : DW X b e ft) : DT X b e ft := PW.pt h
theorem dt_not (h : DT X b e ft) : DT X b (.UnaryOp .Not e pos) (tNotD ft) :=
  PT.wk (pt_not h) fun σ H Q ⟨env, o, R, h⟩ => ⟨env, o, R, h.bind.imp fun c _ h H1 s1 => h H1 s1⟩
@[simp] def truth : PyData → Option Bool
  | .none => some false
  | .bool c => some c
  | .int i => some (i != 0)
  | .str x => if x.length ≤ 1000000 then some ((x.length : Int) != 0) else none
  | .list xs => some (!xs.isEmpty)
  | .tuple xs => some (!xs.isEmpty)
  | .dict _ => none
theorem isEmpty_rp {K : PySem.W.Frag} {H : Hp} {O : Addr → Prop} {vs : List V} {ds : List PyData} (r : RpA K H O vs ds) : vs.isEmpty = ds.isEmpty := by
  cases r <;> rfl
theorem tru_of {K : PySem.W.Frag} {H : Hp} {O : Addr → Prop} {x : V} {d : PyData} {c : Bool} (r : RpB K H O x d) (h : truth d = some c) : TruV K x H c := by
  cases d with
  | none => cases h; cases (r.rp fun _ z => nomatch z).non_of; rfl
  | bool k => cases h; cases (r.rp fun _ z => nomatch z).bl_of; rfl
  | int i => cases h; cases (r.rp fun _ z => nomatch z).int_of; rfl
  | str x =>
    cases (r.rp fun _ z => nomatch z).str_of
    replace h : (if x.length ≤ 1000000 then some ((x.length : Int) != 0) else none) = some c := h
    split at h
    · rename_i hz; cases h; exact ⟨Nat.le_trans hz million, rfl⟩
    · cases h
  | list ds =>
    cases h
    obtain ⟨a, xs, rfl, h1, h2⟩ := r.sqL
    exact .inl ⟨xs, h1, by rw [isEmpty_rp h2]⟩
  | tuple ds =>
    cases h
    obtain ⟨a, xs, rfl, h1, h2⟩ := r.sqT
    exact .inr (.inl ⟨xs, h1, by rw [isEmpty_rp h2]⟩)
  | dict _ => cases h
@[simp] def tTru (f : FE) (env : En) : Rz Bool := (f env).bind fun d => Rz.of (truth d)
theorem dt_tru (h : DB X b e f L) (he : ∀ whole, isTrue e X.env whole = (do let v ← whole; standAt e.pos; holding [v] (truthy v)) := by intro _; rfl) : DT X b e (tTru f) :=
  PT.wk (pt_truth h he) fun σ H Q ⟨env, o, R, h⟩ => ⟨env, o, R, h.bind.imp fun d _ h v H1 s1 r1 => let ⟨c, e, h⟩ := h.of; ⟨c, tru_of r1 e, h H1 s1⟩⟩
/-! chains -/
@[simp] def cCh (g g' : PyData → PyData → Option Bool) (f1 f2 f3 : FE) (env : En) : Rz PyData := (f1 env).bind fun x => (f2 env).bind fun y => (Rz.of (g x y)).bind fun c => match c with
  | false => .ok (.bool false)
  | true => (f3 env).bind fun z => Rz.of ((g' y z).map .bool)
@[simp] def tCh (g g' : PyData → PyData → Option Bool) (f1 f2 f3 : FE) (env : En) : Rz Bool := (f1 env).bind fun x => (f2 env).bind fun y => (Rz.of (g x y)).bind fun c => match c with
  | false => .ok false
  | true => (f3 env).bind fun z => Rz.of (g' y z)
theorem chain_rd {K : PySem.W.Frag} {σ : L2.St} {H : Hp} {Q : VK} {r r' : R2} {g g' : PyData → PyData → Option Bool} (hd : OpB K r (bo g)) (hd' : OpB K r' (bo g')) {env : En} {o : Nat → Addr} (R : RS K b H env σ o)
    (h : Pz K b (tCh g g' f1 f2 f3 env) fun c => ∀ H', Same H H' → Q (.bl c) H') : tChain r r' (tDB K b f1 La) (tDB K b f2 Lb) (tDB K b f3 Lc) σ H Q := by
  refine ⟨env, o, R, h.bind.imp fun dx _ h x H1 s1 r1 => ?_⟩
  refine ⟨env, o, R.same s1, h.bind.imp fun dy _ h y H2 s2 r2 => ?_⟩
  have h := h.bind
  obtain ⟨c, e, h⟩ := h.of
  have R2 := (R.same s1).same s2
  have le1 : ∀ a, Ex b (frees (La ++ (Lb ++ Lc)) env) o a → Ex b (frees La env) o a := fun a z => (ex_frees_app z).1
  have le2 : ∀ a, Ex b (frees (La ++ (Lb ++ Lc)) env) o a → Ex b (frees Lb env) o a := fun a z => (ex_frees_app (ex_frees_app z).2).1
  have le3 : ∀ a, Ex b (frees (La ++ (Lb ++ Lc)) env) o a → Ex b (frees Lc env) o a := fun a z => (ex_frees_app (ex_frees_app z).2).2
  refine hd H2 (Ex b (frees (La ++ (Lb ++ Lc)) env) o) x y dx dy (.bool c) _ (fun a z => (R2.frees _).dom z) (r1.move s2 le1) (r2.move (.refl _) le2) (by unfold bo; rw [e]; rfl) fun v H3 s3 r3 => ?_
  cases r3.bl_of
  refine ⟨c, rfl, ?_⟩
  cases c with
  | false => rw [if_neg Bool.false_ne_true]; exact h H3 ((s1.trans s2).trans s3)
  | true =>
    rw [if_pos rfl]
    refine ⟨env, o, R2.same s3, h.bind.imp fun dz _ h z H4 s4 r4 => ?_⟩
    obtain ⟨k, e', h⟩ := h.of
    have R4 := (R2.same s3).same s4
    refine hd' H4 (Ex b (frees (La ++ (Lb ++ Lc)) env) o) y z dy dz (.bool k) _ (fun a z => (R4.frees _).dom z) (r2.move (s3.trans s4) le2) (r4.move (.refl _) le3) (by unfold bo; rw [e']; rfl) fun v H5 s5 r5 => ?_
    cases r5.bl_of
    exact h H5 ((((s1.trans s2).trans s3).trans s4).trans s5)
theorem dt_ch {op op' : CmpOp} {r r' : R2} {g g' : PyData → PyData → Option Bool} (ho : OpR X (compareOp op) r) (ho' : OpR X (compareOp op') r') (hd : OpB X.K r (bo g)) (hd' : OpB X.K r' (bo g'))
    (h1 : DB X b e1 f1 La) (h2 : DB X b e2 f2 Lb) (h3 : DB X b e3 f3 Lc) (hm : lastMarks [op, op'] [e2, e3] = false := by with_unfolding_all rfl) : DT X b (.Compare e1 [op, op'] [e2, e3] pos) (tCh g g' f1 f2 f3) :=
  PT.wk (pt_chain ho ho' h1 h2 h3 hm) fun σ H Q ⟨env, o, R, h⟩ => chain_rd hd hd' R (h.imp fun c _ h H' s => ⟨c, rfl, h H' s⟩)
theorem de_ch {op op' : CmpOp} {r r' : R2} {g g' : PyData → PyData → Option Bool} (ho : OpR X (compareOp op) r) (ho' : OpR X (compareOp op') r') (hd : OpB X.K r (bo g)) (hd' : OpB X.K r' (bo g'))
    (h1 : DB X b e1 f1 La) (h2 : DB X b e2 f2 Lb) (h3 : DB X b e3 f3 Lc) (hm : lastMarks [op, op'] [e2, e3] = false := by with_unfolding_all rfl) : DE X b (.Compare e1 [op, op'] [e2, e3] pos) (fun env => (tCh g g' f1 f2 f3 env).bind fun c => .ok (.bool c)) [] :=
  PE.wk (pe_chain ho ho' h1 h2 h3 hm) fun σ H Q ⟨env, o, R, h⟩ => chain_rd hd hd' R (h.bind.imp fun c _ h H' s => h _ _ s (.bl c))

/-! ### and, or, not as values -/
@[simp] def cAndD (f1 f2 : FE) (env : En) : Rz PyData := (f1 env).bind fun x => match x with
  | .bool true => f2 env
  | .bool false => .ok (.bool false)
  | _ => .st
@[simp] def cOrD (f1 f2 : FE) (env : En) : Rz PyData := (f1 env).bind fun x => match x with
  | .bool true => .ok (.bool true)
  | .bool false => f2 env
  | _ => .st
@[simp] def gNot : PyData → Option PyData
  | .bool c => some (.bool (!c))
  | _ => none
theorem de_one {op : BoolOp} (h : DE X b e f L) : DE X b (.BoolOp op [e] pos) f L := pe_one h
theorem de_and (h1 : DE X b e1 f1 La) (h2 : DE X b (.BoolOp .And (e2 :: rest) pos) f2 Lb) : DE X b (.BoolOp .And (e1 :: e2 :: rest) pos) (cAndD f1 f2) Lb :=
  PE.wk (pe_and h1 h2) fun σ H Q ⟨env, o, R, h⟩ => ⟨env, o, R, h.bind.imp fun x _ h v H1 s1 r1 => by
    split at h
    · cases r1.bl_of
      refine ⟨true, rfl, ?_⟩
      rw [if_pos rfl]
      exact ⟨env, o, R.same s1, h.imp fun d _ h w H2 s2 r2 => h w H2 (s1.trans s2) r2⟩
    · cases r1.bl_of
      refine ⟨false, rfl, ?_⟩
      rw [if_neg Bool.false_ne_true]
      exact h _ H1 s1 (.bl false)
    · exact False.elim h⟩
theorem de_or (h1 : DE X b e1 f1 La) (h2 : DE X b (.BoolOp .Or (e2 :: rest) pos) f2 Lb) : DE X b (.BoolOp .Or (e1 :: e2 :: rest) pos) (cOrD f1 f2) Lb :=
  PE.wk (pe_or h1 h2) fun σ H Q ⟨env, o, R, h⟩ => ⟨env, o, R, h.bind.imp fun x _ h v H1 s1 r1 => by
    split at h
    · cases r1.bl_of
      refine ⟨true, rfl, ?_⟩
      rw [if_pos rfl]
      exact h _ H1 s1 (.bl true)
    · cases r1.bl_of
      refine ⟨false, rfl, ?_⟩
      rw [if_neg Bool.false_ne_true]
      exact ⟨env, o, R.same s1, h.imp fun d _ h w H2 s2 r2 => h w H2 (s1.trans s2) r2⟩
    · exact False.elim h⟩
theorem de_not (h : DE X b e f L) : DE X b (.UnaryOp .Not e pos) (c1 gNot f) [] :=
  PE.wk (pe_not h) fun σ H Q ⟨env, o, R, h⟩ => ⟨env, o, R, h.bind.imp fun x _ h v H1 s1 r1 => by
    obtain ⟨d, e, h⟩ := h.of
    unfold gNot at e
    split at e
    · cases e
      cases r1.bl_of
      exact ⟨_, rfl, h _ H1 s1 (.bl _)⟩
    · cases e⟩
/-! ### a if t else b -/
@[simp] def cIf (t : FT) (f1 f2 : FE) (env : En) : Rz PyData := (t env).bind fun c => match c with | true => f1 env | false => f2 env
theorem de_if (ht : DT X b e ft) (h1 : DE X b e1 f1 La) (h2 : DE X b e2 f2 Lb) : DE X b (.IfExp e e1 e2 pos) (cIf ft f1 f2) (La ++ Lb) :=
  PE.wk (pe_ifExp ht h1 h2) fun σ H Q ⟨env, o, R, h⟩ => ⟨env, o, R, h.bind.imp fun c _ h H1 s1 => by
    cases c with
    | true => rw [if_pos rfl]; exact ⟨env, o, R.same s1, h.imp fun d _ h w H2 s2 r2 => h w H2 (s1.trans s2) (r2.less fun a z => (ex_frees_app z).1)⟩
    | false => rw [if_neg Bool.false_ne_true]; exact ⟨env, o, R.same s1, h.imp fun d _ h w H2 s2 r2 => h w H2 (s1.trans s2) (r2.less fun a z => (ex_frees_app z).2)⟩⟩

/-! ### argument lists and displays -/
@[simp] def aNil (_ : En) : Rz (List PyData) := .ok []
@[simp] def aCons (f : FE) (fs : FA) (env : En) : Rz (List PyData) := (f env).bind fun x => (fs env).bind fun xs => .ok (x :: xs)
theorem da_nil : DA X b [] aNil [] := PA.wk pa_nil fun σ H Q ⟨_, _, _, h⟩ => h [] H (.refl H) .nil
theorem da_cons (h1 : DE X b e f La) (h2 : DA X b es fs Lb) (hs : starEach (e :: es) X.env = (false, eval e X.env) :: starEach es X.env := by rfl) : DA X b (e :: es) (aCons f fs) (La ++ Lb) :=
  PA.wk (pa_cons h1 h2 hs) fun σ H Q ⟨env, o, R, h⟩ => ⟨env, o, R, h.bind.imp fun x _ h v H1 s1 r1 => ⟨env, o, R.same s1, h.bind.imp fun xs _ h vs H2 s2 r2 =>
    h (v :: vs) H2 (s1.trans s2) (.cons ((r1.same s2).less fun a z => (ex_frees_app z).1) (r2.less fun a z => (ex_frees_app z).2))⟩⟩
@[simp] def cTup (fs : FA) (env : En) : Rz PyData := (fs env).bind fun xs => if xs.length ≤ 1000000 then .ok (.tuple xs) else .st
theorem de_tup {k : Nat} (h : DA X b es fs L) : DE X b (.Tuple es k pos) (cTup fs) L :=
  PE.wk (pe_tup h) fun σ H Q ⟨env, o, R, h⟩ => ⟨env, o, R, h.bind.imp fun xs _ h vs H1 s1 r1 => by
    split at h
    · rename_i hz
      refine ⟨by rw [r1.length]; exact Nat.le_trans hz million, fun p hp => h _ _ (s1.trans (same_upd hp)) (.tup (.inl upd_same) (r1.same (same_upd hp)))⟩
    · exact False.elim h⟩
theorem rpa_new {K : PySem.W.Frag} {H : Hp} {O : Addr → Prop} {p : Addr} {u : HO} {vs : List V} {ds : List PyData} (hp : H p = none) (r : RpA K H O vs ds) : RpA K (upd H p u) (fun c => O c ∨ c = p) vs ds :=
  Rp.moveA (.of_same (same_upd hp)) (fun a z => z.elim .inl fun z => .inr (by rw [z]; exact hp)) ds vs r
@[simp] def cLst (fs : FA) (env : En) : Rz (List PyData) := (fs env).bind fun xs => if xs.length ≤ 1000000 then .ok xs else .st
theorem do_lst (h : DA X b es fs L) : DO X b (.List es pos) (cLst fs) L :=
  PE.wk (pe_lst h) fun σ H Q ⟨env, o, R, h⟩ => ⟨env, o, R, h.bind.imp fun xs _ h vs H1 s1 r1 => by
    split at h
    · rename_i hz
      refine ⟨by rw [r1.length]; exact Nat.le_trans hz million, fun p hp => h p vs _ (s1.trans (same_upd hp)) ?_ upd_same (rpa_new hp r1)⟩
      cases q : H p with
      | none => rfl
      | some u => rw [s1 _ _ q] at hp; cases hp
    · exact False.elim h⟩

/-! ### x[i], x[a:b] -/
@[simp] def gIx : PyData → PyData → Option PyData
  | .list xs, .int i => atI xs i
  | .tuple xs, .int i => atI xs i
  | .str z, .int i => if z.length ≤ 1000000 then (atI z.cps.toList i).map fun c => .str ⟨#[c]⟩ else none
  | _, _ => none
theorem rpa_at {K : PySem.W.Frag} {H : Hp} {O : Addr → Prop} {vs : List V} {ds : List PyData} {i : Int} {d : PyData} (r : RpA K H O vs ds) (h : atI ds i = some d) : ∃ v, atI vs i = some v ∧ Rp K H O v d := by
  unfold atI at h ⊢
  rw [r.length]
  cases q : ixN ds.length i with
  | none => rw [q] at h; cases h
  | some j =>
    rw [q] at h
    obtain ⟨v, h1, h2⟩ := r.get (i := j) h
    exact ⟨v, h1, h2⟩
theorem opb_ix {K : PySem.W.Frag} : OpB K (rIx K) gIx := by
  intro H O x y dx dy d Q ho rx ry e q
  unfold gIx at e
  split at e
  · rename_i xs i
    obtain ⟨a, vs, rfl, h1, h2⟩ := rx.sqL
    obtain ⟨v, h3, h4⟩ := rpa_at h2 e
    exact .inl ⟨a, vs, i, v, rfl, (ry.rp fun _ z => nomatch z).int_of, h1, h3, q _ _ (.refl H) h4⟩
  · rename_i xs i
    obtain ⟨a, vs, rfl, h1, h2⟩ := rx.sqT
    obtain ⟨v, h3, h4⟩ := rpa_at h2 e
    exact .inr (.inl ⟨a, vs, i, v, rfl, (ry.rp fun _ z => nomatch z).int_of, h1, h3, q _ _ (.refl H) h4⟩)
  · rename_i z i
    split at e
    · rename_i hz
      cases q2 : atI z.cps.toList i with
      | none => rw [q2] at e; cases e
      | some c =>
        rw [q2] at e
        cases e
        exact .inr (.inr ⟨z, i, c, (rx.rp fun _ z => nomatch z).str_of, (ry.rp fun _ z => nomatch z).int_of, Nat.le_trans hz million, q2, q _ _ (.refl H) (.str _)⟩)
    · cases e
  · cases e
theorem de_ix (h1 : DB X b e1 f1 La) (h2 : DB X b e2 f2 Lb) (hs : PlainIx e2 := by exact fun _ _ => rfl) : DE X b (.Subscript e1 e2 pos) (c2 gIx f1 f2) (La ++ Lb) :=
  PE.wk (pe_ix ix_seq h1 h2 hs) fun _ _ _ h => twoB h opb_ix
/-- a part of a slice -/
abbrev FP := En → Rz (Option Int)
def tDP (K : PySem.W.Frag) (b : Bs) (f : FP) : TO := fun σ H Q => ∃ env o, RS K b H env σ o ∧ Pz K b (f env) fun l => ∀ H', Same H H' → Q l H'
def DP (X : Cx) (b : Bs) (e : Option Expr) (f : FP) : Prop := PO X e (tDP X.K b f)
theorem PO.wk {e : Option Expr} {t t' : TO} (h : PO X e t) (k : ∀ σ H Q, t' σ H Q → t σ H Q) : PO X e t' := ⟨fun pins s σ H Q I q => h.run pins s σ H Q I (k σ H Q q)⟩
@[simp] def pNo (_ : En) : Rz (Option Int) := .ok none
@[simp] def pSo (f : FE) (env : En) : Rz (Option Int) := (f env).bind fun d => match d with | .int i => .ok (some i) | _ => .st
theorem dp_no : DP X b none pNo := PO.wk po_none fun σ H Q ⟨_, _, _, h⟩ => h H (.refl H)
theorem dp_so (h : DE X b e f L) : DP X b (some e) (pSo f) := PO.wk (po_some h) fun σ H Q ⟨env, o, R, h⟩ => ⟨env, o, R, h.bind.imp fun d _ h v H1 s1 r1 => by
  split at h
  · exact ⟨_, r1.int_of, h H1 s1⟩
  · exact False.elim h⟩
def cutA {α : Type} (xs : List α) (lo hi : Option Int) : List α := (xs.drop (HT.sIx xs.length 0 lo)).take (HT.sIx xs.length xs.length hi - HT.sIx xs.length 0 lo)
theorem cutA_whole {α : Type} {xs : List α} {lo hi : Option Int} (w1 : HT.sIx xs.length 0 lo = 0) (w2 : HT.sIx xs.length xs.length hi = xs.length) : cutA xs lo hi = xs := by
  unfold cutA
  rw [w1, w2, List.drop_zero, Nat.sub_zero, List.take_length]
@[simp] def gSl : PyData → Option Int → Option Int → Option PyData
  | .tuple xs, lo, hi => some (.tuple (cutA xs lo hi))
  | .str z, lo, hi => if z.length ≤ 1000000 then some (.str (cutS z lo hi)) else none
  | _, _, _ => none
theorem rpa_cut {K : PySem.W.Frag} {H : Hp} {O : Addr → Prop} {vs : List V} {ds : List PyData} (lo hi : Option Int) (r : RpA K H O vs ds) : RpA K H O (cutV vs lo hi) (cutA ds lo hi) := by
  unfold cutV cutA
  rw [r.length]
  exact (r.drop _).take _
@[simp] def cSl (f : FE) (lo hi : FP) (env : En) : Rz PyData := (f env).bind fun x => (lo env).bind fun l => (hi env).bind fun h => Rz.of (gSl x l h)
theorem de_sl {lo hi : Option Expr} {fl fh : FP} {p2 : Pos} (h1 : DE X b e f L) (hl : DP X b lo fl) (hh : DP X b hi fh) : DE X b (.Subscript e (.Slice lo hi none p2) pos) (cSl f fl fh) L :=
  PE.wk (pe_slice (sl_tupA.or sl_str) h1 hl hh) fun σ H Q ⟨env, o, R, h⟩ => ⟨env, o, R, h.bind.imp fun x _ h v H1 s1 r1 => ⟨env, o, R.same s1, h.bind.imp fun l _ h H2 s2 =>
    ⟨env, o, (R.same s1).same s2, h.bind.imp fun u _ h H3 s3 => by
      obtain ⟨d, eq, h⟩ := h.of
      have s := (s1.trans s2).trans s3
      have r3 := r1.same (s2.trans s3)
      cases x with
      | tuple xs =>
        cases eq
        obtain ⟨a, vs, rfl, q1, q2⟩ := r3.sqT
        refine .inl ⟨a, vs, rfl, q1, fun w => ?_, fun w p hp => ?_⟩
        · rw [q2.length] at w
          rw [cutA_whole w.1 w.2] at h
          exact h _ H3 s r3
        · exact h _ _ (s.trans (same_upd hp)) (.tup (.inl upd_same) ((rpa_cut l u q2).same (same_upd hp)))
      | str z =>
        replace eq : (if z.length ≤ 1000000 then some (PyData.str (cutS z l u)) else none) = some d := eq
        split at eq
        · rename_i hz
          cases eq
          exact .inr ⟨z, r3.str_of, Nat.le_trans hz million, h _ H3 s (.str _)⟩
        · cases eq
      | _ => cases eq⟩⟩⟩
/-- of a list: a new list -/
@[simp] def oSl (f : FE) (lo hi : FP) (env : En) : Rz (List PyData) := (f env).bind fun x => (lo env).bind fun l => (hi env).bind fun h => match x with | .list xs => .ok (cutA xs l h) | _ => .st
theorem do_sl {lo hi : Option Expr} {fl fh : FP} {p2 : Pos} (h1 : DB X b e f L) (hl : DP X b lo fl) (hh : DP X b hi fh) : DO X b (.Subscript e (.Slice lo hi none p2) pos) (oSl f fl fh) L :=
  PE.wk (pe_slice sl_list h1 hl hh) fun σ H Q ⟨env, o, R, h⟩ => ⟨env, o, R, h.bind.imp fun x _ h v H1 s1 r1 => ⟨env, o, R.same s1, h.bind.imp fun l _ h H2 s2 =>
    ⟨env, o, (R.same s1).same s2, h.bind.imp fun u _ h H3 s3 => by
      have s := (s1.trans s2).trans s3
      have r3 := r1.move (s2.trans s3) fun a z => z
      split at h
      · rename_i xs
        obtain ⟨a, vs, rfl, q1, q2⟩ := r3.sqL
        refine ⟨a, vs, rfl, q1, fun p hp => h p _ _ (s.trans (same_upd hp)) (s.free hp) upd_same (rpa_new hp (rpa_cut l u q2))⟩
      · exact False.elim h⟩⟩⟩

/-! ### in, not in -/
@[simp] def gIn : PyData → PyData → Option Bool
  | d, .list ds => if (SeqAt.shaped d && SeqAt.shaped (.list ds)) = true then some (ds.any fun z => PyData.eqv z d) else none
  | d, .tuple ds => if (SeqAt.shaped d && SeqAt.shaped (.tuple ds)) = true then some (ds.any fun z => PyData.eqv z d) else none
  | _, _ => none
@[simp] def gNin (x y : PyData) : Option Bool := (gIn x y).map not
def rInT (K : PySem.W.Frag) : R2 := fun x y H Q => ∃ d ds, Dp K H x d ∧ Dp K H y (.tuple ds) ∧ SeqAt.shaped d = true ∧ SeqAt.shaped (.tuple ds) = true ∧ Q (.bl (ds.any fun z => PyData.eqv z d)) H
def rNinT (K : PySem.W.Frag) : R2 := fun x y H Q => ∃ d ds, Dp K H x d ∧ Dp K H y (.tuple ds) ∧ SeqAt.shaped d = true ∧ SeqAt.shaped (.tuple ds) = true ∧ Q (.bl (!ds.any fun z => PyData.eqv z d)) H
theorem canLay_tuple {ds : List PyData} (h : SeqAt.shaped (.tuple ds) = true) : PyData.canLayAll0 ds = true := SeqAt.canLay_of_shaped h
theorem op_inT (hu : X.A.units + 65 < cLine) : OpR X (compareOp .In) (rInT X.K) := by
  intro pins s σ H x y v u Q I rx ry h
  obtain ⟨d, ds, hd, he, sd, se, q⟩ := h
  obtain ⟨as, r1⟩ := Dp.reads I d x v hd rx
  obtain ⟨bs, r2⟩ := Dp.reads I (.tuple ds) y u he ry
  exact SeqAt.in_tuple_reads r2 r1 (canLay_tuple se) (SeqAt.canLay_of_shaped sd) (room_in_shaped sd hu) ⟨.bl _, H, I, rfl, q⟩
theorem op_ninT (hu : X.A.units + 65 < cLine) : OpR X (compareOp .NotIn) (rNinT X.K) := by
  intro pins s σ H x y v u Q I rx ry h
  obtain ⟨d, ds, hd, he, sd, se, q⟩ := h
  obtain ⟨as, r1⟩ := Dp.reads I d x v hd rx
  obtain ⟨bs, r2⟩ := Dp.reads I (.tuple ds) y u he ry
  exact SeqAt.notIn_tuple_reads r2 r1 (canLay_tuple se) (SeqAt.canLay_of_shaped sd) (room_in_shaped sd hu) ⟨.bl _, H, I, rfl, q⟩
theorem opb_in {K : PySem.W.Frag} : OpB K (fun x y H Q => rInD K x y H Q ∨ rInT K x y H Q) (bo gIn) := by
  intro H O x y dx dy d Q ho rx ry e q
  unfold bo gIn at e
  split at e
  · split at e
    · rename_i h
      cases e
      rw [Bool.and_eq_true] at h
      exact .inl ⟨dx, _, rx.dp, ry.dp, h.1, h.2, q _ _ (.refl H) (.bl _)⟩
    · cases e
  · split at e
    · rename_i h
      cases e
      rw [Bool.and_eq_true] at h
      exact .inr ⟨dx, _, rx.dp, ry.dp, h.1, h.2, q _ _ (.refl H) (.bl _)⟩
    · cases e
  · cases e
theorem opb_nin {K : PySem.W.Frag} : OpB K (fun x y H Q => rNotInD K x y H Q ∨ rNinT K x y H Q) (bo gNin) := by
  intro H O x y dx dy d Q ho rx ry e q
  unfold bo gNin gIn at e
  split at e
  · split at e
    · rename_i h
      cases e
      rw [Bool.and_eq_true] at h
      exact .inl ⟨dx, _, rx.dp, ry.dp, h.1, h.2, q _ _ (.refl H) (.bl _)⟩
    · cases e
  · split at e
    · rename_i h
      cases e
      rw [Bool.and_eq_true] at h
      exact .inr ⟨dx, _, rx.dp, ry.dp, h.1, h.2, q _ _ (.refl H) (.bl _)⟩
    · cases e
  · cases e

/-! ### built-ins by their names -/
/-- of one value -/
def CaD (K : PySem.W.Frag) (r : List V → Hp → VK → Prop) (g : PyData → Option PyData) : Prop :=
  ∀ (H : Hp) (O : Addr → Prop) (x : V) (dx d : PyData) (Q : VK), RpB K H O x dx → g dx = some d → (∀ v H', Same H H' → Rp K H' O v d → Q v H') → r [x] H Q
def CaD2 (K : PySem.W.Frag) (r : List V → Hp → VK → Prop) (g : PyData → PyData → Option PyData) : Prop :=
  ∀ (H : Hp) (O : Addr → Prop) (x y : V) (dx dy d : PyData) (Q : VK), RpB K H O x dx → RpB K H O y dy → g dx dy = some d → (∀ v H', Same H H' → Rp K H' O v d → Q v H') → r [x, y] H Q
variable {x : Str} {p : Pos} {id T : String} {r : List V → Hp → VK → Prop} {g : PyData → Option PyData} {g2 : PyData → PyData → Option PyData}
theorem ca1 {K : PySem.W.Frag} {σ : L2.St} {H : Hp} {Q : VK} (hd : CaD K r g) (h : tD K b (c1 g f) L σ H Q) : tCB r (tCons (tDB K b f L) tNil) σ H Q := by
  obtain ⟨env, o, R, h⟩ := h
  refine ⟨env, o, R, h.bind.imp fun dx _ h v H1 s1 r1 => ?_⟩
  obtain ⟨d, e, h⟩ := h.of
  exact hd H1 _ v dx d Q r1 e fun w H' s r => h w H' (s1.trans s) r
theorem ca2 {K : PySem.W.Frag} {σ : L2.St} {H : Hp} {Q : VK} (hd : CaD2 K r g2) (h : tD K b (c2 g2 f1 f2) (La ++ Lb) σ H Q) : tCB r (tCons (tDB K b f1 La) (tCons (tDB K b f2 Lb) tNil)) σ H Q := by
  obtain ⟨env, o, R, h⟩ := h
  refine ⟨env, o, R, h.bind.imp fun dx _ h v H1 s1 r1 => ⟨env, o, R.same s1, h.bind.imp fun dy _ h w H2 s2 r2 => ?_⟩⟩
  obtain ⟨d, e, h⟩ := h.of
  exact hd H2 (Ex b (frees (La ++ Lb) env) o) v w dx dy d Q (r1.move s2 fun a z => (ex_frees_app z).1) (r2.move (.refl _) fun a z => (ex_frees_app z).2) e fun w H' s r => h w H' ((s1.trans s2).trans s) r
theorem de_b1 (hd : CaD X.K r g) (hc : CallR X (.builtin id) r) (hg : Gl X x) (hm : X.mg x = none) (hv : bootBuiltins x = some (.builtin id)) (h : DB X b e f L) (hn : x ≠ "__name__" := by decide) (hdb : (x == ("__debug__" : Str)) = false := by decide)
    (he : starEach [e] X.env = (false, eval e X.env) :: starEach [] X.env := by rfl) (hpl : (backTo pos (starEach [] X.env)).any (·.1) = false := by rfl) : DE X b (.Call (.Name x p) [e] [] pos) (c1 g f) L :=
  PE.wk (pe_callB hc hg hm hv (pa_cons h pa_nil he) hn hdb he hpl) fun _ _ _ h => ca1 hd h
theorem de_t1 (hd : CaD X.K r g) (hc : CallR X (.type T) r) (hg : Gl X x) (hm : X.mg x = none) (hv : bootBuiltins x = some (.type T)) (h : DB X b e f L) (hn : x ≠ "__name__" := by decide) (hdb : (x == ("__debug__" : Str)) = false := by decide)
    (he : starEach [e] X.env = (false, eval e X.env) :: starEach [] X.env := by rfl) (hpl : (backTo pos (starEach [] X.env)).any (·.1) = false := by rfl) : DE X b (.Call (.Name x p) [e] [] pos) (c1 g f) L :=
  PE.wk (pe_callTy hc hg hm hv (pa_cons h pa_nil he) hn hdb he hpl) fun _ _ _ h => ca1 hd h
theorem de_b2 (hd : CaD2 X.K r g2) (hc : CallR X (.builtin id) r) (hg : Gl X x) (hm : X.mg x = none) (hv : bootBuiltins x = some (.builtin id)) (h1 : DB X b e1 f1 La) (h2 : DB X b e2 f2 Lb) (hn : x ≠ "__name__" := by decide) (hdb : (x == ("__debug__" : Str)) = false := by decide)
    (he : starEach [e1, e2] X.env = (false, eval e1 X.env) :: starEach [e2] X.env := by rfl) (he2 : starEach [e2] X.env = (false, eval e2 X.env) :: starEach [] X.env := by rfl) (hpl : (backTo pos (starEach [e2] X.env)).any (·.1) = false := by rfl) :
    DE X b (.Call (.Name x p) [e1, e2] [] pos) (c2 g2 f1 f2) (La ++ Lb) :=
  PE.wk (pe_callB hc hg hm hv (pa_cons h1 (pa_cons h2 pa_nil he2) he) hn hdb he hpl) fun _ _ _ h => ca2 hd h
@[simp] def gLen : PyData → Option PyData
  | .list xs => some (.int xs.length)
  | .tuple xs => some (.int xs.length)
  | .str z => if z.length ≤ 1000000 then some (.int z.length) else none
  | _ => none
theorem cad_len {K : PySem.W.Frag} : CaD K (fun xs H Q => ∃ x n, xs = [x] ∧ LenV K x H n ∧ Q (.int n) H) gLen := by
  intro H O x dx d Q rx e q
  unfold gLen at e
  split at e
  · cases e
    obtain ⟨a, vs, rfl, h1, h2⟩ := rx.sqL
    exact ⟨_, _, rfl, .inl ⟨vs, h1, h2.length.symm⟩, q _ _ (.refl H) (.int _)⟩
  · cases e
    obtain ⟨a, vs, rfl, h1, h2⟩ := rx.sqT
    exact ⟨_, _, rfl, .inr ⟨vs, h1, h2.length.symm⟩, q _ _ (.refl H) (.int _)⟩
  · split at e
    · rename_i hz
      cases e
      cases (rx.rp fun _ z => nomatch z).str_of
      exact ⟨_, _, rfl, ⟨Nat.le_trans hz million, rfl⟩, q _ _ (.refl H) (.int _)⟩
    · cases e
  · cases e
@[simp] def gInt : PyData → Option PyData
  | .int i => some (.int i)
  | .bool k => some (.int (if k then 1 else 0))
  | _ => none
theorem cad_int {K : PySem.W.Frag} : CaD K (fun xs H Q => (∃ i, xs = [.int i] ∧ Q (.int i) H) ∨ ∃ k, xs = [.bl k] ∧ Q (.int (if k then 1 else 0)) H) gInt := by
  intro H O x dx d Q rx e q
  unfold gInt at e
  split at e
  · cases e
    cases (rx.rp fun _ z => nomatch z).int_of
    exact .inl ⟨_, rfl, q _ _ (.refl H) (.int _)⟩
  · cases e
    cases (rx.rp fun _ z => nomatch z).bl_of
    exact .inr ⟨_, rfl, q _ _ (.refl H) (.int _)⟩
  · cases e
@[simp] def gAbs : PyData → Option PyData
  | .int i => some (.int (if i < 0 then -i else i))
  | _ => none
theorem cad_abs {K : PySem.W.Frag} : CaD K (fun xs H Q => ∃ i, xs = [.int i] ∧ Q (.int (if i < 0 then -i else i)) H) gAbs := by
  intro H O x dx d Q rx e q
  unfold gAbs at e
  split at e
  · cases e
    cases (rx.rp fun _ z => nomatch z).int_of
    exact ⟨_, rfl, q _ _ (.refl H) (.int _)⟩
  · cases e
@[simp] def gMax : PyData → PyData → Option PyData
  | .int i, .int j => some (.int (if j > i then j else i))
  | _, _ => none
@[simp] def gMin : PyData → PyData → Option PyData
  | .int i, .int j => some (.int (if j < i then j else i))
  | _, _ => none
theorem cad_max {K : PySem.W.Frag} : CaD2 K (fun xs H Q => ∃ i j, xs = [.int i, .int j] ∧ Q (.int (if j > i then j else i)) H) gMax := by
  intro H O x y dx dy d Q rx ry e q
  unfold gMax at e
  split at e
  · cases e
    cases (rx.rp fun _ z => nomatch z).int_of
    cases (ry.rp fun _ z => nomatch z).int_of
    exact ⟨_, _, rfl, q _ _ (.refl H) (.int _)⟩
  · cases e
theorem cad_min {K : PySem.W.Frag} : CaD2 K (fun xs H Q => ∃ i j, xs = [.int i, .int j] ∧ Q (.int (if j < i then j else i)) H) gMin := by
  intro H O x y dx dy d Q rx ry e q
  unfold gMin at e
  split at e
  · cases e
    cases (rx.rp fun _ z => nomatch z).int_of
    cases (ry.rp fun _ z => nomatch z).int_of
    exact ⟨_, _, rfl, q _ _ (.refl H) (.int _)⟩
  · cases e
/-- list(xs), list(t): a new list -/
@[simp] def oList (f : FE) (env : En) : Rz (List PyData) := (f env).bind fun x => match x with
  | .list xs => .ok xs
  | .tuple xs => .ok xs
  | _ => .st
theorem do_list (hg : Gl X "list") (hm : X.mg "list" = none) (hv : bootBuiltins "list" = some (.type "list")) (h : DB X b e f L)
    (he : starEach [e] X.env = (false, eval e X.env) :: starEach [] X.env := by rfl) (hpl : (backTo pos (starEach [] X.env)).any (·.1) = false := by rfl) : DO X b (.Call (.Name "list" p) [e] [] pos) (oList f) L :=
  PE.wk (pe_callTy call_list_of hg hm hv (pa_cons h pa_nil he) (by decide) (by decide) he hpl) fun σ H Q ⟨env, o, R, h⟩ => ⟨env, o, R, h.bind.imp fun x _ h v H1 s1 r1 => by
    split at h
    · obtain ⟨a, vs, rfl, q1, q2⟩ := r1.sqL
      exact ⟨a, vs, rfl, .inl q1, fun p hp => h p vs _ (s1.trans (same_upd hp)) (s1.free hp) upd_same (rpa_new hp q2)⟩
    · obtain ⟨a, vs, rfl, q1, q2⟩ := r1.sqT
      exact ⟨a, vs, rfl, .inr q1, fun p hp => h p vs _ (s1.trans (same_upd hp)) (s1.free hp) upd_same (rpa_new hp q2)⟩
    · exact False.elim h⟩
/-! ### isinstance of a built-in class -/
@[simp] def tyD : PyData → Option String
  | .none => some "NoneType"
  | .bool _ => some "bool"
  | .int _ => some "int"
  | .str _ => some "str"
  | .list _ => some "list"
  | .tuple _ => some "tuple"
  | .dict _ => none
@[simp] def isiB (t c : String) : Bool := t == c || (t == "bool" && c == "int")
theorem ty_of {K : PySem.W.Frag} {H : Hp} {O : Addr → Prop} {x : V} {d : PyData} {t : String} (r : RpB K H O x d) (h : tyD d = some t) : TyX K H x (.type t) := by
  rcases r with r | ⟨a, vs, ds, rfl, rfl, h1, _⟩
  · cases r with
    | non => cases h; exact .base .non
    | bl c => cases h; exact .base (.bl c)
    | int i => cases h; exact .base (.int i)
    | str z => cases h; exact .base (.str z)
    | lst q _ _ =>
      cases h
      rcases q with q | ⟨ob, q⟩
      · exact .base (.lst q)
      · exact .base (.frz q)
    | lstK q _ => cases h; obtain ⟨its, n, q1, _⟩ := q; exact .kList q1 rfl
    | tup q _ =>
      cases h
      rcases q with q | ⟨ob, q⟩
      · exact .base (.tup q)
      · exact .fTuple q
    | tupK q _ => cases h; obtain ⟨ob, its, n, q1, q2, _⟩ := q; exact .kTuple q1 q2
  · cases h; exact .base (.lst h1)
/-- what is asked of the class -/
structure Isi (K : PySem.W.Frag) (c : String) : Prop where
  ok : ∀ t ∈ ["NoneType", "bool", "int", "str", "list", "tuple"], PySem.W.kitOne K (.type t) (.type c) = some (isiB t c)
@[simp] def gIsi (c : String) (d : PyData) : Option Bool := (tyD d).map fun t => isiB t c
theorem tyD_mem {d : PyData} {t : String} (h : tyD d = some t) : t ∈ ["NoneType", "bool", "int", "str", "list", "tuple"] := by
  cases d <;> cases h <;> simp
@[simp] def cIsi (c : String) (f : FE) (env : En) : Rz PyData := (f env).bind fun d => Rz.of ((gIsi c d).map .bool)
theorem isi_rd {K : PySem.W.Frag} {c : String} (i : Isi K c) {σ : L2.St} {H : Hp} {Q : VK} {env : En} {o : Nat → Addr} (R : RS K b H env σ o) (h : Pz K b (f env) fun d => ∃ k, gIsi c d = some k ∧ ∀ H', Same H H' → Q (.bl k) H') :
    tCB (rIsi K) (tCons (tDB K b f L) (tCons (tC (.ty c)) tNil)) σ H Q := by
  refine ⟨env, o, R, h.imp fun dx _ h v H1 s1 r1 => ?_⟩
  obtain ⟨k, e, h⟩ := h
  unfold gIsi at e
  cases q : tyD dx with
  | none => rw [q] at e; cases e
  | some t =>
    rw [q] at e
    cases e
    exact ⟨v, .ty c, .type t, .type c, _, rfl, .ty c, ty_of r1 q, i.ok t (tyD_mem q), h H1 s1⟩
variable {c : String} {y : Str} {p2 : Pos}
theorem de_isi (i : Isi X.K c) (hg : Gl X "isinstance") (hm : X.mg "isinstance" = none) (hv : bootBuiltins "isinstance" = some (.builtin "isinstance")) (gy : Gl X y) (my : X.mg y = none) (hy : bootBuiltins y = some (.type c)) (h : DB X b e f L)
    (hn : y ≠ "__name__" := by decide) (hdb : (y == ("__debug__" : Str)) = false := by decide)
    (he : starEach [e, .Name y p2] X.env = (false, eval e X.env) :: starEach [.Name y p2] X.env := by rfl) (he2 : starEach [.Name y p2] X.env = (false, eval (.Name y p2) X.env) :: starEach [] X.env := by rfl) (hpl : (backTo pos (starEach [.Name y p2] X.env)).any (·.1) = false := by rfl) :
    DE X b (.Call (.Name "isinstance" p) [e, .Name y p2] [] pos) (cIsi c f) [] :=
  PE.wk (pe_callB call_isi hg hm hv (pa_cons h (pa_cons (pe_bltn gy my hy (v := .ty c) rfl hn hdb) pa_nil he2) he) (by decide) (by decide) he hpl) fun σ H Q ⟨env, o, R, h⟩ => isi_rd i R (h.bind.imp fun d _ h => by
    obtain ⟨k, e, h⟩ := h.of
    cases q : gIsi c d with
    | none => rw [q] at e; cases e
    | some k' =>
      rw [q] at e
      cases e
      exact ⟨k', rfl, fun H' s => h _ H' s (.bl k')⟩)
theorem isi_int {K : PySem.W.Frag} : Isi K "int" := ⟨fun t h => by
  simp only [List.mem_cons, List.not_mem_nil, or_false] at h
  rcases h with rfl | rfl | rfl | rfl | rfl | rfl <;> exact kit_ty (by decide +kernel)⟩
theorem isi_bool {K : PySem.W.Frag} : Isi K "bool" := ⟨fun t h => by
  simp only [List.mem_cons, List.not_mem_nil, or_false] at h
  rcases h with rfl | rfl | rfl | rfl | rfl | rfl <;> exact kit_ty (by decide +kernel)⟩
theorem isi_str {K : PySem.W.Frag} : Isi K "str" := ⟨fun t h => by
  simp only [List.mem_cons, List.not_mem_nil, or_false] at h
  rcases h with rfl | rfl | rfl | rfl | rfl | rfl <;> exact kit_ty (by decide +kernel)⟩
theorem isi_list {K : PySem.W.Frag} : Isi K "list" := ⟨fun t h => by
  simp only [List.mem_cons, List.not_mem_nil, or_false] at h
  rcases h with rfl | rfl | rfl | rfl | rfl | rfl <;> exact kit_ty (by decide +kernel)⟩
theorem isi_tuple {K : PySem.W.Frag} : Isi K "tuple" := ⟨fun t h => by
  simp only [List.mem_cons, List.not_mem_nil, or_false] at h
  rcases h with rfl | rfl | rfl | rfl | rfl | rfl <;> exact kit_ty (by decide +kernel)⟩
end
end DL
namespace DL
open PySem PySem.Spec PyProof.Rows L2

/-! ### statements -/
inductive Rs where
  | nx (e : En) | rt (d : PyData) | rto (ds : List PyData) | bk (e : En) | ct (e : En)
abbrev FS := En → Rz Rs
def Per (K : PySem.W.Frag) (H : Hp) (O : Addr → Prop) (H' : Hp) (O' : Addr → Prop) : Prop := ∀ v d, Rp K H O v d → Rp K H' O' v d
theorem Per.trans {K : PySem.W.Frag} {H H1 H2 : Hp} {O O1 O2 : Addr → Prop} (a : Per K H O H1 O1) (c : Per K H1 O1 H2 O2) : Per K H O H2 O2 := fun v d r => c v d (a v d r)
theorem Per.refl {K : PySem.W.Frag} {H : Hp} {O : Addr → Prop} : Per K H O H O := fun _ _ r => r
theorem Per.all {K : PySem.W.Frag} {H H1 : Hp} {O O1 : Addr → Prop} (p : Per K H O H1 O1) : ∀ {vs : List V} {ds : List PyData}, RpA K H O vs ds → RpA K H1 O1 vs ds
  | _, _, .nil => .nil
  | _, _, .cons r t => .cons (p _ _ r) (Per.all p t)
theorem Per.same {K : PySem.W.Frag} {H H1 : Hp} {O O1 : Addr → Prop} (s : Same H H1) (m : ∀ a, O1 a → O a ∨ H a = none) : Per K H O H1 O1 := fun v d r => Rp.move (.of_same s) m d v r
/-- what is wanted where a state goes on -/
def Cont (K : PySem.W.Frag) (b : Bs) (H : Hp) (O : Addr → Prop) (N : L2.St → Hp → Prop) (e' : En) : Prop :=
  ∀ σ' H' o', RS K b H' e' σ' o' → Per K H O H' (Ex b e' o') → N σ' H'
def Post (K : PySem.W.Frag) (b : Bs) (H : Hp) (O : Addr → Prop) (D : Ends) (r : Rs) : Prop :=
  match r with
  | .nx e' => Cont K b H O D.nx e'
  | .bk e' => Cont K b H O D.bk e'
  | .ct e' => Cont K b H O D.ct e'
  | .rt d => ∀ v H', Same b.H0 H' → Rp K H' b.O0 v d → D.rt v H'
  | .rto ds => ∀ a vs H', Same b.H0 H' → b.H0 a = none → H' a = some (.lst vs) → RpA K H' (fun c => b.O0 c ∨ c = a) vs ds → D.rt (.ref a) H'
theorem Cont.chain {K : PySem.W.Frag} {b : Bs} {H H1 : Hp} {O O1 : Addr → Prop} {N : L2.St → Hp → Prop} {e' : En} (p : Per K H O H1 O1) (h : Cont K b H O N e') : Cont K b H1 O1 N e' :=
  fun σ' H' o' R q => h σ' H' o' R (p.trans q)
theorem Post.chain {K : PySem.W.Frag} {b : Bs} {H H1 : Hp} {O O1 : Addr → Prop} {D : Ends} {r : Rs} (p : Per K H O H1 O1) (h : Post K b H O D r) : Post K b H1 O1 D r := by
  cases r with
  | nx e => exact Cont.chain p h
  | bk e => exact Cont.chain p h
  | ct e => exact Cont.chain p h
  | rt d => exact h
  | rto ds => exact h
def tDS (K : PySem.W.Frag) (b : Bs) (f : FS) : TS := fun D σ H => ∃ env o, RS K b H env σ o ∧ Pz K b (f env) (Post K b H (Ex b env o) D)
def DS (X : Cx) (b : Bs) (st : Stmt) (f : FS) : Prop := PS X st (tDS X.K b f)
def DSs (X : Cx) (b : Bs) (sts : List Stmt) (f : FS) : Prop := PSs X sts (tDS X.K b f)
section
variable {X : Cx} {b : Bs} {e e1 e2 : Expr} {st : Stmt} {rest sa sb : List Stmt} {f f1 f2 : FE} {fo : FO} {fs : FA} {ft : FT} {g g1 g2 : FS} {L La Lb : List Nat} {pos p' : Pos}
@[simp] def sNil (env : En) : Rz Rs := .ok (.nx env)
@[simp] def sSeq (f g : FS) (env : En) : Rz Rs := (f env).bind fun r => match r with
  | .nx e => g e
  | .rt d => .ok (.rt d)
  | .rto ds => .ok (.rto ds)
  | .bk e => .ok (.bk e)
  | .ct e => .ok (.ct e)
theorem dss_nil : DSs X b [] sNil := PSs.wk pss_nil fun D σ H ⟨env, o, R, h⟩ => h σ H o R .refl
theorem dss_cons (h1 : DS X b st g1) (h2 : DSs X b rest g2) : DSs X b (st :: rest) (sSeq g1 g2) :=
  PSs.wk (pss_cons h1 h2) fun D σ H ⟨env, o, R, h⟩ => ⟨env, o, R, h.bind.imp fun r _ h => by
    cases r with
    | nx e => exact fun σ' H' o' R' p => ⟨e, o', R', h.imp fun r _ h => Post.chain p h⟩
    | rt d => exact h
    | rto ds => exact h
    | bk e => exact h
    | ct e => exact h⟩
theorem dss_one (h1 : DS X b st g1) : DSs X b [st] g1 := pss_one h1
theorem ds_pass : DS X b (.Pass pos) sNil := PS.wk ps_pass fun D σ H ⟨env, o, R, h⟩ => h σ H o R .refl
@[simp] def sBk (env : En) : Rz Rs := .ok (.bk env)
@[simp] def sCt (env : En) : Rz Rs := .ok (.ct env)
theorem ds_bk : DS X b (.Break pos) sBk := PS.wk ps_break fun D σ H ⟨env, o, R, h⟩ => h σ H o R .refl
theorem ds_ct : DS X b (.Continue pos) sCt := PS.wk ps_continue fun D σ H ⟨env, o, R, h⟩ => h σ H o R .refl
theorem ds_doc {x : Str} {j : Nat} : DS X b (.Expr (.Constant (.str x) j p') pos) sNil := PS.wk ps_doc fun D σ H ⟨env, o, R, h⟩ => h σ H o R .refl
/-- what stays true when the leaked lists are let go and only new things were made -/
theorem per_frees {K : PySem.W.Frag} {H H1 : Hp} {env : En} {o : Nat → Addr} {O1 : Addr → Prop} (s : Same H H1) (m : ∀ a, O1 a → Ex b (frees L env) o a) : Per K H (Ex b env o) H1 O1 :=
  .same s fun a z => .inl (ex_frees (m a z))
/-! name = e -/
@[simp] def sSet (i : Nat) (f : FE) (L : List Nat) (env : En) : Rz Rs := (f env).bind fun d => .ok (.nx ((frees L env).set i (Sl.val d)))
theorem ex_set {env : En} {o : Nat → Addr} {i : Nat} {d : PyData} {a : Addr} (z : Ex b (env.set i (Sl.val d)) o a) : Ex b env o a := by
  rcases z with z | ⟨j, es, z1, z2⟩
  · exact .inl z
  · by_cases hj : j = i
    · subst hj
      by_cases hl : j < env.length
      · rw [List.getElem?_set_self hl] at z1; cases z1
      · rw [List.getElem?_eq_none (by rw [List.length_set]; omega)] at z1; cases z1
    · rw [List.getElem?_set_ne (Ne.symm hj)] at z1
      exact .inr ⟨j, es, z1, z2⟩
theorem ds_set {i : Nat} {x : Str} (hN : X.N.Nodup) (he : DE X b e f L) (hi : X.N[i]? = some x := by rfl) (hx : Loc X.env.scope x := by first | exact Or.inl rfl | exact Or.inr rfl) (hs : swapsWith e (some (.Name x p')) pos.line X.env = pure false := by rfl) (hf : X.fn x = true ∨ X.env.scope.names.lookup x = some .local := by first | exact .inl rfl | exact .inr rfl | assumption) :
    DS X b (.Assign [.Name x p'] e pos) (sSet i f L) := PS.wk (ps_set hN hi hx he hs hf) fun D σ H ⟨env, o, R, h⟩ => ⟨env, o, R, h.bind.imp fun d _ h v H1 s1 r1 => by
  have R1 := ((R.frees L).same s1)
  exact h _ H1 o (R1.set r1) (per_frees s1 fun a z => ex_set z)⟩
/-- name = a new list -/
@[simp] def sSetO (i : Nat) (f : FO) (L : List Nat) (env : En) : Rz Rs := (f env).bind fun ds => .ok (.nx ((frees L env).set i (Sl.own ds)))
theorem ds_setO {i : Nat} {x : Str} (hN : X.N.Nodup) (he : DO X b e fo L) (hi : X.N[i]? = some x := by rfl) (hx : Loc X.env.scope x := by first | exact Or.inl rfl | exact Or.inr rfl) (hs : swapsWith e (some (.Name x p')) pos.line X.env = pure false := by rfl) (hf : X.fn x = true ∨ X.env.scope.names.lookup x = some .local := by first | exact .inl rfl | exact .inr rfl | assumption) :
    DS X b (.Assign [.Name x p'] e pos) (sSetO i fo L) := PS.wk (ps_set hN hi hx he hs hf) fun D σ H ⟨env, o, R, h⟩ => ⟨env, o, R, h.bind.imp fun ds _ h a vs H1 s1 hn ha r1 => by
  exact h _ H1 _ ((R.frees L).setOwn s1 hn ha r1) (.same s1 fun c z => by
    rcases ex_setOwn z with z | z
    · exact .inl (ex_frees z)
    · subst z; exact .inr hn)⟩
/-! a, b = e1, e2 and a, b, c = e1, e2, e3 by names -/
@[simp] def sPar (i j : Nat) (fs : FA) (L : List Nat) (env : En) : Rz Rs := (fs env).bind fun ds => match ds with
  | [d1, d2] => .ok (.nx (((frees L env).set i (Sl.val d1)).set j (Sl.val d2)))
  | _ => .st
theorem ds_par {i j : Nat} {x y : Str} {px py pt : Pos} {kt k2 : Nat} {pt2 : Pos} (F : Fx X b) (hN : X.N.Nodup) (ha : DA X b [e1, e2] fs L) (hi : X.N[i]? = some x := by rfl) (hj : X.N[j]? = some y := by rfl) (hij : i ≠ j := by decide)
    (hx : X.env.scope.names.lookup x = some .local := by rfl) (hy : X.env.scope.names.lookup y = some .local := by rfl)
    (hw : swappedStores [.Tuple [.Name x px, .Name y py] kt pt] (.Tuple [e1, e2] k2 pt2) X.env = pure (some [x, y]) := by rfl)
    (hs : swapsWithSole [.Tuple [.Name x px, .Name y py] kt pt] (.Tuple [e1, e2] k2 pt2) pos.line X.env = pure false := by rfl) :
    DS X b (.Assign [.Tuple [.Name x px, .Name y py] kt pt] (.Tuple [e1, e2] k2 pt2) pos) (sPar i j fs L) := PS.wk (ps_par F.calm hN hi hj hij hx hy ha hw hs) fun D σ H ⟨env, o, R, h⟩ => ⟨env, o, R, h.bind.imp fun ds _ h vs H1 s1 r1 => by
  split at h
  · cases r1 with
    | cons q1 r1 =>
      cases r1 with
      | cons q2 r1 =>
        cases r1
        have R1 := (R.frees L).same s1
        have R2 := R1.set (i := i) q1
        exact ⟨_, _, rfl, h _ H1 o (R2.set (q2.less fun a z => ex_set z)) (per_frees s1 fun a z => ex_set (ex_set z))⟩
  · exact False.elim h⟩
@[simp] def sPar3 (i j k : Nat) (fs : FA) (L : List Nat) (env : En) : Rz Rs := (fs env).bind fun ds => match ds with
  | [d1, d2, d3] => .ok (.nx ((((frees L env).set i (Sl.val d1)).set j (Sl.val d2)).set k (Sl.val d3)))
  | _ => .st
theorem ds_par3 {e3 : Expr} {i j k : Nat} {x y z : Str} {px py pz pt : Pos} {kt k2 : Nat} {pt2 : Pos} (F : Fx X b) (hN : X.N.Nodup) (ha : DA X b [e1, e2, e3] fs L) (hi : X.N[i]? = some x := by rfl) (hj : X.N[j]? = some y := by rfl) (hk : X.N[k]? = some z := by rfl) (hij : i ≠ j := by decide) (hik : i ≠ k := by decide) (hjk : j ≠ k := by decide)
    (hx : X.env.scope.names.lookup x = some .local := by rfl) (hy : X.env.scope.names.lookup y = some .local := by rfl) (hz : X.env.scope.names.lookup z = some .local := by rfl)
    (hw : swappedStores [.Tuple [.Name x px, .Name y py, .Name z pz] kt pt] (.Tuple [e1, e2, e3] k2 pt2) X.env = pure (some [x, y, z]) := by rfl)
    (hs : swapsWithSole [.Tuple [.Name x px, .Name y py, .Name z pz] kt pt] (.Tuple [e1, e2, e3] k2 pt2) pos.line X.env = pure false := by rfl) :
    DS X b (.Assign [.Tuple [.Name x px, .Name y py, .Name z pz] kt pt] (.Tuple [e1, e2, e3] k2 pt2) pos) (sPar3 i j k fs L) := PS.wk (ps_par3 F.calm hN hi hj hk hij hik hjk hx hy hz ha hw hs) fun D σ H ⟨env, o, R, h⟩ => ⟨env, o, R, h.bind.imp fun ds _ h vs H1 s1 r1 => by
  split at h
  · cases r1 with
    | cons q1 r1 =>
      cases r1 with
      | cons q2 r1 =>
        cases r1 with
        | cons q3 r1 =>
          cases r1
          have R1 := (R.frees L).same s1
          have R2 := (R1.set (i := i) q1).set (i := j) (q2.less fun a z => ex_set z)
          exact ⟨_, _, _, rfl, h _ H1 o (R2.set (q3.less fun a z => ex_set (ex_set z))) (per_frees s1 fun a z => ex_set (ex_set (ex_set z)))⟩
  · exact False.elim h⟩
/-! targets in general -/
def tDG (K : PySem.W.Frag) (b : Bs) (ft : En → PyData → Rz En) : TG := fun v σ H Q => ∃ env o d, RS K b H env σ o ∧ Rp K H (Ex b env o) v d ∧ Pz K b (ft env d) (Cont K b H (Ex b env o) Q)
def tDGs (K : PySem.W.Frag) (b : Bs) (ft : En → List PyData → Rz En) : TGs := fun vs σ H Q => ∃ env o ds, RS K b H env σ o ∧ RpA K H (Ex b env o) vs ds ∧ Pz K b (ft env ds) (Cont K b H (Ex b env o) Q)
def DG (X : Cx) (b : Bs) (tg : Expr) (ft : En → PyData → Rz En) : Prop := PG X tg (tDG X.K b ft)
def DGs (X : Cx) (b : Bs) (tg : List Expr) (ft : En → List PyData → Rz En) : Prop := PGs X tg (tDGs X.K b ft)
theorem PG.wk {t t' : TG} (h : PG X e t) (k : ∀ v σ H Q, t' v σ H Q → t v σ H Q) : PG X e t' := ⟨fun pins s σ H v u Q I r q => h.run pins s σ H v u Q I r (k v σ H Q q)⟩
theorem PGs.wk {es : List Expr} {t t' : TGs} (h : PGs X es t) (k : ∀ v σ H Q, t' v σ H Q → t v σ H Q) : PGs X es t' := ⟨fun pins s σ H v u Q I r q => h.run pins s σ H v u Q I r (k v σ H Q q)⟩
@[simp] def gNm (i : Nat) (env : En) (d : PyData) : Rz En := .ok (env.set i (Sl.val d))
theorem dg_nm {i : Nat} {x : Str} (hN : X.N.Nodup) (hi : X.N[i]? = some x := by rfl) (hx : Loc X.env.scope x := by first | exact Or.inl rfl | exact Or.inr rfl) (hf : X.fn x = true ∨ X.env.scope.names.lookup x = some .local := by first | exact .inl rfl | exact .inr rfl | assumption) : DG X b (.Name x pos) (gNm i) :=
  PG.wk (pg_name hN hi hx hf) fun v σ H Q ⟨env, o, d, R, r, h⟩ => h _ H o (R.set r) (.same (.refl H) fun a z => .inl (ex_set z))
@[simp] def gsNil (env : En) (ds : List PyData) : Rz En := match ds with | [] => .ok env | _ => .st
@[simp] def gsCons (t : En → PyData → Rz En) (u : En → List PyData → Rz En) (env : En) (ds : List PyData) : Rz En := match ds with | d :: ds => (t env d).bind fun env => u env ds | [] => .st
theorem dgs_nil : DGs X b [] gsNil := PGs.wk pgs_nil fun v σ H Q ⟨env, o, ds, R, r, h⟩ => by
  cases r with
  | nil => exact ⟨rfl, h σ H o R .refl⟩
  | cons _ _ => exact False.elim h
theorem dgs_cons {es : List Expr} {t : En → PyData → Rz En} {u : En → List PyData → Rz En} (h1 : DG X b e t) (h2 : DGs X b es u) (hs : (assignEach (e :: es) X.env).map (·.2) = assign e X.env :: (assignEach es X.env).map (·.2) := by rfl) : DGs X b (e :: es) (gsCons t u) :=
  PGs.wk (pgs_cons h1 h2 hs) fun v σ H Q ⟨env, o, ds, R, r, h⟩ => by
  cases r with
  | nil => exact False.elim h
  | cons r1 r2 =>
    exact ⟨_, _, rfl, env, o, _, R, r1, (Pz.bind h).imp fun env1 _ h σ1 H1 o1 R1 p1 => ⟨env1, o1, _, R1, p1.all r2, h.imp fun e _ h => Cont.chain p1 h⟩⟩
@[simp] def gTp (n : Nat) (u : En → List PyData → Rz En) (env : En) (d : PyData) : Rz En := match d with
  | .tuple ds => if ds.length = n then u env ds else .st
  | _ => .st
theorem dg_tp {es : List Expr} {k : Nat} {u : En → List PyData → Rz En} {n : Nat} (F : Fx X b) (h : DGs X b es u) (hn : (assignEach es X.env).length = n := by rfl) (hst : (assignEach es X.env).findIdx? (·.1) = none := by rfl) : DG X b (.Tuple es k pos) (gTp n u) :=
  PG.wk (pg_tup F.calm h hn hst) fun v σ H Q ⟨env, o, d, R, r, h⟩ => by
  unfold gTp at h
  split at h
  · split at h
    · rename_i ds hl
      obtain ⟨a, vs, rfl, q1, q2⟩ := r.sqT
      exact ⟨a, vs, rfl, q1, by rw [q2.length]; exact hl, env, o, _, R, q2, h⟩
    · exact False.elim h
  · exact False.elim h
/-- target = e, whatever the target -/
@[simp] def sAsg (t : En → PyData → Rz En) (f : FE) (L : List Nat) (env : En) : Rz Rs := (f env).bind fun d => (t (frees L env) d).bind fun e => .ok (.nx e)
theorem ds_asg {tg : Expr} {t : En → PyData → Rz En} (he : DE X b e f L) (hg : DG X b tg t) (hs : swapsWithSole [tg] e pos.line X.env = pure false := by rfl) (hw : swappedStores [tg] e X.env = pure none := by rfl)
    (h1 : (assignEach [tg] X.env).map (·.2) = [assign tg X.env] := by rfl) : DS X b (.Assign [tg] e pos) (sAsg t f L) :=
  PS.wk (ps_asg he hg hs hw h1) fun D σ H ⟨env, o, R, h⟩ => ⟨env, o, R, h.bind.imp fun d _ h v H1 s1 r1 => ⟨frees L env, o, d, (R.frees L).same s1, r1, h.bind.imp fun e' _ h => Cont.chain (per_frees s1 fun a z => z) h⟩⟩
/-! xs.append(e), xs[i] = e of a list that the name owns -/
@[simp] def sApp (i : Nat) (f : FE) (L : List Nat) (env : En) : Rz Rs := match (frees L env)[i]? with
  | some (.own ds) => (f env).bind fun d => if ds.length < 1000000 then .ok (.nx ((frees L env).set i (Sl.own (ds ++ [d])))) else .st
  | _ => .st
theorem ds_app {i : Nat} {x : Str} {pn apos cpos : Pos} (he : DE X b e f L) (hN : X.N[i]? = some x := by rfl) (hv : Vis X.env.scope x := by first | exact Or.inl rfl | exact Or.inr (Or.inl rfl) | exact Or.inr (Or.inr rfl)) (hd : (x == ("__debug__" : Str)) = false := by decide) (hcd : (x == ("__classdict__" : Str)) = false := by decide)
    (hbase : attributeBase (.Name x pn) "append" X.env (eval (.Name x pn) X.env) = eval (.Name x pn) X.env := by rfl)
    (hfew : ((backTo cpos (starEach [e] X.env)).all (fun x => !x.1) && (backToKw cpos (keywordEach [] X.env)).all (fun x => x.1.isSome)
      && decide (([e] : List Expr).length + ([] : List Keyword).length + (if ([] : List Keyword).isEmpty then 0 else 1) < 30)) = true := by rfl)
    (hline : (apos.endLine == cpos.line) = true := by rfl) (hs : starEach [e] X.env = (false, eval e X.env) :: starEach [] X.env := by rfl) (hplain : (backTo cpos (starEach [] X.env)).any (·.1) = false := by rfl)
    (hsw : swapsWith (.Call (.Attribute (.Name x pn) "append" apos) [e] [] cpos) none pos.line X.env = pure false := by rfl) :
    DS X b (.Expr (.Call (.Attribute (.Name x pn) "append" apos) [e] [] cpos) pos) (sApp i f L) :=
  PS.wk (ps_expr (pe_bm PySem.F.plainAttrs_list PySem.F.slot_list_append PySem.F.type_list_append mt_append (pe_var hN hv hd hcd) (pa_cons he pa_nil hs) hbase hfew hline hs hplain) hsw) fun D σ H ⟨env, o, R, h⟩ => by
  unfold sApp at h
  split at h
  · rename_i ds q
    obtain ⟨vs, h1, h2, h3, h4⟩ := (R.frees L).own i ds q
    refine ⟨.ref (o i), h1, .inl ⟨rfl, vs, .of h2⟩, env, o, R, h.bind.imp fun d _ h v H1 s1 r1 => ?_⟩
    split at h
    · rename_i hz
      have R1 := (R.frees L).same s1
      obtain ⟨ws, k1, k2, k3, k4⟩ := R1.own i ds q
      have hm := million
      have hl := k3.length
      obtain ⟨R2, kp, le⟩ := R1.updOwn q (k3.append (.one r1))
      exact ⟨o i, ws, v, rfl, rfl, k2, by omega, h _ _ o R2 fun v d r => Rp.move kp (fun a z => .inl (le a z)) _ _ (r.same s1 |>.less fun a z => ex_frees z)⟩
    · exact False.elim h
  · exact False.elim h
@[simp] def sSetIx (i : Nat) (fi f : FE) (L : List Nat) (env : En) : Rz Rs := (f env).bind fun d => match (frees L env)[i]? with
  | some (.own ds) => (fi env).bind fun k => match k with
    | .int k => match ixN ds.length k with
      | some j => .ok (.nx ((frees L env).set i (Sl.own (ds.set j d))))
      | none => .st
    | _ => .st
  | _ => .st
theorem ds_setIx {i : Nat} {x : Str} {pn p2 : Pos} {fi : FE} {ei : Expr} (he : DE X b e f L) (hx : DE X b ei fi []) (hN : X.N[i]? = some x := by rfl) (hv : Vis X.env.scope x := by first | exact Or.inl rfl | exact Or.inr (Or.inl rfl) | exact Or.inr (Or.inr rfl)) (hd : (x == ("__debug__" : Str)) = false := by decide) (hcd : (x == ("__classdict__" : Str)) = false := by decide)
    (ha : ∀ v, assign (.Subscript (.Name x pn) ei p2) X.env v = (do
      let ov ← holding [v] (eval (.Name x pn) X.env)
      let iv ← holding [v, ov] (eval ei X.env)
      standAt p2
      holding [v, ov, iv] (setItem ov iv v)
      release [v, ov, iv] []) := by intro _; rfl)
    (hs : swapsWithSole [.Subscript (.Name x pn) ei p2] e pos.line X.env = pure false := by rfl) (hw : swappedStores [.Subscript (.Name x pn) ei p2] e X.env = pure none := by rfl)
    (h1 : (assignEach [.Subscript (.Name x pn) ei p2] X.env).map (·.2) = [assign (.Subscript (.Name x pn) ei p2) X.env] := by rfl) :
    DS X b (.Assign [.Subscript (.Name x pn) ei p2] e pos) (sSetIx i fi f L) :=
  PS.wk (ps_asg he (pg_sub (pe_var hN hv hd hcd) hx set_list ha) hs hw h1) fun D σ H ⟨env, o, R, h⟩ => ⟨env, o, R, h.bind.imp fun d _ h v H1 s1 r1 => by
  have R1 := (R.frees L).same s1
  split at h
  · rename_i ds q
    obtain ⟨ws, k1, k2, k3, k4⟩ := R1.own i ds q
    refine ⟨.ref (o i), k1, env, o, R.same s1, h.bind.imp fun k _ h w H2 s2 r2 => ?_⟩
    cases k with
    | int kk =>
      replace h : Pz X.K b (match ixN ds.length kk with | some j => Rz.ok (Rs.nx ((frees L env).set i (Sl.own (ds.set j d)))) | none => Rz.st) (Post X.K b H (Ex b env o) D) := h
      split at h
      · rename_i j qj
        have R2 := R1.same s2
        obtain ⟨xs, m1, m2, m3, m4⟩ := R2.own i ds q
        obtain ⟨R3, kp, le⟩ := R2.updOwn q (m3.set (r1.same s2) j)
        refine ⟨o i, xs, kk, j, rfl, r2.int_of, m2, by rw [m3.length]; exact qj, h _ _ o R3 fun v d r => Rp.move kp (fun a z => .inl (le a z)) _ _ ((r.same (s1.trans s2)).less fun a z => ex_frees z)⟩
      · exact False.elim h
    | _ => exact False.elim h
  · exact False.elim h⟩
/-! name op= e -/
@[simp] def sAug (i : Nat) (k : Int → Int → Int) (f : FE) (env : En) : Rz Rs := match env[i]? with
  | some (.val (.int a)) => (f env).bind fun d => match d with
    | .int c => .ok (.nx (env.set i (Sl.val (.int (k a c)))))
    | _ => .st
  | _ => .st
theorem ds_aug {i : Nat} {x : Str} {op : Operator} {k : Int → Int → Int} (ho : PIp X op (ipI k)) (hN : X.N.Nodup) (he : DE X b e f []) (hi : X.N[i]? = some x := by rfl) (hx : Loc X.env.scope x := by first | exact Or.inl rfl | exact Or.inr rfl) (hf : X.fn x = true ∨ X.env.scope.names.lookup x = some .local := by first | exact .inl rfl | exact .inr rfl | assumption) :
    DS X b (.AugAssign (.Name x p') op e pos) (sAug i k f) := PS.wk (ps_aug hN hi hx he ho hf) fun D σ H ⟨env, o, R, h⟩ => by
  unfold sAug at h
  split at h
  · rename_i a q
    obtain ⟨v, h1, h2⟩ := R.val i _ q
    cases h2.int_of
    refine ⟨_, h1, env, o, R, h.bind.imp fun d _ h w H1 s1 r1 => ?_⟩
    cases d with
    | int c => exact ⟨a, c, rfl, r1.int_of, h _ H1 o ((R.same s1).set (.int _)) (.same s1 fun a z => .inl (ex_set z))⟩
    | _ => exact False.elim h
  · exact False.elim h
/-! return, if -/
@[simp] def sRet (f : FE) (env : En) : Rz Rs := (f env).bind fun d => .ok (.rt d)
theorem ds_ret (he : DE X b e f L) : DS X b (.Return (some e) pos) (sRet f) := PS.wk (ps_ret he) fun D σ H ⟨env, o, R, h⟩ => ⟨env, o, R, h.bind.imp fun d _ h v H1 s1 r1 =>
  h v H1 (R.ext.trans s1) (r1.less fun a z => .inl z)⟩
@[simp] def sRetO (f : FO) (env : En) : Rz Rs := (f env).bind fun d => .ok (.rto d)
theorem ds_retO (he : DO X b e fo L) : DS X b (.Return (some e) pos) (sRetO fo) := PS.wk (ps_ret he) fun D σ H ⟨env, o, R, h⟩ => ⟨env, o, R, h.bind.imp fun d _ h a vs H1 s1 hn ha r1 =>
  h a vs H1 (R.ext.trans s1) (R.ext.free hn) ha (r1.less fun a z => z.elim (fun z => .inl (.inl z)) .inr)⟩
@[simp] def sRetL (i : Nat) (env : En) : Rz Rs := match env[i]? with
  | some (.own ds) => .ok (.rto ds)
  | some (.val d) => .ok (.rt d)
  | _ => .st
theorem ds_retL (i : Nat) {x : Str} (hN : X.N[i]? = some x := by rfl) (hv : Vis X.env.scope x := by first | exact Or.inl rfl | exact Or.inr (Or.inl rfl) | exact Or.inr (Or.inr rfl)) (hd : (x == ("__debug__" : Str)) = false := by decide) (hcd : (x == ("__classdict__" : Str)) = false := by decide) :
    DS X b (.Return (some (.Name x p')) pos) (sRetL i) := PS.wk (ps_ret (pe_var hN hv hd hcd)) fun D σ H ⟨env, o, R, h⟩ => by
  unfold sRetL at h
  split at h
  · rename_i ds q
    obtain ⟨vs, h1, h2, h3, h4⟩ := R.own i ds q
    exact ⟨_, h1, h (o i) vs H R.ext h4 h2 (h3.less fun a z => z.elim .inl fun z => .inr ⟨i, ds, q, z.symm⟩)⟩
  · rename_i d q
    obtain ⟨v, h1, h2⟩ := R.val i d q
    exact ⟨v, h1, h v H R.ext (h2.less fun a z => .inl z)⟩
  · exact False.elim h
@[simp] def sRetN (_ : En) : Rz Rs := .ok (.rt .none)
theorem ds_retN : DS X b (.Return none pos) sRetN := PS.wk ps_retN fun D σ H ⟨env, o, R, h⟩ => h _ H R.ext .non
@[simp] def sIf (t : FT) (g1 g2 : FS) (env : En) : Rz Rs := (t env).bind fun c => match c with | true => g1 env | false => g2 env
theorem ds_if (ht : DT X b e ft) (h1 : DSs X b sa g1) (h2 : DSs X b sb g2) : DS X b (.If e sa sb pos) (sIf ft g1 g2) := PS.wk (ps_if ht h1 h2) fun D σ H ⟨env, o, R, h⟩ => ⟨env, o, R, h.bind.imp fun c _ h H1 s1 => by
  have p : Per X.K H (Ex b env o) H1 (Ex b env o) := .same s1 fun a z => .inl z
  cases c with
  | true => exact iteT ⟨env, o, R.same s1, h.imp fun r _ h => Post.chain p h⟩
  | false => exact iteF ⟨env, o, R.same s1, h.imp fun r _ h => Post.chain p h⟩⟩
/-- an expression for its effects alone -/
@[simp] def sDrop (f : FE) (L : List Nat) (env : En) : Rz Rs := (f env).bind fun _ => .ok (.nx (frees L env))
theorem ds_drop (he : DE X b e f L) (hs : swapsWith e none pos.line X.env = pure false := by rfl) : DS X b (.Expr e pos) (sDrop f L) := PS.wk (ps_expr he hs) fun D σ H ⟨env, o, R, h⟩ => ⟨env, o, R, h.bind.imp fun d _ h v H1 s1 r1 =>
  h _ H1 o ((R.frees L).same s1) (per_frees s1 fun a z => z)⟩

/-! ### for -/
/-- what a loop over ds leans on: the heap and the exclusions by turn -/
structure Wk (K : PySem.W.Frag) (J : It) (ds : List PyData) (G : Hp → (Addr → Prop) → Prop) : Prop where
  wk : Walk J ds.length (fun H => ∃ O, G H O) (fun i H x H' => Same H H' ∧ ∀ O, G H O → ∃ d, ds[i]? = some d ∧ Rp K H' O x d)
  per : ∀ H O H' O', Per K H O H' O' → G H O → G H' O'
def tDI (K : PySem.W.Frag) (b : Bs) (f : FA) (L : List Nat) : TI := fun σ H R => ∃ env o, RS K b H env σ o ∧ Pz K b (f env) fun ds => ∀ J G H', Same H H' → Wk K J ds G → G H' (Ex b (frees L env) o) → R J H'
def DI (X : Cx) (b : Bs) (tg it : Expr) (f : FA) (L : List Nat) : Prop := PI X tg it (tDI X.K b f L)
theorem PI.wk {tg it : Expr} {t t' : TI} (h : PI X tg it t) (k : ∀ σ H Q, t' σ H Q → t σ H Q) : PI X tg it t' := ⟨fun pins s σ H R I q => h.run pins s σ H R I (k σ H R q)⟩
@[simp] def forD (t : En → PyData → Rz En) (body : FS) : List PyData → FS
  | [], env => .ok (.nx env)
  | d :: ds, env => (t env d).bind fun e1 => (body e1).bind fun r => match r with
    | .nx e => forD t body ds e
    | .ct e => forD t body ds e
    | .bk e => .ok (.nx e)
    | .rt d => .ok (.rt d)
    | .rto es => .ok (.rto es)
@[simp] def sFor (t : En → PyData → Rz En) (f : FA) (L : List Nat) (body : FS) (env : En) : Rz Rs := (f env).bind fun ds => forD t body ds (frees L env)
theorem ds_for {tg it : Expr} {body : List Stmt} {t : En → PyData → Rz En} (F : Fx X b) (hi : DI X b tg it fs L) (hg : DG X b tg t) (hb : DSs X b body g)
    (hs : ∀ x, foldedSetIterable it X.env x = pure x := by intro _; rfl) : DS X b (.For tg it body [] pos) (sFor t fs L g) :=
  PS.wk (ps_for F.own F.calm hi hg hb hs) fun D σ H ⟨env, o, R, h⟩ => ⟨env, o, R, h.bind.imp fun ds _ h J G H1 s1 w g0 => by
  have R1 := (R.frees L).same s1
  have p1 : Per X.K H (Ex b env o) H1 (Ex b (frees L env) o) := per_frees s1 fun a z => z
  have h1 : Pz X.K b (forD t g ds (frees L env)) (Post X.K b H1 (Ex b (frees L env) o) D) := h.imp fun r _ h => Post.chain p1 h
  refine for_it w.wk (fun i σ H => ∃ env o, RS X.K b H env σ o ∧ G H (Ex b env o) ∧ Pz X.K b (forD t g (ds.drop i) env) (Post X.K b H (Ex b env o) D))
    ⟨frees L env, o, R1, g0, h1⟩ (fun i σ H _ ⟨env, o, _, g, _⟩ => ⟨_, g⟩) ?_ ?_
  · rintro i x σ H H' hlt ⟨env, o, R, g0, h⟩ ⟨s2, y⟩
    obtain ⟨d, hd, r⟩ := y _ g0
    have e : ds.drop i = d :: ds.drop (i + 1) := by
      obtain ⟨hl, e⟩ := List.getElem?_eq_some_iff.mp hd
      rw [List.drop_eq_getElem_cons hl, e]
    rw [e] at h
    have p2 : Per X.K H (Ex b env o) H' (Ex b env o) := .same s2 fun a z => .inl z
    refine ⟨env, o, d, R.same s2, r, (Pz.bind h).imp fun env1 _ h σ1 H3 o1 R3 p3 => ⟨env1, o1, R3, h.bind.imp fun r _ h => ?_⟩⟩
    have go : ∀ {e2 : En}, Pz X.K b (forD t g (ds.drop (i + 1)) e2) (Post X.K b H (Ex b env o) D) →
        Cont X.K b H3 (Ex b env1 o1) (fun σ H => ∃ env o, RS X.K b H env σ o ∧ G H (Ex b env o) ∧ Pz X.K b (forD t g (ds.drop (i + 1)) env) (Post X.K b H (Ex b env o) D)) e2 :=
      fun {e2} h σ' H' o' R' p' => ⟨e2, o', R', w.per _ _ _ _ ((p2.trans p3).trans p') g0, h.imp fun r _ h => Post.chain ((p2.trans p3).trans p') h⟩
    cases r with
    | nx e2 => exact go h
    | ct e2 => exact go h
    | bk e2 => exact Cont.chain (p2.trans p3) h
    | rt d => exact h
    | rto es => exact h
  · rintro σ H ⟨env, o, R, g0, h⟩
    rw [List.drop_length] at h
    exact h σ H o R .refl⟩
/-! what is walked -/
@[simp] def iSq (f : FE) (env : En) : Rz (List PyData) := (f env).bind fun d => match d with
  | .list ds => .ok ds
  | .tuple ds => .ok ds
  | _ => .st
theorem wk_list {K : PySem.W.Frag} {a : Addr} {ds : List PyData} : Wk K (Itl K a) ds (fun H O => Rp K H O (.ref a) (.list ds)) := by
  have at_ : ∀ {H : Hp} {O : Addr → Prop}, Rp K H O (.ref a) (.list ds) → ∃ xs, SqL K H a xs ∧ RpA K H O xs ds := fun {H O} r => by
    obtain ⟨a', xs, e, h1, h2⟩ := r.sqL
    cases e
    exact ⟨xs, h1, h2⟩
  refine ⟨⟨fun i H hi ⟨O, r⟩ => ?_, fun H ⟨O, r⟩ => ?_, fun i H x H' hi ⟨O, r⟩ y => ?_⟩, fun H O H' O' p r => p _ _ r⟩
  · obtain ⟨xs, h1, h2⟩ := at_ r
    have hl := h2.length
    exact ⟨xs, xs[i], h1, by simp [show i < xs.length by omega]⟩
  · obtain ⟨xs, h1, h2⟩ := at_ r
    exact ⟨xs, h1, Nat.le_of_eq h2.length⟩
  · obtain ⟨e, y⟩ := y
    subst e
    refine ⟨.refl _, fun O r => ?_⟩
    obtain ⟨xs, h1, h2⟩ := at_ r
    exact h2.get' (y xs h1)
theorem wk_tup {K : PySem.W.Frag} {a : Addr} {ds : List PyData} : Wk K (Itt K a) ds (fun H O => Rp K H O (.ref a) (.tuple ds)) := by
  have at_ : ∀ {H : Hp} {O : Addr → Prop}, Rp K H O (.ref a) (.tuple ds) → ∃ xs, SqT K H a xs ∧ RpA K H O xs ds := fun {H O} r => by
    obtain ⟨a', xs, e, h1, h2⟩ := r.sqT
    cases e
    exact ⟨xs, h1, h2⟩
  refine ⟨⟨fun i H hi ⟨O, r⟩ => ?_, fun H ⟨O, r⟩ => ?_, fun i H x H' hi ⟨O, r⟩ y => ?_⟩, fun H O H' O' p r => p _ _ r⟩
  · obtain ⟨xs, h1, h2⟩ := at_ r
    have hl := h2.length
    exact ⟨xs, xs[i], h1, by simp [show i < xs.length by omega]⟩
  · obtain ⟨xs, h1, h2⟩ := at_ r
    exact ⟨xs, h1, Nat.le_of_eq h2.length⟩
  · obtain ⟨e, y⟩ := y
    subst e
    refine ⟨.refl _, fun O r => ?_⟩
    obtain ⟨xs, h1, h2⟩ := at_ r
    exact h2.get' (y xs h1)
theorem PI.or {tg it : Expr} {t t' : TI} (h : PI X tg it t) (h' : PI X tg it t') : PI X tg it (fun σ H R => t σ H R ∨ t' σ H R) := ⟨fun pins s σ H R I q => q.elim (h.run pins s σ H R I) (h'.run pins s σ H R I)⟩
/-- over an expression: the values are known when it is walked -/
theorem di_sq {tg : Expr} (h : DE X b e f L) : DI X b tg e (iSq f) L := by
  -- the same reading serves a list and a tuple: the rule is taken once more, with both iterators
  refine ⟨fun pins s σ H R I q => ?_⟩
  obtain ⟨env, o, RS0, q⟩ := q
  cases e1 : f env with
  | st =>
    unfold iSq at q
    rw [e1] at q
    exact False.elim q
  | ex x =>
    unfold iSq at q
    rw [e1] at q
    exact (pi_list (tg := tg) h).run pins s σ H R I ⟨env, o, RS0, by rw [e1]; exact q⟩
  | ok d =>
    unfold iSq at q
    rw [e1, Rz.bind_ok] at q
    cases d with
    | list ds =>
      refine (pi_list (tg := tg) h).run pins s σ H R I ⟨env, o, RS0, by
        rw [e1]
        intro v H1 s1 r1
        obtain ⟨a, xs, ea, h1, h2⟩ := r1.sqL
        subst ea
        exact ⟨a, rfl, ⟨xs, h1⟩, q _ _ H1 s1 wk_list r1⟩⟩
    | tuple ds =>
      refine (pi_tup (tg := tg) h).run pins s σ H R I ⟨env, o, RS0, by
        rw [e1]
        intro v H1 s1 r1
        obtain ⟨a, xs, ea, h1, h2⟩ := r1.sqT
        subst ea
        exact ⟨a, rfl, ⟨xs, h1⟩, q _ _ H1 s1 wk_tup r1⟩⟩
    | _ => exact False.elim q
/-- range -/
def intsD (lo : Int) (n : Nat) : List PyData := (List.range n).map fun i => .int (lo + (i : Nat))
theorem wk_range {K : PySem.W.Frag} {lo : Int} {n : Nat} : Wk K (Itr lo n) (intsD lo n) (fun _ _ => True) := by
  have hl : (intsD lo n).length = n := by simp [intsD]
  refine ⟨⟨fun i H hi _ => by rw [hl] at hi; exact hi, fun H _ => by rw [hl]; exact Nat.le_refl _, fun i H x H' hi _ y => ?_⟩, fun _ _ _ _ _ _ => True.intro⟩
  obtain ⟨e, rfl⟩ := y
  subst e
  refine ⟨.refl _, fun O _ => ⟨.int (lo + (i : Nat)), ?_, .int _⟩⟩
  rw [hl] at hi
  simp [intsD, hi]
@[simp] def iR1 (f : FE) (env : En) : Rz (List PyData) := (f env).bind fun d => match d with
  | .int j => if -(2 ^ 62) ≤ j ∧ j < 2 ^ 62 then .ok (intsD 0 j.toNat) else .st
  | _ => .st
@[simp] def iR2 (f1 f2 : FE) (env : En) : Rz (List PyData) := (f1 env).bind fun x => (f2 env).bind fun y => match x, y with
  | .int i, .int j => if -(2 ^ 62) ≤ i ∧ i < 2 ^ 62 ∧ -(2 ^ 62) ≤ j ∧ j < 2 ^ 62 then .ok (intsD i (j - i).toNat) else .st
  | _, _ => .st
theorem di_r1 {tg : Expr} {p : Pos} (hg : Gl X "range") (hm : X.mg "range" = none) (h : DE X b e f L) (hs : starEach [e] X.env = [(false, eval e X.env)] := by rfl) : DI X b tg (.Call (.Name "range" p) [e] [] pos) (iR1 f) [] :=
  PI.wk (pi_range1 hg hm (pa_cons h pa_nil hs) hs) fun σ H Q ⟨env, o, R, h⟩ => ⟨env, o, R, h.bind.imp fun d _ h v H1 s1 r1 => by
    split at h
    · split at h
      · rename_i j hz
        cases r1.int_of
        exact ⟨_, rfl, hz.1, hz.2, h _ _ H1 s1 wk_range True.intro⟩
      · exact False.elim h
    · exact False.elim h⟩
theorem di_r2 {tg : Expr} {p : Pos} (hg : Gl X "range") (hm : X.mg "range" = none) (h1 : DE X b e1 f1 La) (h2 : DE X b e2 f2 Lb) (hs : starEach [e1, e2] X.env = [(false, eval e1 X.env), (false, eval e2 X.env)] := by rfl) (hs2 : starEach [e2] X.env = [(false, eval e2 X.env)] := by rfl) : DI X b tg (.Call (.Name "range" p) [e1, e2] [] pos) (iR2 f1 f2) [] :=
  PI.wk (pi_range2 hg hm (pa_cons h1 (pa_cons h2 pa_nil hs2) (by rw [hs, hs2])) hs hs2) fun σ H Q ⟨env, o, R, h⟩ => ⟨env, o, R, h.bind.imp fun d _ h v H1 s1 r1 => ⟨env, o, R.same s1, h.bind.imp fun d2 _ h w H2 s2 r2 => by
    split at h
    · split at h
      · rename_i i j hz
        cases r1.int_of
        cases r2.int_of
        exact ⟨_, _, rfl, hz, h _ _ H2 (s1.trans s2) wk_range True.intro⟩
      · exact False.elim h
    · exact False.elim h⟩⟩
end
end DL
namespace DL
open PySem PySem.Spec PyProof.Rows L2

/-! ### what a def hands back -/
inductive Rv where
  | val (d : PyData) | own (ds : List PyData)
abbrev FF := List PyData → Rz Rv
def RPost (K : PySem.W.Frag) (b : Bs) (Q : VK) (r : Rv) : Prop :=
  match r with
  | .val d => ∀ v H', Same b.H0 H' → Rp K H' b.O0 v d → Q v H'
  | .own ds => ∀ a vs H', Same b.H0 H' → b.H0 a = none → H' a = some (.lst vs) → RpA K H' (fun c => b.O0 c ∨ c = a) vs ds → Q (.ref a) H'
/-- a def's promise: g of the arguments' data -/
def spD (K : PySem.W.Frag) (cls : Str → Value) (n : Nat) (g : FF) : Sp := fun vs H Q E => ∃ O ds, (∀ a, O a → ∃ u, H a = some u) ∧ ds.length = n ∧ RpA K H O vs ds ∧ Pz K ⟨H, O, E, cls⟩ (g ds) (RPost K ⟨H, O, E, cls⟩ Q)
def initE (N : Nat) (ds : List PyData) : En := ds.map Sl.val ++ List.replicate (N - ds.length) Sl.no
@[simp] def runF (N : Nat) (body : FS) (ds : List PyData) : Rz Rv := (body (initE N ds)).bind fun r => match r with
  | .rt d => .ok (.val d)
  | .rto es => .ok (.own es)
  | .nx _ => .ok (.val .none)
  | .bk _ => .st
  | .ct _ => .st
theorem init_own {N : Nat} {ds : List PyData} {i : Nat} {es : List PyData} (h : (initE N ds)[i]? = some (Sl.own es)) : False := by
  unfold initE at h
  by_cases hi : i < ds.length
  · rw [List.getElem?_append_left (by simpa using hi), List.getElem?_map] at h
    cases q : ds[i]? with
    | none => rw [q] at h; cases h
    | some d => rw [q] at h; cases h
  · rw [List.getElem?_append_right (by simpa using hi), List.getElem?_replicate] at h
    split at h <;> cases h
theorem init_rs {K : PySem.W.Frag} {b : Bs} {N : List Str} {vs : List V} {ds : List PyData} (hn : ds.length ≤ N.length) (r : RpA K b.H0 b.O0 vs ds) (ho : ∀ a, b.O0 a → ∃ u, b.H0 a = some u) : RS K b b.H0 (initE N.length ds) (start N vs) (fun _ => 0) := by
  have hl := r.length
  have le : ∀ a, Ex b (initE N.length ds) (fun _ => 0) a → b.O0 a := by
    rintro a (z | ⟨i, es, z, _⟩)
    · exact z
    · exact (init_own z).elim
  refine ⟨?_, fun i d h => ?_, fun i es h => (init_own h).elim, fun i j es fs h _ _ => (init_own h).elim, .refl _, ho⟩
  · simp [initE, L2.start, hl]
  · unfold initE at h
    by_cases hi : i < ds.length
    · rw [List.getElem?_append_left (by simpa using hi), List.getElem?_map] at h
      cases q : ds[i]? with
      | none => rw [q] at h; cases h
      | some d' =>
        rw [q] at h
        cases h
        obtain ⟨v, h1, h2⟩ := r.get q
        refine ⟨v, ?_, h2.less le⟩
        unfold L2.start
        rw [List.getElem?_append_left (by rw [List.length_map]; omega), List.getElem?_map, h1]
        rfl
    · rw [List.getElem?_append_right (by simpa using hi), List.getElem?_replicate] at h
      split at h <;> cases h

section
variable {P : Program} {w : World} {K : PySem.W.Frag} {mg : Str → Option Value} {base : Heap}
/-- THE RULE of a def, by its body's function -/
theorem fn_D {cls : Str → Value} {x qual : Str} {st : Stmt} {f : Addr} {fd : FuncData} {N ps : List Str} {k : Nat} {body : FS} (F : Fun K x qual st f fd) (S : FnScope N ps (defScope st)) (hn : ps.length ≤ N.length)
    (hbody : ∀ (cdv : Value) (A : Around) (outer : List Env) (s : Shared) (H : Hp) (E : XK) (O : Addr → Prop), Room k (A.deeper (envOfC qual (defScope st) s.heap.objs.size f cdv)) →
      Fx (cxOf (L2.CX P w) P w K mg base N qual (defScope st) f cdv A outer s H E) ⟨H, O, E, cls⟩ →
      DSs (cxOf (L2.CX P w) P w K mg base N qual (defScope st) f cdv A outer s H E) ⟨H, O, E, cls⟩ (defBody st) body) {nN nP : Nat} (eN : N.length = nN := by rfl) (eP : ps.length = nP := by rfl) :
    FnOk P w K mg base (L2.CX P w) (k + 1) f fd ps (spD K cls nP (runF nN body)) := by
  subst eN eP
  refine F.okX S (fun vs H Q E h => ?_) (fun cdv A outer s H vs Q E hr h => ?_)
  · obtain ⟨O, ds, _, hl, r, _⟩ := h
    rw [r.length, hl]
  · obtain ⟨O, ds, ho, hl, r, h⟩ := h
    refine ⟨_, hbody cdv A outer s H E O hr ⟨rfl, takes_of rfl rfl rfl rfl, passes_of rfl, by have := hr.un; show (A.deeper (envOfC qual (defScope st) s.heap.objs.size f cdv)).units + 100 < cLine; omega⟩, ?_⟩
    have R : RS K ⟨H, O, E, cls⟩ H (initE N.length ds) (start N vs) (fun _ => 0) := init_rs (b := ⟨H, O, E, cls⟩) (by omega) r ho
    refine ⟨_, _, R, (Pz.bind h).imp fun r _ h => ?_⟩
    cases r with
    | nx e => exact fun σ' H' o' R' p => h .non H' R'.ext .non
    | rt d => exact h
    | rto es => exact h
    | bk e => exact False.elim h
    | ct e => exact False.elim h
end

/-! ### calls -/
section
variable {X : Cx} {b : Bs} {e : Expr} {es : List Expr} {fs : FA} {L : List Nat} {pos p : Pos} {k n : Nat} {f : Addr} {fd : FuncData} {ps : List Str} {g : FF} {x : Str}
@[simp] def cCall (g : FF) (fs : FA) (env : En) : Rz PyData := (fs env).bind fun ds => (g ds).bind fun r => match r with
  | .val d => .ok d
  | .own es => .ok (.list es)
@[simp] def oCall (g : FF) (fs : FA) (env : En) : Rz (List PyData) := (fs env).bind fun ds => (g ds).bind fun r => match r with
  | .val _ => .st
  | .own es => .ok es
theorem xp_call {K : PySem.W.Frag} {H1 : Hp} {O : Addr → Prop} {σ : L2.St} {W : WX} {y : Xn} (s : Same b.H0 H1) (hW : ∀ c d H, b.xw c d H → W c d σ H) (h : XP K b y) : XP K ⟨H1, O, WE W σ, b.cls⟩ y := by
  obtain ⟨nm, pl⟩ := y
  cases pl with
  | none => exact fun H' s' => hW _ _ _ (h H' (s.trans s'))
  | some fd => exact fun H' a v s' hn ha r => hW _ _ _ (h H' a v (s.trans s') (s.free hn) ha r)
theorem pz_call {α : Type} {K : PySem.W.Frag} {H1 : Hp} {O : Addr → Prop} {σ : L2.St} {W : WX} {r : Rz α} {P P' : α → Prop} (s : Same b.H0 H1) (hW : ∀ c d H, b.xw c d H → W c d σ H) (h : Pz K b r P) (k : ∀ a, P a → P' a) : Pz K ⟨H1, O, WE W σ, b.cls⟩ r P' := by
  cases r with
  | ok a => exact k a h
  | ex y => exact xp_call s hW h
  | st => exact h
theorem de_call (F : Fx X b) (G : FnOk X.prog X.w X.K X.mg X.base (L2.CX X.prog X.w) k f fd ps (spD X.K b.cls n g)) (hr : Room k X.A) (hg : Gl X x) (hm : X.mg x = some (.ref f)) (hk : PySem.W.keepIn X.K (.ref f) = true) (hb : Binds X.K fd ps [])
    (ha : DA X b (e :: es) fs L) (hn : ∀ env ds, fs env = .ok ds → ds.length = n) (hdb : (x == ("__debug__" : Str)) = false := by decide) (he : starEach (e :: es) X.env = (false, eval e X.env) :: starEach es X.env := by rfl) (hpl : (backTo pos (starEach es X.env)).any (·.1) = false := by rfl) :
    DE X b (.Call (.Name x p) (e :: es) [] pos) (cCall g fs) L :=
  PE.wk (pe_callS G hr hg hm hk hb (fun σ => passAt (W := fun c d _ H => b.xw c d H) F.tk σ) ha hdb he hpl) fun σ H Q ⟨env, o, R, h⟩ => ⟨env, o, R, h.bind.imp fun ds q h vs H1 s1 r1 => by
    have R1 := (R.frees L).same s1
    refine ⟨Ex b (frees L env) o, ds, fun a z => R1.dom z, hn _ _ q, r1, pz_call R1.ext (fun _ _ _ z => z) h.bind fun r h => ?_⟩
    cases r with
    | val d => exact fun v H' s r => h v H' (s1.trans s) r
    | own es => exact fun a vs H' s hn ha r => h _ H' (s1.trans s) (.lst (.inl ha) (fun z => by obtain ⟨u, hu⟩ := R1.dom z; have hn' : H1 a = none := hn; rw [hn'] at hu; cases hu) (r.less fun _ z => .inl z))⟩
theorem do_call (F : Fx X b) (G : FnOk X.prog X.w X.K X.mg X.base (L2.CX X.prog X.w) k f fd ps (spD X.K b.cls n g)) (hr : Room k X.A) (hg : Gl X x) (hm : X.mg x = some (.ref f)) (hk : PySem.W.keepIn X.K (.ref f) = true) (hb : Binds X.K fd ps [])
    (ha : DA X b (e :: es) fs L) (hn : ∀ env ds, fs env = .ok ds → ds.length = n) (hdb : (x == ("__debug__" : Str)) = false := by decide) (he : starEach (e :: es) X.env = (false, eval e X.env) :: starEach es X.env := by rfl) (hpl : (backTo pos (starEach es X.env)).any (·.1) = false := by rfl) :
    DO X b (.Call (.Name x p) (e :: es) [] pos) (oCall g fs) L :=
  PE.wk (pe_callS G hr hg hm hk hb (fun σ => passAt (W := fun c d _ H => b.xw c d H) F.tk σ) ha hdb he hpl) fun σ H Q ⟨env, o, R, h⟩ => ⟨env, o, R, h.bind.imp fun ds q h vs H1 s1 r1 => by
    have R1 := (R.frees L).same s1
    refine ⟨Ex b (frees L env) o, ds, fun a z => R1.dom z, hn _ _ q, r1, pz_call R1.ext (fun _ _ _ z => z) h.bind fun r h => ?_⟩
    cases r with
    | val d => exact False.elim h
    | own es => exact fun a vs H' s hn ha r => h a vs H' (s1.trans s) (s1.free hn) ha r⟩
end
/-- the arguments' number -/
theorem len_nil : ∀ env ds, aNil env = .ok ds → ds.length = 0 := fun env ds h => by cases h; rfl
theorem len_cons {f : FE} {fs : FA} {n : Nat} (h : ∀ env ds, fs env = .ok ds → ds.length = n) : ∀ env ds, aCons f fs env = .ok ds → ds.length = n + 1 := fun env ds q => by
  unfold aCons at q
  cases q1 : f env with
  | ok d =>
    rw [q1, Rz.bind_ok] at q
    cases q2 : fs env with
    | ok xs =>
      rw [q2, Rz.bind_ok] at q
      cases q
      rw [List.length_cons, h env xs q2]
    | ex x => rw [q2] at q; cases q
    | st => rw [q2] at q; cases q
  | ex x => rw [q1] at q; cases q
  | st => rw [q1] at q; cases q

/-! ### zip of two tuples, of two lists -/
section
variable {X : Cx} {b : Bs} {e1 e2 : Expr} {f1 f2 : FE} {La Lb : List Nat} {pos p tpos : Pos} {elts : List Expr} {kk : Nat}
@[simp] def zipD (xs ys : List PyData) : List PyData := (xs.zip ys).map fun q => .tuple [q.1, q.2]
@[simp] def iZp (f1 f2 : FE) (env : En) : Rz (List PyData) := (f1 env).bind fun x => (f2 env).bind fun y => match x, y with
  | .tuple xs, .tuple ys => .ok (zipD xs ys)
  | .list xs, .list ys => .ok (zipD xs ys)
  | _, _ => .st
theorem zipD_get {xs ys : List PyData} {i : Nat} {x y : PyData} (hx : xs[i]? = some x) (hy : ys[i]? = some y) : (zipD xs ys)[i]? = some (.tuple [x, y]) := by
  unfold zipD
  have e : (xs.zip ys)[i]? = some (x, y) := List.getElem?_zip_eq_some.mpr ⟨hx, hy⟩
  rw [List.getElem?_map, e]
  rfl
theorem zipD_len (xs ys : List PyData) : (zipD xs ys).length = min xs.length ys.length := by simp [zipD]
theorem wk_zipT {K : PySem.W.Frag} {a c : Addr} {xs ys : List PyData} : Wk K (RZ.ItzT K a c) (zipD xs ys) (fun H O => Rp K H O (.ref a) (.tuple xs) ∧ Rp K H O (.ref c) (.tuple ys)) := by
  have at_ : ∀ {a : Addr} {ds : List PyData} {H : Hp} {O : Addr → Prop}, Rp K H O (.ref a) (.tuple ds) → ∃ xs, SqT K H a xs ∧ RpA K H O xs ds := fun {a ds H O} r => by
    obtain ⟨a', xs, e, h1, h2⟩ := r.sqT
    cases e
    exact ⟨xs, h1, h2⟩
  refine ⟨⟨fun i H hi ⟨O, r1, r2⟩ => ?_, fun H ⟨O, r1, r2⟩ => ?_, fun i H x H' hi ⟨O, r1, r2⟩ y => ?_⟩, fun H O H' O' p r => ⟨p _ _ r.1, p _ _ r.2⟩⟩
  · obtain ⟨us, h1, h2⟩ := at_ r1
    obtain ⟨vs, h3, h4⟩ := at_ r2
    have l1 := h2.length
    have l2 := h4.length
    rw [zipD_len] at hi
    exact ⟨us, vs, us[i]'(by omega), vs[i]'(by omega), h1, h3, by simp [show i < us.length by omega], by simp [show i < vs.length by omega]⟩
  · obtain ⟨us, h1, h2⟩ := at_ r1
    obtain ⟨vs, h3, h4⟩ := at_ r2
    have l1 := h2.length
    have l2 := h4.length
    exact ⟨us, vs, h1, h3, by rw [zipD_len]; omega⟩
  · obtain ⟨T, u, v, rfl, hT, rfl, y1, y2⟩ := y
    refine ⟨same_upd hT, fun O ⟨r1, r2⟩ => ?_⟩
    obtain ⟨us, h1, h2⟩ := at_ r1
    obtain ⟨vs, h3, h4⟩ := at_ r2
    obtain ⟨d1, e1, q1⟩ := h2.get' (y1 us h1)
    obtain ⟨d2, e2, q2⟩ := h4.get' (y2 vs h3)
    exact ⟨_, zipD_get e1 e2, .tup (.inl upd_same) (.cons (q1.same (same_upd hT)) (.cons (q2.same (same_upd hT)) .nil))⟩
theorem wk_zipL {K : PySem.W.Frag} {a c : Addr} {xs ys : List PyData} : Wk K (Itz K a c) (zipD xs ys) (fun H O => Rp K H O (.ref a) (.list xs) ∧ Rp K H O (.ref c) (.list ys)) := by
  have at_ : ∀ {a : Addr} {ds : List PyData} {H : Hp} {O : Addr → Prop}, Rp K H O (.ref a) (.list ds) → ∃ xs, SqL K H a xs ∧ RpA K H O xs ds := fun {a ds H O} r => by
    obtain ⟨a', xs, e, h1, h2⟩ := r.sqL
    cases e
    exact ⟨xs, h1, h2⟩
  refine ⟨⟨fun i H hi ⟨O, r1, r2⟩ => ?_, fun H ⟨O, r1, r2⟩ => ?_, fun i H x H' hi ⟨O, r1, r2⟩ y => ?_⟩, fun H O H' O' p r => ⟨p _ _ r.1, p _ _ r.2⟩⟩
  · obtain ⟨us, h1, h2⟩ := at_ r1
    obtain ⟨vs, h3, h4⟩ := at_ r2
    have l1 := h2.length
    have l2 := h4.length
    rw [zipD_len] at hi
    exact ⟨us, vs, us[i]'(by omega), vs[i]'(by omega), h1, h3, by simp [show i < us.length by omega], by simp [show i < vs.length by omega]⟩
  · obtain ⟨us, h1, h2⟩ := at_ r1
    obtain ⟨vs, h3, h4⟩ := at_ r2
    have l1 := h2.length
    have l2 := h4.length
    exact ⟨us, vs, h1, h3, by rw [zipD_len]; omega⟩
  · obtain ⟨T, u, v, rfl, hT, rfl, y1, y2⟩ := y
    refine ⟨same_upd hT, fun O ⟨r1, r2⟩ => ?_⟩
    obtain ⟨us, h1, h2⟩ := at_ r1
    obtain ⟨vs, h3, h4⟩ := at_ r2
    obtain ⟨d1, e1, q1⟩ := h2.get' (y1 us h1)
    obtain ⟨d2, e2, q2⟩ := h4.get' (y2 vs h3)
    exact ⟨_, zipD_get e1 e2, .tup (.inl upd_same) (.cons (q1.same (same_upd hT)) (.cons (q2.same (same_upd hT)) .nil))⟩
theorem di_zip (hg : Gl X "zip") (hm : X.mg "zip" = none) (h1 : DE X b e1 f1 La) (h2 : DE X b e2 f2 Lb)
    (hs : starEach [e1, e2] X.env = (false, eval e1 X.env) :: starEach [e2] X.env := by rfl) (hs2 : starEach [e2] X.env = (false, eval e2 X.env) :: starEach [] X.env := by rfl) (hpl : (backTo pos (starEach [e2] X.env)).any (·.1) = false := by rfl) :
    DI X b (.Tuple elts kk tpos) (.Call (.Name "zip" p) [e1, e2] [] pos) (iZp f1 f2) (La ++ Lb) :=
  PI.wk (RZ.pi_zipA hg hm (pa_cons h1 (pa_cons h2 pa_nil hs2) hs) hs hpl) fun σ H Q ⟨env, o, R, h⟩ => ⟨env, o, R, h.bind.imp fun x _ h v H1 s1 r1 => ⟨env, o, R.same s1, h.bind.imp fun y _ h w H2 s2 r2 => by
    have q1 := (r1.same s2).less (O' := Ex b (frees (La ++ Lb) env) o) fun a z => (ex_frees_app z).1
    have q2 := r2.less (O' := Ex b (frees (La ++ Lb) env) o) fun a z => (ex_frees_app z).2
    have s := s1.trans s2
    split at h
    · obtain ⟨a, us, rfl, h1, h2⟩ := q1.sqT
      obtain ⟨c, vs, rfl, h3, h4⟩ := q2.sqT
      exact ⟨a, c, us, vs, rfl, .inr ⟨h1, h3, h _ _ H2 s wk_zipT ⟨q1, q2⟩⟩⟩
    · obtain ⟨a, us, rfl, h1, h2⟩ := q1.sqL
      obtain ⟨c, vs, rfl, h3, h4⟩ := q2.sqL
      exact ⟨a, c, us, vs, rfl, .inl ⟨h1, h3, h _ _ H2 s wk_zipL ⟨q1, q2⟩⟩⟩
    · exact False.elim h⟩⟩
end

/-! ### d.get(k) of a written dict, its keys texts -/
section
variable {X : Cx} {b : Bs} {e : Expr} {f : FE} {L : List Nat} {pos p apos cpos : Pos} {x : Str} {a : Addr}
/-- a dict of the written part: what stands under a text -/
structure KD (K : PySem.W.Frag) (w : World) (a : Addr) (g : Str → Option PyData) : Prop where
  at_ : ∃ es n, K.lookup a = some ⟨.type "dict", none, .dict es n, #[]⟩ ∧ PySem.W.KeysLit w.params es.toList
  low : (a == sysModules) = false
  get : ∀ y : Str, (∃ d v u, g y = some d ∧ PySem.W.nsIn K a y = some (some u) ∧ RelV v u ∧ RK K v d) ∨ (g y = none ∧ PySem.W.nsIn K a y = some none)
@[simp] def cGet (g : Str → Option PyData) (f : FE) (env : En) : Rz PyData := (f env).bind fun d => match d with
  | .str y => .ok ((g y).getD .none)
  | _ => .st
def tGetK (t : TE) (g : Str → Option PyData) (K : PySem.W.Frag) : TE := fun σ H Q => t σ H fun x H1 => ∃ y, x = .str y ∧ ∀ v, RK K v ((g y).getD .none) → Q v H1
theorem pe_getK {t : TE} {g : Str → Option PyData} {u : Value} (D : KD X.K X.w a g) (hg : Gl X x) (hm : X.mg x = some (.ref a)) (he : PE X e t) (m : M1 X (.Name x p) "get" apos e cpos) (hdb : (x == ("__debug__" : Str)) = false := by decide) : PE X (.Call (.Attribute (.Name x p) "get" apos) [e] [] cpos) (tGetK t g X.K) := by
  refine ⟨fun pins s σ H Q I h => ?_⟩
  obtain ⟨es, n, hl, hk⟩ := D.at_
  have hmp := PySem.W.mapOf_K (prog := X.prog) (w := X.w) I.kIn hl hk
  refine wpAny_Call_method m.base m.few m.line PySem.F.plainAttrs_dict PySem.F.slot_dict_get PySem.F.type_dict_get (ld_glob I hg hm ?_ hdb)
  refine ⟨hmp.typeIs, fun c q => by cases q; exact ⟨_, I.kIn _ _ hl, rfl⟩, ?_⟩
  rw [m.trees]
  refine Calls.callWith_builtin rfl (Calls.evalArgs_plain (Calls.spliced_cons (thn (he.run pins s σ H _ I h) fun iv s2 ⟨y, H2, I2, ry, z, ez, q2⟩ => Calls.spliced_nil ?_)))
  subst ez
  obtain ⟨t0, rfl⟩ := (show ∃ t, iv = Value.str z t from ry)
  have hmp2 := PySem.W.mapOf_K (prog := X.prog) (w := X.w) I2.kIn hl hk
  rcases D.get z with ⟨d, v, u, e1, e2, e3, e4⟩ | ⟨e1, e2⟩
  · refine call_meetsIn PySem.F.slot_dict_get hmp2.typeIs PySem.F.entry_dict_get (PySem.F.args_dict_get_2 _ _) (meets_dict_get (strKind X.prog X.w) a (strKind_is X.prog X.w z t0) D.low) ⟨_, hmp2, ?_⟩
    rw [PySem.W.find_K hl e2]
    exact ⟨v, H2, I2.tok _, e3, q2 v (by rw [e1]; exact e4)⟩
  · refine call_meetsIn PySem.F.slot_dict_get hmp2.typeIs PySem.F.entry_dict_get (PySem.F.args_dict_get_2 _ _) (meets_dict_get (strKind X.prog X.w) a (strKind_is X.prog X.w z t0) D.low) ⟨_, hmp2, ?_⟩
    rw [PySem.W.find_K hl e2]
    exact ⟨.non, H2, I2.tok _, rfl, q2 .non (by rw [e1]; exact fun _ _ => .non)⟩
theorem de_getK {g : Str → Option PyData} (D : KD X.K X.w a g) (hg : Gl X x) (hm : X.mg x = some (.ref a)) (h : DE X b e f L) (m : M1 X (.Name x p) "get" apos e cpos) (hdb : (x == ("__debug__" : Str)) = false := by decide) :
    DE X b (.Call (.Attribute (.Name x p) "get" apos) [e] [] cpos) (cGet g f) [] :=
  PE.wk (pe_getK (u := .none) D hg hm h m hdb) fun σ H Q ⟨env, o, R, h⟩ => ⟨env, o, R, h.bind.imp fun d _ h v H1 s1 r1 => by
    split at h
    · exact ⟨_, r1.str_of, fun v k => h v H1 s1 (k _ _)⟩
    · exact False.elim h⟩
end
end DL
namespace DL
open PySem PySem.Spec PyProof.Rows L2

/-! ### defs by their names -/
def FnAt (K : PySem.W.Frag) (mg : Str → Option Value) (x : Str) (st : Stmt) : Prop := ∃ f fd, mg x = some (.ref f) ∧ Fun K x x st f fd
def Fn (P : Program) (w : World) (K : PySem.W.Frag) (mg : Str → Option Value) (base : Heap) (cls : Str → Value) (x : Str) (k : Nat) (ps : List Str) (g : FF) : Prop :=
  ∃ f fd, mg x = some (.ref f) ∧ FnOk P w K mg base (L2.CX P w) k f fd ps (spD K cls ps.length g) ∧ PySem.W.keepIn K (.ref f) = true ∧ ∀ us : List Value, us.length = ps.length → bindArgs fd ⟨us, []⟩ = pure (ps.zip us)
section
variable {P : Program} {w : World} {K : PySem.W.Frag} {mg : Str → Option Value} {base : Heap} {cls : Str → Value}
theorem Fn.mk {x : Str} {st : Stmt} {N ps : List Str} {k : Nat} {body : FS} (S : FnScope N ps (defScope st)) (At : FnAt K mg x st)
    (hbody : ∀ (cdv : Value) (A : Around) (outer : List Env) (s : Shared) (H : Hp) (E : XK) (O : Addr → Prop) (f : Addr), Room k (A.deeper (envOfC x (defScope st) s.heap.objs.size f cdv)) →
      Fx (cxOf (L2.CX P w) P w K mg base N x (defScope st) f cdv A outer s H E) ⟨H, O, E, cls⟩ →
      DSs (cxOf (L2.CX P w) P w K mg base N x (defScope st) f cdv A outer s H E) ⟨H, O, E, cls⟩ (defBody st) body)
    (hb : ∀ (kV doc pm : Value) (an : Option Addr) (cdv ct : Value) (us : List Value), us.length = ps.length → bindArgs (PySem.W.fnOf x x (defArgs st) (defBody st) (defScope st) .none kV doc pm an cdv ct) ⟨us, []⟩ = pure (ps.zip us))
    {nN : Nat} (eN : N.length = nN := by rfl) (hn : ps.length ≤ N.length := by decide) : Fn P w K mg base cls x (k + 1) ps (runF nN body) := by
  subst eN
  obtain ⟨f, fd, hm, F⟩ := At
  refine ⟨f, fd, hm, fn_D F S hn fun cdv A outer s H E O hr hF => hbody cdv A outer s H E O f hr hF, F.kp, ?_⟩
  obtain ⟨oc, od, kV, doc, pm, an, cdv, ct, osl, rfl, lk, hcd⟩ := F.ex
  exact hb kV doc pm an cdv ct
end
section
variable {X : Cx} {b : Bs} {e : Expr} {es : List Expr} {f : FE} {fs : FA} {L : List Nat} {pos p : Pos} {j k n : Nat} {ps : List Str} {g : FF} {x : Str}
theorem de_fn (F : Fx X b) (G : Fn X.prog X.w X.K X.mg X.base b.cls x j ps g) (hr : Room j X.A) (hg : Gl X x) (ha : DA X b (e :: es) fs L) (hn : ∀ env ds, fs env = .ok ds → ds.length = n) (hl : n = ps.length := by rfl)
    (hdb : (x == ("__debug__" : Str)) = false := by decide) (he : starEach (e :: es) X.env = (false, eval e X.env) :: starEach es X.env := by rfl) (hpl : (backTo pos (starEach es X.env)).any (·.1) = false := by rfl) :
    DE X b (.Call (.Name x p) (e :: es) [] pos) (cCall g fs) L := by
  obtain ⟨f, fd, hm, G, hk, hb⟩ := G
  exact de_call F G hr hg hm hk (.all hb) ha (fun env ds h => (hn env ds h).trans hl) hdb he hpl
theorem do_fn (F : Fx X b) (G : Fn X.prog X.w X.K X.mg X.base b.cls x j ps g) (hr : Room j X.A) (hg : Gl X x) (ha : DA X b (e :: es) fs L) (hn : ∀ env ds, fs env = .ok ds → ds.length = n) (hl : n = ps.length := by rfl)
    (hdb : (x == ("__debug__" : Str)) = false := by decide) (he : starEach (e :: es) X.env = (false, eval e X.env) :: starEach es X.env := by rfl) (hpl : (backTo pos (starEach es X.env)).any (·.1) = false := by rfl) :
    DO X b (.Call (.Name x p) (e :: es) [] pos) (oCall g fs) L := by
  obtain ⟨f, fd, hm, G, hk, hb⟩ := G
  exact do_call F G hr hg hm hk (.all hb) ha (fun env ds h => (hn env ds h).trans hl) hdb he hpl
/-! -x -/
@[simp] def gNeg : PyData → Option PyData
  | .int i => some (.int (-i))
  | _ => none
theorem de_neg (h : DE X b e f L) : DE X b (.UnaryOp .USub e pos) (c1 gNeg f) L := de_un un_neg (fun H O x dx d Q r e q => by
  unfold gNeg at e
  split at e
  · cases e; exact ⟨_, r.int_of, q _ _ (.refl H) (.int _)⟩
  · cases e) h
/-- a statement that the proof never comes to -/
@[simp] def sNever (_ : En) : Rz Rs := .st
theorem ds_never {st : Stmt} : DS X b st sNever := PS.wk ps_never fun _ _ _ ⟨_, _, _, h⟩ => h
end
/-! ### the law's end -/
theorem law_end {l : PySem.W.OpenLaw} {q : Program} {loose : List Str} {XP : (Str → Option Value) → Heap → Prop} {YP : World → Heap → Prop} {d : DefRec} {K : Params → PySem.W.Frag} {g : FF} {k : Nat} {cls : World → Str → Value}
    (hn : l.most = some 63) (hdf : d.params.defaults = []) (hd : d.name = "law") (hk : Room k callerA)
    (hY : ∀ (w : World) (h : Heap), YP w h → (K w.params).In h)
    (F : ∀ (w : World) (mg : Str → Option Value) (h : Heap), (K w.params).In h → h.Ns mainGlobals mg →
      ∃ f fd, mg "law" = some (.ref f) ∧ (∀ (s : Shared) (u : Value), BindsTo s fd ⟨[u], []⟩ [("script", u)]) ∧ ∀ base : Heap, (K w.params).In base → base.Ns mainGlobals mg → FnOk l.prog w (K w.params) mg base (L2.CX l.prog w) k f fd ["script"] (spD (K w.params) (cls w) 1 g))
    (hg : ∀ ns : List Int, ns.length ≤ 63 → g [.list (ns.map .int)] = .ok (.val (.bool true))) :
    PySem.W.WalkO q loose XP YP l.row.toRowW d [] (fun f vs => PySem.call f vs) := by
  refine Att.attach_call hn hdf fun w s₀ s₁ mg mb fa o pm cd doc a vs ns G Y ho hdd hcd hmg hobj hints hlen hgn => ?_
  have KX := hY w _ Y
  obtain ⟨f, fd, hm, hb, hF⟩ := F w mg _ KX G.T.g
  rw [hd] at hmg
  have e := hmg.symm.trans hm
  cases e
  refine law_call KX G.T.g G.T.b G.T.builtins G.T.nolimit hgn hobj hints (Nat.le_trans hlen (by decide)) hk hF hb (fun H hO hS => ?_) fun H e s' z => ?_
  · have ri : ∀ (ns : List Int), RpA (K w.params) H (fun _ => False) (ns.map V.int) (ns.map PyData.int) := fun ns => by
      induction ns with
      | nil => exact .nil
      | cons n ns ih => exact .cons (.int n) ih
    refine ⟨fun _ => False, [.list (ns.map .int)], fun _ z => z.elim, rfl, .cons ?_ .nil, ?_⟩
    · rcases hS with r | ⟨ob, its, n, h1, h2, h3, h4, h5, h6⟩
      · exact .lst r id (ri ns)
      · have e := KX a ob h1
        rw [hobj] at e
        cases e
        injection h4 with h4 h7
        subst h4
        exact .lstK ⟨vs.toArray, 0, h1, h5, h6⟩ (ri ns)
    · rw [hg ns hlen]
      exact fun v H' s r => r.bl_of
  · obtain ⟨_, _, _, _, _, _, _, _, _, _, _, _, z⟩ := z
    exact z
end DL
namespace DL
open PySem PySem.Spec PyProof.Rows L2

/-! ### what the top has written -/
/-- a value of the top -/
def RKV (K : PySem.W.Frag) (u : Value) (d : PyData) : Prop := ∃ v, RelV v u ∧ RK K v d
inductive RKL (K : PySem.W.Frag) : List Value → List PyData → Prop where
  | nil : RKL K [] []
  | cons {u : Value} {us : List Value} {d : PyData} {ds : List PyData} : RKV K u d → RKL K us ds → RKL K (u :: us) (d :: ds)
section
variable {K : PySem.W.Frag} {a : Addr} {n : Nat}
theorem rkv_int {i : Int} {t : Tok} : RKV K (.int i t) (.int i) := ⟨.int i, ⟨t, rfl⟩, fun _ _ => .int i⟩
theorem rkv_str {x : Str} {t : Tok} : RKV K (.str x t) (.str x) := ⟨.str x, ⟨t, rfl⟩, fun _ _ => .str x⟩
theorem rkv_non : RKV K .none .none := ⟨.non, rfl, fun _ _ => .non⟩
theorem rkv_bl {b : Bool} : RKV K (.bool b) (.bool b) := ⟨.bl b, rfl, fun _ _ => .bl b⟩
theorem RKL.all : ∀ {us : List Value} {ds : List PyData}, RKL K us ds → ∃ vs, Vals vs us ∧ ∀ H O, RpA K H O vs ds
  | _, _, .nil => ⟨[], .nil, fun _ _ => .nil⟩
  | _, _, .cons ⟨v, r, k⟩ t =>
    let ⟨vs, h1, h2⟩ := RKL.all t
    ⟨v :: vs, .cons r h1, fun H O => .cons (k H O) (h2 H O)⟩
theorem RKL.length : ∀ {us : List Value} {ds : List PyData}, RKL K us ds → us.length = ds.length
  | _, _, .nil => rfl
  | _, _, .cons _ t => by rw [List.length_cons, List.length_cons, RKL.length t]
theorem rk_tup {us : List Value} {ds : List PyData} {dd : Option Addr} {sl : Array (Option Value)} (h : K.lookup a = some ⟨.type "tuple", dd, .seq us.toArray n, sl⟩) (r : RKL K us ds) (hz : ds.length ≤ 1000000 := by decide) : RK K (.ref a) (.tuple ds) := by
  obtain ⟨vs, h1, h2⟩ := r.all
  intro H O
  have := r.length
  have hm := million
  exact .tupK ⟨_, us.toArray, n, h, rfl, rfl, by simp; omega, by simpa using h1⟩ (h2 H O)
theorem rkv_tup {us : List Value} {ds : List PyData} {dd : Option Addr} {sl : Array (Option Value)} (h : K.lookup a = some ⟨.type "tuple", dd, .seq us.toArray n, sl⟩) (r : RKL K us ds) (hz : ds.length ≤ 1000000 := by decide) : RKV K (.ref a) (.tuple ds) := ⟨.ref a, rfl, rk_tup h r hz⟩
/-- the entries of a written dict -/
inductive KEs (K : PySem.W.Frag) (w : World) : List DictEntry → List (Str × PyData) → Prop where
  | nil : KEs K w [] []
  | cons {y : Str} {t : Tok} {u : Value} {d : PyData} {es : List DictEntry} {qs : List (Str × PyData)} : RKV K u d → KEs K w es qs → KEs K w (⟨PyData.keyHash w.params y, .str y t, u⟩ :: es) ((y, d) :: qs)
theorem KEs.lit {w : World} : ∀ {es : List DictEntry} {qs : List (Str × PyData)}, KEs K w es qs → PySem.W.KeysLit w.params es
  | _, _, .nil => trivial
  | _, _, .cons _ t => ⟨⟨_, _, rfl, rfl⟩, KEs.lit t⟩
theorem KEs.find {w : World} (y : Str) : ∀ {es : List DictEntry} {qs : List (Str × PyData)}, KEs K w es qs →
    (∃ d e, qs.lookup y = some d ∧ es.find? (fun d => d.key.isStr y) = some e ∧ RKV K e.val d) ∨ (qs.lookup y = none ∧ es.find? (fun d => d.key.isStr y) = none ∧ es.any (·.refKey) = false)
  | _, _, .nil => .inr ⟨rfl, rfl, rfl⟩
  | _, _, .cons (y := z) (t := t) (u := u) (d := d) (es := es) (qs := qs) r h => by
    by_cases e : y = z
    · subst e
      refine .inl ⟨d, ⟨PyData.keyHash w.params y, .str y t, u⟩, by simp [List.lookup], ?_, r⟩
      rw [List.find?_cons_of_pos]
      show (Value.str y t).isStr y = true
      simp [Value.isStr]
    · have e1 : (Value.str z t).isStr y = false := by
        simp [Value.isStr]
        exact fun q => e q.symm
      have e2 : (y == z) = false := beq_eq_false_iff_ne.mpr e
      have e3 : List.lookup y ((z, d) :: qs) = qs.lookup y := by simp [List.lookup, e2]
      have e4 : List.find? (fun d : DictEntry => d.key.isStr y) (⟨PyData.keyHash w.params z, .str z t, u⟩ :: es) = es.find? (fun d => d.key.isStr y) := by
        rw [List.find?_cons_of_neg]
        show ¬ (Value.str z t).isStr y = true
        rw [e1]; exact Bool.false_ne_true
      rcases KEs.find y h with ⟨d', e', h1, h2, h3⟩ | ⟨h1, h2, h3⟩
      · exact .inl ⟨d', e', e3.trans h1, e4.trans h2, h3⟩
      · exact .inr ⟨e3.trans h1, e4.trans h2, by rw [List.any_cons, h3]; rfl⟩
theorem kd_of {w : World} {es : List DictEntry} {qs : List (Str × PyData)} (h : K.lookup a = some ⟨.type "dict", none, .dict es.toArray n, #[]⟩) (low : (a == sysModules) = false) (r : KEs K w es qs) : KD K w a (fun y => qs.lookup y) := by
  refine ⟨⟨es.toArray, n, h, by simpa using r.lit⟩, low, fun y => ?_⟩
  have e : PySem.W.nsIn K a y = match es.find? (fun d => d.key.isStr y) with
      | some d => some (some d.val)
      | none => if es.any (·.refKey) then none else some none := by
    unfold PySem.W.nsIn
    rw [h]
    show (match es.toArray.toList.find? (fun x => x.key.isStr y) with
      | some e => some (some e.val)
      | none => if es.toArray.toList.any (·.refKey) then none else some none) = _
    rw [List.toList_toArray]
  rcases r.find y with ⟨d, ee, h1, h2, v, h3, h4⟩ | ⟨h1, h2, h3⟩
  · exact .inl ⟨d, v, ee.val, h1, by rw [e, h2], h3, h4⟩
  · exact .inr ⟨h1, by rw [e, h2, h3]; rfl⟩
end
section
variable {X : Cx} {b : Bs} {e : Expr} {f : FE} {L : List Nat} {pos p apos cpos : Pos} {x : Str} {d : PyData}
theorem de_getK' {g : Str → Option PyData} (D : ∃ a, X.mg x = some (.ref a) ∧ KD X.K X.w a g) (hg : Gl X x) (h : DE X b e f L) (m : M1 X (.Name x p) "get" apos e cpos) (hdb : (x == ("__debug__" : Str)) = false := by decide) :
    DE X b (.Call (.Attribute (.Name x p) "get" apos) [e] [] cpos) (cGet g f) [] := by
  obtain ⟨a, hm, D⟩ := D
  exact de_getK D hg hm h m hdb
theorem de_gI {i : Int} (D : ∃ t, X.mg x = some (.int i t)) (hg : Gl X x) (hd : (x == ("__debug__" : Str)) = false := by decide) : DE X b (.Name x pos) (cC (.int i)) [] := by
  obtain ⟨t, hm⟩ := D
  exact de_glob (v := .int i) hg hm ⟨t, rfl⟩ (fun _ _ => .int i) hd
theorem de_gK (D : ∃ a, X.mg x = some (.ref a) ∧ RK X.K (.ref a) d) (hg : Gl X x) (hd : (x == ("__debug__" : Str)) = false := by decide) : DE X b (.Name x pos) (cC d) [] := by
  obtain ⟨a, hm, k⟩ := D
  exact de_glob (v := .ref a) hg hm rfl k hd
end

/-! ### built-ins -/
theorem bb_len : bootBuiltins "len" = some (.builtin "len") := by decide +kernel
theorem bb_isinstance : bootBuiltins "isinstance" = some (.builtin "isinstance") := by decide +kernel
theorem bb_abs : bootBuiltins "abs" = some (.builtin "abs") := by decide +kernel
theorem bb_max : bootBuiltins "max" = some (.builtin "max") := by decide +kernel
theorem bb_min : bootBuiltins "min" = some (.builtin "min") := by decide +kernel
theorem bb_sorted : bootBuiltins "sorted" = some (.builtin "sorted") := by decide +kernel
theorem bb_sum : bootBuiltins "sum" = some (.builtin "sum") := by decide +kernel
theorem bb_any : bootBuiltins "any" = some (.builtin "any") := by decide +kernel
theorem bb_all : bootBuiltins "all" = some (.builtin "all") := by decide +kernel
theorem bb_ord : bootBuiltins "ord" = some (.builtin "ord") := by decide +kernel
theorem bb_chr : bootBuiltins "chr" = some (.builtin "chr") := by decide +kernel
theorem bb_repr : bootBuiltins "repr" = some (.builtin "repr") := by decide +kernel
theorem bb_int : bootBuiltins "int" = some (.type "int") := by decide +kernel
theorem bb_bool : bootBuiltins "bool" = some (.type "bool") := by decide +kernel
theorem bb_str : bootBuiltins "str" = some (.type "str") := by decide +kernel
theorem bb_list : bootBuiltins "list" = some (.type "list") := by decide +kernel
theorem bb_tuple : bootBuiltins "tuple" = some (.type "tuple") := by decide +kernel
theorem bb_dict : bootBuiltins "dict" = some (.type "dict") := by decide +kernel
theorem bb_range : bootBuiltins "range" = some (.type "range") := by decide +kernel
theorem bb_zip : bootBuiltins "zip" = some (.type "zip") := by decide +kernel
theorem bb_enumerate : bootBuiltins "enumerate" = some (.type "enumerate") := by decide +kernel
theorem bb_reversed : bootBuiltins "reversed" = some (.type "reversed") := by decide +kernel
theorem bb_set : bootBuiltins "set" = some (.type "set") := by decide +kernel
end DL
namespace DL
open PySem PySem.Spec PyProof.Rows L2

/-! ### reckoning with the functions -/
theorem ofString_inj {a c : String} : Str.ofString a = Str.ofString c ↔ a = c := by
  constructor
  · intro h
    rw [Str.ofString_eq_toList, Str.ofString_eq_toList] at h
    have h1 : (a.toList.map Char.toNat).toArray = (c.toList.map Char.toNat).toArray := congrArg Str.cps h
    have h2 : a.toList.map Char.toNat = c.toList.map Char.toNat := by simpa using congrArg Array.toList h1
    have inj : Function.Injective Char.toNat := fun x y e => Char.toNat_inj.mp e
    exact String.toList_inj.mp ((List.map_inj_right inj).mp h2)
  · rintro rfl; rfl
@[simp] theorem str_beq (a c : String) : (Str.ofString a == Str.ofString c) = (a == c) := by
  rw [Bool.eq_iff_iff, beq_iff_eq, beq_iff_eq, ofString_inj]
theorem strOk_of (a : String) : PyData.strOk (Str.ofString a) = true := by
  rw [Str.ofString_eq_toList]
  unfold PyData.strOk
  simp only [List.all_toArray, List.all_map, List.all_eq_true]
  intro c _
  have := c.valid
  simp only [Function.comp, decide_eq_true_eq]
  show c.val.toNat < 0x110000
  simp only [UInt32.isValidChar, Nat.isValidChar] at this
  omega
@[simp] theorem sh_int (i : Int) : SeqAt.shaped (.int i) = true := by simp [SeqAt.shaped, PyData.canLay0, PyData.depth]
@[simp] theorem sh_bool (i : Bool) : SeqAt.shaped (.bool i) = true := by simp [SeqAt.shaped, PyData.canLay0, PyData.depth]
@[simp] theorem sh_none : SeqAt.shaped .none = true := by simp [SeqAt.shaped, PyData.canLay0, PyData.depth]
@[simp] theorem sh_str (a : String) : SeqAt.shaped (.str (Str.ofString a)) = true := by simp [SeqAt.shaped, PyData.canLay0, PyData.depth, strOk_of]
/-- data of depth n at most -/
def dep (n : Nat) (d : PyData) : Bool := d.canLay0 && decide (d.depth ≤ n)
def deps (n : Nat) (ds : List PyData) : Bool := PyData.canLayAll0 ds && decide (PyData.depthAll ds ≤ n)
theorem sh_dep (d : PyData) : SeqAt.shaped d = dep 64 d := rfl
@[simp] theorem dep_int (n : Nat) (i : Int) : dep n (.int i) = true := by simp [dep, PyData.canLay0, PyData.depth]
@[simp] theorem dep_bool (n : Nat) (i : Bool) : dep n (.bool i) = true := by simp [dep, PyData.canLay0, PyData.depth]
@[simp] theorem dep_none (n : Nat) : dep n .none = true := by simp [dep, PyData.canLay0, PyData.depth]
@[simp] theorem dep_str (n : Nat) (a : String) : dep n (.str (Str.ofString a)) = true := by simp [dep, PyData.canLay0, PyData.depth, strOk_of]
@[simp] theorem dep_tup (n : Nat) (ds : List PyData) : dep (n + 1) (.tuple ds) = deps n ds := by simp [dep, deps, PyData.canLay0, PyData.depth]
@[simp] theorem dep_lst (n : Nat) (ds : List PyData) : dep (n + 1) (.list ds) = deps n ds := by simp [dep, deps, PyData.canLay0, PyData.depth]
@[simp] theorem deps_nil (n : Nat) : deps n [] = true := by simp [deps, PyData.canLayAll0, PyData.depthAll]
@[simp] theorem deps_cons (n : Nat) (d : PyData) (ds : List PyData) : deps n (d :: ds) = (dep n d && deps n ds) := by
  unfold deps dep
  simp only [PyData.canLayAll0, PyData.depthAll, Nat.max_le]
  cases d.canLay0 <;> cases PyData.canLayAll0 ds <;> simp
@[simp] theorem sh_tup (ds : List PyData) : SeqAt.shaped (.tuple ds) = deps 63 ds := dep_tup 63 ds
@[simp] theorem sh_lst (ds : List PyData) : SeqAt.shaped (.list ds) = deps 63 ds := dep_lst 63 ds
theorem deps_all (n : Nat) : ∀ ds : List PyData, deps n ds = ds.all (dep n)
  | [] => by simp
  | d :: ds => by rw [deps_cons, List.all_cons, deps_all n ds]
/-! one equation a case -/
section
variable (i j : Int) (x y : Str) (c k : Bool) (xs ys : List PyData) (d : PyData)
@[simp] theorem eqv_ii : PyData.eqv (.int i) (.int j) = (i == j) := by simp [PyData.eqv]
@[simp] theorem eqv_ss : PyData.eqv (.str x) (.str y) = (x == y) := by simp [PyData.eqv]
@[simp] theorem eqv_bb : PyData.eqv (.bool c) (.bool k) = (c == k) := by simp [PyData.eqv]
@[simp] theorem eqv_nn : PyData.eqv .none .none = true := by simp [PyData.eqv]
@[simp] theorem eqv_bi : PyData.eqv (.bool c) (.int i) = ((if c then 1 else 0) == i) := by simp [PyData.eqv]
@[simp] theorem eqv_ib : PyData.eqv (.int i) (.bool c) = (i == (if c then 1 else 0)) := by simp [PyData.eqv]
@[simp] theorem eqv_tt : PyData.eqv (.tuple xs) (.tuple ys) = PyData.eqvAll xs ys := by simp [PyData.eqv]
@[simp] theorem eqv_ll : PyData.eqv (.list xs) (.list ys) = PyData.eqvAll xs ys := by simp [PyData.eqv]
@[simp] theorem eqv_ni : PyData.eqv .none (.int i) = false := by simp [PyData.eqv]
@[simp] theorem eqv_in : PyData.eqv (.int i) .none = false := by simp [PyData.eqv]
@[simp] theorem eqv_nb : PyData.eqv .none (.bool c) = false := by simp [PyData.eqv]
@[simp] theorem eqv_bn : PyData.eqv (.bool c) .none = false := by simp [PyData.eqv]
@[simp] theorem eqv_ns : PyData.eqv .none (.str x) = false := by simp [PyData.eqv]
@[simp] theorem eqv_sn : PyData.eqv (.str x) .none = false := by simp [PyData.eqv]
@[simp] theorem eqv_nt : PyData.eqv .none (.tuple xs) = false := by simp [PyData.eqv]
@[simp] theorem eqv_tn : PyData.eqv (.tuple xs) .none = false := by simp [PyData.eqv]
@[simp] theorem eqv_nl : PyData.eqv .none (.list xs) = false := by simp [PyData.eqv]
@[simp] theorem eqv_ln : PyData.eqv (.list xs) .none = false := by simp [PyData.eqv]
@[simp] theorem eqv_is : PyData.eqv (.int i) (.str x) = false := by simp [PyData.eqv]
@[simp] theorem eqv_si : PyData.eqv (.str x) (.int i) = false := by simp [PyData.eqv]
@[simp] theorem eqv_it : PyData.eqv (.int i) (.tuple xs) = false := by simp [PyData.eqv]
@[simp] theorem eqv_ti : PyData.eqv (.tuple xs) (.int i) = false := by simp [PyData.eqv]
@[simp] theorem eqv_st : PyData.eqv (.str x) (.tuple xs) = false := by simp [PyData.eqv]
@[simp] theorem eqv_ts : PyData.eqv (.tuple xs) (.str x) = false := by simp [PyData.eqv]
@[simp] theorem eqv_bs : PyData.eqv (.bool c) (.str x) = false := by simp [PyData.eqv]
@[simp] theorem eqv_sb : PyData.eqv (.str x) (.bool c) = false := by simp [PyData.eqv]
@[simp] theorem eqv_bt : PyData.eqv (.bool c) (.tuple xs) = false := by simp [PyData.eqv]
@[simp] theorem eqv_tb : PyData.eqv (.tuple xs) (.bool c) = false := by simp [PyData.eqv]
@[simp] theorem eqv_tl : PyData.eqv (.tuple xs) (.list ys) = false := by simp [PyData.eqv]
@[simp] theorem eqv_lt : PyData.eqv (.list xs) (.tuple ys) = false := by simp [PyData.eqv]
@[simp] theorem eqvA_nn : PyData.eqvAll [] [] = true := by simp [PyData.eqvAll]
@[simp] theorem eqvA_nc : PyData.eqvAll [] (d :: ys) = false := by simp [PyData.eqvAll]
@[simp] theorem eqvA_cn : PyData.eqvAll (d :: xs) [] = false := by simp [PyData.eqvAll]
@[simp] theorem eqvA_cc (e : PyData) : PyData.eqvAll (d :: xs) (e :: ys) = (PyData.eqv d e && PyData.eqvAll xs ys) := by simp [PyData.eqvAll]
end
/-! places and parts -/
@[simp] theorem frees_nil (env : En) : frees [] env = env := rfl
@[simp] theorem frees_cons (i : Nat) (L : List Nat) (env : En) : frees (i :: L) env = frees L (freeze i env) := rfl
@[simp] theorem atI_nn {α : Type} (xs : List α) (i : Int) (h : 0 ≤ i) : atI xs i = xs[i.toNat]? := by
  unfold atI ixN
  rw [if_pos h]
  by_cases h2 : i < xs.length
  · rw [if_pos h2]; rfl
  · rw [if_neg h2]
    rw [List.getElem?_eq_none (by omega)]
    rfl
theorem atI_neg {α : Type} (xs : List α) (i : Int) (h : i < 0) (h2 : -(xs.length : Int) ≤ i) : atI xs i = xs[(i + xs.length).toNat]? := by
  unfold atI ixN
  rw [if_neg (by omega), if_pos h2]
  rfl
@[simp] theorem atI_last1 {α : Type} (xs : List α) (x : α) : atI (x :: xs) (-1) = (x :: xs)[xs.length]? := by
  rw [atI_neg _ _ (by decide) (by simp only [List.length_cons]; omega)]
  congr 1
  simp only [List.length_cons]
  omega
theorem sIx_nn (n d : Nat) (i : Int) (h : 0 ≤ i) : HT.sIx n d (some i) = min i.toNat n := by
  obtain ⟨k, rfl⟩ := Int.eq_ofNat_of_zero_le h
  rw [HT.sIx_nat]
  rfl
@[simp] theorem cut_from {α : Type} (xs : List α) (i : Int) (h : 0 ≤ i) : cutA xs (some i) none = xs.drop i.toNat := by
  unfold cutA
  rw [sIx_nn _ _ _ h, HT.sIx_none]
  rw [List.take_of_length_le (by rw [List.length_drop]; omega)]
  by_cases hl : i.toNat ≤ xs.length
  · rw [Nat.min_eq_left hl]
  · rw [Nat.min_eq_right (by omega), List.drop_length, List.drop_of_length_le (by omega)]
@[simp] theorem cut_to {α : Type} (xs : List α) (i : Int) (h : 0 ≤ i) : cutA xs none (some i) = xs.take i.toNat := by
  unfold cutA
  rw [sIx_nn _ _ _ h, HT.sIx_none, List.drop_zero, Nat.sub_zero]
  by_cases hl : i.toNat ≤ xs.length
  · rw [Nat.min_eq_left hl]
  · rw [Nat.min_eq_right (by omega), List.take_length, List.take_of_length_le (by omega)]
@[simp] theorem cut_both {α : Type} (xs : List α) (i j : Int) (h : 0 ≤ i) (h2 : 0 ≤ j) : cutA xs (some i) (some j) = (xs.take j.toNat).drop i.toNat := by
  unfold cutA
  rw [sIx_nn _ _ _ h, sIx_nn _ _ _ h2, List.drop_take]
  by_cases hl : i.toNat ≤ xs.length
  · rw [Nat.min_eq_left hl]
    by_cases hj : j.toNat ≤ xs.length
    · rw [Nat.min_eq_left hj]
    · rw [Nat.min_eq_right (by omega), List.take_of_length_le (by rw [List.length_drop]; omega), List.take_of_length_le (by rw [List.length_drop]; omega)]
  · rw [Nat.min_eq_right (a := i.toNat) (by omega), List.drop_length, List.drop_of_length_le (by omega)]
    simp
@[simp] theorem cut_all {α : Type} (xs : List α) : cutA xs none none = xs := by
  unfold cutA
  rw [HT.sIx_none, HT.sIx_none, List.drop_zero, Nat.sub_zero, List.take_length]
@[simp] theorem cut_but {α : Type} (xs : List α) : cutA xs none (some (-1)) = xs.dropLast := by
  unfold cutA
  rw [HT.sIx_none, List.drop_zero, Nat.sub_zero, List.dropLast_eq_take]
  congr 1
  have e := HT.clip_eq (-1) xs.length xs.length
  rw [if_pos (by decide)] at e
  omega
@[simp] theorem lookup_s {β : Type} (a c : String) (v : β) (l : List (Str × β)) : List.lookup (Str.ofString a) ((Str.ofString c, v) :: l) = if a = c then some v else List.lookup (Str.ofString a) l := by
  by_cases h : a = c
  · subst h; simp [List.lookup]
  · have : (Str.ofString a == Str.ofString c) = false := by rw [str_beq]; exact beq_eq_false_iff_ne.mpr h
    simp [List.lookup, this, h]
@[simp] theorem lookup_e {β : Type} (a : Str) : List.lookup a ([] : List (Str × β)) = none := rfl
end DL
/-! List comprehensions: one clause, its target a name; tests. -/
namespace DL
open PySem PySem.Spec PyProof.Rows L2
/-- within a comprehension's block: D the list that grows -/
def blkB (b : Bs) (D : Addr) (acc : List V) : Bs := ⟨upd b.H0 D (.lst acc), fun a => b.O0 a ∨ a = D, fun _ _ _ => False, b.cls⟩
section
variable {K : PySem.W.Frag} {b : Bs} {H H' : Hp} {env : En} {σ : L2.St} {o : Nat → Addr}
/-- a slot forgotten -/
theorem RS.no {i : Nat} (r : RS K b H env σ o) : RS K b H (env.set i Sl.no) (σ.set i none) o := by
  have back : ∀ j (s : Sl), s ≠ Sl.no → (env.set i Sl.no)[j]? = some s → env[j]? = some s ∧ j ≠ i := by
    intro j s hs z1
    by_cases hj : j = i
    · subst hj
      by_cases hl : j < env.length
      · rw [List.getElem?_set_self hl] at z1; cases z1; exact absurd rfl hs
      · rw [List.getElem?_eq_none (by rw [List.length_set]; omega)] at z1; cases z1
    · rw [List.getElem?_set_ne (Ne.symm hj)] at z1; exact ⟨z1, hj⟩
  have le : ∀ a, Ex b (env.set i Sl.no) o a → Ex b env o a := by
    rintro a (z | ⟨j, es, z1, z2⟩)
    · exact .inl z
    · exact .inr ⟨j, es, (back j _ (by intro h; cases h) z1).1, z2⟩
  refine ⟨by rw [List.length_set, List.length_set]; exact r.len, fun j d q => ?_, fun j es q => ?_, fun j k es fs h1 h2 => ?_, r.ext, r.o0⟩
  · obtain ⟨q', hj⟩ := back j _ (by intro h; cases h) q
    obtain ⟨w, h1, h2⟩ := r.val j d q'
    exact ⟨w, by rw [List.getElem?_set_ne (Ne.symm hj)]; exact h1, h2.less le⟩
  · obtain ⟨q', hj⟩ := back j _ (by intro h; cases h) q
    obtain ⟨vs, h1, h2, h3, h4⟩ := r.own j es q'
    exact ⟨vs, by rw [List.getElem?_set_ne (Ne.symm hj)]; exact h1, h2, h3.less le, h4⟩
  · exact r.inj j k es fs (back j _ (by intro h; cases h) h1).1 (back k _ (by intro h; cases h) h2).1
/-- the slots as the block sees them: the growing list is kept out -/
theorem RS.into {D : Addr} {acc : List V} {Hm : Hp} (r : RS K b Hm env σ o) (hm : Hm D = none) (s : Same Hm H) (hD : H D = some (.lst acc)) : RS K (blkB b D acc) H env σ o := by
  have ex : ∀ a, Ex (blkB b D acc) env o a → Ex b env o a ∨ Hm a = none := by
    rintro a ((z | z) | z)
    · exact .inl (.inl z)
    · exact .inr (by rw [z]; exact hm)
    · exact .inl (.inr z)
  have b0 : b.H0 D = none := by
    cases q : b.H0 D with
    | none => rfl
    | some u => rw [r.ext _ _ q] at hm; cases hm
  refine ⟨r.len, fun j d q => ?_, fun j es q => ?_, r.inj, fun a u e => ?_, fun a z => ?_⟩
  · obtain ⟨v, h1, h2⟩ := r.val j d q
    exact ⟨v, h1, Rp.move (.of_same s) ex _ _ h2⟩
  · obtain ⟨vs, h1, h2, h3, h4⟩ := r.own j es q
    refine ⟨vs, h1, s _ _ h2, Rp.moveA (.of_same s) ex _ _ h3, ?_⟩
    have : o j ≠ D := fun z => by rw [z, hm] at h2; cases h2
    show upd b.H0 D _ (o j) = none
    rw [upd_ne this]; exact h4
  · change upd b.H0 D (.lst acc) a = some u at e
    by_cases q : a = D
    · rw [q, upd_same] at e; rw [q, hD]; exact e
    · rw [upd_ne q] at e; exact s _ _ (r.ext _ _ e)
  · rcases z with z | z
    · obtain ⟨u, hu⟩ := r.o0 a z
      refine ⟨u, ?_⟩
      show upd b.H0 D _ a = some u
      rw [upd_ne (fun h => by rw [h, b0] at hu; cases hu)]; exact hu
    · exact ⟨.lst acc, by rw [z]; exact upd_same⟩
end
/-- the heap without an address -/
def lessA (H : Hp) (D : Addr) : Hp := fun a => if a = D then none else H a
theorem lessA_same {H : Hp} {D : Addr} : Same (lessA H D) H := fun a u e => by
  unfold lessA at e
  by_cases q : a = D
  · rw [if_pos q] at e; cases e
  · rw [if_neg q] at e; exact e
theorem lessA_of {H H' : Hp} {D : Addr} (h : H D = none) (s : Same H H') : Same H (lessA H' D) := fun a u e => by
  unfold lessA
  by_cases q : a = D
  · rw [q, h] at e; cases e
  · rw [if_neg q]; exact s _ _ e
theorem lessA_at {H : Hp} {D : Addr} : lessA H D D = none := by unfold lessA; rw [if_pos rfl]
theorem keep_cut {H : Hp} {D : Addr} {O : Addr → Prop} {acc : List V} (hD : H D = some (.lst acc)) (ho : O D) : Keep O H (lessA H D) := fun a u e n => by
  unfold lessA
  by_cases q : a = D
  · subst q
    rw [hD] at e; cases e
    rcases n with n | n
    · exact absurd rfl (n _)
    · exact absurd ho n
  · rw [if_neg q]; exact e
/-- an outcome that raises nothing -/
def Rz.calm {α : Type} : Rz α → Rz α
  | .ok a => .ok a
  | _ => .st
@[simp] theorem Rz.calm_ok {α : Type} (a : α) : (Rz.ok a).calm = .ok a := rfl
theorem Pz.calm {α : Type} {K : PySem.W.Frag} {b b' : Bs} {r : Rz α} {P : α → Prop} (h : Pz K b r.calm P) : Pz K b' r P := by
  cases r with
  | ok a => exact h
  | ex x => exact False.elim h
  | st => exact False.elim h
/-- what a comprehension makes of the walked -/
@[simp] def lcD (i : Nat) (fc : FT) (fe : FE) (env : En) : List PyData → Rz (List PyData)
  | [] => .ok []
  | d :: ds => (fc (env.set i (Sl.val d))).calm.bind fun c => match c with
    | true => (fe (env.set i (Sl.val d))).calm.bind fun y => (lcD i fc fe env ds).calm.bind fun ys => .ok (y :: ys)
    | false => lcD i fc fe env ds
@[simp] def notOwn (i : Nat) (env : En) : Bool := match env[i]? with
  | some (Sl.own _) => false
  | _ => true
@[simp] def oLc (i : Nat) (fi : FA) (L : List Nat) (fc : FT) (fe : FE) (env : En) : Rz (List PyData) := (fi env).bind fun ds => if notOwn i (frees L env) = true then (lcD i fc fe ((frees L env).set i Sl.no) ds).bind fun ys => if ys.length ≤ 1000000 then .ok ys else .st else .st
@[simp] def tYesD (_ : En) : Rz Bool := .ok true
theorem lcD_ex {i : Nat} {fc : FT} {fe : FE} {env : En} : ∀ (ds : List PyData) (x : Xn), lcD i fc fe env ds ≠ .ex x
  | [], x, h => nomatch h
  | d :: ds, x, h => by
    unfold lcD at h
    cases q : fc (env.set i (Sl.val d)) with
    | ok c =>
      rw [q, Rz.calm_ok, Rz.bind_ok] at h
      cases c with
      | true =>
        simp only at h
        cases q2 : fe (env.set i (Sl.val d)) with
        | ok y =>
          rw [q2, Rz.calm_ok, Rz.bind_ok] at h
          cases q3 : lcD i fc fe env ds with
          | ok ys => rw [q3] at h; cases h
          | ex x' => exact lcD_ex ds x' q3
          | st => rw [q3] at h; cases h
        | ex x' => rw [q2] at h; cases h
        | st => rw [q2] at h; cases h
      | false => exact lcD_ex ds x h
    | ex x' => rw [q] at h; cases h
    | st => rw [q] at h; cases h
section
variable {X : Cx} {b : Bs}
theorem fx_blk (F : Fx X b) {s : Shared} {H : Hp} {scope : Scope} {cenv : Env} {fp : List Addr} {D : Addr} {acc : List V} : Fx (X.blk s H scope cenv fp) (blkB b D acc) :=
  ⟨F.calm, fun u s' h => by rcases h with ⟨_, _, _, _, _, _, _, _, _, _, _, _, _, _, _, _, w⟩; exact w.elim, PassesOwn.never, F.u⟩
def tLt (K : PySem.W.Frag) (b : Bs) (f : FT) : TT := fun σ H Q => ∃ D acc, tDT K (blkB b D acc) f σ H Q
def tLe (K : PySem.W.Frag) (b : Bs) (f : FE) : TE := fun σ H Q => ∃ D acc, tD K (blkB b D acc) f [] σ H Q
theorem lc_read {i : Nat} {fi : FA} {L : List Nat} {fc : FT} {fe : FE} {σ : L2.St} {H : Hp} {Q : VK} (h : tDO X.K b (oLc i fi L fc fe) L σ H Q) : tLc (tDI X.K b fi L) (gName i) (tLt X.K b fc) (tLe X.K b fe) [i] σ H Q := by
  obtain ⟨env, o, R, h⟩ := h
  refine ⟨env, o, R, h.bind.imp fun ds _ h J G H1 s1 w g0 D hD => ?_⟩
  by_cases hno : notOwn i (frees L env) = true
  case neg => rw [if_neg hno] at h; exact False.elim h
  rw [if_pos hno] at h
  have R1 := ((R.frees L).same s1).no (i := i)
  have hDH : H D = none := s1.free hD
  generalize hW : (frees L env).set i Sl.no = envW at *
  have le : ∀ a, Ex b envW o a → Ex b (frees L env) o a := by
    rintro a (z | ⟨j, es, z1, z2⟩)
    · exact .inl z
    · refine .inr ⟨j, es, ?_, z2⟩
      rw [← hW] at z1
      by_cases hj : j = i
      · subst hj
        by_cases hl : j < (frees L env).length
        · rw [List.getElem?_set_self hl] at z1; cases z1
        · rw [List.getElem?_eq_none (by rw [List.length_set]; omega)] at z1; cases z1
      · rw [List.getElem?_set_ne (Ne.symm hj)] at z1; exact z1
  have ge : ∀ a, Ex b (frees L env) o a → Ex b envW o a := by
    rintro a (z | ⟨j, es, z1, z2⟩)
    · exact .inl z
    · refine .inr ⟨j, es, ?_, z2⟩
      rw [← hW]
      by_cases hj : j = i
      · subst hj
        unfold notOwn at hno
        rw [z1] at hno
        exact absurd hno Bool.false_ne_true
      · rw [List.getElem?_set_ne (Ne.symm hj)]; exact z1
  have lessU : ∀ (H' : Hp) (u : HO), lessA (upd H' D u) D = lessA H' D := fun H' u => by
    funext a
    unfold lessA
    by_cases q : a = D
    · rw [if_pos q, if_pos q]
    · rw [if_neg q, if_neg q, upd_ne q]
  have less1 : lessA H1 D = H1 := by
    funext a
    unfold lessA
    by_cases q : a = D
    · rw [if_pos q, q, hD]
    · rw [if_neg q]
  let W : Nat → Nat → Hp → Prop := fun i' m H' => m = ds.length - i' ∧ i' ≤ ds.length ∧ ∃ (acc : List V) (accs : List PyData), H' D = some (.lst acc) ∧ Same H1 (lessA H' D) ∧ RS X.K b (lessA H' D) envW (wipe σ [i]) o ∧
    RpA X.K (lessA H' D) (Ex b envW o) acc accs ∧ G (lessA H' D) (Ex b envW o) ∧
    Pz X.K b (lcD i fc fe envW (ds.drop i')) fun ys => (accs ++ ys).length ≤ 1000000 ∧ ∀ a vs H'', Same H H'' → H a = none → H'' a = some (.lst vs) → RpA X.K H'' (fun c => Ex b (frees L env) o c ∨ c = a) vs (accs ++ ys) → Q (.ref a) H''
  refine ⟨W, ⟨ds.length, by simp, Nat.zero_le _, [], [], upd_same, by rw [lessU, less1]; exact .refl H1, by rw [lessU, less1]; exact R1, .nil, by rw [lessU, less1]; exact w.per _ _ _ _ (.same (.refl H1) fun a z => .inl (le a z)) g0, ?_⟩, ?_⟩
  · refine h.bind.imp fun ys _ h => ?_
    split at h
    · exact ⟨‹_›, h⟩
    · exact False.elim h
  · rintro i' m H2 ⟨hm, hle, acc, accs, hD2, s2, R2, ra, g2, h⟩
    have ex2 : ∀ a, Ex (blkB b D acc) envW o a → Ex b envW o a ∨ lessA H2 D a = none := by
      rintro a ((z | z) | z)
      · exact .inl (.inl z)
      · exact .inr (by rw [z]; exact lessA_at)
      · exact .inl (.inr z)
    have exD : Ex (blkB b D acc) envW o D := .inl (.inr rfl)
    have exB : ∀ a, Ex b envW o a → Ex (blkB b D acc) envW o a := by
      rintro a (z | z)
      · exact .inl (.inl z)
      · exact .inr z
    have g2' : G H2 (Ex (blkB b D acc) envW o) := w.per _ _ _ _ (.same lessA_same ex2) g2
    by_cases hlt : i' < ds.length
    · refine .inr ⟨w.wk.goes i' H2 hlt ⟨_, g2'⟩, fun H' => W (i' + 1) (ds.length - (i' + 1)) H', fun H' hw => ⟨_, by omega, hw⟩, fun v H3 y => ?_⟩
      obtain ⟨s3, y⟩ := w.wk.yields i' H2 v H3 hlt ⟨_, g2'⟩ y
      obtain ⟨d, hd, rv⟩ := y _ g2'
      have e : ds.drop i' = d :: ds.drop (i' + 1) := by
        obtain ⟨hl, e⟩ := List.getElem?_eq_some_iff.mp hd
        rw [List.drop_eq_getElem_cons hl, e]
      rw [e] at h
      have R3 : RS X.K (blkB b D acc) H3 envW (wipe σ [i]) o := (R2.into lessA_at lessA_same hD2).same s3
      refine ⟨?_, D, acc, envW.set i (Sl.val d), o, R3.set rv, (Pz.bind h).calm.imp fun c _ h H4 s4 => ?_⟩
      · show ((σ.set i none).set i (some v)).set i none = σ.set i none
        rw [List.set_set, List.set_set]
      have s24 : Same H2 H4 := s3.trans s4
      have nx : ∀ {H5 : Hp} {vs : List V} {es : List PyData}, Same H2 H5 → RpA X.K (lessA H5 D) (Ex b envW o) vs es →
          Pz X.K b (lcD i fc fe envW (ds.drop (i' + 1))) (fun ys => (accs ++ es ++ ys).length ≤ 1000000 ∧ ∀ a vs H'', Same H H'' → H a = none → H'' a = some (.lst vs) → RpA X.K H'' (fun c => Ex b (frees L env) o c ∨ c = a) vs (accs ++ es ++ ys) → Q (.ref a) H'') →
          ∀ H6 : Hp, H6 D = some (.lst (acc ++ vs)) → lessA H6 D = lessA H5 D → W (i' + 1) (ds.length - (i' + 1)) H6 := by
        intro H5 vs es s5 r5 h5 H6 e6 l6
        have k : Same (lessA H2 D) (lessA H5 D) := lessA_of lessA_at (lessA_same.trans s5)
        refine ⟨rfl, by omega, acc ++ vs, accs ++ es, e6, ?_, ?_, ?_, ?_, h5⟩
        · rw [l6]; exact s2.trans k
        · rw [l6]; exact R2.same k
        · rw [l6]; exact RpA.append (ra.same k) r5
        · rw [l6]; exact w.per _ _ _ _ (.same k fun a z => .inl z) g2
      cases c with
      | true =>
        refine ⟨D, acc, envW.set i (Sl.val d), o, (R3.set rv).same s4, (Pz.bind h).calm.imp fun yd _ h v5 H5 s5 r5 => ?_⟩
        have hD5 : H5 D = some (.lst acc) := s5 _ _ (s24 _ _ hD2)
        have h := (Pz.bind h).calm (b' := b)
        have lsz : accs.length < sizeLine := by
          cases q : lcD i fc fe envW (ds.drop (i' + 1)) with
          | ok ys =>
            rw [q] at h
            have h1 : (accs ++ yd :: ys).length ≤ 1000000 := h.1
            rw [List.length_append, List.length_cons] at h1
            have := million
            omega
          | ex x => exact absurd q (lcD_ex _ _)
          | st => rw [q] at h; exact False.elim h
        refine ⟨acc, hD5, by rw [ra.length]; exact lsz, nx (es := [yd]) (vs := [v5]) (s24.trans s5) (.cons ?_ .nil) (h.imp fun ys _ h => ?_) _ upd_same (lessU _ _)⟩
        · refine Rp.move (keep_cut hD5 ?_) (fun a z => .inl ?_) _ _ r5
          · exact .inl (.inr rfl)
          · rcases z with z | ⟨j, es, z1, z2⟩
            · exact .inl (.inl z)
            · refine .inr ⟨j, es, ?_, z2⟩
              show (envW.set i (Sl.val d))[j]? = _
              by_cases hj : j = i
              · subst hj
                rw [← hW] at z1
                by_cases hl : j < (frees L env).length
                · rw [List.getElem?_set_self hl] at z1; cases z1
                · rw [List.getElem?_eq_none (by rw [List.length_set]; omega)] at z1; cases z1
              · rw [List.getElem?_set_ne (Ne.symm hj)]; exact z1
        · simp only [List.append_assoc, List.cons_append, List.nil_append]; exact h
      | false => exact nx (es := []) (vs := []) s24 .nil (h.imp fun ys _ h => by simpa using h) _ (by simpa using s24 _ _ hD2) rfl
    · have e : i' = ds.length := by omega
      subst e
      rw [List.drop_length] at h
      refine .inl ⟨w.wk.stops H2 ⟨_, g2'⟩, ?_⟩
      obtain ⟨_, h⟩ := h
      refine h D acc H2 ((s1.trans s2).trans lessA_same) hDH hD2 ?_
      rw [List.append_nil]
      refine Rp.moveA (.of_same lessA_same) (fun a z => ?_) _ _ ra
      rcases z with z | z
      · exact .inl (ge _ z)
      · exact .inr (by rw [z]; exact lessA_at)
/-- the block's tests -/
theorem lt_nil {scope : Scope} : ∀ (s : Shared) (H : Hp) (C : Addr) (cl : List (Str × Addr)) (fp : List Addr), PTs (X.blk s H scope (compEnvC scope cl C X.env) fp) [] (tLt X.K b tYesD) :=
  fun s H C cl fp => ⟨fun pins s' σ H' Q I ⟨D, acc, env, o, R, h⟩ => pts_nil.run pins s' σ H' Q I (h H' (.refl H'))⟩
theorem lt_one {scope : Scope} {c : Expr} {fc : FT} (F : Fx X b) (h : ∀ (s : Shared) (H : Hp) (C : Addr) (cl : List (Str × Addr)) (fp : List Addr) (D : Addr) (acc : List V), Fx (X.blk s H scope (compEnvC scope cl C X.env) fp) (blkB b D acc) → DT (X.blk s H scope (compEnvC scope cl C X.env) fp) (blkB b D acc) c fc) :
    ∀ (s : Shared) (H : Hp) (C : Addr) (cl : List (Str × Addr)) (fp : List Addr), PTs (X.blk s H scope (compEnvC scope cl C X.env) fp) [c] (tLt X.K b fc) :=
  fun s H C cl fp => ⟨fun pins s' σ H' Q I ⟨D, acc, q⟩ => (pts_one (h s H C cl fp D acc (fx_blk F))).run pins s' σ H' Q I q⟩
section
variable {elt iter : Expr} {ifs : List Expr} {scope : Scope} {i : Nat} {x : Str} {px pos : Pos} {fi : FA} {L : List Nat} {fc : FT} {fe : FE} (F : Fx X b) (hN : X.N.Nodup) (hi : DI X b (.Name x px) iter fi L)
    (ht : ∀ (s : Shared) (H : Hp) (C : Addr) (cl : List (Str × Addr)) (fp : List Addr), PTs (X.blk s H scope (compEnvC scope cl C X.env) fp) ifs (tLt X.K b fc))
    (he : ∀ (s : Shared) (H : Hp) (C : Addr) (cl : List (Str × Addr)) (fp : List Addr) (D : Addr) (acc : List V), Fx (X.blk s H scope (compEnvC scope cl C X.env) fp) (blkB b D acc) → DE (X.blk s H scope (compEnvC scope cl C X.env) fp) (blkB b D acc) elt fe [])
    (ok : blkC X.N X.env.scope scope [(x, i)] = true)
    (hg : ∀ (s : Shared) (H : Hp) (C : Addr) (cl : List (Str × Addr)) (fp : List Addr), PG (X.blk s H scope (compEnvC scope cl C X.env) fp) (.Name x px) (gName i))
    (hs : ∀ x, foldedSetIterable iter X.env x = pure x)
include F hN hi ht he ok hg hs
theorem do_lc : DO X b (.ListComp elt [⟨.Name x px, iter, ifs, 0⟩] scope pos) (oLc i fi L fc fe) L :=
  PE.wk (pe_lc (te := tLe X.K b fe) F.calm hN hi (blkOk_by ok) hg ht (fun s H C cl fp => ⟨fun pins s' σ H' Q I ⟨D, acc, q⟩ => (he s H C cl fp D acc (fx_blk F)).run pins s' σ H' Q I q⟩) hs) fun σ H Q h => lc_read h
variable {j : Nat} {y : Str} {py spos : Pos} (hy : X.N[j]? = some y) (hyl : X.env.scope.names.lookup y = some .local) (hsw : swapsWith (.ListComp elt [⟨.Name x px, iter, ifs, 0⟩] scope pos) (some (.Name y py)) spos.line X.env = pure true)
include hy hyl hsw
/-- name = [..], the list a value -/
theorem ds_setLc : DS X b (.Assign [.Name y py] (.ListComp elt [⟨.Name x px, iter, ifs, 0⟩] scope pos) spos) (sSet j (fun env => (oLc i fi L fc fe env).bind fun ds => .ok (.list ds)) L) :=
  PS.wk (ps_setLc (te := tLe X.K b fe) F.calm hN hy hyl hsw hi (blkOk_by ok) hg ht (fun s H C cl fp => ⟨fun pins s' σ H' Q I ⟨D, acc, q⟩ => (he s H C cl fp D acc (fx_blk F)).run pins s' σ H' Q I q⟩) hs) fun D σ H ⟨env, o, R, h⟩ =>
    lc_read ⟨env, o, R, h.bind.bind.imp fun ds _ h a vs H1 s1 hn ha r1 => by
      have R1 := (R.frees L).same s1
      refine h _ H1 o (R1.set (.lst (.inl ha) (fun z => ?_) (r1.less fun _ z => .inl z))) (per_frees s1 fun a z => ex_set z)
      obtain ⟨u, hu⟩ := (R.frees L).dom z
      rw [hn] at hu; cases hu⟩
/-- name = [..], the list the name's own -/
theorem ds_setLcO : DS X b (.Assign [.Name y py] (.ListComp elt [⟨.Name x px, iter, ifs, 0⟩] scope pos) spos) (sSetO j (oLc i fi L fc fe) L) :=
  PS.wk (ps_setLc (te := tLe X.K b fe) F.calm hN hy hyl hsw hi (blkOk_by ok) hg ht (fun s H C cl fp => ⟨fun pins s' σ H' Q I ⟨D, acc, q⟩ => (he s H C cl fp D acc (fx_blk F)).run pins s' σ H' Q I q⟩) hs) fun D σ H ⟨env, o, R, h⟩ =>
    lc_read ⟨env, o, R, h.bind.imp fun ds _ h a vs H1 s1 hn ha r1 => h _ H1 _ ((R.frees L).setOwn s1 hn ha r1) (.same s1 fun c z => by
      rcases ex_setOwn z with z | z
      · exact .inl (ex_frees z)
      · subst z; exact .inr hn)⟩
end
end
end DL
namespace DL
open PySem PySem.Spec PyProof.Rows L2
/-! reversed(x), x a list or a tuple -/
@[simp] def iRv (f : FE) (env : En) : Rz (List PyData) := (f env).bind fun d => match d with
  | .list ds => .ok ds.reverse
  | .tuple ds => .ok ds.reverse
  | _ => .st
section
variable {X : Cx} {b : Bs} {tg e : Expr} {f : FE} {L : List Nat} {pos p : Pos}
theorem wk_revL {K : PySem.W.Frag} {a : Addr} {n : Nat} {ds : List PyData} (hn : n = ds.length) : Wk K (Itv K a n) ds.reverse (fun H O => Rp K H O (.ref a) (.list ds)) := by
  have at_ : ∀ {H : Hp} {O : Addr → Prop}, Rp K H O (.ref a) (.list ds) → ∃ xs, SqL K H a xs ∧ RpA K H O xs ds := fun {H O} r => by
    obtain ⟨a', xs, e, h1, h2⟩ := r.sqL
    cases e
    exact ⟨xs, h1, h2⟩
  subst hn
  have hr : ds.reverse.length = ds.length := List.length_reverse
  refine ⟨⟨fun i H hi ⟨O, r⟩ => ?_, fun H ⟨O, r⟩ => ?_, fun i H x H' hi ⟨O, r⟩ y => ?_⟩, fun H O H' O' p r => p _ _ r⟩
  · obtain ⟨xs, h1, h2⟩ := at_ r
    have hl := h2.length
    rw [hr] at hi
    exact ⟨hi, xs, xs[ds.length - 1 - i]'(by omega), h1, List.getElem?_eq_getElem _⟩
  · exact Nat.le_of_eq hr.symm
  · obtain ⟨e, y⟩ := y
    subst e
    refine ⟨.refl _, fun O r => ?_⟩
    obtain ⟨xs, h1, h2⟩ := at_ r
    rw [hr] at hi
    rw [List.getElem?_reverse hi]
    exact h2.get' (y xs h1)
theorem wk_revT {K : PySem.W.Frag} {a : Addr} {n : Nat} {ds : List PyData} (hn : n = ds.length) : Wk K (RT.ItvT K a n) ds.reverse (fun H O => Rp K H O (.ref a) (.tuple ds)) := by
  have at_ : ∀ {H : Hp} {O : Addr → Prop}, Rp K H O (.ref a) (.tuple ds) → ∃ xs, SqT K H a xs ∧ RpA K H O xs ds := fun {H O} r => by
    obtain ⟨a', xs, e, h1, h2⟩ := r.sqT
    cases e
    exact ⟨xs, h1, h2⟩
  subst hn
  have hr : ds.reverse.length = ds.length := List.length_reverse
  refine ⟨⟨fun i H hi ⟨O, r⟩ => ?_, fun H ⟨O, r⟩ => ?_, fun i H x H' hi ⟨O, r⟩ y => ?_⟩, fun H O H' O' p r => p _ _ r⟩
  · obtain ⟨xs, h1, h2⟩ := at_ r
    have hl := h2.length
    rw [hr] at hi
    exact ⟨hi, xs, xs[ds.length - 1 - i]'(by omega), h1, List.getElem?_eq_getElem _⟩
  · exact Nat.le_of_eq hr.symm
  · obtain ⟨e, y⟩ := y
    subst e
    refine ⟨.refl _, fun O r => ?_⟩
    obtain ⟨xs, h1, h2⟩ := at_ r
    rw [hr] at hi
    rw [List.getElem?_reverse hi]
    exact h2.get' (y xs h1)
theorem di_rev (hg : Gl X "reversed") (hm : X.mg "reversed" = none) (h : DE X b e f L) (hs : starEach [e] X.env = (false, eval e X.env) :: starEach [] X.env := by rfl) : DI X b tg (.Call (.Name "reversed" p) [e] [] pos) (iRv f) L :=
  PI.wk (RT.pi_revA hg hm h hs) fun σ H Q ⟨env, o, R, h⟩ => ⟨env, o, R, h.bind.imp fun d _ h v H1 s1 r1 => by
    split at h
    · obtain ⟨a, xs, rfl, h1, h2⟩ := r1.sqL
      exact ⟨a, xs, rfl, .inl ⟨h1, h _ _ H1 s1 (wk_revL h2.length) r1⟩⟩
    · obtain ⟨a, xs, rfl, h1, h2⟩ := r1.sqT
      exact ⟨a, xs, rfl, .inr ⟨h1, h _ _ H1 s1 (wk_revT h2.length) r1⟩⟩
    · exact False.elim h⟩
end
end DL
namespace DL
open PySem PySem.Spec PyProof.Rows L2
/-! a def whose first argument is a list that is handed over: it may change it -/
def spD1 (K : PySem.W.Frag) (cls : Str → Value) (n : Nat) (g : FF) : Sp := fun vs H Q E => ∃ (O : Addr → Prop) (a : Addr) (vs0 vs' : List V) (es ds : List PyData), vs = .ref a :: vs' ∧ H a = some (.lst vs0) ∧ (∀ c, O c → ∃ u, lessA H a c = some u) ∧ ds.length + 1 = n ∧
  RpA K (lessA H a) O vs0 es ∧ RpA K (lessA H a) O vs' ds ∧ Pz K ⟨lessA H a, O, E, cls⟩ (g (.list es :: ds)) (RPost K ⟨lessA H a, O, E, cls⟩ Q)
@[simp] def initE1 (N : Nat) (es ds : List PyData) : En := Sl.own es :: (ds.map Sl.val ++ List.replicate (N - ds.length - 1) Sl.no)
@[simp] def runF1 (N : Nat) (body : FS) (ds : List PyData) : Rz Rv := match ds with
  | .list es :: ds => (body (initE1 N es ds)).bind fun r => match r with
    | .rt d => .ok (.val d)
    | .rto es => .ok (.own es)
    | .nx _ => .ok (.val .none)
    | .bk _ => .st
    | .ct _ => .st
  | _ => .st
theorem init_rs1 {K : PySem.W.Frag} {b : Bs} {H : Hp} {N : List Str} {a : Addr} {vs0 vs : List V} {es ds : List PyData} (hn : ds.length + 1 ≤ N.length) (ha : H a = some (.lst vs0)) (hb : b.H0 = lessA H a) (r0 : RpA K b.H0 b.O0 vs0 es) (r : RpA K b.H0 b.O0 vs ds) (ho : ∀ c, b.O0 c → ∃ u, b.H0 c = some u) :
    RS K b H (initE1 N.length es ds) (start N (.ref a :: vs)) (fun _ => a) := by
  have hl := r.length
  have own0 : ∀ i fs, (initE1 N.length es ds)[i]? = some (Sl.own fs) → i = 0 ∧ fs = es := by
    intro i fs h
    cases i with
    | zero => cases h; exact ⟨rfl, rfl⟩
    | succ i =>
      unfold initE1 at h
      rw [List.getElem?_cons_succ] at h
      by_cases hi : i < ds.length
      · rw [List.getElem?_append_left (by simpa using hi), List.getElem?_map] at h
        cases q : ds[i]? with
        | none => rw [q] at h; cases h
        | some d => rw [q] at h; cases h
      · rw [List.getElem?_append_right (by simpa using hi), List.getElem?_replicate] at h
        split at h <;> cases h
  have s : Same b.H0 H := by rw [hb]; exact lessA_same
  have le : ∀ c, Ex b (initE1 N.length es ds) (fun _ => a) c → b.O0 c ∨ b.H0 c = none := by
    rintro c (z | ⟨i, fs, z, z2⟩)
    · exact .inl z
    · exact .inr (by rw [← z2, hb]; exact lessA_at)
  refine ⟨?_, fun i d h => ?_, fun i fs h => ?_, fun i j fs gs h1 h2 _ => (own0 i _ h1).1.trans (own0 j _ h2).1.symm, s, ho⟩
  · simp [initE1, L2.start, hl]; omega
  · cases i with
    | zero => cases h
    | succ i =>
      unfold initE1 at h
      rw [List.getElem?_cons_succ] at h
      by_cases hi : i < ds.length
      · rw [List.getElem?_append_left (by simpa using hi), List.getElem?_map] at h
        cases q : ds[i]? with
        | none => rw [q] at h; cases h
        | some d' =>
          rw [q] at h
          cases h
          obtain ⟨v, h1, h2⟩ := r.get q
          refine ⟨v, ?_, Rp.move (.of_same s) le _ _ h2⟩
          unfold L2.start
          rw [List.getElem?_append_left (by rw [List.length_map, List.length_cons]; omega), List.getElem?_map, List.getElem?_cons_succ, h1]
          rfl
      · rw [List.getElem?_append_right (by simpa using hi), List.getElem?_replicate] at h
        split at h <;> cases h
  · obtain ⟨rfl, rfl⟩ := own0 i fs h
    exact ⟨vs0, rfl, ha, Rp.moveA (.of_same s) le _ _ r0, by rw [hb]; exact lessA_at⟩
section
variable {P : Program} {w : World} {K : PySem.W.Frag} {mg : Str → Option Value} {base : Heap}
theorem fn_D1 {cls : Str → Value} {x qual : Str} {st : Stmt} {f : Addr} {fd : FuncData} {N ps : List Str} {k : Nat} {body : FS} (F : Fun K x qual st f fd) (S : FnScope N ps (defScope st)) (hn : ps.length ≤ N.length)
    (hbody : ∀ (cdv : Value) (A : Around) (outer : List Env) (s : Shared) (H H0 : Hp) (E : XK) (O : Addr → Prop), Room k (A.deeper (envOfC qual (defScope st) s.heap.objs.size f cdv)) →
      Fx (cxOf (L2.CX P w) P w K mg base N qual (defScope st) f cdv A outer s H E) ⟨H0, O, E, cls⟩ →
      DSs (cxOf (L2.CX P w) P w K mg base N qual (defScope st) f cdv A outer s H E) ⟨H0, O, E, cls⟩ (defBody st) body) {nN nP : Nat} (eN : N.length = nN := by rfl) (eP : ps.length = nP := by rfl) :
    FnOk P w K mg base (L2.CX P w) (k + 1) f fd ps (spD1 K cls nP (runF1 nN body)) := by
  subst eN eP
  refine F.okX S (fun vs H Q E h => ?_) (fun cdv A outer s H vs Q E hr h => ?_)
  · obtain ⟨O, a, vs0, vs', es, ds, e, _, _, hl, _, r, _⟩ := h
    rw [e, List.length_cons, r.length, hl]
  · obtain ⟨O, a, vs0, vs', es, ds, e, ha, ho, hl, r0, r, h⟩ := h
    subst e
    refine ⟨_, hbody cdv A outer s H (lessA H a) E O hr ⟨rfl, takes_of rfl rfl rfl rfl, passes_of rfl, by have := hr.un; show (A.deeper (envOfC qual (defScope st) s.heap.objs.size f cdv)).units + 100 < cLine; omega⟩, ?_⟩
    have R : RS K ⟨lessA H a, O, E, cls⟩ H (initE1 N.length es ds) (start N (.ref a :: vs')) (fun _ => a) := init_rs1 (b := ⟨lessA H a, O, E, cls⟩) (by omega) ha rfl r0 r ho
    refine ⟨_, _, R, (Pz.bind h).imp fun r _ h => ?_⟩
    cases r with
    | nx e => exact fun σ' H' o' R' p => h .non H' R'.ext .non
    | rt d => exact h
    | rto es => exact h
    | bk e => exact False.elim h
    | ct e => exact False.elim h
def Fn1 (P : Program) (w : World) (K : PySem.W.Frag) (mg : Str → Option Value) (base : Heap) (cls : Str → Value) (x : Str) (k : Nat) (ps : List Str) (g : FF) : Prop :=
  ∃ f fd, mg x = some (.ref f) ∧ FnOk P w K mg base (L2.CX P w) k f fd ps (spD1 K cls ps.length g) ∧ PySem.W.keepIn K (.ref f) = true ∧ ∀ us : List Value, us.length = ps.length → bindArgs fd ⟨us, []⟩ = pure (ps.zip us)
theorem Fn1.mk {cls : Str → Value} {x : Str} {st : Stmt} {N ps : List Str} {k : Nat} {body : FS} (S : FnScope N ps (defScope st)) (At : FnAt K mg x st)
    (hbody : ∀ (cdv : Value) (A : Around) (outer : List Env) (s : Shared) (H H0 : Hp) (E : XK) (O : Addr → Prop) (f : Addr), Room k (A.deeper (envOfC x (defScope st) s.heap.objs.size f cdv)) →
      Fx (cxOf (L2.CX P w) P w K mg base N x (defScope st) f cdv A outer s H E) ⟨H0, O, E, cls⟩ →
      DSs (cxOf (L2.CX P w) P w K mg base N x (defScope st) f cdv A outer s H E) ⟨H0, O, E, cls⟩ (defBody st) body)
    (hb : ∀ (kV doc pm : Value) (an : Option Addr) (cdv ct : Value) (us : List Value), us.length = ps.length → bindArgs (PySem.W.fnOf x x (defArgs st) (defBody st) (defScope st) .none kV doc pm an cdv ct) ⟨us, []⟩ = pure (ps.zip us))
    {nN : Nat} (eN : N.length = nN := by rfl) (hn : ps.length ≤ N.length := by decide) : Fn1 P w K mg base cls x (k + 1) ps (runF1 nN body) := by
  subst eN
  obtain ⟨f, fd, hm, F⟩ := At
  refine ⟨f, fd, hm, fn_D1 F S hn fun cdv A outer s H H0 E O hr hF => hbody cdv A outer s H H0 E O f hr hF, F.kp, ?_⟩
  obtain ⟨oc, od, kV, doc, pm, an, cdv, ct, osl, rfl, lk, hcd⟩ := F.ex
  exact hb kV doc pm an cdv ct
end
def ownB (b : Bs) (a : Addr) (vs : List V) : Bs := ⟨upd b.H0 a (.lst vs), fun c => b.O0 c ∨ c = a, b.xw, b.cls⟩
theorem pz_own {α : Type} {K : PySem.W.Frag} {b : Bs} {a : Addr} {vs : List V} {r : Rz α} {P : α → Prop} (hn : b.H0 a = none) (h : Pz K b r P) : Pz K (ownB b a vs) r P := by
  have s : Same b.H0 (upd b.H0 a (.lst vs)) := same_upd hn
  cases r with
  | ok _ => exact h
  | st => exact h
  | ex y =>
    obtain ⟨nm, pl⟩ := y
    cases pl with
    | none => exact fun H' s' => h H' (s.trans s')
    | some fd => exact fun H' c v s' hc hx r => h H' c v (s.trans s') (s.free hc) hx r
section
variable {X : Cx} {b : Bs} {e : Expr} {es : List Expr} {f0 : FO} {fs : FA} {L L0 : List Nat} {pos p : Pos} {j k n : Nat} {ps : List Str} {g : FF} {x : Str}
theorem Fx.ownB (F : Fx X b) {a : Addr} {vs : List V} : Fx X (ownB b a vs) := ⟨F.calm, F.tk, F.own, F.u⟩
@[simp] def cCall1 (g : FF) (f0 : FO) (fs : FA) (env : En) : Rz PyData := (f0 env).bind fun es => (fs env).bind fun ds => (g (.list es :: ds)).bind fun r => match r with
  | .val d => .ok d
  | .own es => .ok (.list es)
theorem de_fn1 (F : Fx X b) (G : Fn1 X.prog X.w X.K X.mg X.base b.cls x j ps g) (hr : Room j X.A) (hg : Gl X x) (h0 : DO X b e f0 L0) (ha : ∀ (a : Addr) (vs : List V), Fx X (ownB b a vs) → DA X (ownB b a vs) es fs L) (hn : ∀ env ds, fs env = .ok ds → ds.length = n) (hl : n + 1 = ps.length := by rfl)
    (hdb : (x == ("__debug__" : Str)) = false := by decide) (he : starEach (e :: es) X.env = (false, eval e X.env) :: starEach es X.env := by rfl) (hpl : (backTo pos (starEach es X.env)).any (·.1) = false := by rfl) :
    DE X b (.Call (.Name x p) (e :: es) [] pos) (cCall1 g f0 fs) (L0 ++ L) := by
  obtain ⟨f, fd, hm, G, hk, hb⟩ := G
  refine PE.wk (pe_callS G hr hg hm hk (.all hb) (fun σ => passAt (W := fun c d _ H => b.xw c d H) F.tk σ) (pa_cons h0 (t := fun σ H Q => ∃ a vs, tDA X.K (ownB b a vs) fs L σ H Q) ⟨fun pos pins s σ H Q I ⟨a, vs, q⟩ => (ha a vs F.ownB).run pos pins s σ H Q I q⟩ he) hdb he hpl) fun σ H Q ⟨env, o, R, h⟩ => ?_
  refine ⟨env, o, R, h.bind.imp fun es0 _ h a vs0 H1 s1 hna ha1 r0 => ?_⟩
  have R1 := RS.into (D := a) (acc := vs0) R hna s1 ha1
  have b0 : b.H0 a = none := R.ext.free hna
  refine ⟨a, vs0, env, o, ⟨R1.len, R1.val, R1.own, R1.inj, R1.ext, R1.o0⟩, (pz_own b0 h.bind).imp fun ds q h vs H2 s2 r2 => ?_⟩
  have ha2 : H2 a = some (.lst vs0) := s2 _ _ ha1
  have sH : Same H (lessA H2 a) := lessA_of hna (s1.trans s2)
  have Rf := (R.frees (L0 ++ L)).same sH
  refine ⟨Ex b (frees (L0 ++ L) env) o, a, vs0, vs, es0, ds, rfl, ha2, fun c z => Rf.dom z, by rw [hn _ _ q]; exact hl, ?_, ?_, pz_call (R.ext.trans sH) (fun _ _ _ z => z) h.bind fun r h => ?_⟩
  · refine Rp.moveA (keep_cut (O := fun c => Ex b (frees L0 env) o c ∨ c = a) ha2 (.inr rfl)) (fun c z => .inl (.inl (ex_frees_app z).1)) _ _ (r0.same s2)
  · refine Rp.moveA (keep_cut ha2 (.inl (.inr rfl))) (fun c z => .inl ?_) _ _ r2
    rcases (ex_frees_app z).2 with z | z
    · exact .inl (.inl z)
    · exact .inr z
  · cases r with
    | val d => exact fun v H' s r => h v H' (sH.trans s) r
    | own es => exact fun c vs H' s hc hx r => h _ H' (sH.trans s) (.lst (.inl hx) (fun z => by
        obtain ⟨u, hu⟩ := Rf.dom z
        have hc' : lessA H2 a c = none := hc
        rw [hc'] at hu; cases hu) (r.less fun _ z => .inl z))
end
end DL
namespace DL
open PySem PySem.Spec PyProof.Rows L2
/-! ### while -/
def whD (t : FT) (g : FS) : Nat → FS
  | 0, _ => .st
  | n + 1, env => (t env).bind fun c => match c with
    | false => .ok (.nx env)
    | true => (g env).bind fun r => match r with
      | .nx e => whD t g n e
      | .ct e => whD t g n e
      | .bk e => .ok (.nx e)
      | .rt d => .ok (.rt d)
      | .rto es => .ok (.rto es)
theorem whD_mono (t : FT) (g : FS) : ∀ (n : Nat) (env : En), whD t g n env ≠ .st → whD t g (n + 1) env = whD t g n env
  | 0, _, h => absurd rfl h
  | n + 1, env, h => by
    have ih := whD_mono t g n
    show (t env).bind _ = (t env).bind _
    rw [whD] at h
    cases q : t env with
    | ex x => rfl
    | st => rfl
    | ok c =>
      rw [q] at h
      cases c with
      | false => rfl
      | true =>
        rw [Rz.bind_ok] at h
        rw [Rz.bind_ok, Rz.bind_ok]
        show (g env).bind _ = (g env).bind _
        replace h : ((g env).bind fun r => match r with
          | .nx e => whD t g n e
          | .ct e => whD t g n e
          | .bk e => .ok (.nx e)
          | .rt d => .ok (.rt d)
          | .rto es => .ok (.rto es)) ≠ .st := h
        cases q2 : g env with
        | ex x => rfl
        | st => rfl
        | ok r =>
          rw [q2, Rz.bind_ok] at h
          rw [Rz.bind_ok, Rz.bind_ok]
          cases r with
          | nx e => exact ih e h
          | ct e => exact ih e h
          | bk e => rfl
          | rt d => rfl
          | rto es => rfl
theorem whD_le (t : FT) (g : FS) (n k : Nat) (env : En) (h : whD t g n env ≠ .st) : whD t g (n + k) env = whD t g n env := by
  induction k with
  | zero => rfl
  | succ k ih =>
    have := whD_mono t g (n + k) env (by rw [ih]; exact h)
    rw [Nat.add_succ]
    exact this.trans ih
open Classical in
noncomputable def sWhile (t : FT) (g : FS) : FS := fun env => if h : ∃ n, whD t g n env ≠ .st then whD t g (Classical.choose h) env else .st
theorem sWhile_of {t : FT} {g : FS} {env : En} {n : Nat} (h : whD t g n env ≠ .st) : sWhile t g env = whD t g n env := by
  have e : ∃ n, whD t g n env ≠ .st := ⟨n, h⟩
  unfold sWhile
  rw [dif_pos e]
  have hc := Classical.choose_spec e
  rcases Nat.le_total n (Classical.choose e) with q | q
  · obtain ⟨k, hk⟩ := Nat.exists_eq_add_of_le q
    rw [hk]; exact whD_le t g n k env h
  · obtain ⟨k, hk⟩ := Nat.exists_eq_add_of_le q
    rw [← whD_le t g _ k env hc, ← hk]
theorem sWhile_step (t : FT) (g : FS) (env : En) : sWhile t g env = (t env).bind fun c => match c with
    | false => .ok (.nx env)
    | true => (g env).bind fun r => match r with
      | .nx e => sWhile t g e
      | .ct e => sWhile t g e
      | .bk e => .ok (.nx e)
      | .rt d => .ok (.rt d)
      | .rto es => .ok (.rto es) := by
  have one : whD t g 1 env ≠ .st → sWhile t g env = whD t g 1 env := sWhile_of
  have st0 : (∀ n, whD t g n env = .st) → sWhile t g env = .st := fun h => by
    unfold sWhile; rw [dif_neg]; rintro ⟨n, hn⟩; exact hn (h n)
  cases q : t env with
  | ex x =>
    have e : ∀ n, whD t g (n + 1) env = .ex x := fun n => by rw [whD, q]; rfl
    rw [sWhile_of (n := 1) (by rw [e]; intro z; cases z), e]; rfl
  | st =>
    rw [st0]
    · rfl
    · intro n; cases n with
      | zero => rfl
      | succ n => rw [whD, q]; rfl
  | ok c =>
    cases c with
    | false =>
      have e : ∀ n, whD t g (n + 1) env = .ok (.nx env) := fun n => by rw [whD, q]; rfl
      rw [sWhile_of (n := 1) (by rw [e]; intro z; cases z), e]; rfl
    | true =>
      cases q2 : g env with
      | ex x =>
        have e : ∀ n, whD t g (n + 1) env = .ex x := fun n => by rw [whD, q, Rz.bind_ok, q2]; rfl
        rw [sWhile_of (n := 1) (by rw [e]; intro z; cases z), e]; rfl
      | st =>
        rw [st0]
        · rfl
        · intro n; cases n with
          | zero => rfl
          | succ n => rw [whD, q, Rz.bind_ok, q2]; rfl
      | ok r =>
        have go : ∀ e2, (∀ n, whD t g (n + 1) env = whD t g n e2) → sWhile t g env = sWhile t g e2 := by
          intro e2 h
          by_cases hh : ∃ n, whD t g n e2 ≠ .st
          · obtain ⟨n, hn⟩ := hh
            rw [sWhile_of hn, ← h n, sWhile_of]
            rw [h n]; exact hn
          · have z : ∀ n, whD t g n e2 = .st := fun n => by
              cases q : whD t g n e2 with
              | st => rfl
              | ok a => exact absurd ⟨n, by rw [q]; intro z; cases z⟩ hh
              | ex a => exact absurd ⟨n, by rw [q]; intro z; cases z⟩ hh
            have : sWhile t g e2 = .st := by unfold sWhile; rw [dif_neg hh]
            rw [this]
            refine st0 fun n => ?_
            cases n with
            | zero => rfl
            | succ n => rw [h n, z n]
        have fin : ∀ r', (∀ n, whD t g (n + 1) env = .ok r') → sWhile t g env = .ok r' := fun r' e => by
          rw [sWhile_of (n := 1) (by rw [e]; intro z; cases z), e]
        cases r with
        | nx e => exact go e fun n => by rw [whD, q, Rz.bind_ok, q2]; rfl
        | ct e => exact go e fun n => by rw [whD, q, Rz.bind_ok, q2]; rfl
        | bk e => exact fin _ fun n => by rw [whD, q, Rz.bind_ok, q2]; rfl
        | rt d => exact fin _ fun n => by rw [whD, q, Rz.bind_ok, q2]; rfl
        | rto es => exact fin _ fun n => by rw [whD, q, Rz.bind_ok, q2]; rfl
section
variable {X : Cx} {b : Bs} {e e1 e2 : Expr} {f f1 f2 : FE} {fo : FO} {fs : FA} {ft : FT} {g : FS} {L La Lb : List Nat} {pos p : Pos}
theorem ds_wh {body : List Stmt} (F : Fx X b) (ht : DT X b e ft) (hb : DSs X b body g) : DS X b (.While e body [] pos) (sWhile ft g) :=
  PS.wk (ps_while F.own ht hb) fun D σ H ⟨env, o, R, h⟩ => by
    have hne : ∃ n, whD ft g n env ≠ .st := by
      by_cases q : ∃ n, whD ft g n env ≠ .st
      · exact q
      · unfold sWhile at h; rw [dif_neg q] at h; exact False.elim h
    obtain ⟨n, hn⟩ := hne
    rw [sWhile_of hn] at h
    refine ⟨fun m σ H => ∃ env o, RS X.K b H env σ o ∧ Pz X.K b (whD ft g m env) (Post X.K b H (Ex b env o) D), ⟨n, env, o, R, h⟩, ?_⟩
    rintro m σ H ⟨env, o, R, h⟩
    cases m with
    | zero => exact False.elim h
    | succ m =>
      rw [whD] at h
      refine ⟨env, o, R, h.bind.imp fun c _ h H1 s1 => ?_⟩
      have p1 : Per X.K H (Ex b env o) H1 (Ex b env o) := .same s1 fun a z => .inl z
      cases c with
      | false => exact h σ H1 o (R.same s1) p1
      | true =>
        show (if (true = true) then _ else _)
        rw [if_pos rfl]
        refine ⟨fun σ H => ∃ env o, RS X.K b H env σ o ∧ Pz X.K b (whD ft g m env) (Post X.K b H (Ex b env o) D), fun σ' H' z => ⟨m, Nat.lt_succ_self m, z⟩, env, o, R.same s1, (Pz.bind h).imp fun r _ h => ?_⟩
        cases r with
        | nx e => exact fun σ' H' o' R' p => ⟨e, o', R', h.imp fun r _ h => Post.chain (p1.trans p) h⟩
        | ct e => exact fun σ' H' o' R' p => ⟨e, o', R', h.imp fun r _ h => Post.chain (p1.trans p) h⟩
        | bk e => exact Cont.chain p1 h
        | rt d => exact h
        | rto es => exact h
/-! ### all, any of a list of truth values; tuple(..); list * int -/
@[simp] def blsOf : List PyData → Option (List Bool)
  | [] => some []
  | .bool c :: ds => (blsOf ds).map (c :: ·)
  | _ :: _ => none
theorem bls_of {K : PySem.W.Frag} {H : Hp} {O : Addr → Prop} : ∀ {vs : List V} {ds : List PyData} {bs : List Bool}, RpA K H O vs ds → blsOf ds = some bs → vs = bs.map V.bl
  | _, [], bs, r, h => by cases r; simp at h; subst h; rfl
  | _, d :: ds, bs, r, h => by
    cases r with
    | cons a t =>
      cases d with
      | bool c =>
        unfold blsOf at h
        cases q : blsOf ds with
        | none => rw [q] at h; simp at h
        | some cs =>
          rw [q] at h; simp at h; subst h
          rw [bls_of t q, a.bl_of]; rfl
      | _ => simp [blsOf] at h
@[simp] def gAll : PyData → Option PyData
  | .list ds => (blsOf ds).map fun bs => .bool (bs.all id)
  | _ => none
@[simp] def gAny : PyData → Option PyData
  | .list ds => (blsOf ds).map fun bs => .bool (bs.any id)
  | _ => none
theorem cad_all {K : PySem.W.Frag} : CaD K (rAll K) gAll := by
  intro H O x dx d Q r e q
  unfold gAll at e
  split at e
  · rename_i ds
    cases q1 : blsOf ds with
    | none => rw [q1] at e; cases e
    | some bs =>
      rw [q1] at e; cases e
      obtain ⟨a, vs, rfl, h1, h2⟩ := r.sqL
      rw [bls_of h2 q1] at h1
      exact ⟨a, bs, rfl, h1, q _ _ (.refl H) (.bl _)⟩
  · cases e
theorem cad_any {K : PySem.W.Frag} : CaD K (rAny K) gAny := by
  intro H O x dx d Q r e q
  unfold gAny at e
  split at e
  · rename_i ds
    cases q1 : blsOf ds with
    | none => rw [q1] at e; cases e
    | some bs =>
      rw [q1] at e; cases e
      obtain ⟨a, vs, rfl, h1, h2⟩ := r.sqL
      rw [bls_of h2 q1] at h1
      exact ⟨a, bs, rfl, h1, q _ _ (.refl H) (.bl _)⟩
  · cases e
@[simp] def gTuple : PyData → Option PyData
  | .list ds => some (.tuple ds)
  | .tuple ds => some (.tuple ds)
  | _ => none
theorem cad_tuple {K : PySem.W.Frag} : CaD K (fun xs H Q => ∃ p ys, xs = [.ref p] ∧ ((SqL K H p ys ∧ ∀ l, H l = none → Q (.ref l) (upd H l (.tup ys))) ∨ (SqT K H p ys ∧ Q (.ref p) H))) gTuple := by
  intro H O x dx d Q r e q
  unfold gTuple at e
  split at e
  · cases e
    obtain ⟨a, vs, rfl, h1, h2⟩ := r.sqL
    exact ⟨a, vs, rfl, .inl ⟨h1, fun l hl => q _ _ (same_upd hl) (.tup (.inl upd_same) (h2.same (same_upd hl)))⟩⟩
  · rename_i ds
    cases e
    have r' := r.rp fun _ z => nomatch z
    obtain ⟨a, vs, rfl, h1, h2⟩ := r'.sqT
    exact ⟨a, vs, rfl, .inr ⟨h1, q _ _ (.refl H) r'⟩⟩
  · cases e
def repA {α : Type} (n : Nat) (xs : List α) : List α := (List.replicate n xs).flatten
@[simp] def oRep (fo : FO) (f : FE) (env : En) : Rz (List PyData) := (fo env).bind fun ds => (f env).bind fun d => match d with
  | .int k => if -(2 ^ 63) ≤ k ∧ k < 2 ^ 63 ∧ ds.length * k.toNat ≤ 1000000 then .ok (repA k.toNat ds) else .st
  | _ => .st
theorem rpa_rep {K : PySem.W.Frag} {H : Hp} {O : Addr → Prop} {vs : List V} {ds : List PyData} (r : RpA K H O vs ds) : ∀ n, RpA K H O (repA n vs) (repA n ds)
  | 0 => by unfold repA; simp; exact .nil
  | n + 1 => by
    have := RpA.append r (rpa_rep r n)
    unfold repA at this ⊢
    rw [List.replicate_succ, List.replicate_succ, List.flatten_cons, List.flatten_cons]
    exact this
theorem do_rep (h1 : DO X b e1 fo La) (h2 : DE X b e2 f Lb) : DO X b (.BinOp e1 .Mult e2 pos) (oRep fo f) (La ++ Lb) :=
  PE.wk (pe_op op_rep h1 h2) fun σ H Q ⟨env, o, R, h⟩ => ⟨env, o, R, h.bind.imp fun ds _ h a vs H1 s1 hn ha r1 => ⟨env, o, R.same s1, h.bind.imp fun d _ h v H2 s2 r2 => by
    cases d with
    | int k =>
      replace h : Pz X.K b (if -(2 ^ 63) ≤ k ∧ k < 2 ^ 63 ∧ ds.length * k.toNat ≤ 1000000 then Rz.ok (repA k.toNat ds) else .st) _ := h
      split at h
      · rename_i hc
        have e := r1.length
        refine ⟨a, k, vs, rfl, r2.int_of, s2 _ _ ha, hc.1, hc.2.1, by rw [e]; exact Nat.le_trans hc.2.2 million, fun p hp => ?_⟩
        have s3 := same_upd (u := .lst (List.replicate k.toNat vs).flatten) hp
        refine h p _ _ ((s1.trans s2).trans s3) (s1.free (s2.free hp)) upd_same ?_
        exact Rp.moveA (.of_same s3) (fun c z => z.elim (fun z => .inl (.inl (ex_frees_app z).1)) (fun z => .inr (by rw [z]; exact hp))) _ _ ((rpa_rep r1 k.toNat).same s2)
      · exact False.elim h
    | _ => exact False.elim h⟩⟩
/-! + also where the left tuple is empty -/
@[simp] def gAddE : PyData → PyData → Option PyData
  | .int i, .int j => some (.int (i + j))
  | .tuple xs, .tuple ys => if xs.length + ys.length ≤ 1000000 then some (.tuple (xs ++ ys)) else none
  | .str x, .str y => if x.length + y.length ≤ 1000000 then some (.str (x ++ y)) else none
  | .list xs, .list ys => if xs.length + ys.length ≤ 1000000 then some (.list (xs ++ ys)) else none
  | _, _ => none
abbrev rAddAnyE (K : PySem.W.Frag) : R2 := fun x y H Q => (fun x y H Q => rI0 (fun i j => .int (i + j)) x y H Q ∨ rCatA K x y H Q) x y H Q ∨ (fun x y H Q => ∃ i j, x = .str i ∧ y = .str j ∧ i.length + j.length ≤ sizeLine ∧ Q (.str (i ++ j)) H) x y H Q ∨ rCatL K x y H Q
theorem opr_addE {X : Cx} : OpR X (binaryOp .Add) (rAddAnyE X.K) := (op_add.or op_catA).or (op_add_str.or op_catL)
theorem opd_addE {K : PySem.W.Frag} : OpD K (rAddAnyE K) gAddE := by
  intro H O x y dx dy d Q ho rx ry e q
  unfold gAddE at e
  split at e
  · rename_i i j
    cases e
    exact .inl (.inl ⟨i, j, rx.int_of, ry.int_of, q _ _ (.refl H) (.int _)⟩)
  · rename_i xs ys
    split at e
    · rename_i hc
      cases e
      obtain ⟨a, vs, rfl, ha, ra⟩ := rx.sqT
      obtain ⟨c, ws, rfl, hc', rc⟩ := ry.sqT
      have l1 := ra.length
      have l2 := rc.length
      have hm := million
      refine .inl (.inr ⟨a, c, vs, ws, rfl, rfl, ha, hc', by omega, fun z => ?_, fun z0 z => ?_, fun z0 z p hp => ?_⟩)
      · subst z
        have : xs = [] := List.length_eq_zero_iff.mp l1.symm
        subst this
        rw [List.nil_append] at q
        exact q _ _ (.refl H) ry
      · subst z
        have : ys = [] := List.length_eq_zero_iff.mp l2.symm
        subst this
        rw [List.append_nil] at q
        exact q _ _ (.refl H) rx
      · have s : Same H (upd H p (.tup (vs ++ ws))) := fun a u e => by rw [upd_ne (ne_of_none e hp)]; exact e
        exact q _ _ s (.tup (.inl upd_same) ((ra.append rc).same s))
    · cases e
  · rename_i i j
    split at e
    · rename_i hc
      cases e
      have hm := million
      exact .inr (.inl ⟨i, j, rx.str_of, ry.str_of, by omega, q _ _ (.refl H) (.str _)⟩)
    · cases e
  · rename_i xs ys
    split at e
    · rename_i hc
      cases e
      obtain ⟨a, vs, rfl, ha, ra⟩ := rx.ls
      obtain ⟨c, ws, rfl, hc', rc⟩ := ry.ls
      have l1 := ra.length
      have l2 := rc.length
      have hm := million
      refine .inr (.inr ⟨a, c, vs, ws, rfl, rfl, ha, hc', by omega, fun p hp => ?_⟩)
      have s : Same H (upd H p (.lst (vs ++ ws))) := fun a u e => by rw [upd_ne (ne_of_none e hp)]; exact e
      refine q _ _ s (.lst (.inl upd_same) (fun z => ?_) ((ra.append rc).same s))
      obtain ⟨u, hu⟩ := ho _ z
      rw [hp] at hu; cases hu
    · cases e
  · cases e
end
end DL
namespace My
open PySem PySem.Spec PyProof.Rows L2 DL
def top (i : Nat) : Stmt := PySem.Challenge.pw_ramet_k30_what_is_a_tape.main.body.getD i (.Pass ⟨0, 0, 0, 0⟩)

def dr_fill_b : FS := sIf (c2t (gCmp fun i j => decide (i < j)) (c1 gLen (cL 2)) (cV 1)) (sApp 2 (c2 (gI kMod) (c1 gInt (c2 gAddE (c2 gAddE (c2 (gI kMul) (c1 gLen (cL 2)) (cC (.int 69621))) (c2 (gI kMul) (cC (.int 977)) (cV 3))) (c2 (gI kMul) (c2 (gI kMul) (cV 6) (cV 6)) (cC (.int 31))))) (cC (.int 65521))) []) sNil
def dr_in_b : FS := sIf (c2t (gCmp fun i j => decide (j < i)) (cV 5) (cC (.int 0))) (sSeq (sApp 2 (c2 (gI kMod) (c1 gInt (cV 5)) (cC (.int 1009))) [])
    (sSet 5 (c2 (gI kDiv) (cV 5) (cC (.int 1009))) [])) sNil
def dr_out_b : FS := sSeq (sSet 5 (c1 gAbs (cV 4)) [])
    (sSeq (sIf (c2t (gCmp fun i j => decide (j ≤ i)) (cV 5) (c2 (gI kPow) (cC (.int 10)) (cC (.int 18)))) (sFor (gNm 6) (iR1 (cC (.int 24))) [] dr_in_b) (sSeq (sApp 2 (c2 (gI kMod) (c1 gInt (c2 gAddE (c2 gAddE (c2 (gI kMul) (cV 5) (cC (.int 48271))) (c2 (gI kMul) (cV 3) (cC (.int 69621)))) (cC (.int 11)))) (cC (.int 65537))) [])
    (sApp 2 (c2 (gI kMod) (c1 gInt (c2 gAddE (c2 gAddE (c2 gAddE (c2 (gI kMul) (cV 5) (cC (.int 16807))) (c2 (gI kMul) (cV 3) (cC (.int 40692)))) (cC (.int 7))) (c2 (gI kMul) (cV 5) (cV 5)))) (cC (.int 65521))) [])))
    (sSet 3 (c2 gAddE (cV 3) (cC (.int 1))) []))
abbrev _law_draws_b : FS := sSeq (sSetO 2 (cLst aNil) [])
    (sSeq (sSet 3 (cC (.int 0)) [])
    (sSeq (sFor (gNm 4) (iSq (fun env => ((oSl (cV 0) pNo (pSo (cC (.int 63)))) env).bind fun ds => .ok (.list ds))) [] dr_out_b)
    (sSeq (sFor (gNm 6) (iR1 (cV 1)) [] dr_fill_b)
    (sRetO (oSl (cL 2) pNo (pSo (cV 1)))))))
def _law_draws_f : FF := runF 7 _law_draws_b
abbrev _law_is_b : FS := sRet (cAndD (cIsi "bool" (cV 0)) (c2 (bo gEq) (cV 0) (cV 1)))
def _law_is_f : FF := runF 2 _law_is_b
abbrev is_integer_b : FS := sRet (cAndD (cIsi "int" (cV 0)) (c1 gNot (cIsi "bool" (cV 0))))
def is_integer_f : FF := runF 1 is_integer_b
abbrev is_between_b : FS := sRet (cAndD (cCall is_integer_f (aCons (cV 0) aNil)) (fun env => (tCh (gCmp fun i j => decide (i ≤ j)) (gCmp fun i j => decide (i ≤ j)) (cV 1) (cV 0) (cV 2) env).bind fun c => .ok (.bool c)))
def is_between_f : FF := runF 3 is_between_b
abbrev _is_command_b : FS := sRet (cOrD (c2 (bo gIn) (cV 0) (cTup (aCons (cC (.int 3)) (aCons (cC (.int 1)) (aCons (cC (.int 2)) aNil))))) (c2 (bo (gCmp fun i j => decide (j ≤ i))) (cV 0) (cC (.int 8))))
def _is_command_f : FF := runF 1 _is_command_b
def tp2_b : FS := sIf (tNotD (tTru (cCall _is_command_f (aCons (cV 1) aNil)))) (sRet (cC (.bool false))) sNil
def tp1_b : FS := sIf (tNotD (tTru (cCall is_between_f (aCons (cV 1) (aCons (cC (.int 1)) (aCons (c2 gAddE (cC (.int 24)) (cC (.int 72))) aNil)))))) (sRet (cC (.bool false))) sNil
abbrev is_tape_b : FS := sSeq (sIf (tOrD (tNotD (tTru (cIsi "tuple" (cV 0)))) (tOrD (c2t (gCmp fun i j => decide (i < j)) (c1 gLen (cV 0)) (cC (.int 3))) (c2t (gCmp fun i j => decide (j < i)) (c1 gLen (cV 0)) (cC (.int 400))))) (sRet (cC (.bool false))) sNil)
    (sSeq (sFor (gNm 1) (iSq (cV 0)) [] tp1_b)
    (sSeq (sFor (gNm 1) (iSq (cSl (cV 0) (pSo (cC (.int 1))) (pSo (c1 gNeg (cC (.int 2)))))) [] tp2_b)
    (sRet (cAndD (c2 (bo gEq) (c2 gIx (cV 0) (cC (.int 0))) (cC (.int 6))) (cAndD (c2 (bo gIn) (c2 gIx (cV 0) (c1 gNeg (cC (.int 2)))) (cTup (aCons (cC (.int 5)) (aCons (cC (.int 4)) aNil)))) (c2 (bo gEq) (c2 gIx (cV 0) (c1 gNeg (cC (.int 1)))) (cC (.int 7))))))))
def is_tape_f : FF := runF 2 is_tape_b
def cm_b : FS := sApp 2 (c2 gIx (fun env => ((cLst (aCons (cC (.int 1)) (aCons (cC (.int 2)) (aCons (cC (.int 3)) (aCons (c2 gAddE (cC (.int 8)) (c2 (gI kMod) (c2 gIx (cV 0) (c2 (gI kMod) (cV 3) (cC (.int 50)))) (cC (.int 16)))) (aCons (c2 gAddE (cC (.int 24)) (c2 (gI kMod) (c2 gIx (cV 0) (c2 (gI kMod) (cV 3) (cC (.int 50)))) (cC (.int 73)))) (aCons (c2 gAddE (cC (.int 24)) (c2 (gI kMod) (c2 gIx (cV 0) (c2 (gI kMod) (c2 gAddE (cV 3) (cC (.int 1))) (cC (.int 50)))) (cC (.int 73)))) aNil))))))) env).bind fun ds => .ok (.list ds)) (c2 (gI kMod) (c2 (gI kDiv) (c2 gIx (cV 0) (c2 (gI kMod) (c2 (gI kMul) (cV 3) (cC (.int 7))) (cC (.int 50)))) (cC (.int 3))) (cC (.int 6)))) []
abbrev _law_commands_b : FS := sSeq (sSetO 2 (cLst aNil) [])
    (sSeq (sFor (gNm 3) (iR1 (cV 1)) [] cm_b)
    (sRetL 2))
def _law_commands_f : FF := runF 4 _law_commands_b
abbrev copies_b : FS := sRet (c2 (bo gIn) (cC (.int 4)) (cV 0))
def copies_f : FF := runF 1 copies_b
abbrev _law_spoilt_b : FS := sSeq (sIf (c2t gEq (cV 1) (cC (.int 0))) (sRet (fun env => ((oList (cV 0)) env).bind fun ds => .ok (.list ds))) sNil)
    (sSeq (sIf (c2t gEq (cV 1) (cC (.int 1))) (sRet (cSl (cV 0) (pSo (cC (.int 1))) pNo)) sNil)
    (sSeq (sIf (c2t gEq (cV 1) (cC (.int 2))) (sRet (cSl (cV 0) pNo (pSo (c1 gNeg (cC (.int 1)))))) sNil)
    (sSeq (sIf (c2t gEq (cV 1) (cC (.int 3))) (sRet (c2 gAddE (cSl (cV 0) pNo (pSo (c1 gNeg (cC (.int 2))))) (cSl (cV 0) (pSo (c1 gNeg (cC (.int 1)))) pNo))) sNil)
    (sSeq (sIf (c2t gEq (cV 1) (cC (.int 4))) (sRet (c2 gAddE (c2 gAddE (cSl (cV 0) pNo (pSo (c1 gNeg (cC (.int 2))))) (cTup (aCons (c2 gIx (fun env => ((cLst (aCons (cC (.int 1)) (aCons (cC (.int 3)) (aCons (cC (.int 8)) (aCons (cC (.int 24)) aNil))))) env).bind fun ds => .ok (.list ds)) (c2 (gI kMod) (cV 2) (cC (.int 4)))) aNil))) (cSl (cV 0) (pSo (c1 gNeg (cC (.int 1)))) pNo))) sNil)
    (sSeq (sIf (c2t gEq (cV 1) (cC (.int 5))) (sSeq (sSet 3 (c2 gAddE (cC (.int 1)) (c2 (gI kMod) (c2 (gI kDiv) (cV 2) (cC (.int 4))) (c2 (gI kSub) (c1 gLen (cV 0)) (cC (.int 2))))) [])
    (sRet (c2 gAddE (c2 gAddE (cSl (cV 0) pNo (pSo (cV 3))) (cTup (aCons (c2 gIx (fun env => ((cLst (aCons (cC (.int 6)) (aCons (cC (.int 7)) (aCons (cC (.int 5)) (aCons (cC (.int 4)) aNil))))) env).bind fun ds => .ok (.list ds)) (c2 (gI kMod) (cV 2) (cC (.int 4)))) aNil))) (cSl (cV 0) (pSo (cV 3)) pNo)))) sNil)
    (sSeq (sIf (c2t gEq (cV 1) (cC (.int 6))) (sSeq (sSet 3 (c2 (gI kMod) (c2 (gI kDiv) (cV 2) (cC (.int 8))) (c1 gLen (cV 0))) [])
    (sRet (c2 gAddE (c2 gAddE (cSl (cV 0) pNo (pSo (cV 3))) (cTup (aCons (c2 gIx (fun env => ((cLst (aCons (cC (.int 0)) (aCons (cC (.int 97)) (aCons (c1 gNeg (cC (.int 1))) (aCons (cC (.bool true)) (aCons (cC (.str "6")) (aCons (cC (.int 200)) (aCons (cC .none) (aCons (c2 (gI kPow) (cC (.int 10)) (cC (.int 20))) aNil))))))))) env).bind fun ds => .ok (.list ds)) (c2 (gI kMod) (cV 2) (cC (.int 8)))) aNil))) (cSl (cV 0) (pSo (c2 gAddE (cV 3) (cC (.int 1)))) pNo)))) sNil)
    (sSeq (sIf (c2t gEq (cV 1) (cC (.int 7))) (sRet (c2 gAddE (c2 gAddE (cSl (cV 0) pNo (pSo (cC (.int 1)))) (c1 gTuple (fun env => ((oRep (cLst (aCons (cC (.int 3)) aNil)) (c2 (gI kSub) (cC (.int 401)) (c1 gLen (cV 0)))) env).bind fun ds => .ok (.list ds)))) (cSl (cV 0) (pSo (cC (.int 1))) pNo))) sNil)
    (sRet (c2 gIx (fun env => ((cLst (aCons (cTup aNil) (aCons (cTup (aCons (cC (.int 6)) aNil)) (aCons (cTup (aCons (cC (.int 6)) (aCons (cC (.int 7)) aNil))) (aCons (cTup (aCons (cC (.int 6)) (aCons (cC (.int 5)) aNil))) (aCons (cTup (aCons (cC (.int 5)) (aCons (cC (.int 7)) aNil))) (aCons (cC (.str "start stop end")) (aCons (cC .none) (aCons (cC (.int 5)) aNil))))))))) env).bind fun ds => .ok (.list ds)) (c2 (gI kMod) (cV 2) (cC (.int 8))))))))))))
def _law_spoilt_f : FF := runF 4 _law_spoilt_b
def law_t : FS := sSeq (sSet 5 (c2 (gI kMod) (c2 gIx (cV 1) (cC (.int 53))) (cC (.int 9))) [])
    (sSeq (sIf (tAndD (c2t gEq (cV 5) (cC (.int 7))) (c2t (gCmp fun i j => decide (j < i)) (cV 2) (cC (.int 396)))) (sRet (cCall _law_is_f (aCons (cCall is_tape_f (aCons (c2 gAddE (c2 gAddE (cSl (cV 4) pNo (pSo (cC (.int 1)))) (cTup (aCons (cC (.int 3)) (aCons (cC (.int 3)) (aCons (cC (.int 3)) aNil))))) (cSl (cV 4) (pSo (cC (.int 1))) pNo)) aNil)) (aCons (cC (.bool false)) aNil)))) sNil)
    (sSeq (sIf (tAndD (c2t gEq (cV 5) (cC (.int 3))) (tAndD (c2t (gCmp fun i j => decide (j < i)) (cV 2) (cC (.int 0))) (c2t gEq (c2 gIx (cV 4) (c1 gNeg (cC (.int 3)))) (cC (.int 4))))) (sRet (cC (.bool true))) sNil)
    (sRet (cAndD (cCall _law_is_f (aCons (cCall is_tape_f (aCons (cCall _law_spoilt_f (aCons (cV 4) (aCons (cV 5) (aCons (c2 gIx (cV 1) (cC (.int 54))) aNil)))) aNil)) (aCons (cC (.bool false)) aNil))) (cAndD (c2 (bo gEq) (cC (.int 400)) (cC (.int 400))) (c2 (bo gEq) (cC (.int 200)) (cC (.int 200))))))))
abbrev law_b : FS := sSeq (sSet 1 (fun env => ((oCall _law_draws_f (aCons (cV 0) (aCons (cC (.int 60)) aNil))) env).bind fun ds => .ok (.list ds)) [])
    (sSeq (sSet 2 (c2 (gI kMod) (c2 gIx (cV 1) (cC (.int 50))) (cC (.int 58))) [])
    (sSeq (sIf (c2t gEq (c2 (gI kMod) (c2 gIx (cV 1) (cC (.int 51))) (cC (.int 8))) (cC (.int 0))) (sSet 2 (c2 gAddE (cC (.int 396)) (c2 (gI kMod) (c2 gIx (cV 1) (cC (.int 50))) (cC (.int 2)))) []) sNil)
    (sSeq (sSet 3 (c2 gIx (fun env => ((cLst (aCons (cC (.int 5)) (aCons (cC (.int 4)) aNil))) env).bind fun ds => .ok (.list ds)) (c2 (gI kMod) (c2 gIx (cV 1) (cC (.int 52))) (cC (.int 2)))) [])
    (sSeq (sSet 4 (c1 gTuple (c2 gAddE (c2 gAddE (fun env => ((cLst (aCons (cC (.int 6)) aNil)) env).bind fun ds => .ok (.list ds)) (fun env => ((oCall _law_commands_f (aCons (cV 1) (aCons (cV 2) aNil))) env).bind fun ds => .ok (.list ds))) (fun env => ((cLst (aCons (cV 3) (aCons (cC (.int 7)) aNil))) env).bind fun ds => .ok (.list ds)))) [])
    (sSeq (sIf (tOrD (tNotD (tTru (cCall _law_is_f (aCons (cCall is_tape_f (aCons (cV 4) aNil)) (aCons (cC (.bool true)) aNil))))) (tNotD (tTru (cCall _law_is_f (aCons (cCall copies_f (aCons (cV 4) aNil)) (aCons (c2 (bo gEq) (cV 3) (cC (.int 4))) aNil)))))) (sRet (cC (.bool false))) sNil)
    law_t)))))
def law_f : FF := runF 6 law_b
/-- what the top has made -/
structure Txt (P : Program) (w : World) (K : PySem.W.Frag) (mg : Str → Option Value) (cls : Str → Value) : Prop where
  b_abs : mg "abs" = none
  b_bool : mg "bool" = none
  b_int : mg "int" = none
  b_isinstance : mg "isinstance" = none
  b_len : mg "len" = none
  b_list : mg "list" = none
  b_range : mg "range" = none
  b_tuple : mg "tuple" = none
  g_DIGIT : ∃ t, mg "DIGIT" = some (.int 8 t)
  g_END : ∃ t, mg "END" = some (.int 7 t)
  g_FORTH : ∃ t, mg "FORTH" = some (.int 3 t)
  g_LEFT : ∃ t, mg "LEFT" = some (.int 1 t)
  g_MOST_SYMBOLS : ∃ t, mg "MOST_SYMBOLS" = some (.int 400 t)
  g_MOST_WRITTEN : ∃ t, mg "MOST_WRITTEN" = some (.int 72 t)
  g_PORT : ∃ t, mg "PORT" = some (.int 4 t)
  g_REACH : ∃ t, mg "REACH" = some (.int 200 t)
  g_RIGHT : ∃ t, mg "RIGHT" = some (.int 2 t)
  g_START : ∃ t, mg "START" = some (.int 6 t)
  g_STOP : ∃ t, mg "STOP" = some (.int 5 t)
  g_WRITE : ∃ t, mg "WRITE" = some (.int 24 t)
section
variable {P : Program} {w : World} {K : PySem.W.Frag} {mg : Str → Option Value} {base : Heap} {cls : Str → Value}
abbrev s__law_draws : Stmt := top 20
theorem sc__law_draws : FnScope ["script", "many", "draws", "at", "cell", "number", "k"] ["script", "many"] (defScope s__law_draws) := ⟨rfl, rfl, rfl, by decide +kernel, rfl, by decide +kernel, by decide +kernel⟩
theorem ok__law_draws (T : Txt P w K mg cls) (At : FnAt K mg "_law_draws" s__law_draws) : Fn P w K mg base cls "_law_draws" 1 ["script", "many"] _law_draws_f := by
  refine Fn.mk (body := _law_draws_b) sc__law_draws At (fun cdv A outer s H E O f hr F => ?_) (fun _ _ _ _ _ _ us hl => match us, hl with | [_, _], _ => rfl)
  have sc := sc__law_draws
  exact (dss_cons (ds_setO (i := 2) sc.nd (do_lst da_nil))
    (dss_cons (ds_set (i := 3) sc.nd de_int)
    (dss_cons (ds_for F (di_sq (de_of (do_sl (db_of (de_v 0)) dp_no (dp_so de_int)))) (dg_nm (i := 4) sc.nd) (dss_cons (ds_set (i := 5) sc.nd (de_b1 cad_abs call_abs (by rfl) T.b_abs bb_abs (db_of (de_v 4))))
    (dss_cons (ds_if (dt_cmp op_ge opb_cmp rfl (db_of (de_v 5)) (db_of (de_op op_pow opd_pow de_int de_int))) (dss_one (ds_for F (di_r1 (by rfl) T.b_range de_int) (dg_nm (i := 6) sc.nd) (dss_one (ds_if (dt_cmp op_gt opb_cmp rfl (db_of (de_v 5)) (db_of de_int)) (dss_cons (ds_app (i := 2) (de_op op_mod opd_mod (de_t1 cad_int call_int1 (by rfl) T.b_int bb_int (db_of (de_v 5))) de_int))
    (dss_one (ds_set (i := 5) sc.nd (de_op op_fdiv opd_div (de_v 5) de_int)))) dss_nil)))) (dss_cons (ds_app (i := 2) (de_op op_mod opd_mod (de_t1 cad_int call_int1 (by rfl) T.b_int bb_int (db_of (de_op opr_addE opd_addE (de_op opr_addE opd_addE (de_op op_mul opd_mul (de_v 5) de_int) (de_op op_mul opd_mul (de_v 3) de_int)) de_int))) de_int))
    (dss_one (ds_app (i := 2) (de_op op_mod opd_mod (de_t1 cad_int call_int1 (by rfl) T.b_int bb_int (db_of (de_op opr_addE opd_addE (de_op opr_addE opd_addE (de_op opr_addE opd_addE (de_op op_mul opd_mul (de_v 5) de_int) (de_op op_mul opd_mul (de_v 3) de_int)) de_int) (de_op op_mul opd_mul (de_v 5) (de_v 5))))) de_int)))))
    (dss_one (ds_set (i := 3) sc.nd (de_op opr_addE opd_addE (de_v 3) de_int))))))
    (dss_cons (ds_for F (di_r1 (by rfl) T.b_range (de_v 1)) (dg_nm (i := 6) sc.nd) (dss_one (ds_if (dt_cmp op_lt opb_cmp rfl (db_of (de_b1 cad_len call_len (by rfl) T.b_len bb_len (db_v 2))) (db_of (de_v 1))) (dss_one (ds_app (i := 2) (de_op op_mod opd_mod (de_t1 cad_int call_int1 (by rfl) T.b_int bb_int (db_of (de_op opr_addE opd_addE (de_op opr_addE opd_addE (de_op op_mul opd_mul (de_b1 cad_len call_len (by rfl) T.b_len bb_len (db_v 2)) de_int) (de_op op_mul opd_mul de_int (de_v 3))) (de_op op_mul opd_mul (de_op op_mul opd_mul (de_v 6) (de_v 6)) de_int)))) de_int))) dss_nil)))
    (dss_one (ds_retO (do_sl (db_v 2) dp_no (dp_so (de_v 1)))))))))
abbrev s__law_is : Stmt := top 22
theorem sc__law_is : FnScope ["value", "due"] ["value", "due"] (defScope s__law_is) := ⟨rfl, rfl, rfl, by decide +kernel, rfl, by decide +kernel, by decide +kernel⟩
theorem ok__law_is (T : Txt P w K mg cls) (At : FnAt K mg "_law_is" s__law_is) : Fn P w K mg base cls "_law_is" 1 ["value", "due"] _law_is_f := by
  refine Fn.mk (body := _law_is_b) sc__law_is At (fun cdv A outer s H E O f hr F => ?_) (fun _ _ _ _ _ _ us hl => match us, hl with | [_, _], _ => rfl)
  have sc := sc__law_is
  exact (dss_one (ds_ret (de_and (de_isi isi_bool (by rfl) T.b_isinstance bb_isinstance (by rfl) T.b_bool bb_bool (db_of (de_v 0))) (de_one (de_cmp (op_eqD F.un) opb_eq rfl (db_of (de_v 0)) (db_of (de_v 1)))))))
abbrev s_is_integer : Stmt := top 11
theorem sc_is_integer : FnScope ["value"] ["value"] (defScope s_is_integer) := ⟨rfl, rfl, rfl, by decide +kernel, rfl, by decide +kernel, by decide +kernel⟩
theorem ok_is_integer (T : Txt P w K mg cls) (At : FnAt K mg "is_integer" s_is_integer) : Fn P w K mg base cls "is_integer" 1 ["value"] is_integer_f := by
  refine Fn.mk (body := is_integer_b) sc_is_integer At (fun cdv A outer s H E O f hr F => ?_) (fun _ _ _ _ _ _ us hl => match us, hl with | [_], _ => rfl)
  have sc := sc_is_integer
  exact (dss_one (ds_ret (de_and (de_isi isi_int (by rfl) T.b_isinstance bb_isinstance (by rfl) T.b_int bb_int (db_of (de_v 0))) (de_one (de_not (de_isi isi_bool (by rfl) T.b_isinstance bb_isinstance (by rfl) T.b_bool bb_bool (db_of (de_v 0))))))))
abbrev s_is_between : Stmt := top 12
theorem sc_is_between : FnScope ["value", "least", "most"] ["value", "least", "most"] (defScope s_is_between) := ⟨rfl, rfl, rfl, by decide +kernel, rfl, by decide +kernel, by decide +kernel⟩
theorem ok_is_between (T : Txt P w K mg cls) (At : FnAt K mg "is_between" s_is_between) (G_is_integer : Fn P w K mg base cls "is_integer" 1 ["value"] is_integer_f) : Fn P w K mg base cls "is_between" 2 ["value", "least", "most"] is_between_f := by
  refine Fn.mk (body := is_between_b) sc_is_between At (fun cdv A outer s H E O f hr F => ?_) (fun _ _ _ _ _ _ us hl => match us, hl with | [_, _, _], _ => rfl)
  have sc := sc_is_between
  exact (dss_one (ds_ret (de_and (de_fn F G_is_integer (hr.mono (by decide)) (by rfl) (da_cons (de_v 0) da_nil) (len_cons len_nil)) (de_one (de_ch op_le op_le opb_cmp opb_cmp (db_of (de_v 1)) (db_of (de_v 0)) (db_of (de_v 2)))))))
abbrev s__is_command : Stmt := top 17
theorem sc__is_command : FnScope ["sym"] ["sym"] (defScope s__is_command) := ⟨rfl, rfl, rfl, by decide +kernel, rfl, by decide +kernel, by decide +kernel⟩
theorem ok__is_command (T : Txt P w K mg cls) (At : FnAt K mg "_is_command" s__is_command) : Fn P w K mg base cls "_is_command" 1 ["sym"] _is_command_f := by
  refine Fn.mk (body := _is_command_b) sc__is_command At (fun cdv A outer s H E O f hr F => ?_) (fun _ _ _ _ _ _ us hl => match us, hl with | [_], _ => rfl)
  have sc := sc__is_command
  exact (dss_one (ds_ret (de_or (de_cmp ((op_inD F.un1).or (op_inT F.un1)) opb_in rfl (db_of (de_v 0)) (db_of (de_tup (da_cons (de_gI T.g_FORTH (by rfl)) (da_cons (de_gI T.g_LEFT (by rfl)) (da_cons (de_gI T.g_RIGHT (by rfl)) da_nil)))))) (de_one (de_cmp op_ge opb_cmp rfl (db_of (de_v 0)) (db_of (de_gI T.g_DIGIT (by rfl))))))))
abbrev s_is_tape : Stmt := top 16
theorem sc_is_tape : FnScope ["value", "sym"] ["value"] (defScope s_is_tape) := ⟨rfl, rfl, rfl, by decide +kernel, rfl, by decide +kernel, by decide +kernel⟩
theorem ok_is_tape (T : Txt P w K mg cls) (At : FnAt K mg "is_tape" s_is_tape) (G_is_between : Fn P w K mg base cls "is_between" 2 ["value", "least", "most"] is_between_f) (G__is_command : Fn P w K mg base cls "_is_command" 1 ["sym"] _is_command_f) : Fn P w K mg base cls "is_tape" 3 ["value"] is_tape_f := by
  refine Fn.mk (body := is_tape_b) sc_is_tape At (fun cdv A outer s H E O f hr F => ?_) (fun _ _ _ _ _ _ us hl => match us, hl with | [_], _ => rfl)
  have sc := sc_is_tape
  exact (dss_cons (ds_if (dt_w (dw_or (dt_not (dt_tru (db_of (de_isi isi_tuple (by rfl) T.b_isinstance bb_isinstance (by rfl) T.b_tuple bb_tuple (db_of (de_v 0)))))) (dw_or (dt_cmp op_lt opb_cmp rfl (db_of (de_b1 cad_len call_len (by rfl) T.b_len bb_len (db_of (de_v 0)))) (db_of de_int)) (dw_or1 (dt_cmp op_gt opb_cmp rfl (db_of (de_b1 cad_len call_len (by rfl) T.b_len bb_len (db_of (de_v 0)))) (db_of (de_gI T.g_MOST_SYMBOLS (by rfl)))))))) (dss_one (ds_ret de_bl)) dss_nil)
    (dss_cons (ds_for F (di_sq (de_v 0)) (dg_nm (i := 1) sc.nd) (dss_one (ds_if (dt_not (dt_tru (db_of (de_fn F G_is_between (hr.mono (by decide)) (by rfl) (da_cons (de_v 1) (da_cons (de_gI T.g_LEFT (by rfl)) (da_cons (de_op opr_addE opd_addE (de_gI T.g_WRITE (by rfl)) (de_gI T.g_MOST_WRITTEN (by rfl))) da_nil))) (len_cons (len_cons (len_cons len_nil))))))) (dss_one (ds_ret de_bl)) dss_nil)))
    (dss_cons (ds_for F (di_sq (de_sl (de_v 0) (dp_so de_int) (dp_so (de_neg de_int)))) (dg_nm (i := 1) sc.nd) (dss_one (ds_if (dt_not (dt_tru (db_of (de_fn F G__is_command (hr.mono (by decide)) (by rfl) (da_cons (de_v 1) da_nil) (len_cons len_nil))))) (dss_one (ds_ret de_bl)) dss_nil)))
    (dss_one (ds_ret (de_and (de_cmp (op_eqD F.un) opb_eq rfl (db_of (de_ix (db_of (de_v 0)) (db_of de_int))) (db_of (de_gI T.g_START (by rfl)))) (de_and (de_cmp ((op_inD F.un1).or (op_inT F.un1)) opb_in rfl (db_of (de_ix (db_of (de_v 0)) (db_of (de_neg de_int)))) (db_of (de_tup (da_cons (de_gI T.g_STOP (by rfl)) (da_cons (de_gI T.g_PORT (by rfl)) da_nil))))) (de_one (de_cmp (op_eqD F.un) opb_eq rfl (db_of (de_ix (db_of (de_v 0)) (db_of (de_neg de_int)))) (db_of (de_gI T.g_END (by rfl))))))))))))
abbrev s__law_commands : Stmt := top 23
theorem sc__law_commands : FnScope ["draws", "many", "symbols", "k"] ["draws", "many"] (defScope s__law_commands) := ⟨rfl, rfl, rfl, by decide +kernel, rfl, by decide +kernel, by decide +kernel⟩
theorem ok__law_commands (T : Txt P w K mg cls) (At : FnAt K mg "_law_commands" s__law_commands) : Fn P w K mg base cls "_law_commands" 1 ["draws", "many"] _law_commands_f := by
  refine Fn.mk (body := _law_commands_b) sc__law_commands At (fun cdv A outer s H E O f hr F => ?_) (fun _ _ _ _ _ _ us hl => match us, hl with | [_, _], _ => rfl)
  have sc := sc__law_commands
  exact (dss_cons (ds_setO (i := 2) sc.nd (do_lst da_nil))
    (dss_cons (ds_for F (di_r1 (by rfl) T.b_range (de_v 1)) (dg_nm (i := 3) sc.nd) (dss_one (ds_app (i := 2) (de_ix (db_of (de_of (do_lst (da_cons de_int (da_cons de_int (da_cons de_int (da_cons (de_op opr_addE opd_addE de_int (de_op op_mod opd_mod (de_ix (db_of (de_v 0)) (db_of (de_op op_mod opd_mod (de_v 3) de_int))) de_int)) (da_cons (de_op opr_addE opd_addE de_int (de_op op_mod opd_mod (de_ix (db_of (de_v 0)) (db_of (de_op op_mod opd_mod (de_v 3) de_int))) de_int)) (da_cons (de_op opr_addE opd_addE de_int (de_op op_mod opd_mod (de_ix (db_of (de_v 0)) (db_of (de_op op_mod opd_mod (de_op opr_addE opd_addE (de_v 3) de_int) de_int))) de_int)) da_nil))))))))) (db_of (de_op op_mod opd_mod (de_op op_fdiv opd_div (de_ix (db_of (de_v 0)) (db_of (de_op op_mod opd_mod (de_op op_mul opd_mul (de_v 3) de_int) de_int))) de_int) de_int))))))
    (dss_one (ds_retL 2))))
abbrev s_copies : Stmt := top 18
theorem sc_copies : FnScope ["tape"] ["tape"] (defScope s_copies) := ⟨rfl, rfl, rfl, by decide +kernel, rfl, by decide +kernel, by decide +kernel⟩
theorem ok_copies (T : Txt P w K mg cls) (At : FnAt K mg "copies" s_copies) : Fn P w K mg base cls "copies" 1 ["tape"] copies_f := by
  refine Fn.mk (body := copies_b) sc_copies At (fun cdv A outer s H E O f hr F => ?_) (fun _ _ _ _ _ _ us hl => match us, hl with | [_], _ => rfl)
  have sc := sc_copies
  exact (dss_one (ds_ret (de_cmp ((op_inD F.un1).or (op_inT F.un1)) opb_in rfl (db_of (de_gI T.g_PORT (by rfl))) (db_of (de_v 0)))))
abbrev s__law_spoilt : Stmt := top 24
theorem sc__law_spoilt : FnScope ["tape", "kind", "draw", "at"] ["tape", "kind", "draw"] (defScope s__law_spoilt) := ⟨rfl, rfl, rfl, by decide +kernel, rfl, by decide +kernel, by decide +kernel⟩
theorem ok__law_spoilt (T : Txt P w K mg cls) (At : FnAt K mg "_law_spoilt" s__law_spoilt) : Fn P w K mg base cls "_law_spoilt" 1 ["tape", "kind", "draw"] _law_spoilt_f := by
  refine Fn.mk (body := _law_spoilt_b) sc__law_spoilt At (fun cdv A outer s H E O f hr F => ?_) (fun _ _ _ _ _ _ us hl => match us, hl with | [_, _, _], _ => rfl)
  have sc := sc__law_spoilt
  exact (dss_cons (ds_if (dt_cmp (op_eqD F.un) opb_eq rfl (db_of (de_v 1)) (db_of de_int)) (dss_one (ds_ret (de_of (do_list (by rfl) T.b_list bb_list (db_of (de_v 0)))))) dss_nil)
    (dss_cons (ds_if (dt_cmp (op_eqD F.un) opb_eq rfl (db_of (de_v 1)) (db_of de_int)) (dss_one (ds_ret (de_sl (de_v 0) (dp_so de_int) dp_no))) dss_nil)
    (dss_cons (ds_if (dt_cmp (op_eqD F.un) opb_eq rfl (db_of (de_v 1)) (db_of de_int)) (dss_one (ds_ret (de_sl (de_v 0) dp_no (dp_so (de_neg de_int))))) dss_nil)
    (dss_cons (ds_if (dt_cmp (op_eqD F.un) opb_eq rfl (db_of (de_v 1)) (db_of de_int)) (dss_one (ds_ret (de_op opr_addE opd_addE (de_sl (de_v 0) dp_no (dp_so (de_neg de_int))) (de_sl (de_v 0) (dp_so (de_neg de_int)) dp_no)))) dss_nil)
    (dss_cons (ds_if (dt_cmp (op_eqD F.un) opb_eq rfl (db_of (de_v 1)) (db_of de_int)) (dss_one (ds_ret (de_op opr_addE opd_addE (de_op opr_addE opd_addE (de_sl (de_v 0) dp_no (dp_so (de_neg de_int))) (de_tup (da_cons (de_ix (db_of (de_of (do_lst (da_cons de_int (da_cons de_int (da_cons de_int (da_cons de_int da_nil))))))) (db_of (de_op op_mod opd_mod (de_v 2) de_int))) da_nil))) (de_sl (de_v 0) (dp_so (de_neg de_int)) dp_no)))) dss_nil)
    (dss_cons (ds_if (dt_cmp (op_eqD F.un) opb_eq rfl (db_of (de_v 1)) (db_of de_int)) (dss_cons (ds_set (i := 3) sc.nd (de_op opr_addE opd_addE de_int (de_op op_mod opd_mod (de_op op_fdiv opd_div (de_v 2) de_int) (de_op op_sub opd_sub (de_b1 cad_len call_len (by rfl) T.b_len bb_len (db_of (de_v 0))) de_int))))
    (dss_one (ds_ret (de_op opr_addE opd_addE (de_op opr_addE opd_addE (de_sl (de_v 0) dp_no (dp_so (de_v 3))) (de_tup (da_cons (de_ix (db_of (de_of (do_lst (da_cons de_int (da_cons de_int (da_cons de_int (da_cons de_int da_nil))))))) (db_of (de_op op_mod opd_mod (de_v 2) de_int))) da_nil))) (de_sl (de_v 0) (dp_so (de_v 3)) dp_no))))) dss_nil)
    (dss_cons (ds_if (dt_cmp (op_eqD F.un) opb_eq rfl (db_of (de_v 1)) (db_of de_int)) (dss_cons (ds_set (i := 3) sc.nd (de_op op_mod opd_mod (de_op op_fdiv opd_div (de_v 2) de_int) (de_b1 cad_len call_len (by rfl) T.b_len bb_len (db_of (de_v 0)))))
    (dss_one (ds_ret (de_op opr_addE opd_addE (de_op opr_addE opd_addE (de_sl (de_v 0) dp_no (dp_so (de_v 3))) (de_tup (da_cons (de_ix (db_of (de_of (do_lst (da_cons de_int (da_cons de_int (da_cons (de_neg de_int) (da_cons de_bl (da_cons de_str (da_cons de_int (da_cons de_non (da_cons (de_op op_pow opd_pow de_int de_int) da_nil))))))))))) (db_of (de_op op_mod opd_mod (de_v 2) de_int))) da_nil))) (de_sl (de_v 0) (dp_so (de_op opr_addE opd_addE (de_v 3) de_int)) dp_no))))) dss_nil)
    (dss_cons (ds_if (dt_cmp (op_eqD F.un) opb_eq rfl (db_of (de_v 1)) (db_of de_int)) (dss_one (ds_ret (de_op opr_addE opd_addE (de_op opr_addE opd_addE (de_sl (de_v 0) dp_no (dp_so de_int)) (de_t1 cad_tuple call_tuple_of (by rfl) T.b_tuple bb_tuple (db_of (de_of (do_rep (do_lst (da_cons de_int da_nil)) (de_op op_sub opd_sub de_int (de_b1 cad_len call_len (by rfl) T.b_len bb_len (db_of (de_v 0))))))))) (de_sl (de_v 0) (dp_so de_int) dp_no)))) dss_nil)
    (dss_one (ds_ret (de_ix (db_of (de_of (do_lst (da_cons (de_tup da_nil) (da_cons (de_tup (da_cons de_int da_nil)) (da_cons (de_tup (da_cons de_int (da_cons de_int da_nil))) (da_cons (de_tup (da_cons de_int (da_cons de_int da_nil))) (da_cons (de_tup (da_cons de_int (da_cons de_int da_nil))) (da_cons de_str (da_cons de_non (da_cons de_int da_nil))))))))))) (db_of (de_op op_mod opd_mod (de_v 2) de_int)))))))))))))
abbrev s_law : Stmt := top 25
theorem sc_law : FnScope ["script", "draws", "many", "last", "tape", "kind"] ["script"] (defScope s_law) := ⟨rfl, rfl, rfl, by decide +kernel, rfl, by decide +kernel, by decide +kernel⟩
theorem ok_law {f : Addr} {fd : FuncData} (T : Txt P w K mg cls) (F0 : Fun K "law" "law" s_law f fd) (G__law_draws : Fn P w K mg base cls "_law_draws" 1 ["script", "many"] _law_draws_f) (G__law_is : Fn P w K mg base cls "_law_is" 1 ["value", "due"] _law_is_f) (G_is_tape : Fn P w K mg base cls "is_tape" 3 ["value"] is_tape_f) (G__law_commands : Fn P w K mg base cls "_law_commands" 1 ["draws", "many"] _law_commands_f) (G_copies : Fn P w K mg base cls "copies" 1 ["tape"] copies_f) (G__law_spoilt : Fn P w K mg base cls "_law_spoilt" 1 ["tape", "kind", "draw"] _law_spoilt_f) : FnOk P w K mg base (L2.CX P w) 4 f fd ["script"] (spD K cls 1 law_f) := by
  refine fn_D (body := law_b) F0 sc_law (by decide) (fun cdv A outer s H E O hr F => ?_)
  have sc := sc_law
  exact (dss_cons (ds_set (i := 1) sc.nd (de_of (do_fn F G__law_draws (hr.mono (by decide)) (by rfl) (da_cons (de_v 0) (da_cons de_int da_nil)) (len_cons (len_cons len_nil)))))
    (dss_cons (ds_set (i := 2) sc.nd (de_op op_mod opd_mod (de_ix (db_of (de_v 1)) (db_of de_int)) de_int))
    (dss_cons (ds_if (dt_cmp (op_eqD F.un) opb_eq rfl (db_of (de_op op_mod opd_mod (de_ix (db_of (de_v 1)) (db_of de_int)) de_int)) (db_of de_int)) (dss_one (ds_set (i := 2) sc.nd (de_op opr_addE opd_addE de_int (de_op op_mod opd_mod (de_ix (db_of (de_v 1)) (db_of de_int)) de_int)))) dss_nil)
    (dss_cons (ds_set (i := 3) sc.nd (de_ix (db_of (de_of (do_lst (da_cons de_int (da_cons de_int da_nil))))) (db_of (de_op op_mod opd_mod (de_ix (db_of (de_v 1)) (db_of de_int)) de_int))))
    (dss_cons (ds_set (i := 4) sc.nd (de_t1 cad_tuple call_tuple_of (by rfl) T.b_tuple bb_tuple (db_of (de_op opr_addE opd_addE (de_op opr_addE opd_addE (de_of (do_lst (da_cons de_int da_nil))) (de_of (do_fn F G__law_commands (hr.mono (by decide)) (by rfl) (da_cons (de_v 1) (da_cons (de_v 2) da_nil)) (len_cons (len_cons len_nil))))) (de_of (do_lst (da_cons (de_v 3) (da_cons de_int da_nil))))))))
    (dss_cons (ds_if (dt_w (dw_or (dt_not (dt_tru (db_of (de_fn F G__law_is (hr.mono (by decide)) (by rfl) (da_cons (de_fn F G_is_tape (hr.mono (by decide)) (by rfl) (da_cons (de_v 4) da_nil) (len_cons len_nil)) (da_cons de_bl da_nil)) (len_cons (len_cons len_nil)))))) (dw_or1 (dt_not (dt_tru (db_of (de_fn F G__law_is (hr.mono (by decide)) (by rfl) (da_cons (de_fn F G_copies (hr.mono (by decide)) (by rfl) (da_cons (de_v 4) da_nil) (len_cons len_nil)) (da_cons (de_cmp (op_eqD F.un) opb_eq rfl (db_of (de_v 3)) (db_of de_int)) da_nil)) (len_cons (len_cons len_nil))))))))) (dss_one (ds_ret de_bl)) dss_nil)
    (dss_cons (ds_set (i := 5) sc.nd (de_op op_mod opd_mod (de_ix (db_of (de_v 1)) (db_of de_int)) de_int))
    (dss_cons (ds_if (dt_w (dw_and (dt_cmp (op_eqD F.un) opb_eq rfl (db_of (de_v 5)) (db_of de_int)) (dw_and1 (dt_cmp op_gt opb_cmp rfl (db_of (de_v 2)) (db_of de_int))))) (dss_one (ds_ret (de_fn F G__law_is (hr.mono (by decide)) (by rfl) (da_cons (de_fn F G_is_tape (hr.mono (by decide)) (by rfl) (da_cons (de_op opr_addE opd_addE (de_op opr_addE opd_addE (de_sl (de_v 4) dp_no (dp_so de_int)) (de_tup (da_cons de_int (da_cons de_int (da_cons de_int da_nil))))) (de_sl (de_v 4) (dp_so de_int) dp_no)) da_nil) (len_cons len_nil)) (da_cons de_bl da_nil)) (len_cons (len_cons len_nil))))) dss_nil)
    (dss_cons (ds_if (dt_w (dw_and (dt_cmp (op_eqD F.un) opb_eq rfl (db_of (de_v 5)) (db_of de_int)) (dw_and (dt_cmp op_gt opb_cmp rfl (db_of (de_v 2)) (db_of de_int)) (dw_and1 (dt_cmp (op_eqD F.un) opb_eq rfl (db_of (de_ix (db_of (de_v 4)) (db_of (de_neg de_int)))) (db_of de_int)))))) (dss_one (ds_ret de_bl)) dss_nil)
    (dss_one (ds_ret (de_and (de_fn F G__law_is (hr.mono (by decide)) (by rfl) (da_cons (de_fn F G_is_tape (hr.mono (by decide)) (by rfl) (da_cons (de_fn F G__law_spoilt (hr.mono (by decide)) (by rfl) (da_cons (de_v 4) (da_cons (de_v 5) (da_cons (de_ix (db_of (de_v 1)) (db_of de_int)) da_nil))) (len_cons (len_cons (len_cons len_nil)))) da_nil) (len_cons len_nil)) (da_cons de_bl da_nil)) (len_cons (len_cons len_nil))) (de_and (de_cmp (op_eqD F.un) opb_eq rfl (db_of (de_gI T.g_MOST_SYMBOLS (by rfl))) (db_of de_int)) (de_one (de_cmp (op_eqD F.un) opb_eq rfl (db_of (de_gI T.g_REACH (by rfl))) (db_of de_int))))))))))))))))
end
end My
namespace My
open PySem PySem.Spec PyProof.Rows L2 DL
abbrev okI (i : Int) : Rz Rv := .ok (.val (.int i))
abbrev okB (b : Bool) : Rz Rv := .ok (.val (.bool b))
@[simp] theorem initE_0 (n : Nat) : initE n [] = List.replicate n Sl.no := rfl
@[simp] theorem initE_1 (a : PyData) (n : Nat) : initE (n + 1) [a] = Sl.val a :: List.replicate n Sl.no := rfl
@[simp] theorem initE_2 (a b : PyData) (n : Nat) : initE (n + 2) [a, b] = Sl.val a :: Sl.val b :: List.replicate n Sl.no := rfl
/-- a draw -/
def Dr (ds : List Int) : Prop := ∀ d ∈ ds, 0 ≤ d ∧ d < 65537
theorem Dr.app {ds : List Int} (h : Dr ds) {x : Int} (h0 : 0 ≤ x) (h1 : x < 65537) : Dr (ds ++ [x]) := fun d hd => by
  rcases List.mem_append.mp hd with q | q
  · exact h d q
  · simp at q; subst q; exact ⟨h0, h1⟩
theorem dr_in (s m : PyData) : ∀ (ks : List PyData) (ds : List Int) (n t : Int) (a4 a6 : Sl), Dr ds → ds.length + ks.length < 1000000 → ∃ ds' n' a6', Dr ds' ∧ ds'.length ≤ ds.length + ks.length ∧
    forD (gNm 6) dr_in_b ks [.val s, .val m, .own (ds.map .int), .val (.int t), a4, .val (.int n), a6] = .ok (.nx [.val s, .val m, .own (ds'.map .int), .val (.int t), a4, .val (.int n'), a6']) := by
  intro ks
  induction ks with
  | nil => intro ds n t a4 a6 h _; exact ⟨ds, n, a6, h, Nat.le_add_right .., by simp⟩
  | cons k ks ih =>
    intro ds n t a4 a6 h hz
    rw [List.length_cons] at hz
    by_cases hn : 0 < n
    · obtain ⟨ds', n', a6', g, gl, e⟩ := ih (ds ++ [n % 1009]) (n / 1009) t a4 (.val k) (h.app (by omega) (by omega)) (by rw [List.length_append, List.length_singleton]; omega)
      refine ⟨ds', n', a6', g, by rw [List.length_append, List.length_singleton] at gl; rw [List.length_cons]; omega, ?_⟩
      rw [← e]
      have hl : ds.length < 1000000 := by omega
      simp -dsimp -implicitDefEqProofs [dr_in_b, hn, hl]
    · obtain ⟨ds', n', a6', g, gl, e⟩ := ih ds n t a4 (.val k) h (by omega)
      refine ⟨ds', n', a6', g, by rw [List.length_cons]; omega, ?_⟩
      rw [← e]
      simp -dsimp -implicitDefEqProofs [dr_in_b, hn]
theorem dr_out (s m : PyData) : ∀ (xs : List Int) (ds : List Int) (t : Int) (a4 a5 a6 : Sl), Dr ds → ds.length + 24 * xs.length < 1000000 → ∃ ds' t' a4' a5' a6', Dr ds' ∧ ds'.length ≤ ds.length + 24 * xs.length ∧
    forD (gNm 4) dr_out_b (xs.map .int) [.val s, .val m, .own (ds.map .int), .val (.int t), a4, a5, a6] = .ok (.nx [.val s, .val m, .own (ds'.map .int), .val (.int t'), a4', a5', a6']) := by
  intro xs
  induction xs with
  | nil => intro ds t a4 a5 a6 h _; exact ⟨ds, t, a4, a5, a6, h, Nat.le_add_right .., by simp⟩
  | cons x xs ih =>
    intro ds t a4 a5 a6 h hz
    rw [List.length_cons] at hz
    generalize hx : (if x < 0 then -x else x) = u
    by_cases hn : 1000000000000000000 ≤ u
    · have l24 : (intsD 0 24).length = 24 := rfl
      obtain ⟨ds1, n1, a61, g1, gl1, e1⟩ := dr_in s m (intsD 0 24) ds u t (.val (.int x)) a6 h (by rw [l24]; omega)
      rw [l24] at gl1
      obtain ⟨ds', t', a4', a5', a6', g, gl, e⟩ := ih ds1 (t + 1) (.val (.int x)) (.val (.int n1)) a61 g1 (by omega)
      refine ⟨ds', t', a4', a5', a6', g, by rw [List.length_cons]; omega, ?_⟩
      rw [← e]
      rw [List.map_cons, forD]
      simp -dsimp -implicitDefEqProofs [dr_out_b, hx, hn, -forD]
      rw [e1]
      simp -dsimp -implicitDefEqProofs [-forD]
      rfl
    · obtain ⟨ds', t', a4', a5', a6', g, gl, e⟩ := ih (ds ++ [(u * 48271 + t * 69621 + 11) % 65537] ++ [(u * 16807 + t * 40692 + 7 + u * u) % 65521]) (t + 1) (.val (.int x)) (.val (.int u)) a6
        ((h.app (by omega) (by omega)).app (by omega) (by omega)) (by simp only [List.length_append, List.length_singleton]; omega)
      refine ⟨ds', t', a4', a5', a6', g, by simp only [List.length_append, List.length_singleton] at gl; rw [List.length_cons]; omega, ?_⟩
      rw [← e]
      have u0 : 0 ≤ u := by rw [← hx]; split <;> omega
      have hl : ds.length < 1000000 := by omega
      have hl1 : ds.length + 1 < 1000000 := by omega
      have hm : -18446744073709551616 < u ∧ u < 18446744073709551616 := by omega
      rw [List.map_cons, forD]
      simp -dsimp -implicitDefEqProofs [dr_out_b, hx, hn, hl, hl1, hm, -forD]
theorem dr_fill (s : PyData) (m t : Int) (a4 a5 : Sl) (hm : m < 1000000) : ∀ (ks : List Int) (ds : List Int) (a6 : Sl), (∀ k ∈ ks, 0 ≤ k ∧ k < 1000000) → Dr ds → ∃ ds' a6', Dr ds' ∧ ((m ≤ ds.length + ks.length) → m ≤ ds'.length) ∧
    forD (gNm 6) dr_fill_b (ks.map .int) [.val s, .val (.int m), .own (ds.map .int), .val (.int t), a4, a5, a6] = .ok (.nx [.val s, .val (.int m), .own (ds'.map .int), .val (.int t), a4, a5, a6']) := by
  intro ks
  induction ks with
  | nil => intro ds a6 _ h; exact ⟨ds, a6, h, by simp, by simp⟩
  | cons k ks ih =>
    intro ds a6 hk h
    obtain ⟨k0, k1⟩ := hk k (List.mem_cons_self ..)
    have hk' : ∀ k ∈ ks, 0 ≤ k ∧ k < 1000000 := fun x hx => hk x (List.mem_cons_of_mem _ hx)
    by_cases hn : (ds.length : Int) < m
    · obtain ⟨ds', a6', g, gl, e⟩ := ih (ds ++ [((ds.length : Int) * 69621 + 977 * t + k * k * 31) % 65521]) (.val (.int k)) hk' (h.app (by omega) (by omega))
      refine ⟨ds', a6', g, fun z => gl (by simp only [List.length_append, List.length_singleton, List.length_cons] at z ⊢; omega), ?_⟩
      rw [← e]
      have hl : ds.length < 1000000 := by omega
      have hm : -18446744073709551616 < k ∧ k < 18446744073709551616 := by omega
      simp -dsimp -implicitDefEqProofs [dr_fill_b, hn, hl, hm]
    · obtain ⟨ds', a6', g, gl, e⟩ := ih ds (.val (.int k)) hk' h
      refine ⟨ds', a6', g, fun z => gl (by simp only [List.length_cons] at z; omega), ?_⟩
      rw [← e]
      simp -dsimp -implicitDefEqProofs [dr_fill_b, hn]
theorem intsD_map (n : Nat) : intsD 0 n = ((List.range n).map fun (i : Nat) => (i : Int)).map PyData.int := by
  unfold intsD
  rw [List.map_map]
  congr 1
  funext i
  simp
set_option maxHeartbeats 4000000 in
theorem draws (ns : List Int) (hns : ns.length ≤ 63) (m : Int) (m0 : 0 ≤ m) (m1 : m ≤ 1000) : ∃ ds : List Int, _law_draws_f [.list (ns.map .int), .int m] = .ok (.own (ds.map .int)) ∧ (ds.length : Int) = m ∧ Dr ds := by
  obtain ⟨ds1, t1, b4, b5, b6, g1, gl1, e1⟩ := dr_out (.list (ns.map .int)) (.int m) ns [] 0 .no .no .no (fun d h => by cases h) (by simp only [List.length_nil]; omega)
  obtain ⟨ds2, c6, g2, gl2, e2⟩ := dr_fill (.list (ns.map .int)) m t1 b4 b5 (by omega) ((List.range m.toNat).map fun (i : Nat) => (i : Int)) ds1 b6 (fun k hk => by
    simp only [List.mem_map, List.mem_range] at hk
    obtain ⟨i, hi, rfl⟩ := hk
    omega) g1
  have gl3 : m ≤ ds2.length := gl2 (by simp only [List.length_map, List.length_range]; omega)
  have ht : (ns.map PyData.int).take 63 = ns.map PyData.int := List.take_of_length_le (by rw [List.length_map]; exact hns)
  rw [← intsD_map] at e2
  refine ⟨ds2.take m.toNat, ?_, ?_, fun d hd => g2 d (List.mem_of_mem_take hd)⟩
  · simp -dsimp -implicitDefEqProofs [_law_draws_f, initE, ht, -forD]
    rw [show ([] : List PyData) = ([] : List Int).map PyData.int from rfl, e1]
    have hm : -4611686018427387904 ≤ m ∧ m < 4611686018427387904 := by omega
    simp -dsimp -implicitDefEqProofs [-forD, m0, hm, e2]
  · rw [List.length_take]; omega
end My
namespace My
open PySem PySem.Spec PyProof.Rows L2 DL
theorem bne0 (p : Int) (q : Int) (h : p ≠ q) : (p == q) = false := beq_eq_false_iff_ne.mpr h
def Cm (c : Int) : Prop := c = 1 ∨ c = 2 ∨ c = 3 ∨ (8 ≤ c ∧ c ≤ 96)
def Cms (ms : List Int) : Prop := ∀ c ∈ ms, Cm c
theorem Cms.app {xs ys : List Int} (h : Cms xs) (k : Cms ys) : Cms (xs ++ ys) := fun c hc => (List.mem_append.mp hc).elim (h c) (k c)
theorem Cms.one {c : Int} (h : Cm c) : Cms [c] := fun x hx => by simp at hx; subst hx; exact h
theorem Cms.nil : Cms [] := fun x hx => by cases hx
theorem Cm.lo {c : Int} (h : Cm c) : 1 ≤ c ∧ c ≤ 96 ∧ c ≠ 4 ∧ c ≠ 5 ∧ c ≠ 6 ∧ c ≠ 7 := by
  rcases h with h | h | h | h <;> omega
theorem pick6 (x y e : Int) : ∃ c : Int, atI [PyData.int 1, .int 2, .int 3, .int (8 + x % 16), .int (24 + x % 73), .int (24 + y % 73)] (e % 6) = some (.int c) ∧ Cm c := by
  have : e % 6 = 0 ∨ e % 6 = 1 ∨ e % 6 = 2 ∨ e % 6 = 3 ∨ e % 6 = 4 ∨ e % 6 = 5 := by omega
  unfold Cm
  rcases this with h | h | h | h | h | h <;> rw [h] <;> exact ⟨_, rfl, by omega⟩
theorem has60 (ds : List Int) (h : ds.length = 60) (i : Nat) (hi : i < 60) : ∃ d, ds[i]? = some d := ⟨ds[i], List.getElem?_eq_getElem (by omega)⟩
set_option maxHeartbeats 4000000 in
theorem cm_loop (ds : List Int) (hd : ds.length = 60) (m : Sl) : ∀ (ks : List Int) (acc : List Int) (a3 : Sl), (∀ k ∈ ks, 0 ≤ k ∧ k < 100000) → acc.length + ks.length < 1000000 →
    ∃ cs a3', Cms cs ∧ cs.length = ks.length ∧ forD (gNm 3) cm_b (ks.map .int) [.val (.list (ds.map .int)), m, .own (acc.map .int), a3] = .ok (.nx [.val (.list (ds.map .int)), m, .own ((acc ++ cs).map .int), a3']) := by
  intro ks
  induction ks with
  | nil => intro acc a3 _ _; exact ⟨[], a3, .nil, rfl, by simp⟩
  | cons k ks ih =>
    intro acc a3 hk hz
    rw [List.length_cons] at hz
    obtain ⟨k0, k1⟩ := hk k (List.mem_cons_self ..)
    obtain ⟨x, hx⟩ := has60 ds hd (k % 50).toNat (by omega)
    obtain ⟨y, hy⟩ := has60 ds hd ((k + 1) % 50).toNat (by omega)
    obtain ⟨e, he⟩ := has60 ds hd (k * 7 % 50).toNat (by omega)
    obtain ⟨c, hc, cc⟩ := pick6 x y (e / 3)
    obtain ⟨cs, a3', g, gl, e1⟩ := ih (acc ++ [c]) (.val (.int k)) (fun x hx => hk x (List.mem_cons_of_mem _ hx)) (by rw [List.length_append, List.length_singleton]; omega)
    refine ⟨c :: cs, a3', ?_, by rw [List.length_cons, List.length_cons, gl], ?_⟩
    · exact fun z hz => (List.mem_cons.mp hz).elim (fun q => q ▸ cc) (g z)
    · have e2 : (acc ++ c :: cs).map PyData.int = ((acc ++ [c]) ++ cs).map PyData.int := by simp
      rw [e2, ← e1]
      have p1 : 0 ≤ k % 50 := by omega
      have p2 : 0 ≤ (k + 1) % 50 := by omega
      have p3 : 0 ≤ k * 7 % 50 := by omega
      have hl : acc.length < 1000000 := by omega
      simp -dsimp -implicitDefEqProofs [-Int.emod_add_emod, cm_b, p1, p2, p3, hx, hy, he, hc, hl]
theorem commands (ds : List Int) (hd : ds.length = 60) (m : Int) (m0 : 0 ≤ m) (m1 : m ≤ 400) : ∃ cs, Cms cs ∧ (cs.length : Int) = m ∧ _law_commands_f [.list (ds.map .int), .int m] = .ok (.own (cs.map .int)) := by
  obtain ⟨cs, a3, g, gl, e⟩ := cm_loop ds hd (.val (.int m)) ((List.range m.toNat).map fun (i : Nat) => (i : Int)) [] .no (fun k hk => by
    simp only [List.mem_map, List.mem_range] at hk
    obtain ⟨i, hi, rfl⟩ := hk
    omega) (by simp only [List.length_map, List.length_range, List.length_nil]; omega)
  rw [← intsD_map] at e
  refine ⟨cs, g, by rw [gl]; simp only [List.length_map, List.length_range]; omega, ?_⟩
  have hm : -4611686018427387904 ≤ m ∧ m < 4611686018427387904 := by omega
  simp -dsimp -implicitDefEqProofs [_law_commands_f, initE, hm, -forD]
  rw [show ([] : List PyData) = ([] : List Int).map PyData.int from rfl, e]
  simp -dsimp -implicitDefEqProofs []
/-! what is a tape -/
theorem betw (x : Int) : is_between_f [.int x, .int 1, .int 96] = okB (decide (1 ≤ x) && decide (x ≤ 96)) := by
  by_cases h1 : 1 ≤ x <;> by_cases h2 : x ≤ 96 <;> simp -dsimp -implicitDefEqProofs [is_between_f, is_integer_f, initE, h1, h2]
def Bad (d : PyData) : Prop := is_between_f [d, .int 1, .int 96] = okB false
theorem bad_int (x : Int) (h : x < 1 ∨ 96 < x) : Bad (.int x) := by
  unfold Bad
  rw [betw]
  congr 3
  rcases h with h | h
  · rw [decide_eq_false (by omega)]; rfl
  · rw [decide_eq_false (p := x ≤ 96) (by omega), Bool.and_false]
def In96 (ys : List Int) : Prop := ∀ y ∈ ys, 1 ≤ y ∧ y ≤ 96
theorem lp1_good (v : Sl) : ∀ (ys : List Int) (a : Sl), In96 ys → ∃ a', forD (gNm 1) tp1_b (ys.map .int) [v, a] = .ok (.nx [v, a']) := by
  intro ys
  induction ys with
  | nil => intro a _; exact ⟨a, by simp⟩
  | cons y ys ih =>
    intro a h
    obtain ⟨h1, h2⟩ := h y (List.mem_cons_self ..)
    obtain ⟨a', e⟩ := ih (.val (.int y)) fun z hz => h z (List.mem_cons_of_mem _ hz)
    refine ⟨a', ?_⟩
    rw [← e]
    simp -dsimp -implicitDefEqProofs [tp1_b, betw, h1, h2]
theorem lp1_bad (v : Sl) (d : PyData) (hd : Bad d) (rest : List PyData) : ∀ (ys : List Int) (a : Sl), In96 ys → forD (gNm 1) tp1_b (ys.map .int ++ d :: rest) [v, a] = .ok (.rt (.bool false)) := by
  intro ys
  induction ys with
  | nil =>
    intro a _
    unfold Bad at hd
    simp -dsimp -implicitDefEqProofs [tp1_b, hd]
  | cons y ys ih =>
    intro a h
    obtain ⟨h1, h2⟩ := h y (List.mem_cons_self ..)
    rw [← ih (.val (.int y)) fun z hz => h z (List.mem_cons_of_mem _ hz)]
    simp -dsimp -implicitDefEqProofs [tp1_b, betw, h1, h2]
theorem isCm (c : Int) (h : Cm c) : _is_command_f [.int c] = okB true := by
  rcases h with rfl | rfl | rfl | h
  · rfl
  · rfl
  · rfl
  · simp -dsimp -implicitDefEqProofs [_is_command_f, initE, h.1, bne0 3 c (by omega), bne0 1 c (by omega), bne0 2 c (by omega)]
theorem noCm (c : Int) (h : c = 4 ∨ c = 5 ∨ c = 6 ∨ c = 7) : _is_command_f [.int c] = okB false := by
  rcases h with rfl | rfl | rfl | rfl <;> rfl
theorem lp2_good (v : Sl) : ∀ (ys : List Int) (a : Sl), Cms ys → ∃ a', forD (gNm 1) tp2_b (ys.map .int) [v, a] = .ok (.nx [v, a']) := by
  intro ys
  induction ys with
  | nil => intro a _; exact ⟨a, by simp⟩
  | cons y ys ih =>
    intro a h
    have h1 := isCm y (h y (List.mem_cons_self ..))
    obtain ⟨a', e⟩ := ih (.val (.int y)) fun z hz => h z (List.mem_cons_of_mem _ hz)
    refine ⟨a', ?_⟩
    rw [← e]
    simp -dsimp -implicitDefEqProofs [tp2_b, h1]
theorem lp2_bad (v : Sl) (c : Int) (hc : c = 4 ∨ c = 5 ∨ c = 6 ∨ c = 7) (rest : List Int) : ∀ (ys : List Int) (a : Sl), Cms ys → forD (gNm 1) tp2_b ((ys ++ c :: rest).map .int) [v, a] = .ok (.rt (.bool false)) := by
  intro ys
  induction ys with
  | nil =>
    intro a _
    simp -dsimp -implicitDefEqProofs [tp2_b, noCm c hc]
  | cons y ys ih =>
    intro a h
    have h1 := isCm y (h y (List.mem_cons_self ..))
    rw [← ih (.val (.int y)) fun z hz => h z (List.mem_cons_of_mem _ hz)]
    simp -dsimp -implicitDefEqProofs [tp2_b, h1]
/-! parts -/
theorem sIx_neg (n d : Nat) (i : Int) (h : i < 0) : HT.sIx n d (some i) = (i + (n : Int)).toNat := by
  show (if i < 0 then (i + (n : Int)).toNat else min i.toNat n) = _
  rw [if_pos h]
theorem cut_mid {α : Type} (a y z : α) (m : List α) : cutA (a :: (m ++ [y, z])) (some 1) (some (-2)) = m := by
  unfold cutA
  rw [sIx_nn _ _ 1 (by decide), sIx_neg _ _ (-2) (by decide)]
  have h : min (1 : Int).toNat (a :: (m ++ [y, z])).length = 1 := by simp
  rw [h, List.drop_one, List.tail_cons]
  have h2 : ((-2 : Int) + ((a :: (m ++ [y, z])).length : Int)).toNat - 1 = m.length := by simp only [List.length_cons, List.length_append, List.length_nil]; omega
  rw [h2, List.take_left]
theorem at_m2 {α : Type} (a y z : α) (m : List α) : atI (a :: (m ++ [y, z])) (-2) = some y := by
  rw [atI_neg _ _ (by decide) (by simp only [List.length_cons, List.length_append, List.length_nil]; omega)]
  have h2 : ((-2 : Int) + ((a :: (m ++ [y, z])).length : Int)).toNat = m.length + 1 := by simp only [List.length_cons, List.length_append, List.length_nil]; omega
  rw [h2, List.getElem?_cons_succ, List.getElem?_append_right (Nat.le_refl _), Nat.sub_self]
  rfl
theorem at_m1 {α : Type} (a y z : α) (m : List α) : atI (a :: (m ++ [y, z])) (-1) = some z := by
  rw [atI_neg _ _ (by decide) (by simp only [List.length_cons, List.length_append, List.length_nil]; omega)]
  have h2 : ((-1 : Int) + ((a :: (m ++ [y, z])).length : Int)).toNat = m.length + 1 + 1 := by simp only [List.length_cons, List.length_append, List.length_nil]; omega
  rw [h2, List.getElem?_cons_succ, List.getElem?_append_right (by omega), show m.length + 1 - m.length = 1 by omega]
  rfl
theorem it_len (xs : List PyData) (h : xs.length < 3 ∨ 400 < xs.length) : is_tape_f [.tuple xs] = okB false := by
  by_cases h3 : xs.length < 3
  · have : (xs.length : Int) < 3 := by omega
    simp -dsimp -implicitDefEqProofs [is_tape_f, initE, this]
  · have p : ¬ (xs.length : Int) < 3 := by omega
    have q : 400 < (xs.length : Int) := by omega
    simp -dsimp -implicitDefEqProofs [is_tape_f, initE, p, q]
theorem it_bad (ys : List Int) (d : PyData) (rest : List PyData) (hy : In96 ys) (hd : Bad d) (h3 : 3 ≤ (ys.map PyData.int ++ d :: rest).length) (h4 : (ys.map PyData.int ++ d :: rest).length ≤ 400) : is_tape_f [.tuple (ys.map .int ++ d :: rest)] = okB false := by
  have e := lp1_bad (.val (.tuple (ys.map .int ++ d :: rest))) d hd rest ys .no hy
  have p : ¬ ((ys.map PyData.int ++ d :: rest).length : Int) < 3 := by omega
  have q : ¬ 400 < ((ys.map PyData.int ++ d :: rest).length : Int) := by omega
  generalize ys.map PyData.int ++ d :: rest = xs at e p q
  simp -dsimp -implicitDefEqProofs [is_tape_f, initE, p, q, e, -forD]
abbrev tpl (a : Int) (m : List Int) (y z : Int) : List PyData := .int a :: (m.map .int ++ [.int y, .int z])
theorem tpl_map (a : Int) (m : List Int) (y z : Int) : tpl a m y z = (a :: (m ++ [y, z])).map .int := by simp
theorem tpl_len (a : Int) (m : List Int) (y z : Int) : (tpl a m y z).length = m.length + 3 := by simp
theorem it_mid (a : Int) (m1 : List Int) (x : Int) (m2 : List Int) (y z : Int) (h : In96 (a :: (m1 ++ x :: m2 ++ [y, z]))) (hm : Cms m1) (hx : x = 4 ∨ x = 5 ∨ x = 6 ∨ x = 7) (hl : (m1 ++ x :: m2).length ≤ 397) : is_tape_f [.tuple (tpl a (m1 ++ x :: m2) y z)] = okB false := by
  obtain ⟨a', e⟩ := lp1_good (.val (.tuple (tpl a (m1 ++ x :: m2) y z))) _ .no h
  rw [← tpl_map] at e
  have e2 := lp2_bad (.val (.tuple (tpl a (m1 ++ x :: m2) y z))) x hx m2 m1 a' hm
  have hc : cutA (tpl a (m1 ++ x :: m2) y z) (some 1) (some (-2)) = (m1 ++ x :: m2).map .int := cut_mid _ _ _ _
  have p : ¬ ((tpl a (m1 ++ x :: m2) y z).length : Int) < 3 := by rw [tpl_len]; omega
  have q : ¬ 400 < ((tpl a (m1 ++ x :: m2) y z).length : Int) := by rw [tpl_len]; omega
  generalize tpl a (m1 ++ x :: m2) y z = T at *
  generalize (m1 ++ x :: m2).map PyData.int = M at *
  simp -dsimp -implicitDefEqProofs [is_tape_f, initE, p, q, e, hc, e2, -forD]
theorem it_fin (a : Int) (m : List Int) (y z : Int) (h : In96 (a :: (m ++ [y, z]))) (hm : Cms m) (hl : m.length ≤ 397) : is_tape_f [.tuple (tpl a m y z)] = okB (a == 6 && ((5 == y || 4 == y) && z == 7)) := by
  obtain ⟨a', e⟩ := lp1_good (.val (.tuple (tpl a m y z))) _ .no h
  rw [← tpl_map] at e
  obtain ⟨a'', e2⟩ := lp2_good (.val (.tuple (tpl a m y z))) m a' hm
  have hc : cutA (tpl a m y z) (some 1) (some (-2)) = m.map .int := cut_mid _ _ _ _
  have p : ¬ ((tpl a m y z).length : Int) < 3 := by rw [tpl_len]; omega
  have q : ¬ 400 < ((tpl a m y z).length : Int) := by rw [tpl_len]; omega
  have i0 : (tpl a m y z)[0]? = some (.int a) := rfl
  have i1 : atI (tpl a m y z) (-2) = some (.int y) := at_m2 _ _ _ _
  have i2 : atI (tpl a m y z) (-1) = some (.int z) := at_m1 _ _ _ _
  generalize tpl a m y z = T at *
  cases ha : a == 6 <;> cases hy : (5 == y || 4 == y) <;> simp -dsimp -implicitDefEqProofs [is_tape_f, initE, p, q, e, hc, e2, i0, i1, i2, ha, hy, -forD]
end My
namespace My
open PySem PySem.Spec PyProof.Rows L2 DL
theorem cut_m1 {α : Type} (a y z : α) (m : List α) : cutA (a :: (m ++ [y, z])) none (some (-1)) = a :: (m ++ [y]) := by
  unfold cutA
  rw [HT.sIx_none, sIx_neg _ _ (-1) (by decide), List.drop_zero]
  have h2 : ((-1 : Int) + ((a :: (m ++ [y, z])).length : Int)).toNat - 0 = (a :: (m ++ [y])).length := by simp only [List.length_cons, List.length_append, List.length_nil]; omega
  rw [h2, show a :: (m ++ [y, z]) = (a :: (m ++ [y])) ++ [z] by simp, List.take_left]
theorem cut_m2 {α : Type} (a y z : α) (m : List α) : cutA (a :: (m ++ [y, z])) none (some (-2)) = a :: m := by
  unfold cutA
  rw [HT.sIx_none, sIx_neg _ _ (-2) (by decide), List.drop_zero]
  have h2 : ((-2 : Int) + ((a :: (m ++ [y, z])).length : Int)).toNat - 0 = (a :: m).length := by simp only [List.length_cons, List.length_append, List.length_nil]; omega
  rw [h2, show a :: (m ++ [y, z]) = (a :: m) ++ [y, z] by simp, List.take_left]
theorem cut_l1 {α : Type} (a y z : α) (m : List α) : cutA (a :: (m ++ [y, z])) (some (-1)) none = [z] := by
  unfold cutA
  rw [HT.sIx_none, sIx_neg _ _ (-1) (by decide)]
  have h2 : ((-1 : Int) + ((a :: (m ++ [y, z])).length : Int)).toNat = (a :: (m ++ [y])).length := by simp only [List.length_cons, List.length_append, List.length_nil]; omega
  rw [h2, show a :: (m ++ [y, z]) = (a :: (m ++ [y])) ++ [z] by simp, List.drop_left]
  apply List.take_of_length_le
  simp only [List.length_cons, List.length_append, List.length_nil]; omega
theorem deps_ints (is : List Int) (n : Nat) : deps (n + 1) (is.map PyData.int) = true := by
  induction is with
  | nil => simp
  | cons i is ih => simpa using ih
theorem any_none (cs : List Int) (v : Int) (h : ∀ c ∈ cs, c ≠ v) : (cs.map PyData.int).any (fun z => PyData.eqv z (.int v)) = false := by
  induction cs with
  | nil => rfl
  | cons c cs ih =>
    rw [List.map_cons, List.any_cons, ih fun x hx => h x (List.mem_cons_of_mem _ hx), eqv_ii, bne0 c v (h c (List.mem_cons_self ..))]
    rfl
theorem copies_ok (cs : List Int) (hc : Cms cs) (l : Int) : copies_f [.tuple (tpl 6 cs l 7)] = okB (l == 4) := by
  have h1 := any_none cs 4 fun c h => (hc c h).lo.2.2.1
  have h2 := deps_ints (6 :: (cs ++ [l, 7])) 62
  rw [← tpl_map] at h2
  have h3 : (tpl 6 cs l 7).any (fun z => PyData.eqv z (.int 4)) = (l == 4) := by
    show ((PyData.int 6) :: (cs.map .int ++ [.int l, .int 7])).any _ = _
    rw [List.any_cons, List.any_append, h1]
    simp
  generalize tpl 6 cs l 7 = T at h2 h3
  simp -dsimp -implicitDefEqProofs [copies_f, initE, h2, h3]
theorem in96 (a : Int) (cs : List Int) (y z : Int) (ha : 1 ≤ a ∧ a ≤ 96) (hc : ∀ c ∈ cs, 1 ≤ c ∧ c ≤ 96) (hy : 1 ≤ y ∧ y ≤ 96) (hz : 1 ≤ z ∧ z ≤ 96) : In96 (a :: (cs ++ [y, z])) := by
  intro x hx
  simp only [List.mem_cons, List.mem_append, List.not_mem_nil, or_false] at hx
  rcases hx with rfl | hx | rfl | rfl
  · exact ha
  · exact hc x hx
  · exact hy
  · exact hz
theorem Cms.in96 {cs : List Int} (h : Cms cs) : ∀ c ∈ cs, 1 ≤ c ∧ c ≤ 96 := fun c hc => ⟨(h c hc).lo.1, (h c hc).lo.2.1⟩
def Spo (T : List PyData) (k d : Int) : Prop := ∃ v, _law_spoilt_f [.tuple T, .int k, .int d] = .ok (.val v) ∧ is_tape_f [v] = okB false
section
variable (cs : List Int) (hc : Cms cs) (hm : cs.length ≤ 397) (l : Int) (hl : l = 4 ∨ l = 5) (d : Int)
include hc hm hl
theorem sp0 : Spo (tpl 6 cs l 7) 0 d := ⟨.list (tpl 6 cs l 7), by simp -dsimp -implicitDefEqProofs [_law_spoilt_f, initE], by simp -dsimp -implicitDefEqProofs [is_tape_f, initE]⟩
theorem sp1 : Spo (tpl 6 cs l 7) 1 d := by
  refine ⟨.tuple (cs.map .int ++ [.int l, .int 7]), by simp -dsimp -implicitDefEqProofs [_law_spoilt_f, initE], ?_⟩
  cases cs with
  | nil => exact it_len _ (.inl (by simp))
  | cons c cs =>
    have h1 := (hc c (List.mem_cons_self ..)).lo
    have hc' : Cms cs := fun x hx => hc x (List.mem_cons_of_mem _ hx)
    rw [List.length_cons] at hm
    have := it_fin c cs l 7 (in96 _ _ _ _ (by omega) hc'.in96 (by omega) (by omega)) hc' (by omega)
    rw [bne0 c 6 (by omega), Bool.false_and] at this
    exact this
theorem sp2 : Spo (tpl 6 cs l 7) 2 d := by
  have h := cut_m1 (PyData.int 6) (.int l) (.int 7) (cs.map .int)
  refine ⟨.tuple (.int 6 :: (cs.map .int ++ [.int l])), by simp -dsimp -implicitDefEqProofs [_law_spoilt_f, initE, h], ?_⟩
  rcases List.eq_nil_or_concat cs with rfl | ⟨cs', c, rfl⟩
  · exact it_len _ (.inl (by simp))
  · rw [List.concat_eq_append] at *
    have h1 := (hc c (by simp)).lo
    have hc' : Cms cs' := fun x hx => hc x (by simp [hx])
    rw [List.length_append, List.length_singleton] at hm
    have := it_fin 6 cs' c l (in96 _ _ _ _ (by omega) hc'.in96 (by omega) (by omega)) hc' (by omega)
    rw [bne0 5 c (by omega), bne0 4 c (by omega)] at this
    simpa using this
theorem sp3 : Spo (tpl 6 cs l 7) 3 d := by
  have h := cut_m2 (PyData.int 6) (.int l) (.int 7) (cs.map .int)
  have h' := cut_l1 (PyData.int 6) (.int l) (.int 7) (cs.map .int)
  have hz : cs.length + 1 + 1 ≤ 1000000 := by omega
  refine ⟨.tuple (.int 6 :: (cs.map .int ++ [.int 7])), by simp -dsimp -implicitDefEqProofs [_law_spoilt_f, initE, h, h', hz], ?_⟩
  rcases List.eq_nil_or_concat cs with rfl | ⟨cs', c, rfl⟩
  · exact it_len _ (.inl (by simp))
  · rw [List.concat_eq_append] at *
    have h1 := (hc c (by simp)).lo
    have hc' : Cms cs' := fun x hx => hc x (by simp [hx])
    rw [List.length_append, List.length_singleton] at hm
    have := it_fin 6 cs' c 7 (in96 _ _ _ _ (by omega) hc'.in96 (by omega) (by omega)) hc' (by omega)
    rw [bne0 5 c (by omega), bne0 4 c (by omega)] at this
    simpa using this
theorem pick4 : ∃ x : Int, atI [PyData.int 1, .int 3, .int 8, .int 24] (d % 4) = some (.int x) ∧ Cm x := by
  have : d % 4 = 0 ∨ d % 4 = 1 ∨ d % 4 = 2 ∨ d % 4 = 3 := by omega
  unfold Cm
  rcases this with h | h | h | h <;> rw [h] <;> exact ⟨_, rfl, by omega⟩
theorem pickB : ∃ x : Int, atI [PyData.int 6, .int 7, .int 5, .int 4] (d % 4) = some (.int x) ∧ (x = 4 ∨ x = 5 ∨ x = 6 ∨ x = 7) := by
  have : d % 4 = 0 ∨ d % 4 = 1 ∨ d % 4 = 2 ∨ d % 4 = 3 := by omega
  rcases this with h | h | h | h <;> rw [h] <;> exact ⟨_, rfl, by omega⟩
theorem pick8 : ∃ x : PyData, atI [PyData.int 0, .int 97, .int (-1), .bool true, .str "6", .int 200, .none, .int 100000000000000000000] (d % 8) = some x ∧ Bad x := by
  have : d % 8 = 0 ∨ d % 8 = 1 ∨ d % 8 = 2 ∨ d % 8 = 3 ∨ d % 8 = 4 ∨ d % 8 = 5 ∨ d % 8 = 6 ∨ d % 8 = 7 := by omega
  rcases this with h | h | h | h | h | h | h | h <;> rw [h]
  · exact ⟨_, rfl, bad_int _ (by omega)⟩
  · exact ⟨_, rfl, bad_int _ (by omega)⟩
  · exact ⟨_, rfl, bad_int _ (by omega)⟩
  · exact ⟨_, rfl, rfl⟩
  · exact ⟨_, rfl, rfl⟩
  · exact ⟨_, rfl, bad_int _ (by omega)⟩
  · exact ⟨_, rfl, rfl⟩
  · exact ⟨_, rfl, bad_int _ (by omega)⟩
theorem sp4 : Spo (tpl 6 cs l 7) 4 d := by
  have h := cut_m2 (PyData.int 6) (.int l) (.int 7) (cs.map .int)
  have h' := cut_l1 (PyData.int 6) (.int l) (.int 7) (cs.map .int)
  have hz : cs.length + 1 + 1 ≤ 1000000 := by omega
  have hz2 : cs.length + 1 + 1 + 1 ≤ 1000000 := by omega
  obtain ⟨x, hx, cx⟩ := pick4 cs hc hm l hl d
  refine ⟨.tuple (tpl 6 cs x 7), by simp -dsimp -implicitDefEqProofs [_law_spoilt_f, initE, h, h', hz, hz2, hx], ?_⟩
  have h1 := cx.lo
  have := it_fin 6 cs x 7 (in96 _ _ _ _ (by omega) hc.in96 (by omega) (by omega)) hc (by omega)
  rw [bne0 5 x (by omega), bne0 4 x (by omega)] at this
  simpa using this
theorem sp5 : Spo (tpl 6 cs l 7) 5 d := by
  obtain ⟨x, hx, cx⟩ := pickB cs hc hm l hl d
  have hT := tpl_len 6 cs l 7
  have hp : 0 < ((tpl 6 cs l 7).length : Int) - 2 := by rw [hT]; omega
  obtain ⟨j, hj⟩ : ∃ j, d / 4 % (((tpl 6 cs l 7).length : Int) - 2) = j := ⟨_, rfl⟩
  have j0 : 0 ≤ j := by rw [← hj]; exact Int.emod_nonneg _ (by omega)
  have j1 : j < ((tpl 6 cs l 7).length : Int) - 2 := by rw [← hj]; exact Int.emod_lt_of_pos _ hp
  have jj : 0 ≤ 1 + j := by omega
  have jm : j.toNat ≤ cs.length := by rw [hT] at j1; omega
  have eT : (1 + j).toNat = j.toNat + 1 := by omega
  have hA : (tpl 6 cs l 7).take (1 + j).toNat = PyData.int 6 :: (cs.take j.toNat).map .int := by
    rw [eT]
    show PyData.int 6 :: (cs.map PyData.int ++ [PyData.int l, .int 7]).take j.toNat = _
    rw [List.take_append_of_le_length (by rw [List.length_map]; exact jm), List.map_take]
  have hB : (tpl 6 cs l 7).drop (1 + j).toNat = (cs.drop j.toNat).map .int ++ [.int l, .int 7] := by
    rw [eT]
    show (cs.map PyData.int ++ [PyData.int l, .int 7]).drop j.toNat = _
    rw [List.drop_append_of_le_length (by rw [List.length_map]; exact jm), List.map_drop]
  have lA : ((PyData.int 6 :: (cs.take j.toNat).map .int).length) ≤ 400 := by simp only [List.length_cons, List.length_map, List.length_take]; omega
  have lB : (((cs.drop j.toNat).map PyData.int ++ [PyData.int l, .int 7]).length) ≤ 400 := by simp only [List.length_append, List.length_cons, List.length_map, List.length_drop, List.length_nil]; omega
  refine ⟨.tuple (tpl 6 (cs.take j.toNat ++ x :: cs.drop j.toNat) l 7), ?_, ?_⟩
  · have e : tpl 6 (cs.take j.toNat ++ x :: cs.drop j.toNat) l 7 = (.int 6 :: (cs.take j.toNat).map .int) ++ ([.int x] ++ ((cs.drop j.toNat).map .int ++ [.int l, .int 7])) := by simp
    rw [e]
    generalize (PyData.int 6 :: (cs.take j.toNat).map .int) = A at *
    generalize ((cs.drop j.toNat).map PyData.int ++ [PyData.int l, .int 7]) = B at *
    generalize tpl 6 cs l 7 = T at *
    have g1 : A.length + 1 ≤ 1000000 := by omega
    have g2 : A.length + 1 + B.length ≤ 1000000 := by omega
    have hp2 : 2 < (T.length : Int) := by omega
    simp -dsimp -implicitDefEqProofs [_law_spoilt_f, initE, hp, hp2, hj, jj, hx, hA, hB, g1, g2]
  · by_cases h4 : cs.length ≤ 396
    · refine it_mid 6 _ x _ l 7 (in96 _ _ _ _ (by omega) (fun c h => ?_) (by omega) (by omega)) (fun c h => hc c (List.mem_of_mem_take h)) cx (by simp only [List.length_append, List.length_cons, List.length_take, List.length_drop]; omega)
      rcases List.mem_append.mp h with h | h
      · exact hc.in96 c (List.mem_of_mem_take h)
      · rcases List.mem_cons.mp h with rfl | h
        · omega
        · exact hc.in96 c (List.mem_of_mem_drop h)
    · exact it_len _ (.inr (by rw [tpl_len]; simp only [List.length_append, List.length_cons, List.length_take, List.length_drop]; omega))
theorem sp6 : Spo (tpl 6 cs l 7) 6 d := by
  obtain ⟨x, hx, cx⟩ := pick8 cs hc hm l hl d
  have hT := tpl_len 6 cs l 7
  have hp : 0 < ((tpl 6 cs l 7).length : Int) := by rw [hT]; omega
  obtain ⟨j, hj⟩ : ∃ j, d / 8 % ((tpl 6 cs l 7).length : Int) = j := ⟨_, rfl⟩
  have j0 : 0 ≤ j := by rw [← hj]; exact Int.emod_nonneg _ (by omega)
  have j1 : j < ((tpl 6 cs l 7).length : Int) := by rw [← hj]; exact Int.emod_lt_of_pos _ hp
  have jj : 0 ≤ j + 1 := by omega
  have hi : In96 (6 :: (cs ++ [l, 7])) := in96 _ _ _ _ (by omega) hc.in96 (by omega) (by omega)
  have hA : (tpl 6 cs l 7).take j.toNat = ((6 :: (cs ++ [l, 7])).take j.toNat).map .int := by rw [tpl_map, List.map_take]
  have lA : ((tpl 6 cs l 7).take j.toNat).length = j.toNat := by rw [List.length_take]; omega
  have lB : ((tpl 6 cs l 7).drop (j + 1).toNat).length + (j + 1).toNat = (tpl 6 cs l 7).length := by rw [List.length_drop]; omega
  refine ⟨.tuple ((tpl 6 cs l 7).take j.toNat ++ x :: (tpl 6 cs l 7).drop (j + 1).toNat), ?_, ?_⟩
  · obtain ⟨A, eA⟩ : ∃ A, (tpl 6 cs l 7).take j.toNat = A := ⟨_, rfl⟩
    obtain ⟨B, eB⟩ : ∃ B, (tpl 6 cs l 7).drop (j + 1).toNat = B := ⟨_, rfl⟩
    rw [eA] at lA
    rw [eB] at lB
    rw [eA, eB]
    have g1 : A.length + 1 ≤ 1000000 := by omega
    have g2 : A.length + 1 + B.length ≤ 1000000 := by omega
    generalize tpl 6 cs l 7 = T at *
    simp -dsimp -implicitDefEqProofs [_law_spoilt_f, initE, hp, (show 0 < T.length by omega), hj, j0, jj, hx, eA, eB, g1, g2]
  · have hl2 : ((tpl 6 cs l 7).take j.toNat ++ x :: (tpl 6 cs l 7).drop (j + 1).toNat).length = cs.length + 3 := by rw [List.length_append, List.length_cons]; omega
    rw [hA] at hl2 ⊢
    exact it_bad _ _ _ (fun y hy => hi y (List.mem_of_mem_take hy)) cx (by omega) (by omega)
theorem sp7 (h6 : cs.length ≤ 396) : Spo (tpl 6 cs l 7) 7 d := by
  have hT := tpl_len 6 cs l 7
  have k1 : -9223372036854775808 ≤ 401 - ((tpl 6 cs l 7).length : Int) ∧ 401 - ((tpl 6 cs l 7).length : Int) < 9223372036854775808 ∧ (401 - ((tpl 6 cs l 7).length : Int)).toNat ≤ 1000000 := by omega
  have lr : ∀ n, (repA n [PyData.int 3]).length = n := by
    intro n
    unfold repA
    induction n with
    | zero => rfl
    | succ n ih => rw [List.replicate_succ, List.flatten_cons, List.length_append, ih]; simp only [List.length_cons, List.length_nil]; omega
  have lr1 := lr (401 - ((tpl 6 cs l 7).length : Int)).toNat
  have lD : ((tpl 6 cs l 7).drop 1).length = cs.length + 2 := by rw [List.length_drop]; omega
  have lT : ((tpl 6 cs l 7).take 1).length = 1 := by rw [List.length_take]; omega
  refine ⟨.tuple ((tpl 6 cs l 7).take 1 ++ (repA (401 - ((tpl 6 cs l 7).length : Int)).toNat [.int 3] ++ (tpl 6 cs l 7).drop 1)), ?_, ?_⟩
  · obtain ⟨A, eA⟩ : ∃ A, (tpl 6 cs l 7).take 1 = A := ⟨_, rfl⟩
    obtain ⟨B, eB⟩ : ∃ B, (tpl 6 cs l 7).drop 1 = B := ⟨_, rfl⟩
    obtain ⟨M, eM⟩ : ∃ M, repA (401 - ((tpl 6 cs l 7).length : Int)).toNat [PyData.int 3] = M := ⟨_, rfl⟩
    rw [eA] at lT
    rw [eB] at lD
    rw [eM] at lr1
    rw [eA, eB, eM]
    have g1 : A.length + M.length ≤ 1000000 := by omega
    have g2 : A.length + M.length + B.length ≤ 1000000 := by omega
    generalize tpl 6 cs l 7 = T at *
    have d1 : T.drop 1 = T.tail := List.drop_one ..
    rw [d1] at eB
    have k2 : 401 ≤ 1000000 + T.length := by omega
    rw [show (401 - (T.length : Int)).toNat = 401 - T.length by omega] at eM
    simp -dsimp -implicitDefEqProofs [_law_spoilt_f, initE, k1, k2, eA, eB, eM, g1, g2]
  · exact it_len _ (.inr (by rw [List.length_append, List.length_append, lT, lr1, lD]; omega))
theorem sp8 : Spo (tpl 6 cs l 7) 8 d := by
  have : d % 8 = 0 ∨ d % 8 = 1 ∨ d % 8 = 2 ∨ d % 8 = 3 ∨ d % 8 = 4 ∨ d % 8 = 5 ∨ d % 8 = 6 ∨ d % 8 = 7 := by omega
  rcases this with h | h | h | h | h | h | h | h
  · exact ⟨.tuple [], by simp -dsimp -implicitDefEqProofs [_law_spoilt_f, initE, h], rfl⟩
  · exact ⟨.tuple [.int 6], by simp -dsimp -implicitDefEqProofs [_law_spoilt_f, initE, h], rfl⟩
  · exact ⟨.tuple [.int 6, .int 7], by simp -dsimp -implicitDefEqProofs [_law_spoilt_f, initE, h], rfl⟩
  · exact ⟨.tuple [.int 6, .int 5], by simp -dsimp -implicitDefEqProofs [_law_spoilt_f, initE, h], rfl⟩
  · exact ⟨.tuple [.int 5, .int 7], by simp -dsimp -implicitDefEqProofs [_law_spoilt_f, initE, h], rfl⟩
  · exact ⟨.str "start stop end", by simp -dsimp -implicitDefEqProofs [_law_spoilt_f, initE, h], rfl⟩
  · exact ⟨.none, by simp -dsimp -implicitDefEqProofs [_law_spoilt_f, initE, h], rfl⟩
  · exact ⟨.int 5, by simp -dsimp -implicitDefEqProofs [_law_spoilt_f, initE, h], rfl⟩
end
end My
namespace My
open PySem PySem.Spec PyProof.Rows L2 DL
theorem is_tt : _law_is_f [.bool true, .bool true] = okB true := rfl
theorem is_ff : _law_is_f [.bool false, .bool false] = okB true := rfl
set_option maxHeartbeats 4000000 in
theorem tail_ok (s : Sl) (ds : List Int) (d3 d4 : Int) (h3 : ds[53]? = some d3) (h4 : ds[54]? = some d4) (cs : List Int) (hc : Cms cs) (m : Int) (hm : (cs.length : Int) = m) (m1 : m ≤ 397) (l : Int) (hl : l = 4 ∨ l = 5) :
    law_t [s, .val (.list (ds.map .int)), .val (.int m), .val (.int l), .val (.tuple (tpl 6 cs l 7)), .no] = .ok (.rt (.bool true)) := by
  have hcl : cs.length ≤ 397 := by omega
  have hk : d3 % 9 = 0 ∨ d3 % 9 = 1 ∨ d3 % 9 = 2 ∨ d3 % 9 = 3 ∨ d3 % 9 = 4 ∨ d3 % 9 = 5 ∨ d3 % 9 = 6 ∨ d3 % 9 = 7 ∨ d3 % 9 = 8 := by omega
  rcases hk with k | k | k | k | k | k | k | k | k
  · obtain ⟨v, e1, e2⟩ := sp0 cs hc hcl l hl d4
    generalize tpl 6 cs l 7 = T at *
    simp -dsimp -implicitDefEqProofs [law_t, h3, h4, k, e1, e2, is_ff]
  · obtain ⟨v, e1, e2⟩ := sp1 cs hc hcl l hl d4
    generalize tpl 6 cs l 7 = T at *
    simp -dsimp -implicitDefEqProofs [law_t, h3, h4, k, e1, e2, is_ff]
  · obtain ⟨v, e1, e2⟩ := sp2 cs hc hcl l hl d4
    generalize tpl 6 cs l 7 = T at *
    simp -dsimp -implicitDefEqProofs [law_t, h3, h4, k, e1, e2, is_ff]
  · obtain ⟨v, e1, e2⟩ := sp3 cs hc hcl l hl d4
    by_cases hm0 : 0 < m
    · have : ∃ c, atI (tpl 6 cs l 7) (-3) = some (.int c) ∧ c ≠ 4 := by
        rcases List.eq_nil_or_concat cs with rfl | ⟨cs', c, rfl⟩
        · simp at hm; omega
        · rw [List.concat_eq_append] at *
          refine ⟨c, ?_, (hc c (by simp)).lo.2.2.1⟩
          rw [atI_neg _ _ (by decide) (by rw [tpl_len]; omega)]
          have h2 : ((-3 : Int) + ((tpl 6 (cs' ++ [c]) l 7).length : Int)).toNat = cs'.length + 1 := by rw [tpl_len]; simp only [List.length_append, List.length_singleton]; omega
          rw [h2]
          show (PyData.int 6 :: ((cs' ++ [c]).map PyData.int ++ [PyData.int l, PyData.int 7]))[cs'.length + 1]? = _
          rw [List.getElem?_cons_succ, List.map_append, List.append_assoc, List.getElem?_append_right (by rw [List.length_map]; exact Nat.le_refl _), List.length_map, Nat.sub_self]
          rfl
      obtain ⟨c, e3, c4⟩ := this
      generalize tpl 6 cs l 7 = T at *
      simp -dsimp -implicitDefEqProofs [law_t, h3, h4, k, e1, e2, e3, bne0 c 4 c4, hm0, is_ff]
    · generalize tpl 6 cs l 7 = T at *
      simp -dsimp -implicitDefEqProofs [law_t, h3, h4, k, e1, e2, hm0, is_ff]
  · obtain ⟨v, e1, e2⟩ := sp4 cs hc hcl l hl d4
    generalize tpl 6 cs l 7 = T at *
    simp -dsimp -implicitDefEqProofs [law_t, h3, h4, k, e1, e2, is_ff]
  · obtain ⟨v, e1, e2⟩ := sp5 cs hc hcl l hl d4
    generalize tpl 6 cs l 7 = T at *
    simp -dsimp -implicitDefEqProofs [law_t, h3, h4, k, e1, e2, is_ff]
  · obtain ⟨v, e1, e2⟩ := sp6 cs hc hcl l hl d4
    generalize tpl 6 cs l 7 = T at *
    simp -dsimp -implicitDefEqProofs [law_t, h3, h4, k, e1, e2, is_ff]
  · by_cases h6 : m ≤ 396
    · have h6' : ¬ 396 < m := by omega
      obtain ⟨v, e1, e2⟩ := sp7 cs hc hcl l hl d4 (by omega)
      generalize tpl 6 cs l 7 = T at *
      simp -dsimp -implicitDefEqProofs [law_t, h3, h4, k, e1, e2, h6', is_ff]
    · have h6' : 396 < m := by omega
      have hT := tpl_len 6 cs l 7
      obtain ⟨A, eA⟩ : ∃ A, (tpl 6 cs l 7).take 1 = A := ⟨_, rfl⟩
      obtain ⟨B, eB⟩ : ∃ B, (tpl 6 cs l 7).tail = B := ⟨_, rfl⟩
      have lA : A.length = 1 := by rw [← eA, List.length_take]; omega
      have lB : B.length = cs.length + 2 := by rw [← eB, List.length_tail]; omega
      have e2 := it_len (A ++ ([PyData.int 3, .int 3, .int 3] ++ B)) (.inr (by rw [List.length_append, List.length_append, lA, lB]; simp only [List.length_cons, List.length_nil]; omega))
      have g1 : A.length + 3 ≤ 1000000 := by omega
      have g2 : A.length + 3 + B.length ≤ 1000000 := by omega
      have g3 : A.length + (B.length + 3) ≤ 1000000 := by omega
      have g4 : A.length + (B.length + 1 + 1 + 1) ≤ 1000000 := by omega
      generalize tpl 6 cs l 7 = T at *
      simp -dsimp -implicitDefEqProofs at e2
      simp -dsimp -implicitDefEqProofs [law_t, h3, h4, k, e2, h6', eA, eB, g1, g2, g3, g4, is_ff]
  · obtain ⟨v, e1, e2⟩ := sp8 cs hc hcl l hl d4
    generalize tpl 6 cs l 7 = T at *
    simp -dsimp -implicitDefEqProofs [law_t, h3, h4, k, e1, e2, is_ff]
theorem pick2 (d : Int) : ∃ l : Int, atI [PyData.int 5, .int 4] (d % 2) = some (.int l) ∧ (l = 4 ∨ l = 5) := by
  have : d % 2 = 0 ∨ d % 2 = 1 := by omega
  rcases this with h | h <;> rw [h] <;> exact ⟨_, rfl, by omega⟩
set_option maxHeartbeats 4000000 in
theorem law_true (ns : List Int) (h : ns.length ≤ 63) : law_f [.list (ns.map .int)] = .ok (.val (.bool true)) := by
  obtain ⟨ds, hd, hl, -⟩ := draws ns h 60 (by decide) (by decide)
  have hl6 : ds.length = 60 := by omega
  obtain ⟨d0, h0⟩ := has60 ds hl6 50 (by decide)
  obtain ⟨d1, h1⟩ := has60 ds hl6 51 (by decide)
  obtain ⟨d2, h2⟩ := has60 ds hl6 52 (by decide)
  obtain ⟨d3, h3⟩ := has60 ds hl6 53 (by decide)
  obtain ⟨d4, h4⟩ := has60 ds hl6 54 (by decide)
  obtain ⟨l, hL, l45⟩ := pick2 d2
  have fin : ∀ m : Int, 0 ≤ m → m ≤ 397 → ∃ cs : List Int, _law_commands_f [.list (ds.map .int), .int m] = .ok (.own (cs.map .int)) ∧ 1 + cs.length ≤ 1000000 ∧ cs.length + 1 + 2 ≤ 1000000 ∧ cs.length + 2 + 1 ≤ 1000000 ∧
      is_tape_f [.tuple (tpl 6 cs l 7)] = okB true ∧ copies_f [.tuple (tpl 6 cs l 7)] = okB (l == 4) ∧ law_t [.val (.list (ns.map .int)), .val (.list (ds.map .int)), .val (.int m), .val (.int l), .val (.tuple (tpl 6 cs l 7)), .no] = .ok (.rt (.bool true)) := by
    intro m m0 m1
    obtain ⟨cs, hc, hm, e⟩ := commands ds hl6 m m0 (by omega)
    refine ⟨cs, e, by omega, by omega, by omega, ?_, copies_ok cs hc l, tail_ok _ ds d3 d4 h3 h4 cs hc m hm m1 l l45⟩
    have := it_fin 6 cs l 7 (in96 _ _ _ _ (by omega) hc.in96 (by omega) (by omega)) hc (by omega)
    rw [this]
    rcases l45 with rfl | rfl <;> rfl
  by_cases z : d1 % 8 = 0
  · obtain ⟨cs, e1, g1, g2, g3, e2, e3, e4⟩ := fin (396 + d0 % 2) (by omega) (by omega)
    rcases l45 with rfl | rfl
    · simp -dsimp -implicitDefEqProofs [law_f, initE, hd, h0, h1, h2, z, hL, e1, g1, g2, g3, e2, e3, e4, is_tt, is_ff]
    · simp -dsimp -implicitDefEqProofs [law_f, initE, hd, h0, h1, h2, z, hL, e1, g1, g2, g3, e2, e3, e4, is_tt, is_ff]
  · obtain ⟨cs, e1, g1, g2, g3, e2, e3, e4⟩ := fin (d0 % 58) (by omega) (by omega)
    rcases l45 with rfl | rfl
    · simp -dsimp -implicitDefEqProofs [law_f, initE, hd, h0, h1, h2, bne0 _ _ z, hL, e1, g1, g2, g3, e2, e3, e4, is_tt, is_ff]
    · simp -dsimp -implicitDefEqProofs [law_f, initE, hd, h0, h1, h2, bne0 _ _ z, hL, e1, g1, g2, g3, e2, e3, e4, is_tt, is_ff]
end My
namespace My
open PySem PySem.Spec PyProof.Rows L2 DL
theorem all_mk {P : Program} {w : World} {K : PySem.W.Frag} {h : Heap} {mg : Str → Option Value} {cls : Str → Value} (X : K.In h) (G : h.Ns mainGlobals mg) {f0 : Addr} {od0 an0 : Option Addr} {sl0 : Array (Option Value)} {oc0 kV0 dc0 pm0 cd0 ct0 : Value} {f1 : Addr} {od1 an1 : Option Addr} {sl1 : Array (Option Value)} {oc1 kV1 dc1 pm1 cd1 ct1 : Value} {f2 : Addr} {od2 an2 : Option Addr} {sl2 : Array (Option Value)} {oc2 kV2 dc2 pm2 cd2 ct2 : Value} {f3 : Addr} {od3 an3 : Option Addr} {sl3 : Array (Option Value)} {oc3 kV3 dc3 pm3 cd3 ct3 : Value} {f4 : Addr} {od4 an4 : Option Addr} {sl4 : Array (Option Value)} {oc4 kV4 dc4 pm4 cd4 ct4 : Value} {f5 : Addr} {od5 an5 : Option Addr} {sl5 : Array (Option Value)} {oc5 kV5 dc5 pm5 cd5 ct5 : Value} {f6 : Addr} {od6 an6 : Option Addr} {sl6 : Array (Option Value)} {oc6 kV6 dc6 pm6 cd6 ct6 : Value} {f7 : Addr} {od7 an7 : Option Addr} {sl7 : Array (Option Value)} {oc7 kV7 dc7 pm7 cd7 ct7 : Value} {f8 : Addr} {od8 an8 : Option Addr} {sl8 : Array (Option Value)} {oc8 kV8 dc8 pm8 cd8 ct8 : Value} {f9 : Addr} {od9 an9 : Option Addr} {sl9 : Array (Option Value)} {oc9 kV9 dc9 pm9 cd9 ct9 : Value} {t_DIGIT : Tok} {t_END : Tok} {t_FORTH : Tok} {t_LEFT : Tok} {t_MOST_SYMBOLS : Tok} {t_MOST_WRITTEN : Tok} {t_PORT : Tok} {t_REACH : Tok} {t_RIGHT : Tok} {t_START : Tok} {t_STOP : Tok} {t_WRITE : Tok}
    (a0 : PySem.W.nsIn K mainGlobals "_law_draws" = some (some (.ref f0))) (l0 : K.lookup f0 = some ⟨oc0, od0, .func (PySem.W.fnOf "_law_draws" "_law_draws" (defArgs s__law_draws) (defBody s__law_draws) (defScope s__law_draws) .none kV0 dc0 pm0 an0 cd0 ct0), sl0⟩) (c0 : PySem.W.codeIn K cd0 "_law_draws" = true) (k0 : PySem.W.keepIn K (.ref f0) = true)
    (a1 : PySem.W.nsIn K mainGlobals "_law_is" = some (some (.ref f1))) (l1 : K.lookup f1 = some ⟨oc1, od1, .func (PySem.W.fnOf "_law_is" "_law_is" (defArgs s__law_is) (defBody s__law_is) (defScope s__law_is) .none kV1 dc1 pm1 an1 cd1 ct1), sl1⟩) (c1 : PySem.W.codeIn K cd1 "_law_is" = true) (k1 : PySem.W.keepIn K (.ref f1) = true)
    (a2 : PySem.W.nsIn K mainGlobals "is_integer" = some (some (.ref f2))) (l2 : K.lookup f2 = some ⟨oc2, od2, .func (PySem.W.fnOf "is_integer" "is_integer" (defArgs s_is_integer) (defBody s_is_integer) (defScope s_is_integer) .none kV2 dc2 pm2 an2 cd2 ct2), sl2⟩) (c2 : PySem.W.codeIn K cd2 "is_integer" = true) (k2 : PySem.W.keepIn K (.ref f2) = true)
    (a3 : PySem.W.nsIn K mainGlobals "is_between" = some (some (.ref f3))) (l3 : K.lookup f3 = some ⟨oc3, od3, .func (PySem.W.fnOf "is_between" "is_between" (defArgs s_is_between) (defBody s_is_between) (defScope s_is_between) .none kV3 dc3 pm3 an3 cd3 ct3), sl3⟩) (c3 : PySem.W.codeIn K cd3 "is_between" = true) (k3 : PySem.W.keepIn K (.ref f3) = true)
    (a4 : PySem.W.nsIn K mainGlobals "_is_command" = some (some (.ref f4))) (l4 : K.lookup f4 = some ⟨oc4, od4, .func (PySem.W.fnOf "_is_command" "_is_command" (defArgs s__is_command) (defBody s__is_command) (defScope s__is_command) .none kV4 dc4 pm4 an4 cd4 ct4), sl4⟩) (c4 : PySem.W.codeIn K cd4 "_is_command" = true) (k4 : PySem.W.keepIn K (.ref f4) = true)
    (a5 : PySem.W.nsIn K mainGlobals "is_tape" = some (some (.ref f5))) (l5 : K.lookup f5 = some ⟨oc5, od5, .func (PySem.W.fnOf "is_tape" "is_tape" (defArgs s_is_tape) (defBody s_is_tape) (defScope s_is_tape) .none kV5 dc5 pm5 an5 cd5 ct5), sl5⟩) (c5 : PySem.W.codeIn K cd5 "is_tape" = true) (k5 : PySem.W.keepIn K (.ref f5) = true)
    (a6 : PySem.W.nsIn K mainGlobals "_law_commands" = some (some (.ref f6))) (l6 : K.lookup f6 = some ⟨oc6, od6, .func (PySem.W.fnOf "_law_commands" "_law_commands" (defArgs s__law_commands) (defBody s__law_commands) (defScope s__law_commands) .none kV6 dc6 pm6 an6 cd6 ct6), sl6⟩) (c6 : PySem.W.codeIn K cd6 "_law_commands" = true) (k6 : PySem.W.keepIn K (.ref f6) = true)
    (a7 : PySem.W.nsIn K mainGlobals "copies" = some (some (.ref f7))) (l7 : K.lookup f7 = some ⟨oc7, od7, .func (PySem.W.fnOf "copies" "copies" (defArgs s_copies) (defBody s_copies) (defScope s_copies) .none kV7 dc7 pm7 an7 cd7 ct7), sl7⟩) (c7 : PySem.W.codeIn K cd7 "copies" = true) (k7 : PySem.W.keepIn K (.ref f7) = true)
    (a8 : PySem.W.nsIn K mainGlobals "_law_spoilt" = some (some (.ref f8))) (l8 : K.lookup f8 = some ⟨oc8, od8, .func (PySem.W.fnOf "_law_spoilt" "_law_spoilt" (defArgs s__law_spoilt) (defBody s__law_spoilt) (defScope s__law_spoilt) .none kV8 dc8 pm8 an8 cd8 ct8), sl8⟩) (c8 : PySem.W.codeIn K cd8 "_law_spoilt" = true) (k8 : PySem.W.keepIn K (.ref f8) = true)
    (a9 : PySem.W.nsIn K mainGlobals "law" = some (some (.ref f9))) (l9 : K.lookup f9 = some ⟨oc9, od9, .func (PySem.W.fnOf "law" "law" (defArgs s_law) (defBody s_law) (defScope s_law) .none kV9 dc9 pm9 an9 cd9 ct9), sl9⟩) (c9 : PySem.W.codeIn K cd9 "law" = true) (k9 : PySem.W.keepIn K (.ref f9) = true)
    (b_abs : PySem.W.nsIn K mainGlobals "abs" = some none)
    (b_bool : PySem.W.nsIn K mainGlobals "bool" = some none)
    (b_int : PySem.W.nsIn K mainGlobals "int" = some none)
    (b_isinstance : PySem.W.nsIn K mainGlobals "isinstance" = some none)
    (b_len : PySem.W.nsIn K mainGlobals "len" = some none)
    (b_list : PySem.W.nsIn K mainGlobals "list" = some none)
    (b_range : PySem.W.nsIn K mainGlobals "range" = some none)
    (b_tuple : PySem.W.nsIn K mainGlobals "tuple" = some none)
    (g_DIGIT : PySem.W.nsIn K mainGlobals "DIGIT" = some (some (.int 8 t_DIGIT)))
    (g_END : PySem.W.nsIn K mainGlobals "END" = some (some (.int 7 t_END)))
    (g_FORTH : PySem.W.nsIn K mainGlobals "FORTH" = some (some (.int 3 t_FORTH)))
    (g_LEFT : PySem.W.nsIn K mainGlobals "LEFT" = some (some (.int 1 t_LEFT)))
    (g_MOST_SYMBOLS : PySem.W.nsIn K mainGlobals "MOST_SYMBOLS" = some (some (.int 400 t_MOST_SYMBOLS)))
    (g_MOST_WRITTEN : PySem.W.nsIn K mainGlobals "MOST_WRITTEN" = some (some (.int 72 t_MOST_WRITTEN)))
    (g_PORT : PySem.W.nsIn K mainGlobals "PORT" = some (some (.int 4 t_PORT)))
    (g_REACH : PySem.W.nsIn K mainGlobals "REACH" = some (some (.int 200 t_REACH)))
    (g_RIGHT : PySem.W.nsIn K mainGlobals "RIGHT" = some (some (.int 2 t_RIGHT)))
    (g_START : PySem.W.nsIn K mainGlobals "START" = some (some (.int 6 t_START)))
    (g_STOP : PySem.W.nsIn K mainGlobals "STOP" = some (some (.int 5 t_STOP)))
    (g_WRITE : PySem.W.nsIn K mainGlobals "WRITE" = some (some (.int 24 t_WRITE))) :
    ∃ f fd, mg "law" = some (.ref f) ∧ (∀ (s : Shared) (u : Value), BindsTo s fd ⟨[u], []⟩ [("script", u)]) ∧ ∀ base : Heap, K.In base → base.Ns mainGlobals mg → FnOk P w K mg base (L2.CX P w) 4 f fd ["script"] (spD K cls 1 law_f) := by
  have T : Txt P w K mg cls := ⟨PySem.W.mg_none_of X G b_abs, PySem.W.mg_none_of X G b_bool, PySem.W.mg_none_of X G b_int, PySem.W.mg_none_of X G b_isinstance, PySem.W.mg_none_of X G b_len, PySem.W.mg_none_of X G b_list, PySem.W.mg_none_of X G b_range, PySem.W.mg_none_of X G b_tuple, ⟨_, PySem.W.mg_of X G g_DIGIT⟩, ⟨_, PySem.W.mg_of X G g_END⟩, ⟨_, PySem.W.mg_of X G g_FORTH⟩, ⟨_, PySem.W.mg_of X G g_LEFT⟩, ⟨_, PySem.W.mg_of X G g_MOST_SYMBOLS⟩, ⟨_, PySem.W.mg_of X G g_MOST_WRITTEN⟩, ⟨_, PySem.W.mg_of X G g_PORT⟩, ⟨_, PySem.W.mg_of X G g_REACH⟩, ⟨_, PySem.W.mg_of X G g_RIGHT⟩, ⟨_, PySem.W.mg_of X G g_START⟩, ⟨_, PySem.W.mg_of X G g_STOP⟩, ⟨_, PySem.W.mg_of X G g_WRITE⟩⟩
  have A0 : FnAt K mg "_law_draws" s__law_draws := ⟨_, _, PySem.W.mg_of X G a0, fun_mk l0 c0 k0⟩
  have A1 : FnAt K mg "_law_is" s__law_is := ⟨_, _, PySem.W.mg_of X G a1, fun_mk l1 c1 k1⟩
  have A2 : FnAt K mg "is_integer" s_is_integer := ⟨_, _, PySem.W.mg_of X G a2, fun_mk l2 c2 k2⟩
  have A3 : FnAt K mg "is_between" s_is_between := ⟨_, _, PySem.W.mg_of X G a3, fun_mk l3 c3 k3⟩
  have A4 : FnAt K mg "_is_command" s__is_command := ⟨_, _, PySem.W.mg_of X G a4, fun_mk l4 c4 k4⟩
  have A5 : FnAt K mg "is_tape" s_is_tape := ⟨_, _, PySem.W.mg_of X G a5, fun_mk l5 c5 k5⟩
  have A6 : FnAt K mg "_law_commands" s__law_commands := ⟨_, _, PySem.W.mg_of X G a6, fun_mk l6 c6 k6⟩
  have A7 : FnAt K mg "copies" s_copies := ⟨_, _, PySem.W.mg_of X G a7, fun_mk l7 c7 k7⟩
  have A8 : FnAt K mg "_law_spoilt" s__law_spoilt := ⟨_, _, PySem.W.mg_of X G a8, fun_mk l8 c8 k8⟩
  have A9 : FnAt K mg "law" s_law := ⟨_, _, PySem.W.mg_of X G a9, fun_mk l9 c9 k9⟩
  obtain ⟨fd, FL, FB⟩ : ∃ fd, Fun K "law" "law" s_law f9 fd ∧ (∀ (s : Shared) (u : Value), BindsTo s fd ⟨[u], []⟩ [("script", u)]) := ⟨_, fun_mk (st := s_law) l9 c9 k9, fun s u => .of_eq rfl⟩
  refine ⟨f9, fd, PySem.W.mg_of X G a9, FB, fun base KB GB => ?M⟩
  case M =>
    have H__law_draws := ok__law_draws (base := base) T A0 
    have H__law_is := ok__law_is (base := base) T A1 
    have H_is_integer := ok_is_integer (base := base) T A2 
    have H_is_between := ok_is_between (base := base) T A3 H_is_integer
    have H__is_command := ok__is_command (base := base) T A4 
    have H_is_tape := ok_is_tape (base := base) T A5 H_is_between H__is_command
    have H__law_commands := ok__law_commands (base := base) T A6 
    have H_copies := ok_copies (base := base) T A7 
    have H__law_spoilt := ok__law_spoilt (base := base) T A8 
    exact ok_law (base := base) T FL H__law_draws H__law_is H_is_tape H__law_commands H_copies H__law_spoilt
end My

open PySem PySem.W PyProof.Rows
set_option maxRecDepth 100000 in
set_option maxHeartbeats 0 in
theorem PySem.Challenge.cw_ramet_k30_what_is_a_tape_holds : PySem.Challenge.rw_ramet_k30_what_is_a_tape.Holds := by
  w_on; o_law; k_head; (case hw => w_witness2)
  k_fill
  refine DL.law_end (l := PySem.Challenge.rw_ramet_k30_what_is_a_tape) (g := My.law_f) (k := 4) (cls := fun _ _ => Value.none) rfl rfl rfl ⟨rfl, by decide, by decide⟩ (fun w h Y => PySem.W.kIn_of Y) ?F My.law_true
  case F =>
    intro w mg h KX G
    refine' My.all_mk KX G ?a0 ?l0 ?c0 ?k0 ?a1 ?l1 ?c1 ?k1 ?a2 ?l2 ?c2 ?k2 ?a3 ?l3 ?c3 ?k3 ?a4 ?l4 ?c4 ?k4 ?a5 ?l5 ?c5 ?k5 ?a6 ?l6 ?c6 ?k6 ?a7 ?l7 ?c7 ?k7 ?a8 ?l8 ?c8 ?k8 ?a9 ?l9 ?c9 ?k9 ?b_abs ?b_bool ?b_int ?b_isinstance ?b_len ?b_list ?b_range ?b_tuple ?g_DIGIT ?g_END ?g_FORTH ?g_LEFT ?g_MOST_SYMBOLS ?g_MOST_WRITTEN ?g_PORT ?g_REACH ?g_RIGHT ?g_START ?g_STOP ?g_WRITE
    (case a0 => k_is); (case l0 => k_is); (case c0 => k_is); (case k0 => k_is); (case a1 => k_is); (case l1 => k_is)
    (case c1 => k_is); (case k1 => k_is); (case a2 => k_is); (case l2 => k_is); (case c2 => k_is); (case k2 => k_is)
    (case a3 => k_is); (case l3 => k_is); (case c3 => k_is); (case k3 => k_is); (case a4 => k_is); (case l4 => k_is)
    (case c4 => k_is); (case k4 => k_is); (case a5 => k_is); (case l5 => k_is); (case c5 => k_is); (case k5 => k_is)
    (case a6 => k_is); (case l6 => k_is); (case c6 => k_is); (case k6 => k_is); (case a7 => k_is); (case l7 => k_is)
    (case c7 => k_is); (case k7 => k_is); (case a8 => k_is); (case l8 => k_is); (case c8 => k_is); (case k8 => k_is)
    (case a9 => k_is); (case l9 => k_is); (case c9 => k_is); (case k9 => k_is); (case b_abs => k_is); (case b_bool => k_is)
    (case b_int => k_is); (case b_isinstance => k_is); (case b_len => k_is); (case b_list => k_is); (case b_range => k_is); (case b_tuple => k_is)
    (case g_DIGIT => k_is); (case g_END => k_is); (case g_FORTH => k_is); (case g_LEFT => k_is); (case g_MOST_SYMBOLS => k_is); (case g_MOST_WRITTEN => k_is)
    (case g_PORT => k_is); (case g_REACH => k_is); (case g_RIGHT => k_is); (case g_START => k_is); (case g_STOP => k_is); (case g_WRITE => k_is)
#print axioms PySem.Challenge.cw_ramet_k30_what_is_a_tape_holds
